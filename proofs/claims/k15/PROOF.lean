import PyProof.Rows.All
import Wide.All
import OpenK.AllK
import Wide.FinOn
import PyProof.EqAt
import PyProof.EqKinds
import PyProof.TupleCall
import Lean
import PySem.Challenge.RW_flipwright_k15_rows
set_option Elab.async false
set_option linter.all false
set_option maxRecDepth 100000
set_option compiler.extract_closed false
set_option bootstrap.genMatcherCode false
open PySem.W renaming Frag → aQ, kitOne → bW, findIn → bN, kia_one → bO, keepIn → cV, fnOf → cY, emptyDict → cH, instObj → dU, behindTheImports → dB
open PySem renaming Addr → aV, wpAny_bind → aZ, starEach → aX, Shared → aY, FuncData → aH, wpAny_pure → aL, wpAny → aO, sizeLine → aT, Program → bQ, World → bK, compareOp → bL, wpAny_mono → bS, backTo → cX, Around → cC, mainGlobals → cE, wpAny_loadPart_at → cG, bootBuiltins → cM, wpAny_truthy_bool → cN, mem_of_lookup → dJ, wpAny_field → dP, wpAny_seqItems → dO, typeIs_str → dA, wpAny_setField_rec → eQ, wpAny_Call_Name_kw → eV, wpAny_passesOwn → eJ, codeAny_call_builtin → eY
open List renaming length_append → aJ, length_cons → aW, length_map → aP, getElem?_eq_some_iff → aU, mem_cons_of_mem → aB, getElem?_eq_getElem → aI, mem_cons_self → aA, mem_cons → bV, getElem?_set_ne → bZ, size_toArray → bJ, map_cons → bX, append_assoc → bU, mem_append_right → bF, append_nil → bG, contains_cons → bH, getD_eq_getElem?_getD → bI, getElem?_append_left → bT, mem_singleton → bA, mem_filterMap → cQ, cons_append → cZ, getElem?_map → cJ, length_set → cW, length_drop → cU, drop_eq_getElem_cons → cB, mem_append → cF, getElem?_append_right → cL, length_take → cT, zip_cons_cons → dQ, map_map → dY, map_append → dD, getElem?_cons_zero → dF, eq_nil_of_length_eq_zero → dI, mem_map → dL, getElem?_set_self → dM, nodup_cons → dR, length_replicate → dS, getElem?_set → eZ, mem_of_getElem? → eX
open PySem.Heap renaming get?_push_of_some → aK, lt_size → aC, get?_push_size → aN, size_push → cI
open Nat renaming le_refl → aD, lt_of_lt_of_le → aE, le_trans → aM, ne_of_lt → bY, le_of_ble_eq_true → bR, lt_irrefl → cD, zero_le → dW, ne_of_gt → dN
open Bool renaming and_eq_true → aF, false_ne_true → aR, eq_iff_iff → cK
open PySem.PyData renaming keyHash → aG
open Option renaming map_eq_some_iff → bP
open PySem.PassesOwn renaming leaving → bM
open PySem.F renaming called_set → cR, slot_tuple_iterator_next → dC
open Array renaming length_toList → dX
open PySem.StrLaws renaming glued_eq_join → dG
open PyProof.Rows renaming callWith_type1 → dH
namespace L2
open PySem
noncomputable def qVl(s:Stmt)(j:Nat):Stmt:=match s with
 |.ClassDef _ _ _ body _ _ _ _ _ _ _=>body.getD j (.Pass ⟨0,0,0,0⟩)
 |_=> .Pass ⟨0,0,0,0⟩
noncomputable def jI(s:Stmt):Arguments:=match s with
 |.FunctionDef _ a _ _ _ _ _ _ _ _=>a
 |_=> {posonlyargs:=[],args:=[],vararg:=none,kwonlyargs:=[],kw_defaults:=[],kwarg:=none,defaults:=[]}
noncomputable def jQ(s:Stmt):List Stmt:=match s with
 |.FunctionDef _ _ b _ _ _ _ _ _ _=>b
 |_=> []
noncomputable def qY(s:Stmt):Scope:=match s with
 |.FunctionDef _ _ _ _ _ _ sc _ _ _=>sc
 |_=> {kind:=.function,names:=[],isGenerator:=false,isCoroutine:=false}
end L2
namespace TH
open PySem PySem.W PySem.Calls PyProof.Rows
variable{N k:Nat}{c:Code}{pos:Pos}{p:bQ}{ann:Option Value}{env:Env}
noncomputable def zZh:List Obj->Nat->BT->BT
 |[],_,t=>t
 |o::l,n,t=>zZh l (n+1) (t.ins n o)
noncomputable def ofS(s:aY):SharedT:=⟨zZh s.heap.objs.toList 0 .nil,s.heap.objs.size,s.heap.life,s.gens,s.drawn,s.toks,s.os⟩
section
variable{tb:String->Option Builtin}{p:bQ}{w:bK}{n₀:Nat}{ann:Option Value}{env:Env}{q:Pos}
theorem app{n:Nat}{s s' r:aY}{l:List Stmt}{c':Code}{p':Pos}(h:segRun tb p w n₀ ann 1 n s (piecesOf l env c pos [topFrame q])=some (.next,s',c',p'))(k:topRun tb p w n₀ ann N s' (restOf [] env c' p' [topFrame q])=some r):topRun tb p w n₀ ann (n+N) s (restOf l env c pos [topFrame q])=some r:=by
 obtain⟨a,ha,hN⟩:=seg_top (res:=id) (K' :=fun f=>match f with|.next =>(execs [] env).wrap doneF (leaveH env) id id|f=>doneF f) (H' :=leaveH env) (B:=[topFrame q]) rfl n s (piecesOf l env c pos [topFrame q])
  ⟨(execs l env).wrap (fun f=>match f with|.next =>(execs [] env).wrap doneF (leaveH env) id id|f=>doneF f) (leaveH env) id id,c,pos,[topFrame q]⟩ _ _ _ _ ⟨rfl,rfl,.inl ⟨rfl,rfl,_,rfl,rfl⟩⟩ h
 obtain rfl:a=.next :=ha
 have:=hN N r k;rw[show l=l ++ [] by simp];unfold restOf;rw[execs_app_wrap];exact this
end
noncomputable def vYt{β:Type}(p:bQ)(w:bK)(n₀:Nat)(ann:Option Value)(b:List Stmt)(env:Env)(c:Code)(pos q:Pos)(k:Nat)(s:SharedT)(look:aY->β):Option β:=
 match segRunT treeTable p w n₀ ann 1 k s (piecesOf b env c pos [topFrame q]) with
 |some (.next,s',c',p')=>(topRun treeTable p w n₀ ann 5 s'.abs (restOf [] env c' p' [topFrame q])).map look
 |_=>none
theorem zY2{β:Type}{w:bK}{n₀:Nat}{b:List Stmt}{q:Pos}{s:SharedT}{look:aY->β}{v:β}(h:vYt p w n₀ ann b env c pos q k s look=some v):∃r,topRun treeTable p w n₀ ann (k+5) s.abs (restOf b env c pos [topFrame q])=some r/\look r=v:=by
 unfold vYt at h;split at h
 ·next s' c' p' e=>
  obtain⟨r,hr,hv⟩:=bP.mp h;exact⟨r,app (segRun_of e) hr,hv⟩
 ·cases h
noncomputable def zV6{α:Type}(p q:bQ)(loose:List Str)(Xt:aY->Bool)(Yf:aY->α)(g0:Bool)(H₀:Heap)(s:aY):=
 ((staticsOk (importedModules p.main.body) H₀ s.heap && namesBound p s.heap && gensDone s && laidKept H₀ s.heap),openSeen q loose (importedModules p.main.body) Xt g0 s,Yf s)
theorem left{q:bQ}{loose:List Str}{Xt:aY->Bool}{α:Type}{Yf:aY->α}{Ya:bK->α}{g0:Bool}{m₀:Nat}{k0:Nat}{q0:Pos}{Sa:bK->OsState->aY}(e:opening p=plainProg p.main.scope.names)(hN:Nat.ble 600 N=true)(f:∀s,fenceModules? p s=some s)(size:∀w:bK,((boot_heap w.params).isNs cE,(boot_heap w.params).objs.size,(boot_heap w.params).nsMap cE "__annotations__")=(true,m₀,ann))(pre:∀(w:bK) (os:OsState),topGo treeTable p w m₀ ann k0 ⟨boot_heap w.params,Array.mk [],boot_drawn,boot_toks,os⟩ (topStub p)=
   some (Sa w os,⟨denote treeTable (.body (dB p) env),.body (dB p) env,pos,[topFrame q0]⟩))(tree:∀w os,(ofS (Sa w os)).abs =Sa w os)(block:blockStart (dB p) env=.pure ())(run:∀w os,vYt p w m₀ ann (dB p) env (.body (dB p) env) pos q0 k (ofS (Sa w os)) (zV6 p q loose Xt Yf g0 (boot_heap w.params))=some (true,openGood q loose,Ya w))(le:Nat.ble (k0+(1+(k+5))) N=true):LeftO p q loose Xt Yf Ya N g0:=fun w=>by
 obtain⟨⟨h,gs,d,kk,os⟩,e1,e'⟩:=bP.mp (boot_open (N:=N) e hN f w);obtain⟨rfl,rfl,rfl,rfl⟩:h=boot_heap w.params/\gs=Array.mk []/\d=boot_drawn/\kk=boot_toks:=by simpa using e'
 obtain⟨z1,z2,z3⟩:_/\_/\_:=by simpa only[Prod.mk.injEq] using size w
 obtain⟨r,hr,hv⟩:=zY2 (run w os);rw[tree w os]at hr;have hb:segRun treeTable p w m₀ ann 1 1 (Sa w os) (blockOf (dB p) env (.body (dB p) env) pos [topFrame q0])=some (.next,Sa w os,.body (dB p) env,pos):=by
  unfold blockOf;rw[block];rfl
 have r1:=go_top (pre w os) (piece_block hb hr);have r2:=topRun_mono (N - (k0+(1+(k+5)))) _ _ _ _ r1;rw[show(k0+(1+(k+5)))+(N - (k0+(1+(k+5))))=N by have:=bR le;omega]at r2;obtain⟨l1,l2,l3⟩:_/\_/\_:=by simpa only[zV6,Prod.mk.injEq] using hv
 have t:topFrom treeTable p w N ⟨boot_heap w.params,Array.mk [],boot_drawn,boot_toks,os⟩=some r:=by
  unfold topFrom;dsimp only;rw[z1,z2,z3,r2];show(match staticsOk (importedModules p.main.body) (boot_heap w.params) r.heap && namesBound p r.heap && gensDone r && laidKept (boot_heap w.params) r.heap with|true=>_|false=>_)=_;rw[l1]
 unfold openEnds;rw[e1];show(topFrom treeTable p w N _).map _=_;rw[t];exact congrArg some (Prod.ext l2 l3)
end TH
namespace X15
open PySem L2 PyProof.Rows
noncomputable def top(i:Nat):Stmt:=PySem.Challenge.pw_flipwright_k15_rows.main.body.getD i (.Pass ⟨0,0,0,0⟩)
noncomputable abbrev qQc:Stmt:=qVl (top 4) 0
noncomputable abbrev qZ6:Stmt:=qVl (top 5) 0
noncomputable abbrev qWb:Stmt:=top 11
noncomputable abbrev qXv:Stmt:=top 13
noncomputable abbrev qKu:Stmt:=top 14
noncomputable abbrev qJ6:Stmt:=top 15
noncomputable abbrev qQe:Stmt:=qVl (top 30) 0
noncomputable abbrev qQd:Stmt:=qVl (top 30) 1
noncomputable abbrev wU:Stmt:=qVl (top 30) 2
noncomputable abbrev xO:Stmt:=qVl (top 30) 3
noncomputable abbrev qQy:Stmt:=qVl (top 30) 4
noncomputable abbrev qWe:Stmt:=top 31
noncomputable abbrev qXw:Stmt:=top 32
noncomputable abbrev qZx:Stmt:=top 33
noncomputable abbrev qZs:Stmt:=top 34
noncomputable abbrev qQw:Stmt:=top 35
noncomputable abbrev qVx:Stmt:=top 40
noncomputable abbrev qQb:Stmt:=top 39
noncomputable abbrev qZt:Stmt:=top 36
noncomputable abbrev y9:Stmt:=top 37
noncomputable abbrev qVv:Stmt:=top 38
noncomputable abbrev qXs:Stmt:=top 41
noncomputable abbrev qZv:Stmt:=top 42
noncomputable abbrev qZr:Stmt:=top 43
noncomputable abbrev qVy:Stmt:=top 44
noncomputable abbrev qVw:Stmt:=top 45
noncomputable abbrev qZu:Stmt:=top 46
noncomputable abbrev qVu:Stmt:=top 47
noncomputable abbrev qQa:Stmt:=top 48
noncomputable abbrev qJ7:Stmt:=top 49
noncomputable abbrev qZq:Stmt:=top 50
noncomputable abbrev qZp:Stmt:=top 51
noncomputable abbrev qWa:Stmt:=top 52
noncomputable abbrev qJ9:Stmt:=top 53
noncomputable abbrev qVz:Stmt:=top 54
noncomputable abbrev qVt:Stmt:=top 55
noncomputable abbrev xM:Stmt:=top 56
noncomputable abbrev vZh:Stmt:=top 57
noncomputable abbrev qJ8:Stmt:=top 58
noncomputable abbrev vXc:Stmt:=top 59
noncomputable abbrev qWd:Stmt:=top 61
noncomputable abbrev qXt:Stmt:=top 62
noncomputable abbrev qXu:Stmt:=top 63
noncomputable abbrev qWc:Stmt:=top 64
noncomputable abbrev xN:Stmt:=top 65
noncomputable abbrev qZw:Stmt:=top 66
noncomputable abbrev qQx:Stmt:=top 67
noncomputable abbrev zVy:Stmt:=top 68
noncomputable def fO(x q:Str)(s:Stmt)(m:Str)(t c:Nat):Obj:=⟨(.type "function"),none,(.func ⟨x,q,jI s,.stmts (jQ s),qY s,3,[],.none,.none,.none,(.str m t),none,(.ref c),.none,0⟩),#[]⟩
noncomputable def cO(x q:Str)(a b d:Nat)(l n v:Int)(e:Nat)(i:Int)(f g h j:Nat)(k o:Int)(p:Nat):Obj:=⟨(.type "code"),none,(.fields #[(.str x a),(.str q b),(.str "/claim/cut.py" d),(.int l 0),(.int n 0),(.int 0 0),(.int 0 0),(.int v 0),(.ref e),(.bool true),(.int i 0),(.ref f),.none,(.ref g),(.ref h),(.ref j),(.int k 0),(.int o 0),(.str "/claim/cut.py" p)]),#[]⟩
noncomputable def eR(P:Params)(x:Str)(t c:Nat):DictEntry:=⟨aG P x,.str x t,.ref c⟩
noncomputable def cP(c:Nat)(x:Str)(a:Nat)(l n:Int)(e:Nat):Obj:=cO x x a (a+1) (a+2) l n 3 (c - 5) 181 (c - 4) (c - 3) (c - 2) (c - 1) (e:Int) l (e+1)
noncomputable def g0(x:Str)(s:Stmt)(c:Nat):Obj:=fO x x s "flipwright.opening" 353 c
noncomputable def g1(x:Str)(s:Stmt)(c:Nat):Obj:=fO x x s "flipwright.words" 361 c
noncomputable def g2(x:Str)(s:Stmt)(c:Nat):Obj:=fO x x s "flipwright.reader" 390 c
noncomputable def g3(x:Str)(s:Stmt)(c:Nat):Obj:=fO x x s "law_flipwright_k15_rows" 731 c
noncomputable def x1:Obj:=⟨(.type "tuple"),none,(.seq #[(.ref 24)] 0),#[]⟩
noncomputable def x2:Obj:=⟨(.type "tuple"),none,(.seq #[] 0),#[]⟩
noncomputable def x3(c:Nat)(l:Int)(a:Nat)(P:Params):Obj:=⟨(.type "dict"),none,(.dict #[⟨aG P "__module__",(.str "__module__" (a+7)),(.str "flipwright.errors" 187)⟩,⟨aG P "__firstlineno__",(.str "__firstlineno__" (a+11)),(.int l (a+10))⟩,eR P "__static_attributes__" (a+12) (c+7),⟨aG P "__doc__",(.str "__doc__" (a+13)),.none⟩] 2),#[]⟩
noncomputable def x4(c:Nat)(x:Str)(a:Nat):Obj:=⟨(.type "type"),none,(.cls (.mk x [(.ref 24)] [(.ref (c+9)),(.ref 24),(.type "ValueError"),(.type "Exception"),(.type "BaseException"),(.type "object")] (c+8) x true [] [] false none false)),#[(some (.ref (c+0))),none,(some (.str x (a+0))),(some (.str x (a+8))),(some (.builtin "ValueError.__new__")),(some (.bool true))]⟩
noncomputable def KF:Params->aQ:=fun P=>
 (nat_lit 2,⟨.none,none,(.dict #[] 0),#[]⟩)::
 (nat_lit 3,⟨(.type "dict"),none,(.dict #[⟨aG P "__name__",(.str "__name__" 165),(.str "law_flipwright_k15_rows" 731)⟩,⟨aG P "__doc__",(.str "__doc__" 166),.none⟩,⟨aG P "__package__",(.str "__package__" 167),.none⟩,⟨aG P "__loader__",(.str "__loader__" 168),(.builtin "__main__.__loader__#opaque")⟩,⟨aG P "__spec__",(.str "__spec__" 169),.none⟩,eR P "__annotations__" 170 6,eR P "__builtins__" 171 4,⟨aG P "__file__",(.str "__file__" 173),(.str "/claim/cut.py" 172)⟩,⟨aG P "__cached__",(.str "__cached__" 174),.none⟩,eR P "FlipError" 206 24,eR P "NoShare" 222 37,eR P "Never" 238 49,eR P "NoText" 263 68,eR P "NoName" 288 87,eR P "TooMuch" 304 99,eR P "NoOrder" 320 111,eR P "NoNumber" 336 123,eR P "NoRow" 352 135,eR P "parts_of" 360 142,eR P "kind_of" 369 149,eR P "end_of" 379 156,eR P "words_of" 389 163,⟨aG P "MOST_ROWS",(.str "MOST_ROWS" 393),(.int 40 392)⟩,⟨aG P "MOST_SIGNS",(.str "MOST_SIGNS" 395),(.int 1000 394)⟩,⟨aG P "MOST_WORDS",(.str "MOST_WORDS" 397),(.int 60 396)⟩,⟨aG P "MOST_BRACKETS",(.str "MOST_BRACKETS" 399),(.int 10 398)⟩,⟨aG P "MOST_DEPTH",(.str "MOST_DEPTH" 401),(.int 10 400)⟩,⟨aG P "MOST_ROUNDS",(.str "MOST_ROUNDS" 403),(.int 30 402)⟩,⟨aG P "MOST_LETTERS",(.str "MOST_LETTERS" 405),(.int 8 404)⟩,⟨aG P "MOST_FIGURES",(.str "MOST_FIGURES" 407),(.int 12 406)⟩,⟨aG P "MOST_NUMBER",(.str "MOST_NUMBER" 409),(.int 999999999999 408)⟩,⟨aG P "MOST_WEIGHT",(.str "MOST_WEIGHT" 411),(.int 1000000 410)⟩,⟨aG P "MOST_PAIRS",(.str "MOST_PAIRS" 413),(.int 6 412)⟩,⟨aG P "MOST_TERMS",(.str "MOST_TERMS" 415),(.int 3 414)⟩,eR P "NO_NAMES" 420 164,eR P "Cursor" 483 209,eR P "is_small" 489 218,eR P "is_name" 496 225,eR P "is_number" 503 232,eR P "read_name" 511 239,eR P "read_number" 521 246,eR P "read_list" 532 253,eR P "refuse_alike" 540 260,eR P "read_pairs" 546 265,eR P "read_outcome" 554 272,eR P "read_field" 562 279,eR P "read_if" 570 286,eR P "read_flip" 579 293,eR P "read_rest" 588 300,eR P "read_built" 596 307,eR P "read_named" 604 314,eR P "read_head" 613 321,eR P "read_tight" 621 328,eR P "read_product" 629 335,eR P "read_sum" 638 342,eR P "read_term" 647 349,eR P "read_told" 654 356,eR P "read_def" 663 363,eR P "read_let" 671 370,eR P "read_again" 680 377,eR P "read_words" 688 384,eR P "most_brackets" 698 391,eR P "depth" 707 398,eR P "read_row" 718 405,eR P "read" 730 412,eR P "_law_name" 741 419,eR P "_law_row" 755 426,eR P "_law_bad" 763 433,eR P "_law_rows" 769 438,eR P "_law_first_bad" 777 445,eR P "_law_alike" 787 452,eR P "_law_refused" 796 459,eR P "law" 802 464] 73),#[]⟩)::
 (nat_lit 15,⟨(.type "tuple"),none,(.seq #[(.type "ValueError")] 0),#[]⟩)::
 (nat_lit 22,x2)::
 (nat_lit 23,⟨(.type "dict"),none,(.dict #[⟨aG P "__module__",(.str "__module__" 196),(.str "flipwright.errors" 187)⟩,⟨aG P "__firstlineno__",(.str "__firstlineno__" 200),(.int 2 199)⟩,eR P "__static_attributes__" 201 22,eR P "__weakref__" 203 25,⟨aG P "__doc__",(.str "__doc__" 204),.none⟩] 3),#[]⟩)::
 (nat_lit 24,⟨(.type "type"),none,(.cls (.mk "FlipError" [(.type "ValueError")] [(.ref 24),(.type "ValueError"),(.type "Exception"),(.type "BaseException"),(.type "object")] 23 "FlipError" true [] [(.ref 37),(.ref 49),(.ref 68),(.ref 87),(.ref 99),(.ref 111),(.ref 123),(.ref 135)] false none false)),#[(some (.ref 15)),none,(some (.str "FlipError" 189)),(some (.str "FlipError" 197)),(some (.builtin "ValueError.__new__")),(some (.bool true))]⟩)::
 (nat_lit 25,⟨(.type "getset_descriptor"),none,(.fields #[(.str "__weakref__" 202),(.ref 24),(.builtin "ExceptionGroup.__weakref__"),.none]),#[]⟩)::
 (nat_lit 28,x1)::
 (nat_lit 35,x2)::
 (nat_lit 36,x3 28 4 207 P)::
 (nat_lit 37,x4 28 "NoShare" 207)::
 (nat_lit 40,x1)::
 (nat_lit 47,x2)::
 (nat_lit 48,x3 40 6 223 P)::
 (nat_lit 49,x4 40 "Never" 223)::
 (nat_lit 52,x1)::
 (nat_lit 64,cO "__init__" "NoText.__init__" 251 252 253 10 2 3 59 181 60 61 62 63 256 10 257)::
 (nat_lit 65,fO "__init__" "NoText.__init__" qQc "flipwright.errors" 187 64)::
 (nat_lit 66,⟨(.type "tuple"),none,(.seq #[(.str "row" 259)] 0),#[]⟩)::
 (nat_lit 67,⟨(.type "dict"),none,(.dict #[⟨aG P "__module__",(.str "__module__" 246),(.str "flipwright.errors" 187)⟩,⟨aG P "__firstlineno__",(.str "__firstlineno__" 250),(.int 8 249)⟩,eR P "__init__" 258 65,eR P "__static_attributes__" 260 66,⟨aG P "__doc__",(.str "__doc__" 261),.none⟩] 2),#[]⟩)::
 (nat_lit 68,⟨(.type "type"),none,(.cls (.mk "NoText" [(.ref 24)] [(.ref 68),(.ref 24),(.type "ValueError"),(.type "Exception"),(.type "BaseException"),(.type "object")] 67 "NoText" true [] [] false none false)),#[(some (.ref 52)),none,(some (.str "NoText" 239)),(some (.str "NoText" 247)),(some (.builtin "ValueError.__new__")),(some (.bool true))]⟩)::
 (nat_lit 71,x1)::
 (nat_lit 83,cO "__init__" "NoName.__init__" 276 277 278 14 2 3 78 181 79 80 81 82 281 14 282)::
 (nat_lit 84,fO "__init__" "NoName.__init__" qZ6 "flipwright.errors" 187 83)::
 (nat_lit 85,⟨(.type "tuple"),none,(.seq #[(.str "row" 284)] 0),#[]⟩)::
 (nat_lit 86,⟨(.type "dict"),none,(.dict #[⟨aG P "__module__",(.str "__module__" 271),(.str "flipwright.errors" 187)⟩,⟨aG P "__firstlineno__",(.str "__firstlineno__" 275),(.int 12 274)⟩,eR P "__init__" 283 84,eR P "__static_attributes__" 285 85,⟨aG P "__doc__",(.str "__doc__" 286),.none⟩] 2),#[]⟩)::
 (nat_lit 87,⟨(.type "type"),none,(.cls (.mk "NoName" [(.ref 24)] [(.ref 87),(.ref 24),(.type "ValueError"),(.type "Exception"),(.type "BaseException"),(.type "object")] 86 "NoName" true [] [] false none false)),#[(some (.ref 71)),none,(some (.str "NoName" 264)),(some (.str "NoName" 272)),(some (.builtin "ValueError.__new__")),(some (.bool true))]⟩)::
 (nat_lit 90,x1)::
 (nat_lit 97,x2)::
 (nat_lit 98,x3 90 16 289 P)::
 (nat_lit 99,x4 90 "TooMuch" 289)::
 (nat_lit 102,x1)::
 (nat_lit 109,x2)::
 (nat_lit 110,x3 102 18 305 P)::
 (nat_lit 111,x4 102 "NoOrder" 305)::
 (nat_lit 114,x1)::
 (nat_lit 121,x2)::
 (nat_lit 122,x3 114 20 321 P)::
 (nat_lit 123,x4 114 "NoNumber" 321)::
 (nat_lit 126,x1)::
 (nat_lit 133,x2)::
 (nat_lit 134,x3 126 22 337 P)::
 (nat_lit 135,x4 126 "NoRow" 337)::
 (nat_lit 141,⟨(.type "code"),none,(.fields #[(.str "parts_of" 355),(.str "parts_of" 356),(.str "/claim/cut.py" 357),(.int 25 0),(.int 1 0),(.int 0 0),(.int 0 0),(.int 3 0),(.ref 138),(.bool true),(.int 181 0),(.ref 139),.none,.none,.none,(.ref 140),(.int 358 0),(.int 25 0),(.str "/claim/cut.py" 359)]),#[]⟩)::
 (nat_lit 142,g0 "parts_of" qWb 141)::
 (nat_lit 148,cP 148 "kind_of" 363 39 1 367)::
 (nat_lit 149,g1 "kind_of" qXv 148)::
 (nat_lit 155,cP 155 "end_of" 370 47 2 377)::
 (nat_lit 156,g1 "end_of" qKu 155)::
 (nat_lit 162,cP 162 "words_of" 380 53 1 387)::
 (nat_lit 163,g1 "words_of" qJ6 162)::
 (nat_lit 164,⟨(.type "tuple"),none,(.seq #[(.str "flip" 416),(.str "pick" 417),(.str "if" 418),(.str "rest" 419)] 0),#[]⟩)::
 (nat_lit 177,cO "__init__" "Cursor.__init__" 433 434 435 78 3 3 172 181 173 174 175 176 439 78 440)::
 (nat_lit 178,fO "__init__" "Cursor.__init__" qQe "flipwright.reader" 390 177)::
 (nat_lit 184,cO "ahead" "Cursor.ahead" 442 443 444 83 1 3 179 181 180 181 182 183 446 83 447)::
 (nat_lit 185,fO "ahead" "Cursor.ahead" qQd "flipwright.reader" 390 184)::
 (nat_lit 191,cO "next_word" "Cursor.next_word" 449 450 451 88 1 3 186 181 187 188 189 190 454 88 455)::
 (nat_lit 192,fO "next_word" "Cursor.next_word" wU "flipwright.reader" 390 191)::
 (nat_lit 198,cO "passed" "Cursor.passed" 457 458 459 93 2 3 193 181 194 195 196 197 462 93 463)::
 (nat_lit 199,fO "passed" "Cursor.passed" xO "flipwright.reader" 390 198)::
 (nat_lit 205,cO "need" "Cursor.need" 465 466 467 99 2 3 200 181 201 202 203 204 470 99 471)::
 (nat_lit 206,fO "need" "Cursor.need" qQy "flipwright.reader" 390 205)::
 (nat_lit 207,⟨(.type "tuple"),none,(.seq #[(.str "place" 473),(.str "row" 474),(.str "words" 475)] 0),#[]⟩)::
 (nat_lit 208,⟨(.type "dict"),none,(.dict #[⟨aG P "__module__",(.str "__module__" 428),(.str "flipwright.reader" 390)⟩,⟨aG P "__firstlineno__",(.str "__firstlineno__" 432),(.int 76 431)⟩,eR P "__init__" 441 178,eR P "ahead" 448 185,eR P "next_word" 456 192,eR P "passed" 464 199,eR P "need" 472 206,eR P "__static_attributes__" 476 207,eR P "__dict__" 478 210,eR P "__weakref__" 480 211,⟨aG P "__doc__",(.str "__doc__" 481),.none⟩] 4),#[]⟩)::
 (nat_lit 209,⟨(.type "type"),none,(.cls (.mk "Cursor" [(.type "object")] [(.ref 209),(.type "object")] 208 "Cursor" true [] [] false none false)),#[none,none,(some (.str "Cursor" 421)),(some (.str "Cursor" 429)),(some (.builtin "object.__new__")),(some (.bool true))]⟩)::
 (nat_lit 210,⟨(.type "getset_descriptor"),none,(.fields #[(.str "__dict__" 477),(.ref 209),(.builtin "function.__dict__"),(.builtin "function.__dict__#set")]),#[]⟩)::
 (nat_lit 211,⟨(.type "getset_descriptor"),none,(.fields #[(.str "__weakref__" 479),(.ref 209),(.builtin "ExceptionGroup.__weakref__"),.none]),#[]⟩)::
 (nat_lit 217,⟨(.type "code"),none,(.fields #[(.str "is_small" 484),(.str "is_small" 485),(.str "/claim/cut.py" 486),(.int 102 0),(.int 1 0),(.int 0 0),(.int 0 0),(.int 3 0),(.ref 214),(.bool true),(.int 181 0),(.ref 215),.none,.none,.none,(.ref 216),(.int 487 0),(.int 102 0),(.str "/claim/cut.py" 488)]),#[]⟩)::
 (nat_lit 218,g2 "is_small" qWe 217)::
 (nat_lit 224,cP 224 "is_name" 490 104 1 494)::
 (nat_lit 225,g2 "is_name" qXw 224)::
 (nat_lit 231,cP 231 "is_number" 497 106 1 501)::
 (nat_lit 232,g2 "is_number" qZx 231)::
 (nat_lit 238,cP 238 "read_name" 504 108 1 509)::
 (nat_lit 239,g2 "read_name" qZs 238)::
 (nat_lit 245,cP 245 "read_number" 512 113 3 519)::
 (nat_lit 246,g2 "read_number" qQw 245)::
 (nat_lit 252,cP 252 "read_list" 522 118 4 530)::
 (nat_lit 253,g2 "read_list" qZt 252)::
 (nat_lit 259,cP 259 "refuse_alike" 533 128 2 538)::
 (nat_lit 260,g2 "refuse_alike" y9 259)::
 (nat_lit 264,⟨(.type "code"),none,(.fields #[(.str "read_pairs" 541),(.str "read_pairs" 542),(.str "/claim/cut.py" 543),(.int 131 0),(.int 3 0),(.int 0 0),(.int 0 0),(.int 3 0),(.ref 261),(.bool true),(.int 181 0),(.ref 262),.none,.none,.none,(.ref 263),(.int 544 0),(.int 131 0),(.str "/claim/cut.py" 545)]),#[]⟩)::
 (nat_lit 265,g2 "read_pairs" qVv 264)::
 (nat_lit 271,cP 271 "read_outcome" 547 137 1 552)::
 (nat_lit 272,g2 "read_outcome" qQb 271)::
 (nat_lit 278,cP 278 "read_field" 555 141 1 560)::
 (nat_lit 279,g2 "read_field" qVx 278)::
 (nat_lit 285,cP 285 "read_if" 563 145 1 568)::
 (nat_lit 286,g2 "read_if" qXs 285)::
 (nat_lit 292,cP 292 "read_flip" 571 150 1 577)::
 (nat_lit 293,g2 "read_flip" qZv 292)::
 (nat_lit 299,cP 299 "read_rest" 580 156 1 586)::
 (nat_lit 300,g2 "read_rest" qZr 299)::
 (nat_lit 306,cP 306 "read_built" 589 162 2 594)::
 (nat_lit 307,g2 "read_built" qVy 306)::
 (nat_lit 313,cP 313 "read_named" 597 171 2 602)::
 (nat_lit 314,g2 "read_named" qVw 313)::
 (nat_lit 320,cP 320 "read_head" 605 177 1 611)::
 (nat_lit 321,g2 "read_head" qZu 320)::
 (nat_lit 327,cP 327 "read_tight" 614 190 1 619)::
 (nat_lit 328,g2 "read_tight" qVu 327)::
 (nat_lit 334,cP 334 "read_product" 622 195 1 627)::
 (nat_lit 335,g2 "read_product" qQa 334)::
 (nat_lit 341,cP 341 "read_sum" 630 200 1 636)::
 (nat_lit 342,g2 "read_sum" qJ7 341)::
 (nat_lit 348,cP 348 "read_term" 639 206 1 645)::
 (nat_lit 349,g2 "read_term" qZq 348)::
 (nat_lit 355,cP 355 "read_told" 648 212 1 652)::
 (nat_lit 356,g2 "read_told" qZp 355)::
 (nat_lit 362,cP 362 "read_def" 655 215 1 661)::
 (nat_lit 363,g2 "read_def" qWa 362)::
 (nat_lit 369,cP 369 "read_let" 664 221 1 669)::
 (nat_lit 370,g2 "read_let" qJ9 369)::
 (nat_lit 376,cP 376 "read_again" 672 224 1 678)::
 (nat_lit 377,g2 "read_again" qVz 376)::
 (nat_lit 383,cP 383 "read_words" 681 228 1 686)::
 (nat_lit 384,g2 "read_words" qVt 383)::
 (nat_lit 390,cP 390 "most_brackets" 689 239 1 696)::
 (nat_lit 391,g2 "most_brackets" xM 390)::
 (nat_lit 397,cP 397 "depth" 699 249 1 705)::
 (nat_lit 398,g2 "depth" vZh 397)::
 (nat_lit 404,cP 404 "read_row" 708 254 2 716)::
 (nat_lit 405,g2 "read_row" qJ8 404)::
 (nat_lit 411,cP 411 "read" 719 265 1 728)::
 (nat_lit 412,g2 "read" vXc 411)::
 (nat_lit 418,cP 418 "_law_name" 733 277 1 739)::
 (nat_lit 419,g3 "_law_name" qWd 418)::
 (nat_lit 425,cP 425 "_law_row" 742 282 2 753)::
 (nat_lit 426,g3 "_law_row" qXt 425)::
 (nat_lit 432,cP 432 "_law_bad" 756 305 1 761)::
 (nat_lit 433,g3 "_law_bad" qXu 432)::
 (nat_lit 437,⟨(.type "code"),none,(.fields #[(.str "_law_rows" 764),(.str "_law_rows" 765),(.str "/claim/cut.py" 766),(.int 313 0),(.int 1 0),(.int 0 0),(.int 0 0),(.int 3 0),(.ref 434),(.bool true),(.int 181 0),(.ref 435),.none,.none,.none,(.ref 436),(.int 767 0),(.int 313 0),(.str "/claim/cut.py" 768)]),#[]⟩)::
 (nat_lit 438,g3 "_law_rows" qWc 437)::
 (nat_lit 444,cP 444 "_law_first_bad" 770 333 1 775)::
 (nat_lit 445,g3 "_law_first_bad" xN 444)::
 (nat_lit 451,cP 451 "_law_alike" 778 340 2 785)::
 (nat_lit 452,g3 "_law_alike" qZw 451)::
 (nat_lit 458,cP 458 "_law_refused" 788 353 2 794)::
 (nat_lit 459,g3 "_law_refused" qQx 458)::
 (nat_lit 463,⟨(.type "code"),none,(.fields #[(.str "law" 797),(.str "law" 798),(.str "/claim/cut.py" 799),(.int 365 0),(.int 1 0),(.int 0 0),(.int 0 0),(.int 3 0),(.ref 460),(.bool true),(.int 181 0),(.ref 461),.none,.none,.none,(.ref 462),(.int 800 0),(.int 365 0),(.str "/claim/cut.py" 801)]),#[]⟩)::
 (nat_lit 464,g3 "law" zVy 463):: []
noncomputable def KA:List aV:=[2,3,15,22,23,24,25,28,35,36,37,40,47,48,49,52,64,65,66,67,68,71,83,84,85,86,87,90,97,98,99,102,109,110,111,114,121,122,123,126,133,134,135,141,142,148,149,155,156,162,163,164,177,178,184,185,191,192,198,199,205,206,207,208,209,210,211,217,218,224,225,231,232,238,239,245,246,252,253,259,260,264,265,271,272,278,279,285,286,292,293,299,300,306,307,313,314,320,321,327,328,334,335,341,342,348,349,355,356,362,363,369,370,376,377,383,384,390,391,397,398,404,405,411,412,418,419,425,426,432,433,437,438,444,445,451,452,458,459,463,464]
theorem KAs(P:Params):KA=List.map (fun x=>x.fst) (KF P):=by kernel_rfl
noncomputable abbrev pg:bQ:=PySem.Challenge.rw_flipwright_k15_rows.row.toRowW.prog
noncomputable def vw:bQ:={pg with main:={pg.main with body:=pg.main.body.drop 68}}
noncomputable def ev0:Env:={scope:=pg.main.scope,locals:=mainNs,globals:=mainNs,cells:=[],code:=.ref 13,frame:=some 14}
noncomputable def Sa(w:bK)(os:OsState):aY:=match PySem.W.topGo treeTable pg w 11 (some (.ref 6)) 12 ⟨PySem.W.boot_heap w.params,Array.mk [],PySem.W.boot_drawn,PySem.W.boot_toks,os⟩ (PySem.W.topStub pg) with|some r=>r.1|none=>⟨PySem.W.boot_heap w.params,Array.mk [],PySem.W.boot_drawn,PySem.W.boot_toks,os⟩
theorem jZ5(w:bK)(os:OsState):PySem.W.topGo treeTable pg w 11 (some (.ref 6)) 12 ⟨PySem.W.boot_heap w.params,Array.mk [],PySem.W.boot_drawn,PySem.W.boot_toks,os⟩ (PySem.W.topStub pg)=
   some (Sa w os,⟨denote treeTable (.body (PySem.W.behindTheImports pg) ev0),.body (PySem.W.behindTheImports pg) ev0,default,[PySem.W.topFrame default]⟩):=by kernel_rfl
theorem zKi(w:bK)(os:OsState):(TH.ofS (Sa w os)).abs =Sa w os:=by kernel_rfl
theorem zWw:blockStart (PySem.W.behindTheImports pg) ev0=.pure ():=by kernel_rfl
theorem zKj(w:bK):((PySem.W.boot_heap w.params).isNs cE,(PySem.W.boot_heap w.params).objs.size,(PySem.W.boot_heap w.params).nsMap cE "__annotations__")=(true,11,some (.ref 6)):=by kernel_rfl
set_option maxHeartbeats 0 in
theorem jZ4(w:bK)(os:OsState):TH.vYt pg w 11 (some (.ref 6)) (PySem.W.behindTheImports pg) ev0 (.body (PySem.W.behindTheImports pg) ev0) default default 3788 (TH.ofS (Sa w os)) (TH.zV6 pg vw pg.boundNames (fun s=>PySem.W.xlAt vw [] s && PySem.W.recOk (PySem.W.RowW.records (PySem.W.OpenRow.toRowW PySem.Challenge.rw_flipwright_k15_rows.row)) s) (PySem.W.Hook.obs (PySem.W.kHook KF KA KAs)) true (PySem.W.boot_heap w.params))=some (true,PySem.W.openGood vw pg.boundNames,PySem.W.Hook.val (PySem.W.kHook KF KA KAs) w):=by kernel_rfl
end X15
namespace L2
open PySem PySem.Spec PyProof.Rows
variable{us:List Value}{H:Hp}{α:Type}{h base:Heap}{g':Array GenState}{t' i j k n:Nat}{d':Drawn}{ch fp:List aV}{it dx C:aV}{N ps:List Str}{M:Model}{A:cC}{Q:Value->aY->Prop}{X:Cx}{s:aY}{pos pos':Pos}{pins:List (aV×Obj)}{y:V}{K:aQ}{es:List Expr}{te:TE}{op op':CmpOp}{body:List Stmt}{g:Int->Int->Int}{r':R2}{pl:Sem Bool}{kw:List (Str×Value)}{mg:Str->Option Value}{CX:CXT}{fd:aH}{sp:Sp}{outer:List Env}{vs:List V}{kindOf:Str->Option NameKind}{qual:Str}{scope:Scope}
noncomputable abbrev Key:=Sum Int Str
noncomputable def qWt:Key->Value->Bool
 |.inl k,v=>Value.isInt k v
 |.inr x,v=>Value.isStrOf x v
noncomputable def keyH(w:bK):Key->Int
 |.inl k=>hashInt k
 |.inr x=>hashStr w x
theorem zK:∀{k:Key} {v:Value},qWt k v=true->(∃i t,k=Sum.inl i/\v=Value.int i t)\/(∃x t,k=Sum.inr x/\v=Value.str x t)
 | .inl i,v,h=>by
   obtain⟨t,e⟩:=Value.isInt_shape (k:=i) (v:=v) h;exact .inl ⟨i,t,rfl,e⟩
 | .inr x,v,h=>by
   obtain⟨t,e⟩:=Value.isStrOf_shape (x:=x) (v:=v) h;exact .inr ⟨x,t,rfl,e⟩
theorem vVs(i:Int)(t:Tok):qWt (.inl i) (.int i t)=true:=by simp[qWt,Value.isInt]
theorem vVr(x:Str)(t:Tok):qWt (.inr x) (.str x t)=true:=by simp[qWt,Value.isStrOf]
theorem jZt(a b:Int):decide ((Sum.inl a:Key)=Sum.inl b)=(a == b):=by
 grind
theorem jZq(a b:Str):decide ((Sum.inr a:Key)=Sum.inr b)=decide (a=b):=by
 grind
theorem jZs(a:Int)(b:Str):decide ((Sum.inl a:Key)=Sum.inr b)=false:=decide_eq_false (fun q=>nomatch q)
theorem jZr(a:Str)(b:Int):decide ((Sum.inr a:Key)=Sum.inl b)=false:=decide_eq_false (fun q=>nomatch q)
noncomputable def zT(prog:bQ)(w:bK):PySem.KeyKind prog w Key where
 is:=qWt;hash:=keyH w;inj:=fun v a b ha hb=>by
  rcases zK ha with⟨i,t,rfl,rfl⟩|⟨x,t,rfl,rfl⟩
  ·rcases zK hb with⟨j,u,rfl,e⟩ | ⟨y,u,rfl,e⟩
   ·injection e with e1 _;rw[e1]
   ·exact nomatch e
  ·rcases zK hb with⟨j,u,rfl,e⟩ | ⟨y,u,rfl,e⟩
   ·exact nomatch e
   ·injection e with e1 _;rw[e1]
 byValue:=fun k v h=>by
  rcases zK h with⟨i,t,rfl,rfl⟩|⟨x,t,rfl,rfl⟩ <;> rfl
 pyHash:=fun hv h=>by
  rcases zK hv with⟨i,t,rfl,rfl⟩|⟨x,t,rfl,rfl⟩
  ·exact wpAny_pyHash_int h
  ·exact wpAny_pyHash_str h
 eqBool:=fun hu hv h=>by
  rcases zK hu with⟨i,t,rfl,rfl⟩|⟨x,t,rfl,rfl⟩
  ·rcases zK hv with⟨j,u,rfl,rfl⟩ | ⟨y,u,rfl,rfl⟩
   ·rw[jZt]at h;exact wpAny_eqBool_int h
   ·rw[jZs]at h;exact SeqAt.EqAt.int_str i t y u _ _ _ _ h
  ·rcases zK hv with⟨j,u,rfl,rfl⟩ | ⟨y,u,rfl,rfl⟩
   ·rw[jZr]at h;exact SeqAt.EqAt.str_int x t j u _ _ _ _ h
   ·rw[jZq]at h;exact wpAny_eqBool_str h
 «strs»:=fun k x t v h=>by
  rcases zK h with⟨i,u,rfl,e⟩|⟨y,u,rfl,e⟩
  ·exact nomatch e
  ·injection e with e1 _
   subst e1;cases v <;> rfl
theorem vWw(prog:bQ)(w:bK)(i:Int)(t:Tok):(zT prog w).is (.inl i) (.int i t)=true:=vVs i t
theorem vWv(prog:bQ)(w:bK)(x:Str)(t:Tok):(zT prog w).is (.inr x) (.str x t)=true:=vVr x t
inductive V where
 |non|bl (b:Bool)|int (i:Int)|str (x:Str)|byt (b:Array UInt8)|flt (b:UInt64)|ref (a:aV)|ty (n:String)
 deriving DecidableEq
noncomputable def RelV:V->Value->Prop
 |.non,u=>u=Value.none
 |.bl b,u=>u=Value.bool b
 |.int i,u=>∃t,u=Value.int i t
 |.str x,u=>∃t,u=Value.str x t
 |.byt b,u=>∃t,u=Value.bytes b t
 |.flt b,u=>∃t,u=Value.float b t
 |.ref a,u=>u=Value.ref a
 |.ty n,u=>u=Value.type n
noncomputable abbrev Vals:List V->List Value->Prop:=Paired RelV
theorem Vals.length{xs:List V}(r:Vals xs us):xs.length=us.length:=Paired.length r
theorem Vals.get:∀{xs:List V} {us:List Value} {i:Nat} {x:V},Vals xs us->xs[i]?=some x->∃u,us[i]?=some u/\RelV x u
 |_,_,_,_,.nil,e=>by simp at e
 |_,_,0,_,.cons r _,e=>by simp at e;subst e;exact⟨_,rfl,r⟩
 | _,_,i + 1,x, .cons _ t,e=>by
   obtain⟨u,h1,h2⟩:=Vals.get (i:=i) (x:=x) t (by simpa using e);exact⟨u,by simpa using h1,h2⟩
theorem Vals.append:∀{xs ys:List V} {us ws:List Value},Vals xs us->Vals ys ws->Vals (xs ++ ys) (us ++ ws)
 |_,_,_,_,.nil,s=>s
 |_,_,_,_,.cons r t,s=>.cons r (Vals.append t s)
theorem Vals.take:∀{xs:List V} {us:List Value} (n:Nat),Vals xs us->Vals (xs.take n) (us.take n)
 |_,_,0,_=>.nil
 |_,_,_+1,.nil =>.nil
 |_,_,n+1,.cons r t=>.cons r (Vals.take n t)
theorem Vals.drop:∀{xs:List V} {us:List Value} (n:Nat),Vals xs us->Vals (xs.drop n) (us.drop n)
 |_,_,0,r=>r
 |_,_,_+1,.nil =>.nil
 |_,_,n+1,.cons _ t=>Vals.drop n t
noncomputable def RelO:Option V->Option Value->Prop
 |some v,some u=>RelV v u
 |none,none=>True
 |_,_=>False
noncomputable def KV{κ:Type}:List (κ×V)->List (κ×Value)->Prop:=Paired fun(p:κ×V) (q:κ×Value)=>p.1=q.1/\RelV p.2 q.2
noncomputable def kV:Key->V
 |.inl i=>.int i
 |.inr x=>.str x
inductive HO where
  |lst (xs:List V)
  |tup (xs:List V)
  |dK (kvs:List (Key×V))|dT (kvs:List (List Key×V))
  |set (S:Int->Bool) (n:Nat)
  |ins (C dx:aV) (fs:List (Str×V))
  |own (x:aV)
  |xd (fs:List (Str×V))
  |met (f x:aV)
  |rng (lo hi:Int)
  |frz (o:Obj) (u:HO)
  |tbl (ps:Array Value)
 | tab (l c:Nat) (q:Str)
   |ext (φ:Heap->Prop)
noncomputable abbrev Hp:=aV->Option HO
noncomputable def upd(H:Hp)(a:aV)(o:HO):Hp:=fun b=>if b=a then some o else H b
theorem upd_same{a:aV}{o:HO}:upd H a o a=some o:=by unfold upd;rw[if_pos rfl]
theorem qL{a b:aV}{o:HO}(h:b≠a):upd H a o b=H b:=by unfold upd;rw[if_neg h]
theorem vE{a b:aV}{o:HO}(h:H a=some o)(h' :H b=none):a≠b:=by
 grind
noncomputable def TabL(H:Hp)(h:Heap)(a:aV)(l c:Nat)(q:Str)(ps:List Value):Prop:=ps=[]\/∃c1 co fs t,ps=[rawInt l,rawInt c,.ref c1]/\H c1=some (.own a)/\h.get? c1=some co/\co.data=.fields fs/\fs[1]?=some (.str q t)
section
variable(P:bQ)(w:bK)
noncomputable def vO(H:Hp)(h:Heap)(a:aV):HO->Prop
 |.lst xs=>xs.length<=aT/\∃(its:List Value) (n:Nat),Vals xs its/\h.get? a=some {cls:=.type "list",data:=.seq its.toArray n}
 |.tup xs=>xs.length<=aT/\∃its:List Value,Vals xs its/\IsTup h a its.toArray
 |.dK kvs=>kvs.length<=aT/\(a == sysModules)=false/\∃vs,KV kvs vs/\h.DictOf (zT P w) a vs
 | .dT kvs=>kvs.length<=aT/\(a == sysModules)=false/\∃xs:List (List Key×aV×Value),
   Paired (fun(p:List Key×V) (q:List Key×aV×Value)=>p.1=q.1/\H q.2.1=some (.tup (p.1.map kV))/\RelV p.2 q.2.2) kvs xs/\
   ∃o es ep,h.get? a=some o/\o.ExactDict/\o.data=.dict es ep/\es.toList=xs.map (entryOfKey (tupleKind (zT P w)))/\(xs.map (·.1)).Nodup
 |.set S n=>h.SetOf (intKind P w) a S n
 | .ins C dx fs=>H dx=some (.own a)/\fs.length<=1000/\dx≠a/\h.get? a=some (dU C dx)/\
   ∃mA,h.Ns1 dx mA/\(∀f,RelO (fs.lookup f) (mA f))/\PySem.Within mA (fs.map (·.1))
 |.own _=>∃o,h.get? a=some o
 |.xd fs=>∃mA,h.Ns1 a mA/\∀f,RelO (fs.lookup f) (mA f)
 |.rng lo hi=>∃t u v,h.get? a=some {cls:=.type "range",data:=.fields #[.int lo t,.int hi u,.int 1 v]}
 |.frz o u=>h.get? a=some o/\vO H h a u
 |.tbl ps=>h.get? a=some {cls:=.none,data:=.fields ps}
 |.tab l c q=>∃ps,h.get? a=some {cls:=.none,data:=.fields ps}/\TabL H h a l c q ps.toList
 |.met f x=>h.get? a=some (PySem.W.methodObj (.ref f) (.ref x))
 |.ext φ=>φ h/\(∃o,h.get? a=some o)/\∀h1 h2:Heap,φ h1->(∀o,h1.get? a=some o->h2.get? a=some o)->φ h2
noncomputable def HOk(H:Hp)(h:Heap):Prop:=∀a o,H a=some o->vO P w H h a o
end
section
variable{P:bQ}{w:bK}{H H' :Hp}{h h' :Heap}{a:aV}{o:HO}
theorem vO.lt(x:vO P w H h a o):a<h.objs.size:=by
 cases o with
 |lst xs=>obtain⟨_,_,_,_,e⟩:=x;exact aC e
 |tup xs=>obtain⟨_,_,_,p⟩:=x;exact p.lt
 |dK kvs=>obtain⟨_,_,_,_,o,_,_,e,_⟩:=x;exact aC e
 |dT kvs=>obtain⟨_,_,_,_,o,_,_,e,_⟩:=x;exact aC e
 |set S n=>obtain⟨o,_,_,_,e,_⟩:=x;exact aC e
 |ins C dx fs=>obtain⟨_,_,_,e,_⟩:=x;exact aC e
 |own y=>obtain⟨_,e⟩:=x;exact aC e
 |xd fs=>obtain⟨_,⟨_,_,_,e,_⟩,_⟩:=x;exact aC e
 |rng lo hi=>obtain⟨_,_,_,e⟩:=x;exact aC e
 |frz ob u=>obtain⟨e,_⟩:=x;exact aC e
 |tbl ps=>exact aC (show h.get? a=some _ from x)
 |tab l c q=>obtain⟨_,e,_⟩:=x;exact aC e
 |met f y=>exact aC (show h.get? a=some _ from x)
 |ext φ=>obtain⟨_,⟨_,e⟩,_⟩:=x;exact aC e
theorem Paired.mapP{β:Type}{F G:α->β->Prop}:∀{l₁:List α} {l₂:List β},Paired F l₁ l₂->(∀a b,F a b->G a b)->Paired G l₁ l₂
 |_,_,.nil,_=>.nil
 |_,_,.cons r t,f=>.cons (f _ _ r) (Paired.mapP t f)
theorem vO.stay(x:vO P w H h a o)(k:∀b u,(b=a\/H b=some (.own a))->h.get? b=some u->h'.get? b=some u)(ho:∀b,H b=some (.own a)->H' b=some (.own a))(ht:∀b xs,H b=some (.tup xs)->H' b=some (.tup xs)):vO P w H' h' a o:=by
 induction o with
 |lst xs=>obtain⟨z,its,n,r,e⟩:=x;exact⟨z,its,n,r,k _ _ (.inl rfl) e⟩
 |tup xs=>obtain⟨z,its,r,ob,e,c⟩:=x;exact⟨z,its,r,ob,k _ _ (.inl rfl) e,c⟩
 |dK kvs=>obtain⟨z,y,vs,r,ob,es,ep,e,c⟩:=x;exact⟨z,y,vs,r,ob,es,ep,k _ _ (.inl rfl) e,c⟩
 | dT kvs=>
   obtain⟨z,y,xs,r,ob,es,ep,e,c⟩:=x;exact⟨z,y,xs,Paired.mapP r fun p q z=>⟨z.1,ht _ _ z.2.1,z.2.2⟩,ob,es,ep,k _ _ (.inl rfl) e,c⟩
 |set S n=>obtain⟨ob,es,ep,t,e,c⟩:=x;exact⟨ob,es,ep,t,k _ _ (.inl rfl) e,c⟩
 | ins C dx fs=>
   obtain⟨d,z,ne,e,mA,⟨od,es,ep,e2,c⟩,r⟩:=x;exact⟨ho _ d,z,ne,k _ _ (.inl rfl) e,mA,⟨od,es,ep,k _ _ (.inr d) e2,c⟩,r⟩
 |own y=>obtain⟨ob,e⟩:=x;exact⟨ob,k _ _ (.inl rfl) e⟩
 |xd fs=>obtain⟨mA,⟨od,es,ep,e,c⟩,r⟩:=x;exact⟨mA,⟨od,es,ep,k _ _ (.inl rfl) e,c⟩,r⟩
 |rng lo hi=>obtain⟨t,u,v,e⟩:=x;exact⟨t,u,v,k _ _ (.inl rfl) e⟩
 |frz ob u ih=>obtain⟨e,q⟩:=x;exact⟨k _ _ (.inl rfl) e,ih q⟩
 | tbl ps=>
   have e:h.get? a=some {cls:=.none,data:=.fields ps}:=x;show h'.get? a=some {cls:=.none,data:=.fields ps};exact k a _ (.inl rfl) e
 | tab l c q=>
   obtain⟨ps,e,t⟩:=x;refine⟨ps,k a _ (.inl rfl) e,?_⟩;rcases t with t|⟨c,co,fs,tq,h1,h2,h3,h4⟩
   ·exact .inl t
   ·exact .inr ⟨c,co,fs,tq,h1,ho c h2,k c co (.inr h2) h3,h4⟩
 | met f y=>
   have e:h.get? a=some (PySem.W.methodObj (.ref f) (.ref y)):=x;show h'.get? a=some (PySem.W.methodObj (.ref f) (.ref y));exact k a _ (.inl rfl) e
 |ext φ=>obtain⟨p,⟨o,e⟩,st⟩:=x;exact⟨st _ _ p fun o q=>k _ _ (.inl rfl) q,⟨o,k _ _ (.inl rfl) e⟩,st⟩
theorem HOk.lt(x:HOk P w H h)(e:H a=some o):a<h.objs.size:=(x a o e).lt
theorem HOk.fresh(x:HOk P w H h)(e:h.objs.size<=a):H a=none:=by
 cases q:H a with
 |none=>rfl
 |some u=>exact absurd (aE (x.lt q) e) (cD _)
theorem HOk.kept(x:HOk P w H h)(k:∀b u,h.get? b=some u->h'.get? b=some u):HOk P w H h' :=fun a o e=>
 (x a o e).stay (fun b u _ q=>k b u q) (fun _ q=>q) fun _ _ q=>q
theorem HOk.laid(x:HOk P w H h)(k:∀b u,h.get? b=some u->h'.get? b=some u)(hp:h.objs.size<=a)(new:vO P w (upd H a o) h' a o):HOk P w (upd H a o) h' :=fun b u e=>by
 have hn:=x.fresh hp;by_cases hb:b=a
 ·subst hb;rw[upd_same]at e;cases e;exact new
 ·rw [qL hb] at e;exact(x b u e).stay (fun c v _ q=>k c v q) (fun c q=>by rw[qL (vE q hn)];exact q) fun c xs q=>by rw[qL (vE q hn)];exact q
end
noncomputable def Rd(H:Hp)(a:aV)(u:HO):Prop:=H a=some u\/∃o,H a=some (.frz o u)
theorem Rd.ok{P:bQ}{w:bK}{a:aV}{u:HO}(r:Rd H a u)(x:HOk P w H h):vO P w H h a u:=by
 rcases r with r|⟨o,r⟩
 ·exact x a u r
 ·obtain⟨_,q⟩:=x a _ r;exact q
noncomputable def Mut:Option HO->Prop
 |some (.lst _)=>True
 |some (.dK _)=>True
 |some (.dT _)=>True
 |some (.set _ _)=>True
 |some (.ins _ _ _)=>True
 |some (.ext _)=>True
 |_=>False
section
variable{P:bQ}{w:bK}{H:Hp}{h h' :Heap}{x e:aV}{o' :HO}
theorem HOk.write(ok:HOk P w H h)(mu:Mut (H x))(he:e=x\/H e=some (.own x))(k:∀b u,b≠e->h.get? b=some u->h'.get? b=some u)(heo:∃u,h'.get? e=some u)(new:vO P w (upd H x o') h' x o'):HOk P w (upd H x o') h' :=fun b u q=>by
 have nown:∀c y,H c=some (.own y)->c≠x:=fun c y r z=>by subst z;rw[r]at mu;exact mu
 have ntup:∀c xs,H c=some (.tup xs)->c≠x:=fun c xs r z=>by subst z;rw[r]at mu;exact mu
 by_cases hb:b=x
 ·subst hb;rw[upd_same]at q;cases q;exact new
 ·rw [qL hb] at q;by_cases hbe:b=e
  ·have q' :H b=some (.own x):=by
    rcases he with z|z
    ·exact absurd (hbe.trans z) hb
    ·rw[hbe];exact z
   rw[q]at q';cases q';obtain⟨v,hv⟩:=heo;exact⟨v,by rw[hbe];exact hv⟩
  ·refine(ok b u q).stay (fun c v hc r=>k c v ?_ r) (fun c r=>by rw [qL (nown c b r)];exact r) fun c xs r=>by rw [qL (ntup c xs r)];exact r
   rcases hc with rfl|hc
   ·exact hbe
   ·rintro rfl;rcases he with z|z
    ·exact nown c b hc z
    ·rw[hc]at z;cases z;exact hb rfl
end
structure Un(fs ex:List aV)(H H' :Hp)(h h' :Heap):Prop where
 keep:∀b o,h.get? b=some o->H b=none->b∉fs->b∉ex->h'.get? b=some o
 slot:∀b o,h.get? b=some o->H b=none->b∈fs->b∉ex->∃sl,h'.get? b=some {o with slots:=sl}
 free:∀b o,h.get? b=some o->H b=none->b∉ex->H' b=none
 there:∀b o,h.get? b=some o->b∉ex->∃o',h'.get? b=some o'
 tups:∀b xs,H b=some (.tup xs)->H' b=some (.tup xs)
 frzs:∀b o u,H b=some (.frz o u)->H' b=some (.frz o u)
 tbls:∀b ps,H b=some (.tbl ps)->∃more,H' b=some (.tbl (ps ++ more))
section
variable{fs fs' ex ex' :List aV}{H H1 H2:Hp}{h h1 h2 h' :Heap}{a x e:aV}{o:HO}
theorem Un.any(u:Un fs ex H H1 h h1){b:aV}{ob:Obj}(q:h.get? b=some ob)(n:H b=none)(hx:b∉ex):∃sl,h1.get? b=some {ob with slots:=sl}:=by
 by_cases hb:b∈fs
 ·exact u.slot b ob q n hb hx
 ·exact⟨ob.slots,u.keep b ob q n hb hx⟩
theorem Un.kept(k:∀b u,h.get? b=some u->h'.get? b=some u):Un fs ex H H h h' :=
 ⟨fun b ob q _ _ _=>k b ob q,fun b ob q _ _ _=>⟨ob.slots,k b ob q⟩,fun _ _ _ n _=>n,fun b ob q _=>⟨ob,k b ob q⟩,fun _ _ q=>q,fun _ _ _ q=>q,fun _ ps q=>⟨#[],by rw[q];simp⟩⟩
theorem Un.refl:Un fs ex H H h h:=Un.kept fun _ _ q=>q
theorem Un.laid(k:∀b u,h.get? b=some u->h'.get? b=some u)(hp:h.objs.size<=a)(hn:H a=none):Un fs ex H (upd H a o) h h' where
 keep:=fun b u q _ _ _=>k b u q
 slot:=fun b u q _ _ _=>⟨u.slots,k b u q⟩
 free:=fun b u q n _=>by rw[qL (bY (aE (aC q) hp))];exact n
 there:=fun b u q _=>⟨u,k b u q⟩
 tups:=fun b xs q=>by rw[qL (vE q hn)];exact q
 frzs:=fun b u xs q=>by rw[qL (vE q hn)];exact q
 tbls:=fun b ps q=>⟨#[],by rw[qL (vE q hn),q];simp⟩
theorem Un.write(mu:Mut (H x))(he:e=x\/H e=some (.own x))(k:∀b u,b≠e->h.get? b=some u->h'.get? b=some u)(heo:∃u,h'.get? e=some u):Un fs ex H (upd H x o) h h' :=by
 have hx:∀b,H b=none->b≠x:=fun b n z=>by subst z;rw[n]at mu;exact mu
 have hb:∀b,H b=none->b≠e:=fun b n z=>by
  grind
 have hm:∀b u,H b=some u->¬Mut (some u)->b≠x:=fun b u q nm z=>by subst z;rw[q]at mu;exact nm mu
 refine⟨fun b u q n _ _=>k b u (hb b n) q,fun b u q n _ _=>⟨u.slots,k b u (hb b n) q⟩,fun b u q n _=>by rw[qL (hx b n)];exact n,fun b u q _=>?_,
  fun b xs q=>by rw[qL (hm b _ q fun z=>z)];exact q,fun b u xs q=>by rw[qL (hm b _ q fun z=>z)];exact q,fun b ps q=>⟨#[],by rw[qL (hm b _ q fun z=>z),q];simp⟩⟩
 grind
end
noncomputable def trk(h:Heap)(H:Hp):List aV:=(List.range h.objs.size).filter fun a=>(H a).isSome
noncomputable def hidT(h:Heap)(H:Hp):Heap:=PySem.W.hideAll h (trk h H)
theorem zQ8(h:Heap)(H:Hp):(hidT h H).objs.size=h.objs.size:=PySem.W.hideAll_size _ _
theorem zWu{b:aV}{o:Obj}(e:h.get? b=some o)(n:H b=none):(hidT h H).get? b=some o:=
 PySem.W.hideAll_get _ e fun hm=>by
  have q:(H b).isSome =true:=(List.mem_filter.mp hm).2;grind
theorem zYw{b:aV}{o:Obj}(e:(hidT h H).get? b=some o):h.get? b=some o/\H b=none:=by
 have e' :h.get? b=some o:=PySem.W.of_hideAll (trk h H) e;refine⟨e',?_⟩;cases q:H b with
 |none=>rfl
 | some x=>
   have hm:b∈trk h H:=List.mem_filter.mpr ⟨List.mem_range.mpr (aC e'),by simp[q]⟩;have z:(hidT h H).get? b=none:=PySem.W.hideAll_none (trk h H) hm;grind
structure Mod(K:aQ)(mg:Str->Option Value)(base:Heap):Prop where
 kin:K.In base
 glob:base.Ns cE mg
 blt:∃mb,base.Ns builtinsNs mb/\∀x:Str,x≠"__name__"->mb x=cM x
 nolimit:base.NoLimit
structure Cx where
 prog:bQ
 w:bK
 K:aQ
 mg:Str->Option Value
 base:Heap
 A:cC
 N:List Str
 s₀:aY
 H₀:Hp
 env:Env
 outer:List Env
 stack:List Env
 ex:List aV
 fn:Str->Bool
 calm:Bool
 pn:List (aV×Obj)
 xe:Value->aY->Prop
noncomputable def frs(l:List Env):List aV:=l.filterMap (·.frame)
noncomputable abbrev Cx.fs(X:Cx):List aV:=frs X.outer
noncomputable def Vis(sc:Scope)(x:Str):Prop:=sc.names.lookup x=some .local \/sc.names.lookup x=some .cell \/sc.names.lookup x=some .free
noncomputable def Loc(sc:Scope)(x:Str):Prop:=sc.names.lookup x=some .local \/sc.names.lookup x=some .cell
noncomputable def Look(env:Env)(h:Heap)(m:Str->Option Value)(x:Str)(u:Value):Prop:=
 (env.kindOf x=some .local /\m x=some u)\/((env.kindOf x=some .cell \/env.kindOf x=some .free)/\∃c,env.cells.lookup x=some c/\h.IsCell c (some u))
structure Cx.Ok(X:Cx):Prop where
 mod:Mod X.K X.mg X.base
 kind:X.env.scope.kind=.function
 glob:X.env.globals=cE
 blt:X.env.builtins=builtinsNs
 above:X.s₀.heap.objs.size<=X.env.locals
 inj:∀x y c,X.env.cells.lookup x=some c->X.env.cells.lookup y=some c->x=y
 has:∀x,(X.env.kindOf x=some .cell \/X.env.kindOf x=some .free)->∃c,X.env.cells.lookup x=some c
 cab:∀x c,X.fn x=true->X.env.cells.lookup x=some c->X.s₀.heap.objs.size<=c
 hd:X.calm=true->X.A.handled=none
 frames:X.A.frames=some X.stack
 stk:X.stack=X.outer\/(X.stack=X.env::X.outer/\X.env.frame=some X.env.locals)
 exf:∀b∈X.ex,b≠X.env.locals/\∀x c,X.env.cells.lookup x=some c->c≠b
 bs:∀b o,X.base.get? b=some o->X.s₀.heap.get? b=some o/\X.H₀ b=none
 bsz:X.base.objs.size<=X.s₀.heap.objs.size
 noex:∀b o,X.base.get? b=some o->b∉X.ex
 exfs:∀b∈X.ex,b∉X.fs
 funs:X.s₀.heap.FunFrames X.base X.outer
 frf:∀b∈X.fs,X.H₀ b=none
structure Inv(X:Cx)(pins:List (aV×Obj))(σ:List (Option V))(H:Hp)(s:aY):Prop where
 ok:X.Ok
 os:s.os=X.s₀.os
 bare:AllBare s.gens
 base:Un X.fs X.ex X.H₀ H X.s₀.heap s.heap
 loc:∃m,s.heap.Ns X.env.locals m/\∀(i:Nat) (x:Str) (v:V),X.N[i]?=some x->σ[i]?=some (some v)->Vis X.env.scope x->∃u,RelV v u/\Look X.env s.heap m x u
 cell:∀x c,X.env.cells.lookup x=some c->∃v,s.heap.IsCell c v
 free:H X.env.locals=none
 freeC:∀x c,X.env.cells.lookup x=some c->H c=none
 pin:∀p∈X.pn ++ pins,s.heap.get? p.1=some p.2/\H p.1=none/\p.1≠X.env.locals/\p.1∉X.fs/\∀v,p.2.data≠ .cell v
 hok:HOk X.prog X.w H s.heap
 len:σ.length=X.N.length
section
variable{X:Cx}{pins:List (aV×Obj)}{σ:List (Option V)}{H H' :Hp}{s:aY}{h' :Heap}
theorem Cx.Ok.nofr(ok:X.Ok){b:aV}{o:Obj}(e:X.base.get? b=some o):b∉X.fs:=fun hb=>by
 have:=(ok.funs.mem hb).1;grind
theorem Inv.bs(I:Inv X pins σ H s):∀b o,X.base.get? b=some o->s.heap.get? b=some o/\H b=none:=fun b o e=>
 ⟨I.base.keep b o (I.ok.bs b o e).1 (I.ok.bs b o e).2 (I.ok.nofr e) (I.ok.noex b o e),I.base.free b o (I.ok.bs b o e).1 (I.ok.bs b o e).2 (I.ok.noex b o e)⟩
theorem Inv.bk(I:Inv X pins σ H s):∀b o,X.base.get? b=some o->s.heap.get? b=some o:=fun b o e=>(I.bs b o e).1
theorem Inv.mod(I:Inv X pins σ H s):Mod X.K X.mg X.base:=I.ok.mod
theorem Inv.kIn(I:Inv X pins σ H s):X.K.In s.heap:=I.ok.mod.kin.keeps I.bk
theorem Inv.lt(I:Inv X pins σ H s):X.env.locals<s.heap.objs.size:=let ⟨_,hn,_⟩:=I.loc;hn.lt
theorem Inv.sz(I:Inv X pins σ H s):X.s₀.heap.objs.size<=s.heap.objs.size:=aM I.ok.above (Nat.le_of_lt I.lt)
theorem Inv.nofs(I:Inv X pins σ H s){a:aV}(h:s.heap.objs.size<=a):a∉X.fs:=fun hb=>by
 obtain⟨_,o,ho,_⟩:=I.ok.funs.mem hb;exact absurd (aE (aC ho) (aM I.sz h)) (cD _)
theorem Inv.cne(I:Inv X pins σ H s):∀x c,X.env.cells.lookup x=some c->c≠X.env.locals:=fun x c e z=>by
 obtain⟨v,o,ho,hd⟩:=I.cell x c e;obtain⟨m,⟨o',es,ep,ho',hd',_⟩,_⟩:=I.loc;grind
theorem Inv.funs(I:Inv X pins σ H s):s.heap.FunFrames X.base X.outer:=by
 have all:∀(l:List Env),(∀b∈frs l,b∈X.fs)->X.s₀.heap.FunFrames X.base l->s.heap.FunFrames X.base l:=by
  intro l;induction l with
  |nil=>intro _ _;trivial
  | cons env r ih=>
    intro hs hl;obtain⟨hk,⟨L,o,hf,hn,ho,hd⟩,hr⟩:=hl;have hL:L∈X.fs:=hs L (by unfold frs;rw[List.filterMap_cons,hf];exact aA);obtain⟨sl,e⟩:=I.base.slot L o ho (I.ok.frf L hL) hL fun z=>I.ok.exfs L z hL
    exact⟨hk,⟨L,_,hf,hn,e,hd⟩,ih (fun b hb=>hs b (by unfold frs;rw[List.filterMap_cons,hf];exact aB _ hb)) hr⟩
 exact all X.outer (fun _ hb=>hb) I.ok.funs
theorem Inv.stack(I:Inv X pins σ H s):s.heap.FunFrames X.base X.stack:=by
 rcases I.ok.stk with e|⟨e,hf⟩
 ·rw[e];exact I.funs
 ·rw [e];obtain⟨m,hn,_⟩:=I.loc;refine .cons (by rw[I.ok.kind];decide) hf hn ?_ I.funs;exact Heap.get?_none_of_le (aM I.ok.bsz I.ok.above)
theorem Inv.stkSub(I:Inv X pins σ H s):∀b∈frs X.stack,b∈X.env.locals::X.fs:=fun b hb=>by
 rcases I.ok.stk with e|⟨e,hf⟩
 ·grind
 ·rw [e] at hb;unfold frs at hb;rw[List.filterMap_cons,hf]at hb;exact hb
theorem Inv.stkFree(I:Inv X pins σ H s):∀b∈frs X.stack,H b=none:=fun b hb=>by
 rcases bV.mp (I.stkSub b hb) with e|hb
 ·rw[e];exact I.free
 ·obtain⟨_,o,ho,_⟩:=I.ok.funs.mem hb;exact I.base.free b o ho (I.ok.frf b hb) fun z=>I.ok.exfs b z hb
theorem Inv.step(I:Inv X pins σ H s)(hch:∀b∈ch,(b∈X.ex\/X.s₀.heap.objs.size<=b)/\b≠X.env.locals/\(∀x c,X.env.cells.lookup x=some c->c≠b)/\∀p∈X.pn ++ pins,p.1≠b)(keep:∀b o,b≠X.env.locals->b∉X.fs->b∉ch->s.heap.get? b=some o->H b=none->h'.get? b=some o)(slot:∀b o,b≠X.env.locals->b∈X.fs->b∉ch->s.heap.get? b=some o->H b=none->∃sl,h'.get? b=some {o with slots:=sl})(free:∀b o,b∉ch->s.heap.get? b=some o->H b=none->H' b=none)(there:∀b o,b∉ch->s.heap.get? b=some o->∃o',h'.get? b=some o')(tups:∀b xs,H b=some (.tup xs)->H' b=some (.tup xs))(frzs:∀b o u,H b=some (.frz o u)->H' b=some (.frz o u))(tbls:∀b ps,H b=some (.tbl ps)->∃more,H' b=some (.tbl (ps ++ more)))(ns:∀m,s.heap.Ns X.env.locals m->h'.Ns X.env.locals m)(hok:HOk X.prog X.w H' h')(hg:AllBare g'):
  Inv X pins σ H' {s with heap:=h',gens:=g',drawn:=d',toks:=t' }:=by
 have neL:∀b o,X.s₀.heap.get? b=some o->b≠X.env.locals:=fun b o e=>bY (aE (aC e) I.ok.above)
 have neC:∀b o,X.s₀.heap.get? b=some o->b∉X.ex->b∉ch:=fun b o e hx hb=>by
  rcases(hch b hb).1 with z|z
  ·exact hx z
  ·exact absurd (aE (aC e) z) (cD _)
 have cellK:∀x c,X.env.cells.lookup x=some c->∀v,s.heap.IsCell c v->h'.IsCell c v:=fun x c e v ⟨o,ho,hd⟩=>by
  have nch:c∉ch:=fun z=>(hch c z).2.2.1 x c e rfl
  by_cases hc:c∈X.fs
  ·obtain⟨sl,q⟩:=slot c o (I.cne x c e) hc nch ho (I.freeC x c e);exact⟨_,q,hd⟩
  ·exact⟨o,keep c o (I.cne x c e) hc nch ho (I.freeC x c e),hd⟩
 refine⟨I.ok,I.os,hg,⟨fun b o e n hb hx=>?_,fun b o e n hb hx=>?_,fun b o e n hx=>?_,fun b o e hx=>?_,fun b xs e=>tups b xs (I.base.tups b xs e),fun b o xs e=>frzs b o xs (I.base.frzs b o xs e),fun b ps e=>?_⟩,?_,fun x c e=>?_,?_,fun x c e=>?_,fun p hp=>?_,hok,I.len⟩
 ·exact keep b o (neL b o e) hb (neC b o e hx) (I.base.keep b o e n hb hx) (I.base.free b o e n hx)
 ·obtain⟨sl,e1⟩:=I.base.slot b o e n hb hx;obtain⟨sl',e2⟩:=slot b _ (neL b o e) hb (neC b o e hx) e1 (I.base.free b o e n hx);exact⟨sl',e2⟩
 ·obtain⟨o',e1⟩:=I.base.there b o e hx;exact free b o' (neC b o e hx) e1 (I.base.free b o e n hx)
 ·obtain⟨o',e1⟩:=I.base.there b o e hx;exact there b o' (neC b o e hx) e1
 ·obtain⟨m1,e1⟩:=I.base.tbls b ps e;obtain⟨m2,e2⟩:=tbls b _ e1;exact⟨m1 ++ m2,by rw[e2,Array.append_assoc]⟩
 ·obtain⟨m,hn,hl⟩:=I.loc;refine⟨m,ns m hn,fun i x v e1 e2 e3=>?_⟩;obtain⟨u,r,l⟩:=hl i x v e1 e2 e3;refine⟨u,r,?_⟩;rcases l with l|⟨k,c,e,z⟩
  ·exact .inl l
  ·exact .inr ⟨k,c,e,cellK x c e _ z⟩
 ·obtain⟨v,z⟩:=I.cell x c e;exact⟨v,cellK x c e v z⟩
 ·obtain⟨m,⟨o,_,_,ho,_⟩,_⟩:=I.loc;exact free _ o (fun z=>(hch _ z).2.1 rfl) ho I.free
 ·obtain⟨v,o,ho,hd⟩:=I.cell x c e;exact free c o (fun z=>(hch c z).2.2.1 x c e rfl) ho (I.freeC x c e)
 ·obtain⟨e,n,ne,nf,d⟩:=I.pin p hp;have nch:p.1∉ch:=fun z=>(hch p.1 z).2.2.2 p hp rfl
  exact⟨keep p.1 p.2 ne nf nch e n,free p.1 p.2 nch e n,ne,nf,d⟩
theorem Inv.un(I:Inv X pins σ H s)(u:Un X.fs [] H H' s.heap h')(hok:HOk X.prog X.w H' h'):Inv X pins σ H' {s with heap:=h',toks:=t' }:=by
 obtain⟨m,⟨o,es,ep,ho,r⟩,_⟩:=id I.loc;obtain⟨sl,hL⟩:=u.any ho I.free (by simp);exact I.step (g' :=s.gens) (d' :=s.drawn) (ch:=[]) (fun _ z=>nomatch z) (fun b o _ hb _ e n=>u.keep b o e n hb (by simp)) (fun b o _ hb _ e n=>u.slot b o e n hb (by simp)) (fun b o _ e n=>u.free b o e n (by simp)) (fun b o _ e=>u.there b o e (by simp)) u.tups u.frzs u.tbls (fun m' hm=>by
  obtain⟨o',es',ep',ho',r'⟩:=hm;rw[ho]at ho';cases ho';exact⟨_,es',ep',hL,r'⟩) hok I.bare
theorem Inv.call(I:Inv X pins σ H s)(u:Un (frs X.stack) ch H H' s.heap h')(hok:HOk X.prog X.w H' h')(hg:AllBare g')(hch:∀b∈ch,(b∈X.ex\/X.s₀.heap.objs.size<=b)/\b≠X.env.locals/\(∀x c,X.env.cells.lookup x=some c->c≠b)/\∀p∈X.pn ++ pins,p.1≠b):
  Inv X pins σ H' {s with heap:=h',gens:=g',drawn:=d',toks:=t' }:=by
 obtain⟨m,⟨o,es,ep,ho,r⟩,_⟩:=id I.loc;obtain⟨sl,hL⟩:=u.any ho I.free fun z=>(hch _ z).2.1 rfl
 exact I.step (ch:=ch) hch (fun b o hL hb hc e n=>u.keep b o e n (fun z=>(bV.mp (I.stkSub b z)).elim hL hb) hc) (fun b o _ _ hc e n=>u.any e n hc) (fun b o hc e n=>u.free b o e n hc) (fun b o hc e=>u.there b o e hc) u.tups u.frzs u.tbls (fun m' hm=>by
  obtain⟨o',es',ep',ho',r'⟩:=hm;rw[ho]at ho';cases ho';exact⟨_,es',ep',hL,r'⟩) hok hg
theorem Inv.turned(I:Inv X pins σ H s)(k:∀b o,b≠it->s.heap.get? b=some o->h'.get? b=some o)(hn:H it=none)(hL:it≠X.env.locals)(h1:it∈X.ex\/X.s₀.heap.objs.size<=it)(h2:∀x c,X.env.cells.lookup x=some c->c≠it)(h3:∀p∈X.pn ++ pins,p.1≠it):Inv X pins σ H {s with heap:=h',toks:=t' }:=by
 have nit:∀b u,H b=some u->b≠it:=fun b u e z=>by rw[z,hn]at e;cases e
 refine I.step (g' :=s.gens) (d' :=s.drawn) (ch:=[it]) (fun b hb=>?_) (fun b o _ _ hc e _=>k b o (fun z=>hc (by simp[z])) e) (fun b o _ _ hc e _=>⟨o.slots,k b o (fun z=>hc (by simp[z])) e⟩) (fun _ _ _ _ n=>n)
  (fun b o hc e=>⟨o,k b o (fun z=>hc (by simp[z])) e⟩) (fun _ _ e=>e) (fun _ _ _ e=>e) (fun b ps e=>⟨#[],by rw[e];simp⟩) (fun m hm=>?_) (fun b u e=>?_) I.bare
 ·have e:b=it:=by simpa using hb
  subst e;exact⟨h1,hL,h2,h3⟩
 ·obtain⟨o,es,ep,ho,r⟩:=hm;exact⟨o,es,ep,k _ o (Ne.symm hL) ho,r⟩
 ·refine(I.hok b u e).stay (fun c v hc q=>k c v ?_ q) (fun _ q=>q) fun _ _ q=>q
  rcases hc with z|z
  ·rw[z];exact nit b u e
  ·exact nit c _ z
theorem Inv.tok(I:Inv X pins σ H s)(t:Nat):Inv X pins σ H {s with toks:=t}:=I.un (h' :=s.heap) (t' :=t) Un.refl I.hok
theorem Inv.kept(I:Inv X pins σ H s)(k:∀b u,s.heap.get? b=some u->h'.get? b=some u):Inv X pins σ H {s with heap:=h',toks:=t' }:=I.un (Un.kept k) (I.hok.kept k)
theorem Inv.laid{a:aV}{o:HO}(I:Inv X pins σ H s)(k:∀b u,s.heap.get? b=some u->h'.get? b=some u)(hp:s.heap.objs.size<=a)(new:vO X.prog X.w (upd H a o) h' a o):
  Inv X pins σ (upd H a o) {s with heap:=h',toks:=t' }:=I.un (Un.laid k hp (I.hok.fresh hp)) (I.hok.laid k hp new)
theorem Inv.write{x e:aV}{o:HO}(I:Inv X pins σ H s)(mu:Mut (H x))(he:e=x\/H e=some (.own x))(k:∀b u,b≠e->s.heap.get? b=some u->h'.get? b=some u)(heo:∃u,h'.get? e=some u)(new:vO X.prog X.w (upd H x o) h' x o):Inv X pins σ (upd H x o) {s with heap:=h',toks:=t' }:=I.un (Un.write mu he k heo) (I.hok.write mu he k heo new)
theorem Inv.pins_of{pins' :List (aV×Obj)}(I:Inv X pins σ H s)(h:∀p∈pins',s.heap.get? p.1=some p.2/\H p.1=none/\p.1≠X.env.locals/\p.1∉X.fs/\∀v,p.2.data≠ .cell v):Inv X pins' σ H s:=
 ⟨I.ok,I.os,I.bare,I.base,I.loc,I.cell,I.free,I.freeC,fun p hp=>(cF.mp hp).elim (fun z=>I.pin p (List.mem_append_left _ z)) (h p),I.hok,I.len⟩
theorem qK0(hN:N.Nodup){x:Str}(a:N[i]?=some x)(b:N[j]?=some x):i=j:=by
 obtain⟨h1,e1⟩:=aU.mp a;obtain⟨h2,e2⟩:=aU.mp b;exact(List.getElem_inj hN).mp (e1.trans e2.symm)
theorem zQj{E:Value->aY->Prop}{x:Str}{v:V}{u:Value}{Q:Unit->aY->Prop}(I:Inv X pins σ H s)(hN:X.N.Nodup)(hi:X.N[i]?=some x)(hx:Loc X.env.scope x)(r:RelV v u)(h:∀s',Inv X pins (σ.set i (some v)) H s' ->(∃a,Heap.SameBut a s.heap s'.heap/\(a=X.env.locals\/X.env.cells.lookup x=some a))->Q () s')(hf:X.fn x=true\/X.env.scope.names.lookup x=some .local :=by first|exact .inl rfl|exact .inr rfl|assumption):aO M A (storeName X.env x u) Q E s:=by
 obtain⟨m,hn,hl⟩:=id I.loc;have hcls:(X.env.scope.kind ==.class || (X.env.scope.kind ==.module && X.env.locals != X.env.globals))=false:=by rw[I.ok.kind];rfl
 have hiσ:i < σ.length:=by rw[I.len];exact(aU.mp hi).1
 have cne:=I.cne;have tracked:∀{a:aV} {h' :Heap},(∃o,s.heap.get? a=some o/\H a=none)->Heap.SameBut a s.heap h' ->HOk X.prog X.w H h' :=fun {a h'} ha hs b ob e=>by
  obtain⟨_,_,hfree⟩:=ha;refine(I.hok b ob e).stay (fun c w' hc q=>(hs.2 c ?_).trans q) (fun _ q=>q) fun _ _ q=>q
  rintro rfl;rcases hc with rfl|hc
  ·rw[hfree]at e;cases e
  ·rw[hfree]at hc;cases hc
 rcases hx with hk|hk
 ·refine wpAny_storeName_local hk hn (fun h' hn' hs=>?_) hcls;obtain⟨oL,_,_,hoL,_⟩:=id hn;refine h _ ⟨I.ok,I.os,I.bare,⟨fun b o e n hb hx=>?_,fun b o e n hb hx=>?_,I.base.free,fun b o e hx=>?_,I.base.tups,I.base.frzs,I.base.tbls⟩,⟨_,hn',fun j y v' e1 e2 e3=>?_⟩,fun y c e=>?_,I.free,I.freeC,fun p hp=>?_,tracked ⟨oL,hoL,I.free⟩ hs,by simpa using I.len⟩ ⟨_,hs,.inl rfl⟩
  ·exact(hs.2 b (bY (aE (aC e) I.ok.above))).trans (I.base.keep b o e n hb hx)
  ·obtain⟨sl,e1⟩:=I.base.slot b o e n hb hx;exact⟨sl,(hs.2 b (bY (aE (aC e) I.ok.above))).trans e1⟩
  ·obtain⟨o',e1⟩:=I.base.there b o e hx;exact⟨o',(hs.2 b (bY (aE (aC e) I.ok.above))).trans e1⟩
  ·by_cases hj:j=i
   ·subst hj;rw[hi]at e1;cases e1;rw[dM hiσ]at e2;cases e2;exact⟨u,r,.inl ⟨hk,by simp⟩⟩
   ·rw [bZ (Ne.symm hj)] at e2;obtain⟨u',r',q⟩:=hl j y v' e1 e2 e3;refine⟨u',r',?_⟩;rcases q with⟨k,e⟩|⟨k,c,e,z⟩
    ·refine .inl ⟨k,?_⟩;have:y≠x:=fun e=>hj (qK0 hN e1 (e▸hi))
     simp[this,e]
    ·exact .inr ⟨k,c,e,z.sameBut hs (cne y c e)⟩
  ·obtain⟨w',z⟩:=I.cell y c e;exact⟨w',z.sameBut hs (cne y c e)⟩
  ·obtain⟨e,n,ne,nf,d⟩:=I.pin p hp;exact⟨(hs.2 p.1 ne).trans e,n,ne,nf,d⟩
 ·have hfn:X.fn x=true:=by
   rcases hf with z|z
   ·exact z
   ·rw[z]at hk;cases hk
  obtain⟨c,hc⟩:=I.ok.has x (.inl hk);obtain⟨w',z⟩:=I.cell x c hc;refine wpAny_storeName_cell I.ok.kind hk hc z (fun h' hc' hs=>?_);obtain⟨oc,hoc,hocd⟩:=id z;refine h {s with heap:=h' } ⟨I.ok,I.os,I.bare,⟨fun b o e n hb hx=>?_,fun b o e n hb hx=>?_,I.base.free,fun b o e hx=>?_,I.base.tups,I.base.frzs,I.base.tbls⟩,⟨m,hn.sameBut hs (Ne.symm (cne x c hc)),fun j y v' e1 e2 e3=>?_⟩,fun y c' e=>?_,I.free,I.freeC,fun p hp=>?_,tracked ⟨oc,hoc,I.freeC x c hc⟩ hs,by simpa using I.len⟩ ⟨c,hs,.inr hc⟩
  ·exact(hs.2 b (bY (aE (aC e) (I.ok.cab x c hfn hc)))).trans (I.base.keep b o e n hb hx)
  ·obtain⟨sl,e1⟩:=I.base.slot b o e n hb hx;exact⟨sl,(hs.2 b (bY (aE (aC e) (I.ok.cab x c hfn hc)))).trans e1⟩
  ·obtain⟨o',e1⟩:=I.base.there b o e hx;exact⟨o',(hs.2 b (bY (aE (aC e) (I.ok.cab x c hfn hc)))).trans e1⟩
  ·by_cases hj:j=i
   ·subst hj;rw[hi]at e1;cases e1;rw[dM hiσ]at e2;cases e2;exact⟨u,r,.inr ⟨.inl hk,c,hc,hc'⟩⟩
   ·rw [bZ (Ne.symm hj)] at e2;obtain⟨u',r',q⟩:=hl j y v' e1 e2 e3;refine⟨u',r',?_⟩;rcases q with q|⟨k,c',e,z'⟩
    ·exact .inl q
    ·refine .inr ⟨k,c',e,z'.sameBut hs ?_⟩;rintro rfl;exact hj (qK0 hN e1 (I.ok.inj _ _ _ e hc▸hi))
  ·by_cases hcc:c' =c
   ·subst hcc;exact⟨_,hc'⟩
   ·obtain⟨w2,z2⟩:=I.cell y c' e;exact⟨w2,z2.sameBut hs hcc⟩
  ·obtain⟨e,n,ne,nf,d⟩:=I.pin p hp;refine⟨(hs.2 p.1 ?_).trans e,n,ne,nf,d⟩;intro q;rw[q,hoc]at e;have q' :oc=p.2:=Option.some.inj e;exact d w' (by rw[←q'];exact hocd)
theorem qQ5{E:Value->aY->Prop}{x:Str}{v:V}{u:Value}{Q:Unit->aY->Prop}(I:Inv X pins σ H s)(hN:X.N.Nodup)(hi:X.N[i]?=some x)(hx:Loc X.env.scope x)(r:RelV v u)(h:∀s',Inv X pins (σ.set i (some v)) H s' ->Q () s')(hf:X.fn x=true\/X.env.scope.names.lookup x=some .local :=by first|exact .inl rfl|exact .inr rfl|assumption):aO M A (storeName X.env x u) Q E s:=
 zQj I hN hi hx r (fun s' I' _=>h s' I') hf
theorem Inv.call'{s' :aY}(I:Inv X pins σ H s)(ho:s'.os=s.os)(u:Un (frs X.stack) ch H H' s.heap s'.heap)(hok:HOk X.prog X.w H' s'.heap)(hg:AllBare s'.gens)(hch:∀b∈ch,(b∈X.ex\/X.s₀.heap.objs.size<=b)/\b≠X.env.locals/\(∀x c,X.env.cells.lookup x=some c->c≠b)/\∀p∈X.pn ++ pins,p.1≠b):Inv X pins σ H' s' :=by
 obtain⟨h',g',d',t',o'⟩:=s';have e:o' =s.os:=ho;subst e;exact I.call (g' :=g') (t' :=t') (d' :=d') u hok hg hch
end
noncomputable abbrev XK:=Value->Option aV->Hp->Prop
noncomputable abbrev St:=List (Option V)
noncomputable abbrev VK:=V->Hp->Prop
noncomputable abbrev TE:=St->Hp->VK->Prop
noncomputable abbrev TT:=St->Hp->(Bool->Hp->Prop)->Prop
noncomputable abbrev TA:=St->Hp->(List V->Hp->Prop)->Prop
structure Ends where
 nx:St->Hp->Prop
 rt:VK
 bk:St->Hp->Prop:=fun _ _=>False
 ct:St->Hp->Prop:=fun _ _=>False
noncomputable abbrev TS:=Ends->St->Hp->Prop
noncomputable def EP(X:Cx)(pins:List (aV×Obj))(σ:St)(Q:VK)(u:Value)(s' :aY):Prop:=∃v H',Inv X pins σ H' s' /\RelV v u/\Q v H'
noncomputable def TP(X:Cx)(pins:List (aV×Obj))(σ:St)(Q:Bool->Hp->Prop)(b:Bool)(s' :aY):Prop:=∃H',Inv X pins σ H' s' /\Q b H'
noncomputable def AP(X:Cx)(pins:List (aV×Obj))(σ:St)(Q:List V->Hp->Prop)(us:List Value)(s' :aY):Prop:=∃vs H',Inv X pins σ H' s' /\Vals vs us/\Q vs H'
noncomputable def SP(X:Cx)(pins:List (aV×Obj))(D:Ends)(f:Flow)(s' :aY):Prop:=
 match f with
 |.next =>∃σ' H',Inv X pins σ' H' s' /\D.nx σ' H'
 |.brk =>∃σ' H',Inv X pins σ' H' s' /\D.bk σ' H'
 |.cont =>∃σ' H',Inv X pins σ' H' s' /\D.ct σ' H'
 |.ret u=>∃v σ' H',Inv X pins σ' H' s' /\RelV v u/\D.rt v H'
noncomputable def PE(X:Cx)(e:Expr)(t:TE):Prop:=
 ∀(pins:List (aV×Obj)) (s:aY) (σ:St) (H:Hp) (Q:VK),Inv X pins σ H s->t σ H Q->aO (model X.prog X.w) X.A (eval e X.env) (EP X pins σ Q) X.xe s
noncomputable def PT(X:Cx)(e:Expr)(t:TT):Prop:=
 ∀(pins:List (aV×Obj)) (s:aY) (σ:St) (H:Hp) (Q:Bool->Hp->Prop),Inv X pins σ H s->t σ H Q->aO (model X.prog X.w) X.A (isTrue e X.env (eval e X.env)) (TP X pins σ Q) X.xe s
noncomputable def PW(X:Cx)(e:Expr)(t:TT):Prop:=
 ∀(whole:Sem Value) (pins:List (aV×Obj)) (s:aY) (σ:St) (H:Hp) (Q:Bool->Hp->Prop),Inv X pins σ H s->t σ H Q->aO (model X.prog X.w) X.A (isTrue e X.env whole) (TP X pins σ Q) X.xe s
theorem PW.pt{e:Expr}{t:TT}(h:PW X e t):PT X e t:=h _
noncomputable def PA(X:Cx)(es:List Expr)(t:TA):Prop:=
 ∀(pos:Pos) (pins:List (aV×Obj)) (s:aY) (σ:St) (H:Hp) (Q:List V->Hp->Prop),Inv X pins σ H s->t σ H Q->aO (model X.prog X.w) X.A (spliced (cX pos (aX es X.env))) (AP X pins σ Q) X.xe s
noncomputable def PS(X:Cx)(st:Stmt)(t:TS):Prop:=
 ∀(pins:List (aV×Obj)) (s:aY) (σ:St) (H:Hp) (D:Ends),Inv X pins σ H s->t D σ H->aO (model X.prog X.w) X.A (exec st X.env) (SP X pins D) X.xe s
noncomputable def PSs(X:Cx)(st:List Stmt)(t:TS):Prop:=
 ∀(pins:List (aV×Obj)) (s:aY) (σ:St) (H:Hp) (D:Ends),Inv X pins σ H s->t D σ H->aO (model X.prog X.w) X.A (execs st X.env) (SP X pins D) X.xe s
theorem thn{t:Sem α}{Q Q' :α->aY->Prop}{E:Value->aY->Prop}(h:aO M A t Q E s)(hQ:∀a s,Q a s->Q' a s):aO M A t Q' E s:=bS h hQ fun _ _ x=>x
section
variable{X:Cx}
noncomputable def tVar(i:Nat):TE:=fun σ H Q=>∃v,σ[i]?=some (some v)/\Q v H
noncomputable def tC(v:V):TE:=fun _ H Q=>Q v H
theorem jVy{x:Str}(hN:X.N[i]?=some x)(hv:Vis X.env.scope x)(hd:(x == ("__debug__":Str))=false:=by decide)(hcd:(x == ("__classdict__":Str))=false:=by decide):PE X (.Name x pos) (tVar i):=by
 intro pins s σ H Q I h;obtain⟨v,e,h⟩:=h;obtain⟨m,hn,hl⟩:=I.loc;obtain⟨u,r,l⟩:=hl i x v hN e hv;have fin:EP X pins σ Q u s:=⟨v,H,I,r,h⟩
 rcases l with⟨hk,hm⟩|⟨hk,c,hc,hcell⟩
 ·exact wpAny_Name (wpAny_loadName_local I.ok.kind hk hn hm fin) hd
 ·rcases hk with hk | hk
  ·exact wpAny_Name (wpAny_loadName_cell I.ok.kind hk hc hcell fin) hd
  ·exact wpAny_Name (wpAny_loadName_free I.ok.kind hk hc hcell fin hcd) hd
theorem zZy{i j pos}:PE X (.Constant (.int i) j pos) (tC (.int i)):=fun _ _ _ H _ I h=>wpAny_Constant_int ⟨.int i,H,I.tok _,⟨_,rfl⟩,h⟩
theorem jJ2{b j pos}:PE X (.Constant (.bool b) j pos) (tC (.bl b)):=fun _ _ _ H _ I h=>Constant_bool ⟨.bl b,H,I,rfl,h⟩
theorem jV2{j pos}:PE X (.Constant .none j pos) (tC .non):=fun _ _ _ H _ I h=>Constant_none ⟨.non,H,I,rfl,h⟩
theorem vXd{x j pos}:PE X (.Constant (.str x) j pos) (tC (.str x)):=fun _ _ _ H _ I h=>Calls.Constant_str ⟨.str x,H,I.tok _,⟨_,rfl⟩,h⟩
noncomputable def Gl(X:Cx)(x:Str):Prop:=X.env.kindOf x=some .globalImplicit
theorem qJe{E:Value->aY->Prop}{σ:St}{x:Str}{u:Value}(I:Inv X pins σ H s)(hg:Gl X x)(hm:X.mg x=some u)(h:Q u s)(hd:(x == ("__debug__":Str))=false:=by decide):aO (model X.prog X.w) X.A (eval (.Name x pos) X.env) Q E s:=
 Calls.Name_function_global I.ok.kind hg (Calls.loadGlobal_global (by rw[I.ok.glob];exact I.mod.glob.keeps I.bk) hm h) hd
theorem qXm{E:Value->aY->Prop}{σ:St}{x:Str}{u:Value}(I:Inv X pins σ H s)(hg:Gl X x)(hm:X.mg x=none)(hv:cM x=some u)(h:Q u s)(hn:x≠"__name__":=by decide)(hd:(x == ("__debug__":Str))=false:=by decide):aO (model X.prog X.w) X.A (eval (.Name x pos) X.env) Q E s:=by
 obtain⟨mb,h1,h2⟩:=I.mod.blt;exact Calls.Name_function_global I.ok.kind hg (Calls.loadGlobal_builtin (by rw[I.ok.glob];exact I.mod.glob.keeps I.bk) hm (by rw[I.ok.blt];exact h1.keeps I.bk) ((h2 x hn).trans hv) h) hd
theorem vD{x:Str}{v:V}{u:Value}(hg:Gl X x)(hm:X.mg x=some u)(r:RelV v u)(hd:(x == ("__debug__":Str))=false:=by decide):PE X (.Name x pos) (tC v):=
 fun _ _ _ H _ I h=>qJe I hg hm ⟨v,H,I,r,h⟩ hd
theorem vKn{x:Str}{v:V}{u:Value}(hg:Gl X x)(hm:X.mg x=none)(hv:cM x=some u)(r:RelV v u)(hn:x≠"__name__":=by decide)(hd:(x == ("__debug__":Str))=false:=by decide):PE X (.Name x pos) (tC v):=
 fun _ _ _ H _ I h=>qXm I hg hm hv ⟨v,H,I,r,h⟩ hn hd
variable{a b:Expr}{ta tb:TE}{pos:Pos}
noncomputable def tB(t:TE):TT:=fun σ H Q=>t σ H fun x H1=>∃c,x=.bl c/\Q c H1
theorem jVk{e:Expr}{t:TE}(h:PE X e t)(he:∀whole,isTrue e X.env whole=(do let v ←whole;standAt e.pos;holding [v] (truthy v)):=by intro _;rfl):PT X e (tB t):=by
 intro pins s σ H Q I hw;refine isTrue_plain (thn (h pins s σ H _ I hw) fun v s1 ⟨x,H1,I1,r1,q1⟩=>?_) (he _);obtain⟨d,rfl,q⟩:=q1;cases r1;exact cN ⟨H1,I1,q⟩
variable{tA tB' :TT}{rest:List Expr}
noncomputable def tAnd(t u:TT):TT:=fun σ H Q=>t σ H fun c H1=>if c=true then u σ H1 Q else Q false H1
noncomputable def tOr(t u:TT):TT:=fun σ H Q=>t σ H fun c H1=>if c=true then Q true H1 else u σ H1 Q
noncomputable def tNot(t:TT):TT:=fun σ H Q=>t σ H fun c H1=>Q (!c) H1
theorem zX2(ha:PT X a tA):PW X (.BoolOp .And [a] pos) tA:=by
 intro wh pins s σ H Q I h;refine isTrue_and (thn (ha pins s σ H Q I h) fun c s1 e=>?_);cases c with
 |true=>exact isTrue_and_nil e
 |false=>exact e
theorem jVi(ha:PT X a tA):PW X (.BoolOp .Or [a] pos) tA:=by
 intro wh pins s σ H Q I h;refine isTrue_or (thn (ha pins s σ H Q I h) fun c s1 e=>?_);cases c with
 |false=>exact isTrue_or_nil e
 |true=>exact e
theorem jVj(ha:PT X a tA)(hb:PW X (.BoolOp .And (b::rest) pos) tB'):PW X (.BoolOp .And (a::b::rest) pos) (tAnd tA tB'):=by
 intro wh pins s σ H Q I h;refine isTrue_and (thn (ha pins s σ H _ I h) fun c s1 ⟨H1,I1,q1⟩=>?_);cases c with
 |true=>exact hb wh pins s1 σ H1 Q I1 q1
 |false=>exact⟨H1,I1,q1⟩
theorem jJv(ha:PT X a tA)(hb:PW X (.BoolOp .Or (b::rest) pos) tB'):PW X (.BoolOp .Or (a::b::rest) pos) (tOr tA tB'):=by
 intro wh pins s σ H Q I h;refine isTrue_or (thn (ha pins s σ H _ I h) fun c s1 ⟨H1,I1,q1⟩=>?_);cases c with
 |true=>exact⟨H1,I1,q1⟩
 |false=>exact hb wh pins s1 σ H1 Q I1 q1
theorem jVl(ha:PT X a tA):PT X (.UnaryOp .Not a pos) (tNot tA):=by
 intro pins s σ H Q I h;exact isTrue_not (ha pins s σ H (fun c H1=>Q (!c) H1) I h)
noncomputable def jJs(ta tb:TE):TE:=fun σ H Q=>ta σ H fun x H1=>∃c,x=.bl c/\if c=true then tb σ H1 Q else Q (.bl false) H1
noncomputable def tOrV(ta tb:TE):TE:=fun σ H Q=>ta σ H fun x H1=>∃c,x=.bl c/\if c=true then Q (.bl true) H1 else tb σ H1 Q
noncomputable def jJp(ta:TE):TE:=fun σ H Q=>ta σ H fun x H1=>∃c,x=.bl c/\Q (.bl (!c)) H1
theorem jV0{op}{t:TE}(h:PE X a t):PE X (.BoolOp op [a] pos) t:=fun pins s σ H Q I hw=>BoolOp_one (h pins s σ H Q I hw)
theorem jV6(ha:PE X a ta)(hb:PE X (.BoolOp .And (b::rest) pos) tb):PE X (.BoolOp .And (a::b::rest) pos) (jJs ta tb):=by
 intro pins s σ H Q I h;refine BoolOp_and (thn (ha pins s σ H _ I h) fun v s1 ⟨x,H1,I1,r1,q1⟩=>?_);obtain⟨c,rfl,q1⟩:=q1;cases r1;refine cN ?_
 cases c with
 |true=>exact hb pins s1 σ H1 Q I1 q1
 |false=>exact⟨.bl false,H1,I1,rfl,q1⟩
theorem jJ0(ha:PE X a ta)(hb:PE X (.BoolOp .Or (b::rest) pos) tb):PE X (.BoolOp .Or (a::b::rest) pos) (tOrV ta tb):=by
 intro pins s σ H Q I h;refine BoolOp_or (thn (ha pins s σ H _ I h) fun v s1 ⟨x,H1,I1,r1,q1⟩=>?_);obtain⟨c,rfl,q1⟩:=q1;cases r1;refine cN ?_
 cases c with
 |false=>exact hb pins s1 σ H1 Q I1 q1
 |true=>exact⟨.bl true,H1,I1,rfl,q1⟩
theorem jV1(ha:PE X a ta):PE X (.UnaryOp .Not a pos) (jJp ta):=by
 intro pins s σ H Q I h;refine UnaryOp_ (thn (ha pins s σ H _ I h) fun v s1 ⟨x,H1,I1,r1,q1⟩=>?_);obtain⟨c,rfl,q1⟩:=q1;cases r1;exact not_of (cN ⟨.bl (!c),H1,I1,rfl,q1⟩)
end
noncomputable def SqL(K:aQ)(H:Hp)(a:aV)(xs:List V):Prop:=
 Rd H a (.lst xs)\/
  ∃(o:Obj) (its:Array Value) (n:Nat),K.lookup a=some o/\o.cls=.type "list"/\o.dict=none/\o.data=.seq its n/\its.size<=aT/\Vals xs its.toList
noncomputable def SqT(K:aQ)(H:Hp)(a:aV)(xs:List V):Prop:=
 Rd H a (.tup xs)\/
  ∃(o:Obj) (its:Array Value) (n:Nat),K.lookup a=some o/\o.cls=.type "tuple"/\o.data=.seq its n/\its.size<=aT/\Vals xs its.toList
noncomputable def absV:Value->Option V
 |.none =>some .non
 |.bool b=>some (.bl b)
 |.int i _=>some (.int i)
 |.str x _=>some (.str x)
 |.bytes b _=>some (.byt b)
 |.float b _=>some (.flt b)
 |.ref a=>some (.ref a)
 |.type n=>some (.ty n)
 |_=>none
theorem RelV.abs{x:V}{u:Value}(r:RelV x u):absV u=some x:=by
 cases x with
 |non=>cases r;rfl
 |bl _=>cases r;rfl
 |int _=>obtain⟨t,rfl⟩:=r;rfl
 |str _=>obtain⟨t,rfl⟩:=r;rfl
 |byt _=>obtain⟨t,rfl⟩:=r;rfl
 |flt _=>obtain⟨t,rfl⟩:=r;rfl
 |ref _=>cases r;rfl
 |ty _=>cases r;rfl
theorem RelV.inj{x:V}{u:Value}(r:RelV x u)(q:RelV y u):x=y:=Option.some.inj (r.abs.symm.trans q.abs)
theorem Vals.inj:∀{xs ys:List V} {us:List Value},Vals xs us->Vals ys us->xs=ys
 |_,_,_,.nil,.nil =>rfl
 |_,_,_,.cons r t,.cons r' t' =>by rw[r.inj r',Vals.inj t t']
section
variable{X:Cx}{pins:List (aV×Obj)}{σ:St}{H:Hp}{s:aY}{a:aV}{xs ys:List V}
theorem SqL.of(h:H a=some (.lst xs)):SqL K H a xs:=.inl (.inl h)
theorem SqT.of(h:H a=some (.tup xs)):SqT K H a xs:=.inl (.inl h)
theorem Inv.list(I:Inv X pins σ H s)(h:SqL X.K H a xs):∃its:List Value,Vals xs its/\PlainL s.heap a its.toArray/\xs.length<=aT:=by
 rcases h with h|⟨o,its,n,hk,hc,hd,hs,hz,r⟩
 ·obtain⟨z,its,n,r,e⟩:=h.ok I.hok;exact⟨its,r,⟨_,n,e,rfl,rfl,rfl⟩,z⟩
 ·refine⟨its.toList,r,⟨o,n,I.kIn a o hk,hc,hd,by simpa using hs⟩,?_⟩;have e:=r.length;simp only[dX]at e;omega
theorem Inv.tuple(I:Inv X pins σ H s)(h:SqT X.K H a xs):∃its:List Value,Vals xs its/\IsTup s.heap a its.toArray/\xs.length<=aT:=by
 rcases h with h|⟨o,its,n,hk,hc,hs,hz,r⟩
 ·obtain⟨z,its,r,p⟩:=h.ok I.hok;exact⟨its,r,p,z⟩
 ·refine⟨its.toList,r,⟨o,I.kIn a o hk,hc,n,by simpa using hs⟩,?_⟩;have e:=r.length;simp only[dX]at e;omega
theorem Inv.list_inj(I:Inv X pins σ H s)(h:SqL X.K H a xs)(h' :SqL X.K H a ys):xs=ys:=by
 obtain⟨its,r,⟨o,n,e,_,_,d⟩,_⟩:=I.list h;obtain⟨its',r',⟨o',n',e',_,_,d'⟩,_⟩:=I.list h';rw[e]at e';cases e';rw[d]at d';injection d' with d1 _
 have:its=its' :=by simpa using congrArg Array.toList d1
 subst this;exact r.inj r'
theorem Inv.tuple_inj(I:Inv X pins σ H s)(h:SqT X.K H a xs)(h' :SqT X.K H a ys):xs=ys:=by
 obtain⟨its,r,⟨o,e,_,n,d⟩,_⟩:=I.tuple h;obtain⟨its',r',⟨o',e',_,n',d'⟩,_⟩:=I.tuple h';rw[e]at e';cases e';rw[d]at d';injection d' with d1 _
 have:its=its' :=by simpa using congrArg Array.toList d1
 subst this;exact r.inj r'
end
section
variable{X:Cx}{st:Stmt}{rest:List Stmt}{t u:TS}{e:Expr}{te:TE}{pos:Pos}
noncomputable def tNext:TS:=fun D σ H=>D.nx σ H
noncomputable def tSeq(t u:TS):TS:=fun D σ H=>t {D with nx:=u D} σ H
theorem vKm:PSs X [] tNext:=fun _ _ σ H _ I h=>wpAny_execs_nil ⟨σ,H,I,h⟩
theorem vJ8(h1:PS X st t)(h2:PSs X rest u):PSs X (st::rest) (tSeq t u):=by
 intro pins s σ H D I h;refine wpAny_execs_cons (thn (h1 pins s σ H {D with nx:=u D} I h) fun f s1 q=>?_);cases f with
 | next=>
   obtain⟨σ',H',I',q⟩:=q;exact h2 pins s1 σ' H' D I' q
 |ret v=>exact q
 |brk=>exact q
 |cont=>exact q
theorem zX5(h1:PS X st t):PSs X [st] t:=by
 intro pins s σ H D I h;refine wpAny_execs_cons (thn (h1 pins s σ H D I h) fun f s1 q=>?_);cases f with
 |next=>exact wpAny_execs_nil q
 |ret v=>exact q
 |brk=>exact q
 |cont=>exact q
theorem Inv.quiet{σ:St}(I:Inv X pins σ H s):interactive X.env=false:=by simp[interactive,I.ok.kind]
noncomputable def jJr(te:TE):TS:=fun D σ H=>te σ H fun _ H1=>D.nx σ H1
theorem zX8(he:PE X e te)(hs:swapsWith e none pos.line X.env=pure false:=by rfl):PS X (.Expr e pos) (jJr te):=by
 intro pins s σ H D I h;exact wpAny_Expr_any (thn (he pins s σ H _ I h) fun v s1 ⟨x,H1,I1,r1,q1⟩=>⟨σ,H1,I1,q1⟩) I.quiet hs
noncomputable def tRet(te:TE):TS:=fun D σ H=>te σ H D.rt
theorem jVn(he:PE X e te):PS X (.Return (some e) pos) (tRet te):=by
 intro pins s σ H D I h;exact wpAny_Return_some (thn (he pins s σ H _ I h) fun v s1 ⟨x,H1,I1,r1,q1⟩=>⟨x,σ,H1,I1,r1,q1⟩)
noncomputable def tIfS(c:TT)(t u:TS):TS:=fun D σ H=>c σ H fun b H1=>if b=true then t D σ H1 else u D σ H1
theorem jJw{c:Expr}{a b:List Stmt}{tc:TT}(hc:PT X c tc)(ha:PSs X a t)(hb:PSs X b u):PS X (.If c a b pos) (tIfS tc t u):=by
 intro pins s σ H D I h;refine wpAny_If (thn (hc pins s σ H _ I h) fun d s1 ⟨H1,I1,q1⟩=>?_);cases d with
 |true=>exact ha pins s1 σ H1 D I1 q1
 |false=>exact hb pins s1 σ H1 D I1 q1
end
noncomputable abbrev TG:=V->St->Hp->(St->Hp->Prop)->Prop
noncomputable abbrev TGs:=List V->St->Hp->(St->Hp->Prop)->Prop
noncomputable def PG(X:Cx)(target:Expr)(t:TG):Prop:=
 ∀(pins:List (aV×Obj)) (s:aY) (σ:St) (H:Hp) (v:V) (u:Value) (Q:St->Hp->Prop),Inv X pins σ H s->RelV v u->t v σ H Q->
  aO (model X.prog X.w) X.A (assign target X.env u) (fun _ s' =>∃σ' H',Inv X pins σ' H' s' /\Q σ' H') X.xe s
noncomputable def PGs(X:Cx)(ts:List Expr)(t:TGs):Prop:=
 ∀(pins:List (aV×Obj)) (s:aY) (σ:St) (H:Hp) (vs:List V) (us:List Value) (Q:St->Hp->Prop),Inv X pins σ H s->Vals vs us->t vs σ H Q->
  aO (model X.prog X.w) X.A (assignInOrder ((assignEach ts X.env).map (·.2)) us) (fun _ s' =>∃σ' H',Inv X pins σ' H' s' /\Q σ' H') X.xe s
noncomputable abbrev TIp:=V->V->Hp->VK->Prop
noncomputable def PIp(X:Cx)(op:Operator)(t:TIp):Prop:=
 ∀(pins:List (aV×Obj)) (s:aY) (σ:St) (H:Hp) (x y:V) (v u:Value) (Q:VK),Inv X pins σ H s->RelV x v->RelV y u->t x y H Q->
  aO (model X.prog X.w) X.A (inplaceOp op v u) (EP X pins σ Q) X.xe s
section
variable{X:Cx}{pos:Pos}
noncomputable def vY0(i:Nat):TG:=fun v σ H Q=>Q (σ.set i (some v)) H
theorem zYm{x:Str}(hN:X.N.Nodup)(hi:X.N[i]?=some x)(hx:Loc X.env.scope x)(hf:X.fn x=true\/X.env.scope.names.lookup x=some .local :=by first|exact .inl rfl|exact .inr rfl|assumption):PG X (.Name x pos) (vY0 i):=by
 intro pins s σ H v u Q I r h;exact wpAny_assign_Name (qQ5 I hN hi hx r (fun s' I' =>⟨_,H,I',h⟩) hf)
noncomputable def gNil:TGs:=fun vs σ H Q=>vs=[]/\Q σ H
noncomputable def jWl(t:TG)(u:TGs):TGs:=fun vs σ H Q=>∃v r,vs=v::r/\t v σ H fun σ' H' =>u r σ' H' Q
theorem zYl:PGs X [] gNil:=by
 intro pins s σ H vs us Q I r h;obtain⟨e,h⟩:=h;subst e;exact assignInOrder_nil ⟨σ,H,I,h⟩
theorem zJ4{e:Expr}{t:TG}{u:TGs}(h1:PG X e t)(h2:PGs X es u)(hs:(assignEach (e::es) X.env).map (·.2)=assign e X.env::(assignEach es X.env).map (·.2):=by rfl):PGs X (e::es) (jWl t u):=by
 intro pins s σ H vs us Q I r h;obtain⟨v,vr,e1,h⟩:=h;subst e1;cases r with
 | cons r rr=>
   rw[hs];refine assignInOrder_cons (thn (h1 pins s σ H _ _ _ I r h) fun _ s1 ⟨σ1,H1,I1,q1⟩=>?_);exact h2 pins s1 σ1 H1 _ _ Q I1 rr q1
noncomputable def gTup(K:aQ)(n:Nat)(t:TGs):TG:=fun v σ H Q=>∃a xs,v=.ref a/\SqT K H a xs/\xs.length=n/\t xs σ H Q
theorem jVx{t:TGs}(hc:X.calm=true)(h:PGs X es t)(hn:(assignEach es X.env).length =n:=by rfl)(hst:(assignEach es X.env).findIdx? (·.1)=none:=by rfl):PG X (.Tuple es k pos) (gTup X.K n t):=by
 intro pins s σ H v u Q I r hw;obtain⟨a,xs,e1,hq,hl,hw⟩:=hw;subst e1;cases r;obtain⟨its,rv,ht,hz⟩:=I.tuple hq;refine assign_Tuple_tuple (I.ok.hd hc) ht (by simp[hn,←hl,rv.length]) hst fun h' hx=>?_
 have I1:Inv X pins σ H {s with heap:=h' }:=I.kept (t' :=s.toks) fun b o e=>hx b o (bY (aC e)) e
 exact h pins _ σ H xs _ Q I1 (by simpa using rv) hw
noncomputable def tAsg(te:TE)(g:TG):TS:=fun D σ H=>te σ H fun x H1=>g x σ H1 D.nx
theorem jVm{x:Str}{e:Expr}(hN:X.N.Nodup)(hi:X.N[i]?=some x)(hx:Loc X.env.scope x)(he:PE X e te)(hs:swapsWith e (some (.Name x pos')) pos.line X.env=pure false:=by rfl)(hf:X.fn x=true\/X.env.scope.names.lookup x=some .local :=by first|exact .inl rfl|exact .inr rfl|assumption):
  PS X (.Assign [.Name x pos'] e pos) (tAsg te (vY0 i)):=by
 intro pins s σ H D I h;refine wpAny_Assign_Name (thn (he pins s σ H _ I h) fun v s1 ⟨y,H1,I1,r1,q1⟩=>?_) hs;exact qQ5 I1 hN hi hx r1 (fun s2 I2=>⟨_,H1,I2,q1⟩) hf
noncomputable def tAug(i:Nat)(te:TE)(ti:TIp):TS:=fun D σ H=>∃x,σ[i]?=some (some x)/\te σ H fun y H1=>ti x y H1 fun z H2=>D.nx (σ.set i (some z)) H2
theorem jVq{x:Str}{e:Expr}{op:Operator}{ti:TIp}(hN:X.N.Nodup)(hi:X.N[i]?=some x)(hx:Loc X.env.scope x)(he:PE X e te)(ho:PIp X op ti)(hf:X.fn x=true\/X.env.scope.names.lookup x=some .local :=by first|exact .inl rfl|exact .inr rfl|assumption):
  PS X (.AugAssign (.Name x pos') op e pos) (tAug i te ti):=by
 intro pins s σ H D I h;obtain⟨v,e1,h⟩:=h;obtain⟨m,hn,hl⟩:=I.loc;have vis:Vis X.env.scope x:=by rcases hx with k|k;exact .inl k;exact .inr (.inl k)
 obtain⟨u,r,l⟩:=hl i x v hi e1 vis;refine wpAny_AugAssign_Name ?_
 have go:aO (model X.prog X.w) X.A (eval e X.env) (fun w s₂=>aO (model X.prog X.w) X.A (inplaceOp op u w) (fun r s₃=>aO (model X.prog X.w) X.A (storeName X.env x r) (fun _=>SP X pins D .next) X.xe s₃) X.xe s₂) X.xe s:=by
  refine thn (he pins s σ H _ I h) fun w s1 ⟨y,H1,I1,r1,q1⟩=>?_
  refine thn (ho pins s1 σ H1 v y u w _ I1 r r1 q1) fun z s2 ⟨zv,H2,I2,r2,q2⟩=>?_
  exact qQ5 I2 hN hi hx r2 (fun s3 I3=>⟨_,H2,I3,q2⟩) hf
 rcases l with⟨hk,hm⟩|⟨hk,c,hc,hcell⟩
 ·exact wpAny_loadName_local I.ok.kind hk hn hm go
 ·rcases hk with hk | hk
  ·exact wpAny_loadName_cell I.ok.kind hk hc hcell go
  ·rcases hx with k | k
   ·have:X.env.scope.names.lookup x=some .free :=hk;grind
   ·have:X.env.scope.names.lookup x=some .free :=hk;grind
noncomputable def ipI(f:Int->Int->Int):TIp:=fun x y H Q=>∃i j,x=.int i/\y=.int j/\Q (.int (f i j)) H
theorem vZc:PIp X .Add (ipI fun i j=>i+j):=by
 intro pins s σ H x y v u Q I r1 r2 h;obtain⟨i,j,e1,e2,q⟩:=h;subst e1;subst e2;obtain⟨t,rfl⟩:=r1;obtain⟨t',rfl⟩:=r2;exact iadd_int ⟨.int _,H,I.tok _,⟨_,rfl⟩,q⟩
theorem jZ1:PIp X .Sub (ipI fun i j=>i - j):=by
 intro pins s σ H x y v u Q I r1 r2 h;obtain⟨i,j,e1,e2,q⟩:=h;subst e1;subst e2;obtain⟨t,rfl⟩:=r1;obtain⟨t',rfl⟩:=r2;exact isub_int ⟨.int _,H,I.tok _,⟨_,rfl⟩,q⟩
end
section
variable{X:Cx}{pos:Pos}
noncomputable def zZk(c:TT)(tb:TS):TS:=fun D σ H=>∃W:Nat->St->Hp->Prop,(∃m,W m σ H)/\∀m σ H,W m σ H->
 c σ H fun b H1=>if b=true then∃N:St->Hp->Prop,(∀σ' H',N σ' H' ->∃m',m'<m/\W m' σ' H')/\tb {D with nx:=N,ct:=N,bk:=D.nx} σ H1 else D.nx σ H1
theorem zJ1{c:Expr}{tc:TT}{tb:TS}(hp:PassesOwn (model X.prog X.w) X.A X.env X.xe)(hc:PT X c tc)(hb:PSs X body tb):PS X (.While c body [] pos) (zZk tc tb):=by
 intro pins s σ H D I h;obtain⟨W,⟨m0,w0⟩,turn⟩:=h;refine wpAny_While (codeAny_whileLoop (fun n s' =>∃σ' H',Inv X pins σ' H' s' /\W n σ' H') ?_ m0 ⟨σ,H,I,w0⟩);rintro n s1 ⟨σ1,H1,I1,w1⟩;refine eJ hp (thn (hc pins s1 σ1 H1 _ I1 (turn n σ1 H1 w1)) fun b s2 ⟨H2,I2,q2⟩=>?_);cases b with
 | true=>
   obtain⟨N,hN,q2⟩:=q2;rw[if_pos rfl];refine eJ hp (thn (hb pins s2 σ1 H2 _ I2 q2) fun f s3 q3=>?_);cases f with
   | next=>
     obtain⟨σ3,H3,I3,n3⟩:=q3;obtain⟨m',hm,w3⟩:=hN σ3 H3 n3;exact⟨m',hm,σ3,H3,I3,w3⟩
   | cont=>
     obtain⟨σ3,H3,I3,n3⟩:=q3;obtain⟨m',hm,w3⟩:=hN σ3 H3 n3;exact⟨m',hm,σ3,H3,I3,w3⟩
   |brk=>exact q3
   |ret v=>exact q3
 | false=>
   rw[if_neg aR];exact wpAny_execs_nil ⟨σ1,H2,I2,q2⟩
end
structure It where
 go:Nat->Hp->Prop
 yld:Nat->Hp->V->Hp->Prop
 stop:Nat->Hp->Prop
noncomputable def FpOk(X:Cx)(pins:List (aV×Obj))(H:Hp)(b:aV):Prop:=
 H b=none/\b≠X.env.locals/\b∉X.fs/\(b∈X.ex\/X.s₀.heap.objs.size<=b)/\(∀x c,X.env.cells.lookup x=some c->c≠b)/\∀p∈X.pn ++ pins,p.1≠b
theorem Inv.fpOk{σ:St}{H':Hp}{b:aV}(I:Inv X pins σ H s)(hb:s.heap.objs.size<=b)(hn:H' b=none):FpOk X pins H' b:=by
 refine⟨hn,dN (aE I.lt hb),I.nofs hb,.inr (aM I.sz hb),fun x c e z=>?_,fun p hp z=>?_⟩
 ·obtain⟨v,q⟩:=I.cell x c e;exact absurd (aE q.lt (by rw[z];exact hb)) (cD _)
 ·exact absurd (aE (aC (I.pin p hp).1) (by rw[z];exact hb)) (cD _)
structure Turn(P:bQ)(w:bK)(K:aQ)(tg:Expr)(J:It)(fp:List aV)(it:aV)(tn:Nat->Heap->Prop):Prop where
 mem:it∈fp
 obj:∀i h,tn i h->∀b∈fp,∃o,h.get? b=some o/\∀v,o.data≠ .cell v
 keep:∀i h h',tn i h->(∀b∈fp,∀o,h.get? b=some o->h'.get? b=some o)->tn i h'
 item:∀(X:Cx),X.prog=P->X.w=w->X.K=K->X.calm=true->∀(i:Nat) (pins:List (aV×Obj)) (s:aY) (σ:St) (H:Hp) (E:Value->aY->Prop),Inv X pins σ H s->(∀b∈fp,FpOk X pins H b)->tn i s.heap->J.go i H->
  aO (model P w) X.A (pyNext (.ref it)) (fun r s1=>∃u,r=some u/\
   aO (model P w) X.A (letOwnedTupleGo tg (.ref it) u) (fun _ s2=>∃x H',Inv X pins σ H' s2/\RelV x u/\J.yld i H x H' /\tn (i+1) s2.heap/\∀b∈fp,H' b=none) E s1) E s
 done:∀(X:Cx),X.prog=P->X.w=w->X.K=K->X.calm=true->∀(i:Nat) (pins:List (aV×Obj)) (s:aY) (σ:St) (H:Hp) (E:Value->aY->Prop),Inv X pins σ H s->(∀b∈fp,FpOk X pins H b)->tn i s.heap->J.stop i H->
  aO (model P w) X.A (pyNext (.ref it)) (fun r s1=>r=none/\Inv X pins σ H s1) E s
 self:∀(A:cC) (i:Nat) (s:aY) (Q:Value->aY->Prop) (E:Value->aY->Prop),tn i s.heap->Q (.ref it) s->aO (model P w) A (pyIter (.ref it)) Q E s
noncomputable abbrev TI:=St->Hp->(It->Hp->Prop)->Prop
noncomputable def PIE(X:Cx)(pins:List (aV×Obj))(σ:St)(tg:Expr)(R:It->Hp->Prop)(itv:Value)(s2:aY):Prop:=
 ∃(it:aV) (fp:List aV) (tn:Nat->Heap->Prop) (J:It) (H' :Hp),itv=.ref it/\Inv X pins σ H' s2/\Turn X.prog X.w X.K tg J fp it tn/\tn 0 s2.heap/\(∀b∈fp,FpOk X pins H' b)/\R J H'
noncomputable def PI(X:Cx)(tg iter:Expr)(wi:TI):Prop:=
 ∀(pins:List (aV×Obj)) (s:aY) (σ:St) (H:Hp) (R:It->Hp->Prop),Inv X pins σ H s->wi σ H R->
  aO (model X.prog X.w) X.A (eval iter X.env) (fun v s1=>aO (model X.prog X.w) X.A (pyIter v) (PIE X pins σ tg R) X.xe s1) X.xe s
theorem vYz{E:Value->aY->Prop}{tg:Expr}{u:Value}{o:Obj}{n:String}{vs:Array Value}{Q:Unit->aY->Prop}(ho:s.heap.get? it=some o)(hc:o.cls=.type n)(hd:o.data=.fields vs)(hn: ["enumerate","zip","dict_itemiterator","dict_reverseitemiterator","odict_iterator","itertools.zip_longest","itertools.pairwise"].contains n=false)(hQ:Q () s):aO M A (letOwnedTupleGo tg (.ref it) u) Q E s:=by
 unfold letOwnedTupleGo
 cases tg <;> first
  |exact aL hQ
  | (cases u <;> first
    |exact aL hQ
    | (refine aZ (wpAny_load ho ?_)
       rw[hc,hd];show aO M A (if(["enumerate","zip","dict_itemiterator","dict_reverseitemiterator","odict_iterator","itertools.zip_longest","itertools.pairwise"].contains n && vs[0]? == some (rawInt _))=true then _ else _) Q E s;rw[if_neg (by intro h;rw[hn,Bool.false_and]at h;cases h)];exact aL hQ))
noncomputable def Itl(K:aQ)(a:aV):It:=
 ⟨fun i H=>∃xs x,SqL K H a xs/\xs[i]?=some x,fun i H x H' =>H' =H/\∀xs,SqL K H a xs->xs[i]?=some x,fun i H=>∃xs,SqL K H a xs/\xs.length<=i⟩
noncomputable def Itt(K:aQ)(a:aV):It:=
 ⟨fun i H=>∃xs x,SqT K H a xs/\xs[i]?=some x,fun i H x H' =>H' =H/\∀xs,SqT K H a xs->xs[i]?=some x,fun i H=>∃xs,SqT K H a xs/\xs.length<=i⟩
noncomputable def Itr(lo:Int)(n:Nat):It:=⟨fun i _=>i<n,fun i H x H' =>H' =H/\x=.int (lo+i),fun i _=>n<=i⟩
theorem zQg{P:bQ}{w:bK}{tg:Expr}(a it:aV):Turn P w K tg (Itl K a) [it] it (fun i h=>h.IsListIter it a i) where
 mem:=by simp
 obj:=fun i h st b hb=>by
  have e:b=it:=by simpa using hb
  subst e;obtain⟨o,e,c,d⟩:=st;exact⟨o,e,fun v z=>by rw[d]at z;cases z⟩
 keep:=fun i h h' st k=>st.at fun o e=>k it (by simp) o e
 item:=by
  intro X hP hw hK hc i pins s σ H E I hf st hg;subst hP hw hK;obtain⟨xs,x,hq,hx⟩:=hg;obtain⟨its,rv,p,hz⟩:=I.list hq;obtain⟨u,hu,ru⟩:=rv.get hx;obtain⟨f0,f1,f2,f3,f4,f5⟩:=hf it (by simp);refine wpAny_pyNext_list_item st p.isList (x:=u) (by simpa using hu) fun h' st' sb=>?_
  have I1:Inv X pins σ H {s with heap:=h' }:=I.turned (t' :=s.toks) (fun b o hb e=>(sb.2 b hb).trans e) f0 f1 f3 f4 f5;obtain⟨o,e,c,d⟩:=id st';exact⟨u,rfl,vYz (s:={s with heap:=h' }) e c d (by decide) ⟨x,H,I1,ru,⟨rfl,fun ys hy=>by rw[I.list_inj hy hq];exact hx⟩,st',fun b hb=>(hf b hb).1⟩⟩
 done:=by
  intro X hP hw hK hc i pins s σ H E I hf st hg;subst hP hw hK;obtain⟨xs,hq,hx⟩:=hg;obtain⟨its,rv,p,hz⟩:=I.list hq;obtain⟨f0,f1,f2,f3,f4,f5⟩:=hf it (by simp);have hl:=rv.length;exact wpAny_pyNext_list_end (I.ok.hd hc) st p.isList (by simp;omega) fun h' eb=>⟨rfl,I.turned (t' :=s.toks) (fun b o hb e=>eb b o hb e) f0 f1 f3 f4 f5⟩
 self:=fun _ _ _ _ _ st h=>wpAny_pyIter_listiter st h
theorem vXs{P:bQ}{w:bK}{tg:Expr}(a it:aV):Turn P w K tg (Itt K a) [it] it (fun i h=>h.IsTupleIter it a i) where
 mem:=by simp
 obj:=fun i h st b hb=>by
  have e:b=it:=by simpa using hb
  subst e;obtain⟨o,e,c,d⟩:=st;grind
 keep:=fun i h h' st k=>st.at fun o e=>k it (by simp) o e
 item:=by
  intro X hP hw hK hc i pins s σ H E I hf st hg;subst hP hw hK;obtain⟨xs,x,hq,hx⟩:=hg;obtain⟨its,rv,p,hz⟩:=I.tuple hq;obtain⟨u,hu,ru⟩:=rv.get hx;obtain⟨f0,f1,f2,f3,f4,f5⟩:=hf it (by simp);refine wpAny_pyNext_tuple_item st (show s.heap.IsTuple a its.toArray from p) (x:=u) (by simpa using hu) fun h' st' sb=>?_
  have I1:Inv X pins σ H {s with heap:=h' }:=I.turned (t' :=s.toks) (fun b o hb e=>(sb.2 b hb).trans e) f0 f1 f3 f4 f5;obtain⟨o,e,c,d⟩:=id st';exact⟨u,rfl,vYz (s:={s with heap:=h' }) e c d (by decide) ⟨x,H,I1,ru,⟨rfl,fun ys hy=>by rw[I.tuple_inj hy hq];exact hx⟩,st',fun b hb=>(hf b hb).1⟩⟩
 done:=by
  intro X hP hw hK hc i pins s σ H E I hf st hg;subst hP hw hK;obtain⟨xs,hq,hx⟩:=hg;obtain⟨its,rv,p,hz⟩:=I.tuple hq;obtain⟨f0,f1,f2,f3,f4,f5⟩:=hf it (by simp);have hl:=rv.length;exact wpAny_pyNext_tuple_end (I.ok.hd hc) st (show s.heap.IsTuple a its.toArray from p) (by simp;omega) fun h' eb=>⟨rfl,I.turned (t' :=s.toks) (fun b o hb e=>eb b o hb e) f0 f1 f3 f4 f5⟩
 self:=fun _ _ _ _ _ st h=>wpAny_pyIter_tupleiter st h
theorem vXt{P:bQ}{w:bK}{tg:Expr}(it:aV)(lo:Int)(n:Nat):Turn P w K tg (Itr lo n) [it] it (fun i h=>IsRangeIter h it (lo+(i:Nat) * 1) ((n:Int) - (i:Nat)) 1) where
 mem:=by simp
 obj:=fun i h st b hb=>by
  have e:b=it:=by simpa using hb
  subst e;exact⟨_,st,fun v z=>by
   have z' :Data.fields _=Data.cell v:=z;cases z'⟩
 keep:=fun i h h' st k=>k it (by simp) _ st
 item:=by
  intro X hP hw hK hc i pins s σ H E I hf st hg;subst hP hw hK;obtain⟨f0,f1,f2,f3,f4,f5⟩:=hf it (by simp);have W:=Walks.range (prog:=X.prog) (w:=X.w) (I.ok.hd hc) it lo 1 n;refine W.item i s _ _ hg st fun v h' tk hv st' kk=>?_
  obtain⟨t,rfl⟩:=hv;have I1:Inv X pins σ H {s with heap:=h',toks:=tk}:=I.turned (fun b o hb e=>kk b o (by simpa using hb) e) f0 f1 f3 f4 f5;refine⟨_,rfl,vYz (s:={s with heap:=h',toks:=tk}) (n:="range_iterator") st' rfl rfl (by decide) ⟨.int (lo+i),H,I1,⟨t,?_⟩,⟨rfl,rfl⟩,st',fun b hb=>(hf b hb).1⟩⟩;rw[Int.mul_one]
 done:=by
  intro X hP hw hK hc i pins s σ H E I hf st hg;subst hP hw hK;obtain⟨f0,f1,f2,f3,f4,f5⟩:=hf it (by simp);exact wpAny_pyNext_range_end (I.ok.hd hc) st (by have:n<=i:=hg;omega) fun h' eb=>⟨rfl,I.turned (t' :=s.toks) (fun b o hb e=>eb b o hb e) f0 f1 f3 f4 f5⟩
 self:=fun _ _ _ _ _ st h=>wpAny_pyIter_rangeiter st h
section
variable{X:Cx}{tg:Expr}
theorem zJz{σ:St}{R:It->Hp->Prop}{E:Value->aY->Prop}{lo hi:Int}{t u v:Tok}{tk:Nat}(I:Inv X pins σ H s)(h1: -(2 ^ 62)<=lo)(h2:lo<2 ^ 62)(h3: -(2 ^ 62)<=hi)(h4:hi<2 ^ 62)(q:R (Itr lo (hi - lo).toNat) H):aO (model X.prog X.w) X.A (pyIter (.ref s.heap.objs.size)) (PIE X pins σ tg R) E {s with heap:=s.heap.push {cls:=.type "range",data:=.fields #[.int lo t,.int hi u,.int 1 v]},toks:=tk}:=by
 refine wpAny_pyIter_range (IsRange.new ..) (small_one h1 h2 h3 h4) ?_
 have I1:Inv X pins σ H {s with heap:=s.heap.push {cls:=.type "range",data:=.fields #[.int lo t,.int hi u,.int 1 v]},toks:=tk}:=I.kept fun b o e=>aK _ e
 refine⟨(s.heap.push {cls:=.type "range",data:=.fields #[.int lo t,.int hi u,.int 1 v]}).objs.size,[(s.heap.push {cls:=.type "range",data:=.fields #[.int lo t,.int hi u,.int 1 v]}).objs.size],_,_,H,rfl,
  I1.kept (t' :=tk) fun b o e=>aK _ e,vXt _ lo (hi - lo).toNat,?_,fun b hb=>?_,q⟩
 ·have e1:lo + ((0:Nat):Int) * 1=lo:=by simp
  have e2:(((hi - lo).toNat :Nat):Int) - ((0:Nat):Int)=Builtin.Range.rangeSize lo hi 1:=by rw[rangeSize_one];split <;> omega
  show IsRangeIter _ _ (lo+((0:Nat):Int) * 1) ((((hi - lo).toNat :Nat):Int) - ((0:Nat):Int)) 1;rw[e1,e2];exact aN _ rfl
 ·have e:b=(s.heap.push {cls:= .type "range",data:= .fields #[.int lo t, .int hi u, .int 1 v]}).objs.size:=by simpa using hb
  subst e;exact I1.fpOk (aD _) (I1.hok.fresh (aD _))
noncomputable def jWj(ta:TA):TI:=fun σ H R=>ta σ H fun vs H1=>∃j:Int,vs=[.int j]/\ -(2 ^ 62)<=j/\j<2 ^ 62/\R (Itr 0 j.toNat) H1
theorem zQu{a:Expr}{ta:TA}{p:Pos}(hg:Gl X "range")(hm:X.mg "range"=none)(ha:PA X [a] ta)(hs:aX [a] X.env=[(false,eval a X.env)]:=by rfl):PI X tg (.Call (.Name "range" p) [a] [] pos) (jWj ta):=by
 intro pins s σ H R I h;refine Call_ (qXm I hg hm boot_range (dH (thn (ha pos pins s σ H _ I h) fun us s1 ⟨vs,H1,I1,r1,q1⟩=>?_) hs rfl));obtain⟨j,e,q1,q2,q⟩:=q1;subst e;cases r1 with
 | cons r rr=>
   cases rr;obtain⟨t,rfl⟩:=r;exact call_range_1 (zJz I1 (by omega) (by omega) q1 q2 (by simpa using q))
noncomputable def tFor(wi:TI)(g:TG)(tb:TS):TS:=fun D σ H=>wi σ H fun J H1=>∃W:Nat->Nat->St->Hp->Prop,(∃m,W 0 m σ H1)/\∀i m σ H,W i m σ H->
 (J.stop i H/\D.nx σ H)\/(J.go i H/\∃N:St->Hp->Prop,(∀σ' H',N σ' H' ->∃m',m'<m/\W (i+1) m' σ' H')/\∀x H',J.yld i H x H' ->g x σ H' fun σ2 H2=>tb {D with nx:=N,ct:=N,bk:=D.nx} σ2 H2)
noncomputable def qKh(fp:List aV)(h:Heap):List (aV×Obj):=fp.filterMap fun b=>(h.get? b).map fun o=>(b,o)
theorem qVm{b:aV}{o:Obj}(hb:b∈fp)(e:h.get? b=some o):(b,o)∈qKh fp h:=cQ.mpr ⟨b,hb,by rw[e];rfl⟩
theorem zQz{p:aV×Obj}(hp:p∈qKh fp h):p.1∈fp/\h.get? p.1=some p.2:=by
 obtain⟨b,hb,e⟩:=cQ.mp hp;cases q:h.get? b with
 |none=>rw[q]at e;cases e
 | some o=>
   rw[q]at e;have e' :(b,o)=p:=Option.some.inj e;subst e';exact⟨hb,q⟩
theorem Inv.pinned{σ:St}(I:Inv X pins σ H s)(hf:∀b∈fp,FpOk X pins H b)(ho:∀b∈fp,∃o,s.heap.get? b=some o/\∀v,o.data≠ .cell v):Inv X (pins ++ qKh fp s.heap) σ H s:=
 I.pins_of fun p hp=>(cF.mp hp).elim (fun z=>I.pin p (bF _ z)) fun z=>by
  obtain⟨hb,e⟩:=zQz z;obtain⟨f0,f1,f2,_⟩:=hf p.1 hb;obtain⟨o,e',d⟩:=ho p.1 hb;rw[e]at e';cases e';exact⟨e,f0,f1,f2,d⟩
theorem Inv.unpinned{pl:List (aV×Obj)}{σ:St}(I:Inv X (pins ++ pl) σ H s):Inv X pins σ H s:=I.pins_of fun p hp=>I.pin p (bF _ (List.mem_append_left _ hp))
theorem jVo{iter:Expr}{wi:TI}{g:TG}{tb:TS}(hp:PassesOwn (model X.prog X.w) X.A X.env X.xe)(hc:X.calm=true)(hi:PI X tg iter wi)(hg:PG X tg g)(hb:PSs X body tb)(hs:∀x,foldedSetIterable iter X.env x=pure x:=by intro _;rfl):PS X (.For tg iter body [] pos) (tFor wi g tb):=by
 intro pins s σ H D I h;refine wpAny_For (thn (hi pins s σ H _ I h) fun v s1 h1=>thn h1 fun itv s2 h2=>?_) hs;obtain⟨it,fp,tn,J,H2,e,I2,T,st2,f2,W,⟨m0,w0⟩,turn⟩:=h2;subst e;have stat:∀{H' :Hp},(∀b∈fp,H' b=none)->∀b∈fp,FpOk X pins H' b:=fun hn b hb=>⟨hn b hb,(f2 b hb).2⟩
 refine codeAny_forLoop_any (fun n s' =>∃i σ' H',Inv X pins σ' H' s' /\tn i s'.heap/\(∀b∈fp,H' b=none)/\W i n σ' H') ?_ m0 ⟨0,σ,H2,I2,st2,fun b hb=>(f2 b hb).1,w0⟩;rintro n s3 ⟨i,σ3,H3,I3,st3,fr3,w3⟩;rcases turn i n σ3 H3 w3 with⟨stop,qn⟩|⟨go,N,hN,step⟩
 ·refine eJ hp (thn (T.done X rfl rfl rfl hc i pins s3 σ3 H3 X.xe I3 (stat fr3) st3 stop) fun r s4 ⟨hr,I4⟩=>?_);subst hr;exact wpAny_execs_nil ⟨σ3,H3,I4,qn⟩
 ·refine eJ hp (thn (T.item X rfl rfl rfl hc i pins s3 σ3 H3 X.xe I3 (stat fr3) st3 go) fun r s4 ⟨u,hr,h4⟩=>?_);subst hr;refine eJ hp (thn h4 fun _ s5 ⟨x,H5,I5,r5,y5,st5,fr5⟩=>?_);have I5' :=I5.pinned (stat fr5) (T.obj _ _ st5);refine eJ hp (thn (hg _ s5 σ3 H5 x u _ I5' r5 (step x H5 y5)) fun _ s6 ⟨σ6,H6,I6,q6⟩=>?_);refine eJ hp (thn (hb _ s6 σ6 H6 _ I6 q6) fun f s7 q7=>?_);have again:∀{σ7:St} {H7:Hp},Inv X (pins ++ qKh fp s5.heap) σ7 H7 s7->N σ7 H7->∃m,m<n/\∃i σ' H',Inv X pins σ' H' s7/\tn i s7.heap/\(∀b∈fp,H' b=none)/\W i m σ' H' :=fun {σ7 H7} I7 n7=>by
   obtain⟨m',hm,w7⟩:=hN σ7 H7 n7;refine⟨m',hm,i+1,σ7,H7,I7.unpinned,T.keep _ _ _ st5 fun b hb o e=>(I7.pin (b,o) (bF _ (bF _ (qVm hb e)))).1,fun b hb=>?_,w7⟩;obtain⟨o,e,d⟩:=T.obj _ _ st5 b hb;exact(I7.pin (b,o) (bF _ (bF _ (qVm hb e)))).2.1
  cases f with
  |next=>obtain⟨σ7,H7,I7,n7⟩:=q7;exact again I7 n7
  |cont=>obtain⟨σ7,H7,I7,n7⟩:=q7;exact again I7 n7
  |brk=>obtain⟨σ7,H7,I7,q7⟩:=q7;exact⟨σ7,H7,I7.unpinned,q7⟩
  |ret v=>obtain⟨x7,σ7,H7,I7,r7,q7⟩:=q7;exact⟨x7,σ7,H7,I7.unpinned,r7,q7⟩
end
noncomputable abbrev R2:=V->V->Hp->VK->Prop
noncomputable def OpR(X:Cx)(f:Value->Value->Sem Value)(r:R2):Prop:=
 ∀(pins:List (aV×Obj)) (s:aY) (σ:St) (H:Hp) (x y:V) (v u:Value) (Q:VK),Inv X pins σ H s->RelV x v->RelV y u->r x y H Q->
  aO (model X.prog X.w) X.A (f v u) (EP X pins σ Q) X.xe s
noncomputable def UnR(X:Cx)(f:Value->Sem Value)(r:V->Hp->VK->Prop):Prop:=
 ∀(pins:List (aV×Obj)) (s:aY) (σ:St) (H:Hp) (x:V) (v:Value) (Q:VK),Inv X pins σ H s->RelV x v->r x H Q->
  aO (model X.prog X.w) X.A (f v) (EP X pins σ Q) X.xe s
noncomputable def jW(X:Cx)(f:Value)(r:List V->Hp->VK->Prop):Prop:=
 ∀(pins:List (aV×Obj)) (s:aY) (σ:St) (H:Hp) (xs:List V) (us:List Value) (Q:VK),Inv X pins σ H s->Vals xs us->r xs H Q->
  aO (model X.prog X.w) X.A (call f us) (EP X pins σ Q) X.xe s
noncomputable def tOp(r:R2)(ta tb:TE):TE:=fun σ H Q=>ta σ H fun x H1=>tb σ H1 fun y H2=>r x y H2 Q
noncomputable def tUn(r:V->Hp->VK->Prop)(ta:TE):TE:=fun σ H Q=>ta σ H fun x H1=>r x H1 Q
noncomputable def rI(C:Int->Int->Prop)(g:Int->Int->V):R2:=fun x y H Q=>∃i j,x=.int i/\y=.int j/\C i j/\Q (g i j) H
noncomputable def rI0(g:Int->Int->V):R2:=fun x y H Q=>∃i j,x=.int i/\y=.int j/\Q (g i j) H
noncomputable def rU(g:Int->V):V->Hp->VK->Prop:=fun x H Q=>∃i,x=.int i/\Q (g i) H
section
variable{X:Cx}{a b c:Expr}{ta tb tc:TE}{pos:Pos}
theorem binT(ha:PE X a ta)(hb:PE X b tb){σ:St}{R:V->V->Hp->Prop}(I:Inv X pins σ H s)(h:ta σ H fun x H1=>tb σ H1 fun y H2=>R x y H2){f:Value->Value->Sem Value}(hf:∀v u s2 x y H2,Inv X pins σ H2 s2->RelV x v->RelV y u->R x y H2->aO (model X.prog X.w) X.A (f v u) Q X.xe s2):
  aO (model X.prog X.w) X.A (eval a X.env) (fun v s₁=>aO (model X.prog X.w) X.A (eval b X.env) (fun u s₂=>aO (model X.prog X.w) X.A (f v u) Q X.xe s₂) X.xe s₁) X.xe s:=by
 refine thn (ha pins s σ H _ I h) fun v s1 ⟨x,H1,I1,r1,q1⟩=>?_
 refine thn (hb pins s1 σ H1 _ I1 q1) fun u s2 ⟨y,H2,I2,r2,q2⟩=>?_
 exact hf v u s2 x y H2 I2 r1 r2 q2
theorem jQf{op:Operator}{r:R2}(ho:OpR X (binaryOp op) r)(ha:PE X a ta)(hb:PE X b tb):PE X (.BinOp a op b pos) (tOp r ta tb):=by
 intro pins s σ H Q I h;exact wpAny_BinOp (binT ha hb I h fun v u s2 x y H2 I2 rx ry q=>ho pins s2 σ H2 x y v u Q I2 rx ry q)
theorem jJz{op:UnaryOp}{r:V->Hp->VK->Prop}(ho:UnR X (unaryOp op) r)(ha:PE X a ta):PE X (.UnaryOp op a pos) (tUn r ta):=by
 intro pins s σ H Q I h;exact UnaryOp_ (thn (ha pins s σ H _ I h) fun v s1 ⟨x,H1,I1,r1,q1⟩=>ho pins s1 σ H1 x v Q I1 r1 q1)
theorem opI{f:Value->Value->Sem Value}{C:Int->Int->Prop}(rule:∀(i j:Int) (t u:Tok) (s:aY) (Q:Value->aY->Prop) (E:Value->aY->Prop),C i j->Q (.int (g i j) s.toks) {s with toks:=s.toks+1}->aO (model X.prog X.w) X.A (f (.int i t) (.int j u)) Q E s):
  OpR X f (rI C fun i j=>.int (g i j)):=by
 intro pins s σ H x y v u Q I rx ry h;obtain⟨i,j,rfl,rfl,hc,q⟩:=h;obtain⟨t,rfl⟩:=rx;obtain⟨t',rfl⟩:=ry;exact rule i j t t' s _ _ hc ⟨.int (g i j),H,I.tok _,⟨_,rfl⟩,q⟩
theorem opI0{f:Value->Value->Sem Value}(rule:∀(i j:Int) (t u:Tok) (s:aY) (Q:Value->aY->Prop) (E:Value->aY->Prop),Q (.int (g i j) s.toks) {s with toks:=s.toks+1}->aO (model X.prog X.w) X.A (f (.int i t) (.int j u)) Q E s):
  OpR X f (rI0 fun i j=>.int (g i j)):=by
 intro pins s σ H x y v u Q I rx ry h;obtain⟨i,j,rfl,rfl,q⟩:=h;obtain⟨t,rfl⟩:=rx;obtain⟨t',rfl⟩:=ry;exact rule i j t t' s _ _ ⟨.int (g i j),H,I.tok _,⟨_,rfl⟩,q⟩
theorem opB0{f:Value->Value->Sem Value}{g:Int->Int->Bool}(rule:∀(i j:Int) (t u:Tok) (s:aY) (Q:Value->aY->Prop) (E:Value->aY->Prop),Q (.bool (g i j)) s->aO (model X.prog X.w) X.A (f (.int i t) (.int j u)) Q E s):
  OpR X f (rI0 fun i j=>.bl (g i j)):=by
 intro pins s σ H x y v u Q I rx ry h;obtain⟨i,j,rfl,rfl,q⟩:=h;obtain⟨t,rfl⟩:=rx;obtain⟨t',rfl⟩:=ry;exact rule i j t t' s _ _ ⟨.bl (g i j),H,I,rfl,q⟩
noncomputable def CPow(i j:Int):Prop:=0<=j/\j<=1000000/\i.natAbs<2 ^ 64
theorem jZe:OpR X (binaryOp .Add) (rI0 fun i j=>.int (i+j)):=opI0 fun _ _ _ _ _ _ _ q=>add_int q
theorem jV7:OpR X (binaryOp .Sub) (rI0 fun i j=>.int (i - j)):=opI0 fun _ _ _ _ _ _ _ q=>sub_int q
theorem jV9:OpR X (binaryOp .Mod) (rI (fun _ j=>0<j) fun i j=>.int (i % j)):=opI fun i j _ _ _ _ _ hc q=>by
 have h1:(0:Int)<j:=hc;exact mod_int' (by omega) (by rw[Int.fmod_eq_emod_of_nonneg i (by omega)];exact q)
theorem jV8:OpR X (binaryOp .Pow) (rI CPow fun i j=>.int (i ^ j.toNat)):=opI fun _ _ _ _ _ _ _ hc q=>pow_int_small hc.1 hc.2.1 hc.2.2 q
theorem unI{f:Value->Sem Value}{g:Int->Int}(rule:∀(i:Int) (t:Tok) (s:aY) (Q:Value->aY->Prop) (E:Value->aY->Prop),Q (.int (g i) s.toks) {s with toks:=s.toks+1}->aO (model X.prog X.w) X.A (f (.int i t)) Q E s):
  UnR X f (rU fun i=>.int (g i)):=by
 intro pins s σ H x v Q I rx h;obtain⟨i,rfl,q⟩:=h;obtain⟨t,rfl⟩:=rx;exact rule i t s _ _ ⟨.int (g i),H,I.tok _,⟨_,rfl⟩,q⟩
theorem jQ3:UnR X (unaryOp .USub) (rU fun i=>.int (-i)):=unI fun _ _ _ _ _ q=>neg_int q
end
noncomputable def scal:V->V->Bool
 |.non,.non =>true|.non,.int _=>true|.int _,.non =>true|.non,.bl _=>true|.bl _,.non =>true|.non,.str _=>true|.str _,.non =>true
 |.int _,.int _=>true|.bl _,.bl _=>true|.str _,.str _=>true|.byt _,.byt _=>true
 |.int _,.str _=>true|.str _,.int _=>true|.bl _,.str _=>true|.str _,.bl _=>true
 |_,_=>false
noncomputable def rEq:R2:=fun x y H Q=>scal x y=true/\Q (.bl (decide (x=y))) H
noncomputable def rNe:R2:=fun x y H Q=>scal x y=true/\Q (.bl (!decide (x=y))) H
theorem vZt{i j:Int}:decide (V.int i=V.int j)=(i == j):=by
 rw[cK];simp
theorem vXn{i j:Bool}:decide (V.bl i=V.bl j)=(i == j):=by
 grind
theorem vK3{i j:Str}:decide (V.str i=V.str j)=(i == j):=by
 rw[cK];simp
theorem vK4{i j:Array UInt8}:decide (V.byt i=V.byt j)=(i.toList == j.toList):=by
 rw[cK];simp_all
section
variable{X:Cx}{a b c:Expr}{ta tb tc:TE}{pos:Pos}
theorem vH{σ:St}{Q:VK}{k k' :Bool}(I:Inv X pins σ H s)(q:Q (.bl k) H)(e:k=k'):EP X pins σ Q (.bool k') s:=by
 subst e;exact⟨.bl k,H,I,rfl,q⟩
theorem jQk:OpR X (bL .Eq) rEq:=by
 intro pins s σ H x y v u Q I rx ry h;obtain⟨hs,q⟩:=h;cases x with
 | non=>
   cases rx;cases y with
   |non=>cases ry;exact PySem.EqNone.eq_none_none (vH I q (by simp))
   |bl j=>cases ry;exact PySem.EqNone.eq_none_bool (vH I q (by simp))
   |int j=>obtain⟨t',rfl⟩:=ry;exact PySem.EqNone.eq_none_int (vH I q (by simp))
   |str j=>obtain⟨t',rfl⟩:=ry;exact PySem.EqNone.eq_none_str (vH I q (by simp))
   |_=>exact absurd (show false=true from hs) aR
 | bl i=>
   cases rx;cases y with
   |non=>cases ry;exact PySem.EqNone.eq_bool_none (vH I q (by simp))
   |bl j=>cases ry;exact eq_bool (vH I q vXn)
   |str j=>obtain⟨t',rfl⟩:=ry;exact PySem.EqMixed.eq_bool_str (vH I q (by simp))
   |_=>exact absurd (show false=true from hs) aR
 | int i=>
   obtain⟨t,rfl⟩:=rx;cases y with
   |non=>cases ry;exact PySem.EqNone.eq_int_none (vH I q (by simp))
   |int j=>obtain⟨t',rfl⟩:=ry;exact eq_int (vH I q vZt)
   |str j=>obtain⟨t',rfl⟩:=ry;exact PySem.EqMixed.eq_int_str (vH I q (by simp))
   |_=>exact absurd (show false=true from hs) aR
 | str i=>
   obtain⟨t,rfl⟩:=rx;cases y with
   |non=>cases ry;exact PySem.EqNone.eq_str_none (vH I q (by simp))
   |bl j=>cases ry;exact PySem.EqMixed.eq_str_bool (vH I q (by simp))
   |int j=>obtain⟨t',rfl⟩:=ry;exact PySem.EqMixed.eq_str_int (vH I q (by simp))
   |str j=>obtain⟨t',rfl⟩:=ry;exact eq_str (vH I q vK3)
   |_=>exact absurd (show false=true from hs) aR
 | byt i=>
   obtain⟨t,rfl⟩:=rx;cases y with
   |byt j=>obtain⟨t',rfl⟩:=ry;exact PySem.W.eq_bytes (vH I q vK4)
   |_=>exact absurd (show false=true from hs) aR
 |_=>cases y <;> exact absurd (show false=true from hs) aR
theorem jQi:OpR X (bL .NotEq) rNe:=by
 intro pins s σ H x y v u Q I rx ry h;obtain⟨hs,q⟩:=h;cases x with
 | non=>
   cases rx;cases y with
   |non=>cases ry;exact PySem.EqNone.ne_none_none (vH I q (by simp))
   |bl j=>cases ry;exact PySem.EqNone.ne_none_bool (vH I q (by simp))
   |int j=>obtain⟨t',rfl⟩:=ry;exact PySem.EqNone.ne_none_int (vH I q (by simp))
   |str j=>obtain⟨t',rfl⟩:=ry;exact PySem.EqNone.ne_none_str (vH I q (by simp))
   |_=>exact absurd (show false=true from hs) aR
 | bl i=>
   cases rx;cases y with
   |non=>cases ry;exact PySem.EqNone.ne_bool_none (vH I q (by simp))
   |bl j=>cases ry;exact ne_bool (vH I q (congrArg not vXn))
   |str j=>obtain⟨t',rfl⟩:=ry;exact PySem.EqMixed.ne_bool_str (vH I q (by simp))
   |_=>exact absurd (show false=true from hs) aR
 | int i=>
   obtain⟨t,rfl⟩:=rx;cases y with
   |non=>cases ry;exact PySem.EqNone.ne_int_none (vH I q (by simp))
   |int j=>obtain⟨t',rfl⟩:=ry;exact ne_int (vH I q (congrArg not vZt))
   |str j=>obtain⟨t',rfl⟩:=ry;exact PySem.EqMixed.ne_int_str (vH I q (by simp))
   |_=>exact absurd (show false=true from hs) aR
 | str i=>
   obtain⟨t,rfl⟩:=rx;cases y with
   |non=>cases ry;exact PySem.EqNone.ne_str_none (vH I q (by simp))
   |bl j=>cases ry;exact PySem.EqMixed.ne_str_bool (vH I q (by simp))
   |int j=>obtain⟨t',rfl⟩:=ry;exact PySem.EqMixed.ne_str_int (vH I q (by simp))
   |str j=>obtain⟨t',rfl⟩:=ry;exact ne_str (vH I q (congrArg not vK3))
   |_=>exact absurd (show false=true from hs) aR
 | byt i=>
   obtain⟨t,rfl⟩:=rx;cases y with
   |byt j=>obtain⟨t',rfl⟩:=ry;exact PySem.W.ne_bytes (vH I q (congrArg not vK4))
   |_=>exact absurd (show false=true from hs) aR
 |_=>cases y <;> exact absurd (show false=true from hs) aR
theorem jJ5:OpR X (bL .Lt) (rI0 fun i j=>.bl (decide (i<j))):=opB0 fun _ _ _ _ _ _ _ q=>lt_int q
theorem vJi:OpR X (bL .LtE) (rI0 fun i j=>.bl (decide (i<=j))):=opB0 fun _ _ _ _ _ _ _ q=>le_int q
theorem jQj:OpR X (bL .Gt) (rI0 fun i j=>.bl (decide (j<i))):=opB0 fun _ _ _ _ _ _ _ q=>gt_int q
theorem jZa:OpR X (bL .Is) (fun x y H Q=>y=.non /\Q (.bl (decide (x=.non))) H):=by
 intro pins s σ H x y v u Q I rx ry h;obtain⟨rfl,q⟩:=h;cases ry;refine is_none_gen (vH I q ?_)
 cases x <;> first
  |(cases rx;rfl)
  |(obtain⟨t,rfl⟩:=rx;rfl)
theorem zYt:OpR X (bL .IsNot) (fun x y H Q=>y=.non /\Q (.bl (!decide (x=.non))) H):=by
 intro pins s σ H x y v u Q I rx ry h;obtain⟨rfl,q⟩:=h;cases ry;refine isnot_none_gen (vH I q ?_)
 cases x <;> first
  |(cases rx;rfl)
  |(obtain⟨t,rfl⟩:=rx;rfl)
theorem OpR.or{f:Value->Value->Sem Value}{r:R2}(h:OpR X f r)(h' :OpR X f r'):OpR X f (fun x y H Q=>r x y H Q\/r' x y H Q):=by
 intro pins s σ H x y v u Q I rx ry q;rcases q with q|q
 ·exact h pins s σ H x y v u Q I rx ry q
 ·exact h' pins s σ H x y v u Q I rx ry q
theorem yI(b:Expr)(h:op≠ .In :=by decide)(h2:op≠ .NotIn :=by decide):behindInMarks op b=false:=by
 have e1:(op == CmpOp.In)=false:=by cases op <;> first|rfl|exact absurd rfl h
 have e2:(op == CmpOp.NotIn)=false:=by cases op <;> first|rfl|exact absurd rfl h2
 cases b <;> simp[behindInMarks,e1,e2]
theorem zYq{r:R2}(ho:OpR X (bL op) r)(ha:PE X a ta)(hb:PE X b tb)(hm:behindInMarks op b=false):PE X (.Compare a [op] [b] pos) (tOp r ta tb):=by
 intro pins s σ H Q I h;exact wpAny_Compare1 (binT ha hb I h fun v u s2 x y H2 I2 rx ry q=>ho pins s2 σ H2 x y v u Q I2 rx ry q) hm
noncomputable def zK7(t:TE):TT:=fun σ H Q=>t σ H fun x H' =>∃k,x=.bl k/\Q k H'
theorem zX4{r:R2}(ho:OpR X (bL op) r)(ha:PE X a ta)(hb:PE X b tb)(hm:behindInMarks op b=false):PT X (.Compare a [op] [b] pos) (zK7 (tOp r ta tb)):=by
 intro pins s σ H Q I h;refine wpAny_isTrue_Compare1 (thn (ha pins s σ H _ I h) fun v s1 ⟨x,H1,I1,r1,q1⟩=>thn (hb pins s1 σ H1 _ I1 q1) fun u s2 ⟨y,H2,I2,r2,q2⟩=>
  thn (ho pins s2 σ H2 x y v u _ I2 r1 r2 q2) fun c s3 ⟨z,H3,I3,r3,k,e,q3⟩=>?_) hm
 subst e;cases r3;exact cN ⟨H3,I3,q3⟩
noncomputable def vW8(r r' :R2)(ta tb tc:TE):TE:=fun σ H Q=>ta σ H fun x H1=>tb σ H1 fun y H2=>r x y H2 fun z H3=>∃k,z=.bl k/\
 (if k=true then tc σ H3 fun w' H4=>r' y w' H4 Q else Q (.bl false) H3)
theorem zJ6{r:R2}(ho:OpR X (bL op) r)(ho' :OpR X (bL op') r')(ha:PE X a ta)(hb:PE X b tb)(hc:PE X c tc)(hm:lastMarks [op,op'] [b,c]=false:=by with_unfolding_all rfl):PE X (.Compare a [op,op'] [b,c] pos) (vW8 r r' ta tb tc):=by
 intro pins s σ H Q I h;refine Compare_chain (thn (ha pins s σ H _ I h) fun v s1 ⟨x,H1,I1,r1,q1⟩=>chain_link (thn (hb pins s1 σ H1 _ I1 q1) fun u s2 ⟨y,H2,I2,r2,q2⟩=>
  thn (ho pins s2 σ H2 x y v u _ I2 r1 r2 q2) fun d s3 ⟨z,H3,I3,r3,k,e,q3⟩=>?_)) hm
 subst e;cases r3;refine cN ?_
 cases k with
 |false=>exact ite_ff ⟨.bl false,H3,I3,rfl,q3⟩
 |true=>exact ite_tt (chain_last (thn (hc pins s3 σ H3 _ I3 q3) fun w' s4 ⟨z',H4,I4,r4,q4⟩=>ho' pins s4 σ H4 y z' u w' Q I4 r2 r4 q4))
theorem zJ0{r:R2}(ho:OpR X (bL op) r)(ho' :OpR X (bL op') r')(ha:PE X a ta)(hb:PE X b tb)(hc:PE X c tc)(hm:lastMarks [op,op'] [b,c]=false:=by with_unfolding_all rfl):PT X (.Compare a [op,op'] [b,c] pos) (zK7 (vW8 r r' ta tb tc)):=by
 intro pins s σ H Q I h;refine isTrue_chain (thn (ha pins s σ H _ I h) fun v s1 ⟨x,H1,I1,r1,q1⟩=>test_link (thn (hb pins s1 σ H1 _ I1 q1) fun u s2 ⟨y,H2,I2,r2,q2⟩=>
  thn (ho pins s2 σ H2 x y v u _ I2 r1 r2 q2) fun d s3 ⟨z,H3,I3,r3,k,e,q3⟩=>?_)) hm
 subst e;cases r3;refine cN ?_
 cases k with
 | false=>
   obtain⟨k',e',q'⟩:=q3;cases e';exact ite_ff ⟨H3,I3,q'⟩
 | true=>
   refine ite_tt (test_last (thn (hc pins s3 σ H3 _ I3 q3) fun w' s4 ⟨z',H4,I4,r4,q4⟩=>thn (ho' pins s4 σ H4 y z' u w' _ I4 r2 r4 q4) fun d' s5 ⟨z2,H5,I5,r5,k2,e2,q5⟩=>?_));subst e2;cases r5;exact cN ⟨H5,I5,q5⟩
theorem qKm:(aT:Nat)<2 ^ 63:=by decide
theorem vX5:OpR X (binaryOp .Add) (fun x y H Q=>∃i j,x=.str i/\y=.str j/\i.length+j.length<=aT/\Q (.str (i ++ j)) H):=by
 intro pins s σ H x y v u Q I rx ry h;obtain⟨i,j,rfl,rfl,hz,q⟩:=h;obtain⟨t,rfl⟩:=rx;obtain⟨t',rfl⟩:=ry;exact add_str (fun t' tk=>⟨.str (i ++ j),H,I.tok _,⟨_,rfl⟩,q⟩) hz
theorem xS{x:V}(r:Vals [x] us):∃u,us=[u]/\RelV x u:=by
 cases r with
 |cons r1 r2=>cases r2;exact⟨_,rfl,r1⟩
theorem vJd{x:V}(r:Vals [x,y] us):∃u w',us=[u,w']/\RelV x u/\RelV y w' :=by
 cases r with
 | cons r1 r2=>
   cases r2 with
   |cons r3 r4=>cases r4;exact⟨_,_,rfl,r1,r3⟩
theorem zVm(hc:X.calm=true):jW X (.builtin "max") (fun xs H Q=>∃i j,xs=[.int i,.int j]/\Q (.int (if j > i then j else i)) H):=by
 intro pins s σ H xs us Q I r h;obtain⟨i,j,rfl,q⟩:=h;obtain⟨u,w',rfl,⟨t,rfl⟩,⟨t',rfl⟩⟩:=vJd r;refine max_two_ints (I.ok.hd hc) fun h' tk k=>⟨_,H,I.kept k,?_,q⟩
 by_cases hj:j > i
 ·rw[if_pos hj,if_pos hj];exact⟨_,rfl⟩
 ·rw[if_neg hj,if_neg hj];exact⟨_,rfl⟩
theorem vZ8:jW X (.type "str") (fun xs H Q=>∃i,xs=[.int i]/\i.natAbs.log2<1920/\Q (.str (toString i)) H):=by
 intro pins s σ H xs us Q I r h;obtain⟨i,rfl,hz,q⟩:=h;obtain⟨u,rfl,t,rfl⟩:=xS r;exact PySem.P.str_of_int hz ⟨.str _,H,I.tok _,⟨_,rfl⟩,q⟩
end
structure ObjM(h:Heap)(x dx C:aV)(mA:Str->Option Value):Prop where
 obj:h.get? x=some (dU C dx)
 ns:h.Ns1 dx mA
 ne:dx≠x
theorem zQ2{mA:Str->Option Value}(n:h.Ns1 dx mA):∃od,h.get? dx=some od/\∀name,PySem.W.lookIn name od=some (mA name):=by
 obtain⟨o,es,ep,ho,hd,hk,_,hm⟩:=n;refine⟨o,ho,fun name=>?_⟩;have e:=hm name;unfold nsFind findBy at e;rw[←Array.find?_toList]at e;unfold PySem.W.lookIn;rw[hd];dsimp only;split
 ·grind
 ·rename_i q;rw[q]at e;have a:es.toList.any (·.refKey)=false:=by
   rw[List.any_eq_false];intro y hy;obtain⟨z,t,hkey⟩:=hk y (Array.mem_toList_iff.mp hy);simp[DictEntry.refKey,hkey]
  grind
theorem ObjM.look{x:aV}{mA:Str->Option Value}(I:ObjM h x dx C mA):∃od,PySem.W.InstAt h x (dU C dx) C (some od)/\∀name,PySem.W.lookIn name od=some (mA name):=
 let ⟨od,ho,hl⟩:=zQ2 I.ns
 ⟨od,⟨I.obj,rfl,rfl,ho⟩,hl⟩
section
variable{prog:bQ}{w:bK}{A:cC}{E:Value->aY->Prop}{s:aY}{K:aQ}{x dx C f:aV}{mA:Str->Option Value}{name:Str}{v:Value}
theorem zKk{expr:Bool}(X:K.In s.heap)(I:ObjM s.heap x dx C mA)(hg:PySem.W.plainGet K C name=true)(hh:PySem.W.hasDictIn K C=true)(ha:bN K (.ref C) name=some none)(hv:mA name=some v)(hv' :PySem.W.handedIn v=true)(h:Q v {s with toks:=s.toks+1}):
  aO (model prog w) A (getAttr (.ref x) name expr) Q E s:=by
 obtain⟨od,J,hl⟩:=I.look;exact PySem.W.get_value X J (PySem.W.plainGet_of hg).1 (PySem.W.findObj_own hh ha rfl (by rw[hl,hv])) hv' h
theorem zWx{Q:Value×List Value->aY->Prop}(X:K.In s.heap)(I:ObjM s.heap x dx C mA)(hg:PySem.W.plainGet K C name=true)(hf:bN K (.ref C) name=some (some (.ref f)))(ht:PySem.W.isFn K (.ref f)=true)(hv:mA name=none)(h:Q (.ref f,[.ref x]) s):
  aO (model prog w) A (getMethod (.ref x) name pl) Q E s:=by
 obtain⟨od,J,hl⟩:=I.look;exact PySem.W.method_fn X J (PySem.W.plainGet_of hg).1 (PySem.W.plainGet_of hg).2 hf (beq_iff_eq.mp ht) (by show(PySem.W.lookIn name od).map (·.isSome)=some false;rw[hl,hv];rfl) h
theorem zXs{ns:List Str}{Q:Unit->aY->Prop}(X:K.In s.heap)(I:ObjM s.heap x dx C mA)(hs:bN K (.ref C) "__setattr__"=some (some (.builtin "object.__setattr__")))(hp:PySem.W.plainOver K C=true)(ht:PySem.W.takerIn K C name=some none)(hh:PySem.W.hasDictIn K C=true)(hw:PySem.Within mA ns)(hsz:ns.length<=aT)(h:∀h',ObjM h' x dx C (fun y=>if y=name then some v else mA y)->Heap.SameBut dx s.heap h' ->Q () {s with heap:=h',toks:=s.toks+2}):
  aO (model prog w) A (setAttr (.ref x) name v) Q E s:=by
 obtain⟨od,J,hl⟩:=I.look;refine PySem.W.set_plain X J hs (PySem.W.osa_open (s:={s with toks:=s.toks+1}) (r:=none) X J hp ht fun b=>?_);obtain⟨cd,hc,hd'⟩:=PySem.W.any_some hh;have hx:s.heap.get? x=some ⟨.ref C,some dx,.plain,#[]⟩:=I.obj;refine aZ (aL (aZ (aZ (wpAny_loadPart hx (aZ (PySem.W.Looks.here (s:={s with toks:=s.toks+1}) (PySem.W.looks_clsIn X hc) ?_))))));rw[hd'];refine aL (a:=some dx) (aZ (aL (aZ ?_)));refine wpAny_nsSet1 (s:={s with toks:=s.toks+1}) I.ns fun h' hn2 hs2=>?_
 obtain⟨oD,esD,epD,hoD,hdD,hcD⟩:=hn2.count (PySem.Within.cons name v hw);refine aZ (wpAny_lookBehind hoD (by rw[hdD];exact pastItsLine_dict (aM hcD (by rw[aW];omega))) ?_);exact aL (h _ ⟨(hs2.2 _ (Ne.symm I.ne)).trans I.obj,hn2,I.ne⟩ hs2)
theorem zWh{R:Result->aY->Prop}{vs:List Value}(X:K.In s.heap)(hm:PySem.W.makesIn K C=true)(hi:bN K (.ref C) "__init__"=some (some (.ref f)))(hf:PySem.W.typeIn K (.ref f)=some (.type "function"))(h:codeAny (model prog w) (A.under (.builtin "type.__call__" ⟨.ref C::vs,kw⟩)) (.call (.ref f) ⟨.ref (s.heap.objs.size+1)::vs,kw⟩) (PySem.W.InitBack (s.heap.objs.size+1) R)
   {s with heap:=(s.heap.push cH).push (dU C s.heap.objs.size)}):
  codeAny (model prog w) A (.call (.ref C) ⟨vs,kw⟩) R s:=by
 obtain⟨hh,g,d,t,os⟩:=s;exact PySem.W.make_core (PySem.W.makes_of X hm) (PySem.W.looks_findIn X hi) (fun self=>PySem.W.bind_fn X self hf) (.inl rfl) h
end
noncomputable def putF(f:Str)(v:V):List (Str×V)->List (Str×V)
 |[]=> [(f,v)]
 |(g,x)::r=>if g=f then(g,v)::r else(g,x)::putF f v r
theorem qYm(f g:Str)(v:V):∀fs:List (Str×V),(putF f v fs).lookup g=if g=f then some v else fs.lookup g
 | []=>by
   show List.lookup g [(f,v)]=_;grind
 | (k,x)::r=>by
   have ih:=qYm f g v r;rw[show putF f v ((k,x)::r)=(if k=f then(k,v)::r else(k,x)::putF f v r) from rfl];grind
theorem qX2(f:Str)(v:V):∀fs:List (Str×V),f∈(putF f v fs).map (·.1)/\∀g,g∈fs.map (·.1)->g∈(putF f v fs).map (·.1)
 |[]=>⟨by simp[putF],fun g h=>by simp at h⟩
 | (k,x)::r=>by
   obtain⟨i1,i2⟩:=qX2 f v r;rw[show putF f v ((k,x)::r)=(if k=f then(k,v)::r else(k,x)::putF f v r) from rfl];grind
theorem qYn(f:Str)(v:V):∀fs:List (Str×V),(putF f v fs).length <=fs.length+1
 |[]=>by simp[putF]
 | (k,x)::r=>by
   have ih:=qYn f v r;rw[show putF f v ((k,x)::r)=(if k=f then(k,v)::r else(k,x)::putF f v r) from rfl];by_cases hk:k=f
   ·rw[if_pos hk,aW,aW];omega
   ·rw[if_neg hk,aW,aW];omega
theorem RelO.some_of{v:V}{o:Option Value}(r:RelO (some v) o):∃u,o=some u/\RelV v u:=by
 cases o with
 |none=>exact(show False from r).elim
 |some u=>exact⟨u,rfl,r⟩
theorem RelO.none_of{o:Option Value}(r:RelO none o):o=none:=by
 cases o with
 |none=>rfl
 |some u=>exact(show False from r).elim
theorem vVu{v:V}{u:Value}(r:RelV v u):PySem.W.handedIn u=true:=by
 cases v with
 |non=>cases(show u=Value.none from r);rfl
 |bl b=>cases(show u=Value.bool b from r);rfl
 |int i=>obtain⟨t,e⟩:=(show∃t,u=Value.int i t from r);cases e;rfl
 |str x=>obtain⟨t,e⟩:=(show∃t,u=Value.str x t from r);cases e;rfl
 |byt b=>obtain⟨t,e⟩:=(show∃t,u=Value.bytes b t from r);cases e;rfl
 |flt b=>obtain⟨t,e⟩:=(show∃t,u=Value.float b t from r);cases e;rfl
 |ref a=>cases(show u=Value.ref a from r);rfl
 |ty n=>cases(show u=Value.type n from r);rfl
section
variable{P:bQ}{w:bK}{H H' :Hp}{h h' :Heap}{a C dx:aV}{fs fs' :List (Str×V)}
theorem qY5(hok:HOk P w H h)(e:H a=some (.ins C dx fs)):∃mA,ObjM h a dx C mA/\(∀f,RelO (fs.lookup f) (mA f))/\PySem.Within mA (fs.map (·.1))/\fs.length<=1000/\H dx=some (.own a):=by
 obtain⟨d,z,ne,ob,mA,n,r,q⟩:=(show vO P w H h a (.ins C dx fs) from hok a _ e)
 exact⟨mA,⟨ob,n,ne⟩,r,q,z,d⟩
end
structure Cls(K:aQ)(C:aV):Prop where
 pg:PySem.W.plainGet K C Str.empty=true
 hd:PySem.W.hasDictIn K C=true
 po:PySem.W.plainOver K C=true
 sa:bN K (.ref C) "__setattr__"=some (some (.builtin "object.__setattr__"))
theorem Cls.get(c:Cls K C)(f:Str):PySem.W.plainGet K C f=true:=c.pg
noncomputable def yO(K:aQ)(C:aV)(f:Str):Prop:=bN K (.ref C) f=some none
theorem yO.taker{f:Str}(n:yO K C f):PySem.W.takerIn K C f=some none:=by
 unfold PySem.W.takerIn;rw[show bN K (.ref C) f=some none from n];rfl
structure Meth(K:aQ)(C:aV)(m:Str)(f:aV):Prop where
 at_:bN K (.ref C) m=some (some (.ref f))
 fn:PySem.W.isFn K (.ref f)=true
 kp:cV K (.ref f)=true
section
variable{X:Cx}{pins:List (aV×Obj)}{σ:St}{H:Hp}{s:aY}{a C dx:aV}{fs:List (Str×V)}{f:Str}{v:V}{A:cC}{E:Value->aY->Prop}
theorem vQn{b:Bool}(I:Inv X pins σ H s)(e:H a=some (.ins C dx fs))(c:Cls X.K C)(n:yO X.K C f)(l:fs.lookup f=some v)(h:∀u s',Inv X pins σ H s' ->RelV v u->Q u s'):aO (model X.prog X.w) A (getAttr (.ref a) f b) Q E s:=by
 obtain⟨mA,O,r,_,_,_⟩:=qY5 I.hok e;obtain⟨u,hu,ru⟩:=RelO.some_of (v:=v) (o:=mA f) (by rw[←l];exact r f);exact zKk I.kIn O (c.get f) c.hd n hu (vVu ru) (h u _ (I.tok _) ru)
theorem vQm{m:Str}{g:aV}{Q:Value×List Value->aY->Prop}(I:Inv X pins σ H s)(e:H a=some (.ins C dx fs))(c:Cls X.K C)(k:Meth X.K C m g)(l:fs.lookup m=none)(h:Q (.ref g,[.ref a]) s):aO (model X.prog X.w) A (getMethod (.ref a) m pl) Q E s:=by
 obtain⟨mA,O,r,_,_,_⟩:=qY5 I.hok e;have hn:mA m=none:=RelO.none_of (by rw[←l];exact r m);exact zWx I.kIn O (c.get m) k.at_ k.fn hn h
theorem vQf{u:Value}{Q:Unit->aY->Prop}(I:Inv X pins σ H s)(e:H a=some (.ins C dx fs))(c:Cls X.K C)(n:yO X.K C f)(hl:fs.length<1000)(ry:RelV y u)(h:∀s',Inv X pins σ (upd H a (.ins C dx (putF f y fs))) s' ->Q () s'):aO (model X.prog X.w) A (setAttr (.ref a) f u) Q E s:=by
 obtain⟨mA,O,r,wi,_,ho⟩:=qY5 I.hok e;have hz:(fs.map (·.1)).length <=aT:=by rw[aP,sizeLine_eq];omega
 refine zXs I.kIn O c.sa c.po n.taker c.hd wi hz fun h' O' sb=>h _ ?_
 have hd:∃o,h'.get? dx=some o:=let ⟨o,_,_,e',_⟩:=O'.ns;⟨o,e'⟩;refine I.write (x:=a) (e:=dx) (by rw[e];exact True.intro) (.inr ho) (fun b q hb z=>(sb.2 b hb).trans z) hd ?_
 refine⟨by rw[qL O.ne];exact ho,?_,O.ne,O'.obj,_,O'.ns,fun g=>?_,fun g hg=>?_⟩
 ·have:=qYn f y fs;omega
 ·show RelO ((putF f y fs).lookup g) (if g=f then some u else mA g);rw[qYm];by_cases q:g=f
  ·rw[if_pos q,if_pos q];exact ry
  ·grind
 ·by_cases q:g=f
  ·rw[q];exact(qX2 f y fs).1
  ·refine(qX2 f y fs).2 g (wi g fun z=>hg ?_);grind
theorem Inv.made(I:Inv X pins σ H s):Inv X pins σ (upd (upd H s.heap.objs.size (.own (s.heap.objs.size+1))) (s.heap.objs.size+1) (.ins C s.heap.objs.size []))
  {s with heap:=(s.heap.push cH).push (dU C s.heap.objs.size)}:=by
 have e1:(s.heap.push cH).get? s.heap.objs.size=some cH:=aN s.heap rfl;have e2:((s.heap.push cH).push (dU C s.heap.objs.size)).get? (s.heap.objs.size+1)=some (dU C s.heap.objs.size):=by
  have:=aN (s.heap.push cH) (o:=dU C s.heap.objs.size) rfl;rwa [cI]at this
 have e3:(s.heap.push cH).Ns s.heap.objs.size (fun _=>none):=⟨cH,#[],_,e1,rfl,(fun e he=>absurd he (by simp)),fun _=>rfl⟩
 have I1:=I.laid (a:=s.heap.objs.size) (o:=.own (s.heap.objs.size+1)) (h' :=s.heap.push cH) (t' :=s.toks) (fun b u q=>aK _ q) (aD _) ⟨_,e1⟩;refine I1.laid (a:=s.heap.objs.size+1) (o:=.ins C s.heap.objs.size []) (t' :=s.toks) (fun b u q=>aK _ q) (Nat.le_of_eq (cI _ _)) ?_
 have ne:s.heap.objs.size≠s.heap.objs.size+1:=bY (Nat.lt_succ_self _);refine⟨by rw[qL ne,upd_same],dW _,ne,e2,fun _=>none,(Heap.Ns1.of_empty e3).at fun o q=>aK _ q,fun _=>True.intro,fun y hy=>absurd rfl hy⟩
theorem zQc{prog:bQ}{w:bK}{env:Env}{e:Expr}{f:Str}(hb:attributeBase e f env (eval e env)=eval e env)(h:aO (model prog w) A (eval e env) (fun o s₁=>aO (model prog w) A (getAttr o f true) Q E s₁) E s):aO (model prog w) A (eval (.Attribute e f pos) env) Q E s:=
 Attribute_any_ h (by rw[arm_eval_Attribute,hb])
end
noncomputable def tFld(K:aQ)(ta:TE)(f:Str):TE:=fun σ H Q=>ta σ H fun x H1=>∃a C dx fs v,x=.ref a/\H1 a=some (.ins C dx fs)/\Cls K C/\yO K C f/\fs.lookup f=some v/\Q v H1
noncomputable def sFld(K:aQ)(ta tv:TE)(f:Str):TS:=fun D σ H=>tv σ H fun y H1=>ta σ H1 fun x H2=>∃a C dx fs,x=.ref a/\H2 a=some (.ins C dx fs)/\Cls K C/\yO K C f/\fs.length<1000/\
 D.nx σ (upd H2 a (.ins C dx (putF f y fs)))
noncomputable def InOp(X:Cx)(op:Operator)(rd:V->V->Hp->VK->Prop):Prop:=
 ∀(pins:List (aV×Obj)) (s:aY) (σ:St) (H:Hp) (x y:V) (u v:Value) (Q:VK),Inv X pins σ H s->RelV x u->RelV y v->rd x y H Q->aO (model X.prog X.w) X.A (inplaceOp op u v) (EP X pins σ Q) X.xe s
noncomputable def zXv(K:aQ)(ta tv:TE)(rd:V->V->Hp->VK->Prop)(f:Str):TS:=fun D σ H=>ta σ H fun x H1=>∃a C dx fs v,x=.ref a/\H1 a=some (.ins C dx fs)/\Cls K C/\yO K C f/\fs.lookup f=some v/\
 tv σ H1 fun y H2=>rd v y H2 fun z H3=>∃dx' fs',H3 a=some (.ins C dx' fs')/\fs'.length<1000/\D.nx σ (upd H3 a (.ins C dx' (putF f z fs')))
section
variable{X:Cx}{o e value:Expr}{f:Str}{pos pos' tpos:Pos}{ta tv:TE}
theorem jV4(he:PE X e ta)(hb:attributeBase e f X.env (eval e X.env)=eval e X.env):PE X (.Attribute e f pos) (tFld X.K ta f):=by
 intro pins s σ H Q I h;refine zQc hb (thn (he pins s σ H _ I h) fun u s1 ⟨x,H1,I1,rx,a,C,dx,fs,v,ex,ea,c,n,l,q⟩=>?_);subst ex;obtain rfl:u=Value.ref a:=rx;exact vQn I1 ea c n l fun u' s2 I2 ru=>⟨v,H1,I2,ru,q⟩
theorem jVp(ha:PE X o ta)(hv:PE X value tv)(hs:swapsWith value (some (.Attribute o f pos')) pos.line X.env=pure false):PS X (.Assign [.Attribute o f pos'] value pos) (sFld X.K ta tv f):=by
 intro pins s σ H D I h;refine plainObj_wpAny_Assign_Attribute (thn (hv pins s σ H _ I h) fun u s1 ⟨y,H1,I1,ry,q⟩=>thn (ha pins s1 σ H1 _ I1 q) fun ov s2 ⟨x,H2,I2,rx,a,C,dx,fs,ex,ea,c,n,l,q2⟩=>?_) hs;subst ex;obtain rfl:ov=Value.ref a:=rx;exact vQf I2 ea c n l ry fun s3 I3=>⟨σ,_,I3,q2⟩
theorem zQr{op:Operator}{rd:V->V->Hp->VK->Prop}(ha:PE X o ta)(hv:PE X value tv)(hop:InOp X op rd):PS X (.AugAssign (.Attribute o f tpos) op value pos) (zXv X.K ta tv rd f):=by
 intro pins s σ H D I h;refine wpAny_AugAssign_AttributeAny (thn (ha pins s σ H _ I h) fun ov s1 ⟨x,H1,I1,rx,a,C,dx,fs,v,ex,ea,c,n,l,q⟩=>?_);subst ex;obtain rfl:ov=Value.ref a:=rx;refine vQn I1 ea c n l fun u s2 I2 ru=>thn (hv pins s2 σ H1 _ I2 q) fun w3 s3 ⟨y,H2,I3,ry,q3⟩=>thn (hop pins s3 σ H2 v y u w3 _ I3 ru ry q3) fun w4 s4 ⟨z,H3,I4,rz,dx',fs',ea',l',q4⟩=>?_
 exact vQf I4 ea' c n l' rz fun s5 I5=>⟨σ,_,I5,q4⟩
end
section
variable{X:Cx}{pins:List (aV×Obj)}{σ:St}{H:Hp}{s:aY}{A:cC}{E:Value->aY->Prop}{Q:Value->aY->Prop}{c:Value}{b:Bool}
inductive TyOf(K:aQ)(H:Hp):V->Value->Prop where
 |non:TyOf K H .non (.type "NoneType")
 |bl (x:Bool):TyOf K H (.bl x) (.type "bool")
 |int (i:Int):TyOf K H (.int i) (.type "int")
 |str (x:Str):TyOf K H (.str x) (.type "str")
 |flt (x:UInt64):TyOf K H (.flt x) (.type "float")
 |lst {a:aV} {xs:List V} (e:H a=some (.lst xs)):TyOf K H (.ref a) (.type "list")
 |frz {a:aV} {o:Obj} {xs:List V} (e:H a=some (.frz o (.lst xs))):TyOf K H (.ref a) (.type "list")
 |tup {a:aV} {xs:List V} (e:H a=some (.tup xs)):TyOf K H (.ref a) (.type "tuple")
 |dK {a:aV} {kvs:List (Key×V)} (e:H a=some (.dK kvs)):TyOf K H (.ref a) (.type "dict")
 |dZ {a:aV} {o:Obj} {kvs:List (Key×V)} (e:H a=some (.frz o (.dK kvs))):TyOf K H (.ref a) (.type "dict")
 |dT {a:aV} {kvs:List (List Key×V)} (e:H a=some (.dT kvs)):TyOf K H (.ref a) (.type "dict")
 | ins {a C dx:aV} {fs:List (Str×V)} (e:H a=some (.ins C dx fs)) (cl:Cls K C) (ha:bN K (.ref C) "__class__"=some (some (.builtin "object.__class__")))
   (hn:PySem.W.specialIn K (.builtin "object.__class__") "__get__"=some (some (.builtin "getset_descriptor.__get__"))) (htk:PySem.W.takesIn K (.builtin "object.__class__")=some true)
   (hm:PySem.W.mroIn K C (.type "object")=some true):TyOf K H (.ref a) (.ref C)
theorem zQ5{x:V}{u t:Value}(I:Inv X pins σ H s)(rx:RelV x u)(ty:TyOf X.K H x t)(e:bW X.K t c=some b)(h:∀tk,Q (.bool b) {s with toks:=tk}):
  aO (model X.prog X.w) A (call (.builtin "isinstance") [u,c]) Q E s:=by
 cases ty with
 |non=>cases(show u=Value.none from rx);exact bO PySem.W.kitx_none I.kIn True.intro e (fun z=>nomatch z) h
 |bl y=>cases(show u=Value.bool y from rx);exact bO PySem.W.kitx_bool I.kIn True.intro e (fun z=>nomatch z) h
 |int i=>obtain⟨t,q⟩:=(show∃t,u=Value.int i t from rx);cases q;exact bO PySem.W.kitx_int I.kIn True.intro e (fun z=>nomatch z) h
 |str y=>obtain⟨t,q⟩:=(show∃t,u=Value.str y t from rx);cases q;exact bO PySem.W.kitx_str I.kIn True.intro e (fun z=>nomatch z) h
 |flt y=>obtain⟨t,q⟩:=(show∃t,u=Value.float y t from rx);cases q;exact bO PySem.W.kitx_float I.kIn True.intro e (fun z=>nomatch z) h
 | @lst a xs ea=>
   cases(show u=Value.ref a from rx);obtain⟨_,_,n,_,h1⟩:=(show vO X.prog X.w H s.heap a (.lst xs) from I.hok a _ ea)
   exact bO PySem.W.kitx_list I.kIn ⟨_,h1,rfl⟩ e (fun z=>nomatch z) h
 | @frz a ob xs ea=>
   cases(show u=Value.ref a from rx);obtain⟨_,_,_,n,_,h1⟩:=(show vO X.prog X.w H s.heap a (.frz ob (.lst xs)) from I.hok a _ ea)
   exact bO PySem.W.kitx_list I.kIn ⟨_,h1,rfl⟩ e (fun z=>nomatch z) h
 | @tup a xs ea=>
   cases(show u=Value.ref a from rx);obtain⟨_,_,_,p⟩:=(show vO X.prog X.w H s.heap a (.tup xs) from I.hok a _ ea)
   obtain⟨o,h1,h2,_⟩:=p;exact bO PySem.W.kitx_tuple I.kIn ⟨o,h1,h2⟩ e (fun z=>nomatch z) h
 | @dK a kvs ea=>
   cases(show u=Value.ref a from rx);obtain⟨_,_,vs,_,p⟩:=(show vO X.prog X.w H s.heap a (.dK kvs) from I.hok a _ ea)
   obtain⟨o,es,ep,h1,h2,_⟩:=p;exact bO PySem.W.kitx_dict I.kIn ⟨o,h1,h2.1⟩ e (fun z=>nomatch z) h
 | @dZ a ob kvs ea=>
   cases(show u=Value.ref a from rx);obtain⟨_,_,_,vs,_,p⟩:=(show vO X.prog X.w H s.heap a (.frz ob (.dK kvs)) from I.hok a _ ea)
   obtain⟨o,es,ep,h1,h2,_⟩:=p;exact bO PySem.W.kitx_dict I.kIn ⟨o,h1,h2.1⟩ e (fun z=>nomatch z) h
 | @dT a kvs ea=>
   cases(show u=Value.ref a from rx);obtain⟨_,_,xs,_,o,es,ep,h1,h2,_⟩:=(show vO X.prog X.w H s.heap a (.dT kvs) from I.hok a _ ea)
   exact bO PySem.W.kitx_dict I.kIn ⟨o,h1,h2.1⟩ e (fun z=>nomatch z) h
 | @ins a C dx fs ea cl ha hn htk hm=>
   cases(show u=Value.ref a from rx);obtain⟨mA,O,_⟩:=qY5 I.hok ea;obtain⟨od,J,_⟩:=O.look;exact bO (PySem.W.kitx_own (cl.get _) cl.hd ha hn htk hm) I.kIn J e (fun z=>nomatch z) h
end
structure Room(k:Nat)(A:cC):Prop where
 hd:A.handled=none
 dp:A.depth+3 * k+5<recursionLimit
 un:A.units+16 * k+200<cLine
 gd:A.guards=some []
theorem Room.mono(r:Room k A)(h:j<=k):Room j A:=⟨r.hd,by have:=r.dp;omega,by have:=r.un;omega,r.gd⟩
theorem Room.deeper(r:Room (k+1) A)(env:Env):Room k (A.deeper env):=
 ⟨r.hd,by have:=r.dp;show A.depth+1+3 * k+5<_;omega,by have:=r.un;show A.units+3+16 * k+200<_;omega,r.gd⟩
theorem vX7:(A.under (.builtin "type.__call__" ⟨.ref C::us,kw⟩)).depth =A.depth+1:=by
 first|rfl|simp[guardIds]
theorem vX6:(A.under (.builtin "type.__call__" ⟨.ref C::us,kw⟩)).units =A.units+1:=by
 first|rfl|simp[Code.frames]
theorem vWx:(A.under (.builtin "type.__call__" ⟨.ref C::us,kw⟩)).guards =A.guards:=by
 first|rfl|simp[guardIds]
theorem Room.make(r:Room (k+1) A)(C:aV)(us:List Value)(kw:List (Str×Value)):Room k (A.under (.builtin "type.__call__" ⟨.ref C::us,kw⟩)):=
 ⟨r.hd,by have:=r.dp;rw[vX7];omega,by have:=r.un;rw[vX6];omega,by rw[vWx];exact r.gd⟩
theorem Room.depth(r:Room k A):A.depth<recursionLimit:=by have:=r.dp;omega
theorem Room.units(r:Room k A):A.units+64<cLine:=by have:=r.un;omega
noncomputable def tNil:TA:=fun _ H Q=>Q [] H
noncomputable def vQ6(ta:TE)(tr:TA):TA:=fun σ H Q=>ta σ H fun x H1=>tr σ H1 fun xs H2=>Q (x::xs) H2
section
variable{X:Cx}{e:Expr}{es:List Expr}{te:TE}{t:TA}{pos:Pos}
theorem qQr:PA X [] tNil:=fun _ _ _ _ H Q I h=>Calls.spliced_nil ⟨[],H,I,.nil,h⟩
theorem wX(ha:PE X e te)(hr:PA X es t)(hs:aX (e::es) X.env=(false,eval e X.env)::aX es X.env:=by rfl):PA X (e::es) (vQ6 te t):=by
 intro pos pins s σ H Q I h;rw[hs];refine Calls.spliced_cons (thn (ha pins s σ H _ I h) fun u s1 ⟨x,H1,I1,r1,q1⟩=>?_);exact thn (hr pos pins s1 σ H1 _ I1 q1) fun us s2 ⟨xs,H2,I2,r2,q2⟩=>⟨x::xs,H2,I2,.cons r1 r2,q2⟩
noncomputable def tTup(t:TA):TE:=fun σ H Q=>t σ H fun xs H1=>xs.length<=aT/\∀p,H1 p=none->Q (.ref p) (upd H1 p (.tup xs))
noncomputable def tLst(t:TA):TE:=fun σ H Q=>t σ H fun xs H1=>xs.length<=aT/\∀p,H1 p=none->Q (.ref p) (upd H1 p (.lst xs))
theorem jVz{x1}(h:PA X es t):PE X (.Tuple es x1 pos) (tTup t):=by
 intro pins s σ H Q I hq;refine wpAny_Tuple_spliced (thn (h pos pins s σ H _ I hq) fun us s1 ⟨xs,H1,I1,r,z,q⟩=>⟨by rw[←r.length];exact z,?_⟩);have hf:H1 s1.heap.objs.size=none:=I1.hok.fresh (aD _);refine⟨.ref s1.heap.objs.size,upd H1 s1.heap.objs.size (.tup xs),I1.laid (t' :=s1.toks) (fun b u e=>aK _ e) (aD _) ?_,rfl,q _ hf⟩;exact⟨z,us,r,⟨_,aN _ rfl,rfl,_,rfl⟩⟩
theorem jV3(h:PA X es t):PE X (.List es pos) (tLst t):=by
 intro pins s σ H Q I hq;refine wpAny_List_spliced (thn (h pos pins s σ H _ I hq) fun us s1 ⟨xs,H1,I1,r,z,q⟩=>⟨by rw[←r.length];exact z,?_⟩);have hf:H1 s1.heap.objs.size=none:=I1.hok.fresh (aD _);refine⟨.ref s1.heap.objs.size,upd H1 s1.heap.objs.size (.lst xs),I1.laid (t' :=s1.toks) (fun b u e=>aK _ e) (aD _) ?_,rfl,q _ hf⟩;exact⟨z,us,0,r,aN _ rfl⟩
end
noncomputable abbrev Sp:=List V->Hp->VK->XK->Prop
noncomputable abbrev CXT:=List Env->Hp->aY->XK->Value->aY->Prop
structure Env0(P:bQ)(w:bK)(K:aQ)(mg:Str->Option Value)(base:Heap)(A:cC)(outer:List Env)(s:aY)(H:Hp):Prop where
 frames:A.frames=some outer
 mod:Mod K mg base
 bs:∀b o,base.get? b=some o->s.heap.get? b=some o/\H b=none
 bsz:base.objs.size<=s.heap.objs.size
 funs:s.heap.FunFrames base outer
 frf:∀b∈frs outer,H b=none
 hok:HOk P w H s.heap
 bare:AllBare s.gens
noncomputable def CE(outer:List Env)(P:bQ)(w:bK)(H:Hp)(s:aY)(Q:VK)(u:Value)(s' :aY):Prop:=
 ∃v H',s'.os=s.os/\AllBare s'.gens/\Un (frs outer) [] H H' s.heap s'.heap/\HOk P w H' s'.heap/\RelV v u/\Q v H'
noncomputable def CR(CX:CXT)(outer:List Env)(P:bQ)(w:bK)(H:Hp)(s:aY)(Q:VK)(E:XK)(r:Result)(s' :aY):Prop:=
 match r with
 |.ok (.ret u)=>CE outer P w H s Q u s'
 |.ok _=>False
 |.error e=>CX outer H s E e s'
structure FnOk(P:bQ)(w:bK)(K:aQ)(mg:Str->Option Value)(base:Heap)(CX:CXT)(k:Nat)(f:aV)(fd:aH)(ps:List Str)(sp:Sp):Prop where
 len:∀vs H Q E,sp vs H Q E->vs.length=ps.length
 run:∀(A:cC) (outer:List Env) (s:aY) (H:Hp) (args:Args) (us:List Value) (vs:List V) (Q:VK) (E:XK),Room k A->Env0 P w K mg base A outer s H->BindsTo s fd args (ps.zip us)->Vals vs us->sp vs H Q E->
  codeAny (model P w) A (.call (.ref f) args) (CR CX outer P w H s Q E) s
theorem FnOk.imp{P:bQ}{w:bK}{f:aV}{sp':Sp}(F:FnOk P w K mg base CX k f fd ps sp)(h:∀vs H Q E,sp' vs H Q E->sp vs H Q E):FnOk P w K mg base CX k f fd ps sp' :=
 ⟨fun vs H Q E q=>F.len vs H Q E (h _ _ _ _ q),fun A outer s H args us vs Q E hr he hb hv hs=>F.run A outer s H args us vs Q E hr he hb hv (h _ _ _ _ hs)⟩
theorem Env0.make{P:bQ}{w:bK}(e:Env0 P w K mg base A outer s H)(C:aV)(us:List Value)(kw:List (Str×Value)):
  Env0 P w K mg base (A.under (.builtin "type.__call__" ⟨.ref C::us,kw⟩)) outer s H:=⟨by first|exact e.frames|(simpa[Around.under,Code.envs,Code.isFrame,pushEnvs] using e.frames),e.mod,e.bs,e.bsz,e.funs,e.frf,e.hok,e.bare⟩
section
variable{X:Cx}{pins:List (aV×Obj)}{σ:St}{H:Hp}{s s' :aY}
theorem Inv.env0(I:Inv X pins σ H s):Env0 X.prog X.w X.K X.mg X.base X.A X.stack s H:=
 ⟨I.ok.frames,I.ok.mod,I.bs,aM I.ok.bsz I.sz,I.stack,I.stkFree,I.hok,I.bare⟩
theorem Inv.after{Q:VK}{u:Value}(I:Inv X pins σ H s)(h:CE X.stack X.prog X.w H s Q u s'):EP X pins σ Q u s' :=by
 obtain⟨v,H',os,bare,un,hok,r,q⟩:=h;obtain⟨hh,g,d,t,os'⟩:=s';obtain rfl:os' =s.os:=os;exact⟨v,H',I.call (h' :=hh) (g' :=g) (d' :=d) (t' :=t) (ch:=[]) un hok bare (fun b z=>absurd z (by simp)),r,q⟩
end
noncomputable def zVw(sp:Sp)(dvs:List V)(E:XK)(t:TA):TE:=fun σ H Q=>t σ H fun vs H1=>sp (vs ++ dvs) H1 Q E
noncomputable def zVv(C:aV)(m:Str)(sp:Sp)(dvs:List V)(E:XK)(ta:TE)(t:TA):TE:=fun σ H Q=>ta σ H fun x H1=>∃a dx fs,x=.ref a/\H1 a=some (.ins C dx fs)/\fs.lookup m=none/\
 t σ H1 fun vs H2=>sp (x::(vs ++ dvs)) H2 Q E
noncomputable def zK8(C:aV)(sp:Sp)(dvs:List V)(E:XK)(t:TA):TE:=fun σ H Q=>t σ H fun vs H1=>∀x dx,H1 x=none->H1 dx=none->dx≠x->
 sp (.ref x::(vs ++ dvs)) (upd (upd H1 dx (.own x)) x (.ins C dx [])) (fun v H2=>v=.non /\Q (.ref x) H2) E
noncomputable def wV(K:aQ)(fd:aH)(ps:List Str)(ds:List Value):Prop:=
 ∀(s:aY) (us:List Value),K.In s.heap->(us ++ ds).length =ps.length->BindsTo s fd ⟨us,[]⟩ (ps.zip (us ++ ds))
theorem wV.all(h:∀us:List Value,us.length=ps.length->bindArgs fd ⟨us,[]⟩=pure (ps.zip us)):wV K fd ps []:=fun s us _ hl=>by
 rw[bG]at hl⊢;exact .of_eq (h us hl)
noncomputable def jR(CX:CXT)(X:Cx)(E:XK):Prop:=∀(pins:List (aV×Obj)) (σ:St) (H:Hp) (s:aY) (e:Value) (s' :aY),Inv X pins σ H s->CX X.stack H s E e s' ->X.xe e s'
section
variable{X:Cx}{CX:CXT}{k:Nat}{f C:aV}{fd:aH}{ps:List Str}{sp:Sp}{dvs:List V}{ds:List Value}{E:XK}{x m:Str}{p pos apos:Pos}{e o:Expr}{es:List Expr}{ta:TE}{t:TA}
theorem vV5{σ:St}{Q:VK}(F:FnOk X.prog X.w X.K X.mg X.base CX k f fd ps sp)(hr:Room k X.A)(hb:wV X.K fd ps ds)(hd:Vals dvs ds)(hx:jR CX X E)(I:Inv X pins σ H s)(r:Vals vs us)(h:sp (vs ++ dvs) H Q E):aO (model X.prog X.w) X.A (call (.ref f) us) (EP X pins σ Q) X.xe s:=by
 have r2:Vals (vs ++ dvs) (us ++ ds):=r.append hd;have hl:(us ++ ds).length =ps.length:=by rw[←r2.length];exact F.len _ _ _ _ h
 refine wpAny_call (codeAny_mono (F.run X.A X.stack s H ⟨us,[]⟩ (us ++ ds) (vs ++ dvs) Q E hr I.env0 (hb s us I.kIn hl) r2 h) fun r s' hq=>?_);cases r with
 |error e=>exact hx pins σ H s e s' I hq
 | ok fl=>
   cases fl with
   |ret u=>exact I.after hq
   |next=>exact False.elim hq
   |brk=>exact False.elim hq
   |cont=>exact False.elim hq
theorem zYr(F:FnOk X.prog X.w X.K X.mg X.base CX k f fd ps sp)(hr:Room k X.A)(hg:Gl X x)(hm:X.mg x=some (.ref f))(hk:cV X.K (.ref f)=true)(hb:wV X.K fd ps ds)(hd:Vals dvs ds)(hx:jR CX X E)(ha:PA X (e::es) t)(hdb:(x == ("__debug__":Str))=false:=by decide)(he:aX (e::es) X.env=(false,eval e X.env)::aX es X.env:=by rfl)(hpl:(cX pos (aX es X.env)).any (·.1)=false:=by rfl):
  PE X (.Call (.Name x p) (e::es) [] pos) (zVw sp dvs E t):=by
 intro pins s σ H Q I h;refine eV (qJe I hg hm ?_ hdb);refine PySem.W.callWith_K (h₀:=X.base) I.ok.mod.kin hk (thn (ha pos pins s σ H _ I h) fun us s1 ⟨vs,H1,I1,r,q⟩=>⟨I1.kIn,?_⟩) he hpl;exact vV5 F hr hb hd hx I1 r q
theorem zYn(he:PE X o ta)(c:Cls X.K C)(hm:Meth X.K C m f)(F:FnOk X.prog X.w X.K X.mg X.base CX k f fd ps sp)(hr:Room k X.A)(hb:wV X.K fd ps ds)(hd:Vals dvs ds)(hx:jR CX X E)(ha:PA X (e::es) t)(hst:aX (e::es) X.env=(false,eval e X.env)::aX es X.env:=by rfl)(hpl:(cX pos (aX es X.env)).any (·.1)=false:=by rfl)(ht:eval (.Call (.Attribute o m apos) (e::es) [] pos) X.env=(do
   let ov ←eval o X.env;standAt apos.atName;let (f,first) ←holding [ov] (getMethod ov m pl);callWith pos f first (cX pos (aX (e::es) X.env)) (backToKw pos (keywordEach [] X.env))):=by rfl):
  PE X (.Call (.Attribute o m apos) (e::es) [] pos) (zVv C m sp dvs E ta t):=by
 intro pins s σ H Q I h;refine PySem.W.methodCall_KW (pl:=pl) (thn (he pins s σ H _ I h) fun u s1 ⟨x,H1,I1,rx,a,dx,fs,ex,ea,l,q⟩=>?_) ht;subst ex;obtain rfl:u=Value.ref a:=rx;refine vQm I1 ea c hm l ?_
 refine PySem.W.callWith_K (first:=[.ref a]) (h₀:=X.base) I.ok.mod.kin hm.kp (thn (ha pos pins s1 σ H1 _ I1 q) fun us s2 ⟨vs,H2,I2,r,q2⟩=>⟨I2.kIn,?_⟩) hst hpl;exact vV5 (us:=.ref a::us) (vs:=.ref a::vs) F hr hb hd hx I2 (.cons rfl r) q2
theorem zJ5(he:PE X o ta)(c:Cls X.K C)(hm:Meth X.K C m f)(F:FnOk X.prog X.w X.K X.mg X.base CX k f fd ps sp)(hr:Room k X.A)(hb:wV X.K fd ps ds)(hd:Vals dvs ds)(hx:jR CX X E)(ht:eval (.Call (.Attribute o m apos) [] [] pos) X.env=(do
   let ov ←eval o X.env;standAt apos.atName;let (f,first) ←holding [ov] (getMethod ov m pl);callWith pos f first (cX pos (aX [] X.env)) (backToKw pos (keywordEach [] X.env))):=by rfl):
  PE X (.Call (.Attribute o m apos) [] [] pos) (zVv C m sp dvs E ta tNil):=by
 intro pins s σ H Q I h;refine PySem.W.methodCall_KW (pl:=pl) (thn (he pins s σ H _ I h) fun u s1 ⟨x,H1,I1,rx,a,dx,fs,ex,ea,l,q⟩=>?_) ht;subst ex;obtain rfl:u=Value.ref a:=rx;refine vQm I1 ea c hm l ?_
 exact PySem.W.callWith_K0 (first:=[.ref a]) I1.kIn hm.kp (vV5 (us:=[.ref a]) (vs:=[.ref a]) F hr hb hd hx I1 (.cons rfl .nil) q)
structure Mk(K:aQ)(C f:aV):Prop where
 makes:PySem.W.makesIn K C=true
 init:bN K (.ref C) "__init__"=some (some (.ref f))
 fn:PySem.W.isFn K (.ref f)=true
 kp:cV K (.ref C)=true
theorem zJt{σ:St}{Q:VK}(M:Mk X.K C f)(F:FnOk X.prog X.w X.K X.mg X.base CX k f fd ps sp)(hr:Room (k+1) X.A)(hb:wV X.K fd ps ds)(hd:Vals dvs ds)(hx:jR CX X E)(I:Inv X pins σ H s)(r:Vals vs us)(h:∀x dx,H x=none->H dx=none->dx≠x->sp (.ref x::(vs ++ dvs)) (upd (upd H dx (.own x)) x (.ins C dx [])) (fun v H2=>v=.non /\Q (.ref x) H2) E):
  aO (model X.prog X.w) X.A (call (.ref C) us) (EP X pins σ Q) X.xe s:=by
 have hq:=h (s.heap.objs.size+1) s.heap.objs.size (I.hok.fresh (Nat.le_succ _)) (I.hok.fresh (aD _)) (bY (Nat.lt_succ_self _));have I2:=Inv.made (C:=C) I;have r2:Vals (V.ref (s.heap.objs.size+1)::(vs ++ dvs)) (Value.ref (s.heap.objs.size+1)::(us ++ ds)):=.cons rfl (r.append hd);have hl:(Value.ref (s.heap.objs.size+1)::us ++ ds).length =ps.length:=by
  have e:=r2.length;rw[F.len _ _ _ _ hq]at e;exact e.symm
 refine wpAny_call (zWh (f:=f) I.kIn M.makes M.init (beq_iff_eq.mp M.fn) (codeAny_mono (F.run _ X.stack _ _ ⟨Value.ref (s.heap.objs.size+1)::us,[]⟩ (Value.ref (s.heap.objs.size+1)::(us ++ ds)) _ _ E (hr.make C us [])
  (I2.env0.make C us []) (hb _ (Value.ref (s.heap.objs.size+1)::us) I2.kIn hl) r2 hq) fun r s' hq' =>?_))
 cases r with
 |error e=>exact hx pins σ _ _ e s' I2 hq'
 | ok fl=>
   cases fl with
   | ret u=>
     obtain⟨v,H',I3,rv,ev,q3⟩:=I2.after hq';subst ev;exact⟨rv,⟨V.ref (s.heap.objs.size+1),H',I3,rfl,q3⟩⟩
   |next=>exact False.elim hq'
   |brk=>exact False.elim hq'
   |cont=>exact False.elim hq'
theorem zYo(M:Mk X.K C f)(F:FnOk X.prog X.w X.K X.mg X.base CX k f fd ps sp)(hr:Room (k+1) X.A)(hg:Gl X x)(hm:X.mg x=some (.ref C))(hb:wV X.K fd ps ds)(hd:Vals dvs ds)(hx:jR CX X E)(ha:PA X (e::es) t)(hdb:(x == ("__debug__":Str))=false:=by decide)(he:aX (e::es) X.env=(false,eval e X.env)::aX es X.env:=by rfl)(hpl:(cX pos (aX es X.env)).any (·.1)=false:=by rfl):
  PE X (.Call (.Name x p) (e::es) [] pos) (zK8 C sp dvs E t):=by
 intro pins s σ H Q I h;refine eV (qJe I hg hm ?_ hdb);refine PySem.W.callWith_K (h₀:=X.base) I.ok.mod.kin M.kp (thn (ha pos pins s σ H _ I h) fun us s1 ⟨vs,H1,I1,r,q⟩=>⟨I1.kIn,?_⟩) he hpl;exact zJt M F hr hb hd hx I1 r q
end
structure FnScope(N P:List Str)(sc:Scope):Prop where
 kind:sc.kind=.function
 co:sc.isCoroutine=false
 gen:sc.isGenerator=false
 nd:N.Nodup
 pre:N.take P.length=P
 par:∀x∈P,sc.names.lookup x=some .local \/sc.names.lookup x=some .cell
 nofree:∀y∈sc.names,y.2≠ .free
theorem vV0{x:Str}:∀{binds:List (Str×Value)} {m:Str->Option Value},(∀v,(x,v)∉binds)->bindL kindOf binds m x=m x
 |[],_,_=>rfl
 | (n,v)::r,m,h=>by
   unfold bindL;rw[vV0 fun w hw=>h w (aB _ hw)];split
   ·grind
   ·rfl
theorem vV2{x:Str}:∀{binds:List (Str×Value)} {m:Str->Option Value},(∀v,(x,v)∉binds)->bindC kindOf binds m x=m x
 |[],_,_=>rfl
 | (n,v)::r,m,h=>by
   unfold bindC;rw[vV2 fun w hw=>h w (aB _ hw)];split
   ·rfl
   ·grind
theorem vV1{x:Str}{v:Value}:∀{P:List Str} {vs:List Value} {i:Nat} {m:Str->Option Value},P.Nodup->P[i]?=some x->vs[i]?=some v->kindOf x=some .local ->
  bindL kindOf (P.zip vs) m x=some v
 |[],_,_,_,_,h,_,_=>by simp at h
 |_::_,[],_,_,_,_,h,_=>by simp at h
 | p::P,w::vs,0,m,nd,h1,h2,hk=>by
   simp at h1 h2;subst h1;subst h2;show bindL kindOf ((p,w)::P.zip vs) m p=_;unfold bindL;rw[vV0 fun v hv=>(dR.mp nd).1 (List.of_mem_zip hv).1,if_pos hk];simp
 | p::P,w::vs,i + 1,m,nd,h1,h2,hk=>by
   unfold bindL;exact vV1 (i:=i) (dR.mp nd).2 (by simpa using h1) (by simpa using h2) hk
theorem vV3{x:Str}{v:Value}:∀{P:List Str} {vs:List Value} {i:Nat} {m:Str->Option Value},P.Nodup->P[i]?=some x->vs[i]?=some v->kindOf x≠some .local ->
  bindC kindOf (P.zip vs) m x=some v
 |[],_,_,_,_,h,_,_=>by simp at h
 |_::_,[],_,_,_,_,h,_=>by simp at h
 | p::P,w::vs,0,m,nd,h1,h2,hk=>by
   simp at h1 h2;subst h1;subst h2;show bindC kindOf ((p,w)::P.zip vs) m p=_;unfold bindC;rw[vV2 fun v hv=>(dR.mp nd).1 (List.of_mem_zip hv).1,if_neg hk];simp
 | p::P,w::vs,i + 1,m,nd,h1,h2,hk=>by
   unfold bindC;exact vV3 (i:=i) (dR.mp nd).2 (by simpa using h1) (by simpa using h2) hk
noncomputable def qZa(N:List Str)(vs:List V):St:=vs.map some ++ List.replicate (N.length - vs.length) none
noncomputable def cxOf(CX:CXT)(P:bQ)(w:bK)(K:aQ)(mg:Str->Option Value)(base:Heap)(N:List Str)(qual:Str)(scope:Scope)(f:aV)(cd:Value)(A:cC)(outer:List Env)(s:aY)(H:Hp)(E:XK):Cx where
 prog:=P;w:=w;K:=K;mg:=mg;base:=base;A:=A.deeper (envOfC qual scope s.heap.objs.size f cd);N:=N;s₀:=s;H₀:=H;env:=envOfC qual scope s.heap.objs.size f cd;outer:=outer;stack:=envOfC qual scope s.heap.objs.size f cd::outer;ex:=[]
 calm:=true;fn:=fun _=>true
 pn:=[]
 xe:=fun e s' =>aO (model P w) (A.deeper (envOfC qual scope s.heap.objs.size f cd)) (leaving (envOfC qual scope s.heap.objs.size f cd) e) (fun _ s'' =>CX outer H s E e s'') (fun e' s'' =>CX outer H s E e' s'') s'
theorem cell_has{sc:Scope}{x:Str}(h:sc.names.lookup x=some .cell):∃c,(cellsFrom n sc.names []).lookup x=some c:=by
 have q:=PySem.W.cellsFrom_some sc.names n [] (.inl h);exact Option.isSome_iff_exists.mp q
theorem zQ6{P:bQ}{w:bK}{f:aV}{cd:Value}{s1:aY}{E:XK}(S:FnScope N ps scope)(hd:A.handled=none)(e0:Env0 P w K mg base A outer s H)(hl:vs.length=ps.length)(r:Vals vs us)(x:InCallC s s.heap.objs.size (bindL (envOfC qual scope s.heap.objs.size f cd).kindOf (ps.zip us) fun _=>none) (cellsFrom (s.heap.objs.size+1) scope.names []) (bindC (envOfC qual scope s.heap.objs.size f cd).kindOf (ps.zip us) fun _=>none) s1):
  Inv (cxOf CX P w K mg base N qual scope f cd A outer s H E) [] (qZa N vs) H s1:=by
 have hpl:ps.length<=N.length:=by have:=congrArg List.length S.pre;rw[cT]at this;omega
 obtain⟨h1,tk,rfl,hk⟩:=x.done;have noA:∀b:aV,b∉(cxOf CX P w K mg base N qual scope f cd A outer s H E).ex :=fun b z=>absurd (show b∈([]:List aV) from z) (by simp)
 refine⟨⟨e0.mod,S.kind,rfl,rfl,aD _,fun y z c h1 h2=>?_,fun y hy=>?_,fun y c _ h=>?_,fun _=>hd,Around.frames_deeper e0.frames,.inr ⟨rfl,rfl⟩,fun b z=>absurd z (noA b),e0.bs,e0.bsz,fun b _ _=>noA b,fun b z=>absurd z (noA b),e0.funs,e0.frf⟩,
  rfl,e0.bare,Un.kept hk,⟨_,x.toInCall.ns,fun i y v h1 h2 h3=>?_⟩,fun y c h=>⟨_,x.cell y c h⟩,e0.hok.fresh (aD _),fun y c h=>?_,fun p hp=>absurd (show p∈([]:List (aV×Obj)) from hp) (by simp),e0.hok.kept hk,?_⟩
 ·exact name_of_addr x.apart (dJ h1) (dJ h2)
 ·have hy:scope.names.lookup y=some .cell \/scope.names.lookup y=some .free :=hy;rcases hy with hy|hy
  ·exact cell_has hy
  ·exact absurd rfl (S.nofree _ (dJ hy))
 ·exact Nat.le_of_lt (x.above y c (dJ h))
 ·have hi:i<vs.length:=by
   unfold qZa at h2;by_cases hi:i<vs.length
   ·exact hi
   ·rw [cL (by simpa using hi)] at h2;rw[List.getElem?_replicate]at h2;split at h2 <;> cases h2
  have ha:vs[i]?=some v:=by
   unfold qZa at h2;rw[bT (by simpa using hi),cJ]at h2;cases e:vs[i]? with
   |none=>rw[e]at h2;cases h2
   |some a=>rw[e]at h2;cases h2;rfl
  obtain⟨u,hu,rv⟩:=r.get ha;have hp:ps[i]?=some y:=by
   rw[←S.pre,List.getElem?_take_of_lt (by omega)];exact h1
  have ndP:ps.Nodup:=by rw[←S.pre];exact S.nd.sublist (List.take_sublist _ _)
  refine⟨u,rv,?_⟩;rcases S.par y (eX hp) with k|k
  ·exact .inl ⟨k,vV1 ndP hp hu k⟩
  ·obtain⟨c,e⟩:=cell_has (n:=s.heap.objs.size + 1) k;refine .inr ⟨.inl k,c,e,?_⟩;have q:=x.cell y c e;rw[vV3 ndP hp hu (by show scope.names.lookup y≠_;rw[k];decide)]at q;exact q
 ·exact e0.hok.fresh (Nat.le_of_lt (x.above y c (dJ h)))
 ·unfold qZa;show _=N.length;rw[aJ,aP,dS];omega
theorem jWm{P:bQ}{w:bK}{f:aV}{name:Str}{params:Arguments}{dV kV doc pm cdv ct oc:Value}{an od:Option aV}{osl:Array (Option Value)}(lk:K.lookup f=some ⟨oc,od,.func (cY name qual params body scope dV kV doc pm an cdv ct),osl⟩)(hcd:PySem.W.codeIn K cdv qual=true)(S:FnScope N ps scope)(len:∀vs H Q E,sp vs H Q E->vs.length=ps.length)(hbody:∀(A:cC) (outer:List Env) (s:aY) (H:Hp) (vs:List V) (Q:VK) (E:XK),Room k (A.deeper (envOfC qual scope s.heap.objs.size f cdv))->sp vs H Q E->
   ∃t,PSs (cxOf CX P w K mg base N qual scope f cdv A outer s H E) body t/\t {nx:=fun _ H' =>Q .non H',rt:=Q} (qZa N vs) H):
  FnOk P w K mg base CX (k+1) f (cY name qual params body scope dV kV doc pm an cdv ct) ps sp:=by
 refine⟨len,fun A outer s H args us vs Q E hr e0 hb r hsp=>?_⟩;have hl:=len _ _ _ _ hsp;have KX:K.In s.heap:=e0.mod.kin.keeps fun b o e=>(e0.bs b o e).1
 have lim:s.heap.NoLimit:=e0.mod.nolimit.keeps fun b o e=>(e0.bs b o e).1
 have hkind:∀y∈ps.zip us,scope.names.lookup y.1=some .local \/(scope.names.lookup y.1=some .cell /\((cellsFrom (s.heap.objs.size+1) scope.names []).lookup y.1).isSome =true):=fun⟨n,v⟩ hy=>by
  rcases S.par n (List.of_mem_zip hy).1 with q|q
  ·exact .inl q
  ·exact .inr ⟨q,PySem.W.cellsFrom_some _ _ _ (.inl q)⟩
 refine codeAny_call_function hr.depth (KX _ _ lk) rfl S.co S.gen rfl (PySem.W.codeRec_of KX hcd) (hb _ _ _ _ ?_);refine wpAny_newFunctionEnv_cells S.kind hkind fun env he s1 x=>?_
 subst he;refine⟨lim.keeps x.toInCall.keep,codeAny_func ?_⟩;obtain⟨t,ht,hq⟩:=hbody A outer s H vs Q E (hr.deeper _) hsp;have I:Inv (cxOf CX P w K mg base N qual scope f cdv A outer s H E) [] (qZa N vs) H s1:=zQ6 S hr.hd e0 hl r x;refine bS (ht [] s1 (qZa N vs) H _ I hq) (fun fl s' hs=>?_) fun e s' hs=>hs
 have fin:∀{σ' :St} {H' :Hp} {v:V} {u:Value},Inv (cxOf CX P w K mg base N qual scope f cdv A outer s H E) [] σ' H' s' ->RelV v u->Q v H' ->CE outer P w H s Q u s' :=
  fun {σ' H' v u} J rv q=>⟨v,H',J.os,J.bare,J.base,J.hok,rv,q⟩
 cases fl with
 | ret u=>
   obtain⟨v,σ',H',J,rv,q⟩:=hs;exact fin J rv q
 | next=>
   obtain⟨σ',H',J,q⟩:=hs;exact fin (v:=V.non) (u:=Value.none) J rfl q
 | brk=>
   obtain⟨_,_,_,q⟩:=hs;exact False.elim q
 | cont=>
   obtain⟨_,_,_,q⟩:=hs;exact False.elim q
section
variable{X:Cx}{x:Str}{p pos:Pos}{e:Expr}{es:List Expr}{t:TA}{id T:String}{r:List V->Hp->VK->Prop}
noncomputable def tCB(r:List V->Hp->VK->Prop)(t:TA):TE:=fun σ H Q=>t σ H fun vs H1=>r vs H1 Q
theorem qW7(hc:jW X (.builtin id) r)(hg:Gl X x)(hm:X.mg x=none)(hv:cM x=some (.builtin id))(ha:PA X (e::es) t)(hn:x≠"__name__":=by decide)(hdb:(x == ("__debug__":Str))=false:=by decide)(he:aX (e::es) X.env=(false,eval e X.env)::aX es X.env:=by rfl)(hpl:(cX pos (aX es X.env)).any (·.1)=false:=by rfl):PE X (.Call (.Name x p) (e::es) [] pos) (tCB r t):=by
 intro pins s σ H Q I h;refine eV (qXm I hg hm hv ?_ hn hdb);exact PyProof.Rows.callWith_builtin1 (thn (ha pos pins s σ H _ I h) fun us s1 ⟨vs,H1,I1,r1,q1⟩=>hc pins s1 σ H1 vs us Q I1 r1 q1) he hpl
theorem qJi(hc:jW X (.type T) r)(hg:Gl X x)(hm:X.mg x=none)(hv:cM x=some (.type T))(ha:PA X (e::es) t)(hn:x≠"__name__":=by decide)(hdb:(x == ("__debug__":Str))=false:=by decide)(he:aX (e::es) X.env=(false,eval e X.env)::aX es X.env:=by rfl)(hpl:(cX pos (aX es X.env)).any (·.1)=false:=by rfl):PE X (.Call (.Name x p) (e::es) [] pos) (tCB r t):=by
 intro pins s σ H Q I h;refine eV (qXm I hg hm hv ?_ hn hdb);exact dH (thn (ha pos pins s σ H _ I h) fun us s1 ⟨vs,H1,I1,r1,q1⟩=>hc pins s1 σ H1 vs us Q I1 r1 q1) he hpl
end
end L2
namespace HT
open PySem PyProof.Rows
section
variable{prog:bQ}{w:bK}{A:cC}{E:Value->aY->Prop}{s:aY}
noncomputable def sIx(n d:Nat):Option Int->Nat
 |none=>d
 |some v=>if v<0 then(v+(n:Int)).toNat else min v.toNat n
theorem vKg(n d k:Nat):sIx n d (some (k:Int))=min k n:=by
 show(if(k:Int)<0 then((k:Int)+(n:Int)).toNat else min (k:Int).toNat n)=min k n;rw[if_neg (by omega),Int.toNat_natCast]
end
end HT
namespace L2
open PySem PySem.Spec PyProof.Rows
variable{n j t':Nat}{i:Int}{α:Type}{v u:Value}{A:cC}{s:aY}{y:V}{its:List Value}
noncomputable abbrev TO:=St->Hp->(Option Int->Hp->Prop)->Prop
noncomputable def PO(X:Cx)(e:Option Expr)(t:TO):Prop:=
 ∀(pins:List (aV×Obj)) (s:aY) (σ:St) (H:Hp) (Q:Option Int->Hp->Prop),Inv X pins σ H s->t σ H Q->
  aO (model X.prog X.w) X.A (evalPart e X.env) (fun u s' =>∃o H',Inv X pins σ H' s' /\IsPart u o/\Q o H') X.xe s
noncomputable def tNoPart:TO:=fun _ H Q=>Q none H
noncomputable def jJo(t:TE):TO:=fun σ H Q=>t σ H fun x H1=>∃i,x=.int i/\Q (some i) H1
section
variable{X:Cx}{e:Expr}{te:TE}{lo hi:Option Expr}{tl th:TO}{pos p2:Pos}
theorem zYi:PO X none tNoPart:=by
 intro pins s σ H Q I h;exact aL ⟨none,H,I,.none,h⟩
theorem zYh(h:PE X e te):PO X (some e) (jJo te):=by
 intro pins s σ H Q I hw;refine thn (h pins s σ H _ I hw) fun u s1 ⟨x,H1,I1,r1,q1⟩=>?_
 obtain⟨i,rfl,q⟩:=q1;obtain⟨t,rfl⟩:=r1;exact⟨some i,H1,I1,.int i t,q⟩
noncomputable def SlR(X:Cx)(r:V->Option Int->Option Int->Hp->VK->Prop):Prop:=
 ∀(pins:List (aV×Obj)) (s:aY) (σ:St) (H:Hp) (x:V) (v vl vu:Value) (lo hi:Option Int) (sl:aV) (Q:VK),Inv X pins σ H s->RelV x v->s.heap.IsSliceOf sl vl vu .none ->IsPart vl lo->IsPart vu hi->r x lo hi H Q->
  ∃T id,typeLookup (.type T) "__getitem__"=pure (some (.builtin id))/\s.TypeIs v T/\aO (model X.prog X.w) X.A (getItem v (.ref sl)) (EP X pins σ Q) X.xe s
noncomputable def tSl(r:V->Option Int->Option Int->Hp->VK->Prop)(te:TE)(tl th:TO):TE:=fun σ H Q=>te σ H fun x H1=>tl σ H1 fun l H2=>th σ H2 fun u H3=>r x l u H3 Q
theorem vJ9{r:V->Option Int->Option Int->Hp->VK->Prop}(hr:SlR X r)(he:PE X e te)(hl:PO X lo tl)(hu:PO X hi th):PE X (.Subscript e (.Slice lo hi none p2) pos) (tSl r te tl th):=by
 intro pins s σ H Q I h;refine Subscript_ (thn (he pins s σ H _ I h) fun v s1 ⟨x,H1,I1,r1,q1⟩=>?_);refine wpAny_Slice (thn (hl pins s1 σ H1 _ I1 q1) fun vl s2 ⟨l,H2,I2,pl,q2⟩=>thn (hu pins s2 σ H2 _ I2 q2) fun vu s3 ⟨u,H3,I3,pu,q3⟩=>?_);rw[evalPart_none];refine aL ?_
 have I4:Inv X pins σ H3 {s3 with heap:=s3.heap.push {cls:=.type "slice",data:=.fields #[vl,vu,.none]}}:=I3.kept (t' :=s3.toks) fun b ob q=>aK _ q
 obtain⟨T,id,hT,ht,hg⟩:=hr pins {s3 with heap:=s3.heap.push {cls:=.type "slice",data:=.fields #[vl,vu,.none]}} σ H3 x v vl vu l u s3.heap.objs.size Q I4 r1 (Heap.IsSliceOf.new ..) pl pu q3;show aO (model X.prog X.w) X.A (subscriptTail e (.Slice lo hi none p2) v (.ref s3.heap.objs.size)) (EP X pins σ Q) X.xe {s3 with heap:=s3.heap.push {cls:=.type "slice",data:=.fields #[vl,vu,.none]}};exact tail_any (ops:=[.ref s3.heap.objs.size,v]) ht hT hg (by with_unfolding_all rfl)
noncomputable def cutV(xs:List V)(lo hi:Option Int):List V:=(xs.drop (HT.sIx xs.length 0 lo)).take (HT.sIx xs.length xs.length hi - HT.sIx xs.length 0 lo)
theorem vW3(xs:List V)(lo hi:Option Int):(cutV xs lo hi).length <=xs.length:=by
 unfold cutV;rw[cT,cU];omega
end
noncomputable def ixN(n:Nat)(i:Int):Option Nat:=if 0<=i then(if i<n then some i.toNat else none) else if -(n:Int)<=i then some (i+n).toNat else none
noncomputable def atI{α:Type}(xs:List α)(i:Int):Option α:=(ixN xs.length i).bind fun j=>xs[j]?
theorem zY9(h:ixN n i=some j):seqIndex? i n=some j/\j<n/\ -(n:Int)<=i/\i<n:=by
 unfold ixN at h;by_cases h0:0<=i
 ·rw [if_pos h0] at h;by_cases h1:i<n
  ·rw [if_pos h1] at h;have e:i.toNat=j:=Option.some.inj h;exact⟨by rw[seqIndex_of h0 h1,e],by omega,by omega,h1⟩
  ·rw[if_neg h1]at h;cases h
 ·rw [if_neg h0] at h;by_cases h1: -(n:Int)<=i
  ·rw [if_pos h1] at h;have e:(i+n).toNat =j:=Option.some.inj h;exact⟨by rw[seqIndex_neg (by omega) h1,e],by omega,h1,by omega⟩
  ·rw[if_neg h1]at h;cases h
theorem vZv{xs:List α}{v:α}(h:atI xs i=some v):∃j,seqIndex? i xs.length=some j/\xs[j]?=some v/\j<xs.length/\ -(xs.length:Int)<=i/\i<xs.length:=by
 unfold atI at h;cases e:ixN xs.length i with
 |none=>rw[e]at h;cases h
 | some j=>
   rw[e]at h;obtain⟨h1,h2,h3,h4⟩:=zY9 e;exact⟨j,h1,h,h2,h3,h4⟩
theorem qJg{xs:List α}{v:α}(h:xs[j]?=some v):atI xs (j:Int)=some v:=by
 have hj:j<xs.length:=(aU.mp h).1;have e:ixN xs.length (j:Int)=some j:=by
  unfold ixN;rw[if_pos (by omega),if_pos (by omega)];simp
 unfold atI;rw[e];exact h
noncomputable def vZx(b:Expr):Prop:=∀o i,subscripted b false o i=operate [o,i] (getItem o i)
noncomputable def IxR(X:Cx)(r:R2):Prop:=
 ∀(value slice:Expr) (pins:List (aV×Obj)) (s:aY) (σ:St) (H:Hp) (x y:V) (v u:Value) (Q:VK),Inv X pins σ H s->RelV x v->RelV y u->r x y H Q->
  subscripted slice false v u=operate [v,u] (getItem v u)->aO (model X.prog X.w) X.A (subscriptTail value slice v u) (EP X pins σ Q) X.xe s
noncomputable def MtR(X:Cx)(id:String)(r:V->List V->Hp->VK->Prop):Prop:=
 ∀(pins:List (aV×Obj)) (s:aY) (σ:St) (H:Hp) (x:V) (xs:List V) (v:Value) (us:List Value) (Q:VK),Inv X pins σ H s->RelV x v->Vals xs us->r x xs H Q->
  aO (model X.prog X.w) X.A (call (.builtin id) (v::us)) (EP X pins σ Q) X.xe s
section
variable{X:Cx}{a b:Expr}{ta tb:TE}{pos:Pos}
theorem IxR.or{r r' :R2}(h:IxR X r)(h' :IxR X r'):IxR X (fun x y H Q=>r x y H Q\/r' x y H Q):=by
 intro value slice pins s σ H x y v u Q I rx ry q hs;rcases q with q|q
 ·exact h value slice pins s σ H x y v u Q I rx ry q hs
 ·exact h' value slice pins s σ H x y v u Q I rx ry q hs
theorem jJ1{r:R2}(hr:IxR X r)(ha:PE X a ta)(hb:PE X b tb)(hs:vZx b):PE X (.Subscript a b pos) (tOp r ta tb):=by
 intro pins s σ H Q I h;exact Subscript_ (binT ha hb I h fun v u s2 x y H2 I2 rx ry q=>hr a b pins s2 σ H2 x y v u Q I2 rx ry q (hs _ _))
noncomputable def rIxL(K:aQ):R2:=fun x y H Q=>∃p xs i v,x=.ref p/\y=.int i/\SqL K H p xs/\atI xs i=some v/\Q v H
noncomputable def rIxT(K:aQ):R2:=fun x y H Q=>∃p xs i v,x=.ref p/\y=.int i/\SqT K H p xs/\atI xs i=some v/\Q v H
noncomputable def rIxS:R2:=fun x y H Q=>∃z i c,x=.str z/\y=.int i/\z.length<=aT/\atI z.cps.toList i=some c/\Q (.str ⟨#[c]⟩) H
theorem zY7:IxR X (rIxL X.K):=by
 intro value slice pins s σ H x y v u Q I rx ry h hs;obtain⟨p,xs,i,z,rfl,rfl,hq,he,q⟩:=h;cases rx;obtain⟨t,rfl⟩:=ry;obtain⟨its,r,pl,hz⟩:=I.list hq;obtain⟨j,h1,h2,h3,h4,h5⟩:=vZv he;obtain⟨w,ew,rw'⟩:=r.get h2;have hl:=r.length;have hn:=qKm;have fin:EP X pins σ Q w s:=⟨z,H,I,rw',q⟩
 by_cases h0:0<=i
 ·have hj:i.toNat=j:=by
   rw[seqIndex_of h0 h5]at h1;exact Option.some.inj h1
  exact item_listR pl.isList h0 (by omega) (by rw[hj];simpa using ew) fin hs
 ·have hj:(i+(its.toArray.size:Int)).toNat =j:=by
   rw[seqIndex_neg (by omega) h4]at h1;rw[bJ,←hl];exact Option.some.inj h1
  exact subscriptTail_builtinR (x:=w) pl.isList.typeIs slot_list_getitem.lookup
   (wpAny_getItem_list_neg (Q:=fun r s' =>r=w/\EP X pins σ Q r s') pl.isList (by omega) (by rw[bJ] <;> omega) (by omega) (by rw[hj];simpa using ew) ⟨rfl,fin⟩) hs
theorem jZv:IxR X (rIxT X.K):=by
 intro value slice pins s σ H x y v u Q I rx ry h hs;obtain⟨p,xs,i,z,rfl,rfl,hq,he,q⟩:=h;cases rx;obtain⟨t,rfl⟩:=ry;obtain⟨its,r,pl,hz⟩:=I.tuple hq;obtain⟨j,h1,h2,h3,h4,h5⟩:=vZv he;obtain⟨w,ew,rw'⟩:=r.get h2;have hl:=r.length;have hn:=qKm;have fin:EP X pins σ Q w s:=⟨z,H,I,rw',q⟩
 exact subscriptTail_builtinR (x:=w) pl.typeIs slot_tuple_getitem.lookup
  (getItem_tuple (j:=j) (Q:=fun r s' =>r=w/\EP X pins σ Q r s') pl (by omega) (by omega) (by rw[bJ,←hl];exact h1) (by simpa using ew) ⟨rfl,fin⟩) hs
theorem jZw:IxR X rIxS:=by
 intro value slice pins s σ H x y v u Q I rx ry h hs;obtain⟨z,i,c,rfl,rfl,hz,he,q⟩:=h;obtain⟨t,rfl⟩:=rx;obtain⟨t',rfl⟩:=ry;obtain⟨j,h1,h2,h3,h4,h5⟩:=vZv he;have hl:z.cps.toList.length=z.length:=by simp[Str.length]
 rw[hl]at h1 h4 h5;have hn:=qKm;exact tail_any (dA s z t) slot_str_getitem.lookup (getItem_str (c:=c) (by
  have e1:decide (i < -(2 ^ 63:Int))=false:=decide_eq_false (by omega);have e2:decide (i≥2 ^ 63)=false:=decide_eq_false (by omega);rw[e1,e2,Bool.or_false]) (by rw[h1];simpa using h2) ⟨.str ⟨#[c]⟩,H,I.tok _,⟨_,rfl⟩,q⟩) hs
noncomputable def rIx(K:aQ):R2:=fun x y H Q=>rIxL K x y H Q\/rIxT K x y H Q\/rIxS x y H Q
theorem jZx:IxR X (rIx X.K):=zY7.or (jZv.or jZw)
theorem vZz(lo hi:Option Int)(n:Nat):(sliceBounds lo hi none n).1=((HT.sIx n 0 lo:Nat):Int)/\(sliceBounds lo hi none n).2.1=((HT.sIx n n hi:Nat):Int)/\(sliceBounds lo hi none n).2.2=1:=by
 refine⟨?_,?_,rfl⟩
 ·cases lo with
  |none=>simp[sliceBounds,HT.sIx]
  | some i=>
    simp only[sliceBounds,HT.sIx,Option.getD_none,show(1:Int) > 0 by decide,if_true];by_cases h:i<0
    ·simp only[h,if_true] <;> omega
    ·simp only[h,if_false] <;> omega
 ·cases hi with
  |none=>simp[sliceBounds,HT.sIx]
  | some i=>
    simp only[sliceBounds,HT.sIx,Option.getD_none,show(1:Int) > 0 by decide,if_true];by_cases h:i<0
    ·simp only[h,if_true] <;> omega
    ·simp only[h,if_false] <;> omega
theorem vQz(its:List Value)(lo hi:Option Int):slicePick its.toArray lo hi none=((its.drop (HT.sIx its.length 0 lo)).take (HT.sIx its.length its.length hi - HT.sIx its.length 0 lo)).toArray :=by
 obtain⟨h1,h2,h3⟩:=vZz lo hi its.toArray.size;unfold slicePick;rw[h1,h2,h3];simp only[sliceRange_one,pick_run] <;> rfl
noncomputable def rSlL(K:aQ):V->Option Int->Option Int->Hp->VK->Prop:=fun x lo hi H Q=>∃a xs,x=.ref a/\SqL K H a xs/\∀p,H p=none->Q (.ref p) (upd H p (.lst (cutV xs lo hi)))
theorem zXr:SlR X (rSlL X.K):=by
 intro pins s σ H x v vl vu lo hi sl Q I rx hs pl pu h;obtain⟨a,xs,rfl,hx,q⟩:=h;cases rx;obtain⟨its,r,ht,hz⟩:=I.list hx;have hlen:=r.length;refine⟨"list",_,slot_list_getitem.lookup,ht.isList.typeIs,?_⟩;refine wpAny_getItem_list_slice ht.isList hs pl pu .none (by simp) ?_ (by rw[bJ] <;> omega)
 rw[vQz,←hlen];refine⟨.ref s.heap.objs.size,_,I.laid (t' :=s.toks) (o:=.lst (cutV xs lo hi)) (fun b ob q=>aK _ q) (aD _) ?_,rfl,q _ (I.hok.fresh (aD _))⟩;exact⟨aM (vW3 xs lo hi) hz,_,0,(r.drop (HT.sIx xs.length 0 lo)).take (HT.sIx xs.length xs.length hi - HT.sIx xs.length 0 lo),aN _ rfl⟩
noncomputable def qJr:V->Bool
 |.non =>true
 |.bl _=>true
 |.int _=>true
 |.str _=>true
 |_=>false
noncomputable def eqV:V->V->Bool
 |.non,.non =>true
 |.bl a,.bl b=>a == b
 |.bl a,.int b=>(if a then 1 else 0) == b
 |.int a,.bl b=>a == (if b then 1 else 0)
 |.int a,.int b=>a == b
 |.str a,.str b=>a == b
 |_,_=>false
theorem jJa{x:V}(ry:RelV y u)(rx:RelV x v)(fy:qJr y=true)(fx:qJr x=true):SeqAt.EqAt A s u v (eqV y x):=by
 cases y with
 | non=>
   cases ry;cases x with
   |non=>cases rx;exact SeqAt.EqAt.same _
   |bl b=>cases rx;exact SeqAt.EqAt.none_bool b
   |int b=>obtain⟨t,rfl⟩:=rx;exact SeqAt.EqAt.none_int b t
   |str b=>obtain⟨t,rfl⟩:=rx;exact SeqAt.EqAt.none_str b t
   |_=>exact absurd (show false=true from fx) aR
 | bl a=>
   cases ry;cases x with
   |non=>cases rx;exact SeqAt.EqAt.bool_none a
   |bl b=>cases rx;exact SeqAt.EqAt.bool_bool a b
   |int b=>obtain⟨t,rfl⟩:=rx;exact SeqAt.EqAt.bool_int a b t
   |str b=>obtain⟨t,rfl⟩:=rx;exact SeqAt.EqAt.bool_str a b t
   |_=>exact absurd (show false=true from fx) aR
 | int a=>
   obtain⟨t',rfl⟩:=ry;cases x with
   |non=>cases rx;exact SeqAt.EqAt.int_none a t'
   |bl b=>cases rx;exact SeqAt.EqAt.int_bool a t' b
   |int b=>obtain⟨t,rfl⟩:=rx;exact SeqAt.EqAt.int_int a t' b t
   |str b=>obtain⟨t,rfl⟩:=rx;exact SeqAt.EqAt.int_str a t' b t
   |_=>exact absurd (show false=true from fx) aR
 | str a=>
   obtain⟨t',rfl⟩:=ry;cases x with
   |non=>cases rx;exact SeqAt.EqAt.str_none a t'
   |bl b=>cases rx;exact SeqAt.EqAt.str_bool a t' b
   |int b=>obtain⟨t,rfl⟩:=rx;exact SeqAt.EqAt.str_int a t' b t
   |str b=>obtain⟨t,rfl⟩:=rx;exact SeqAt.EqAt.str_str a t' b t
   |_=>exact absurd (show false=true from fx) aR
 |_=>exact absurd (show false=true from fy) aR
noncomputable def eqU(x:V)(u:Value):Bool:=match u with
 |.none =>eqV .non x
 |.bool b=>eqV (.bl b) x
 |.int i _=>eqV (.int i) x
 |.str z _=>eqV (.str z) x
 |_=>false
theorem zJd{x:V}(r:RelV y u)(f:qJr y=true):eqU x u=eqV y x:=by
 cases y with
 |non=>cases r;rfl
 |bl b=>cases r;rfl
 |int i=>obtain⟨t,rfl⟩:=r;rfl
 |str z=>obtain⟨t,rfl⟩:=r;rfl
 |_=>exact absurd (show false=true from f) aR
theorem qW1{x:V}:∀{xs:List V} {us:List Value},Vals xs us->xs.all qJr=true->us.any (eqU x)=xs.any fun y=>eqV y x
 |_,_,.nil,_=>rfl
 | y::xs,u::us, .cons r t,f=>by
   rw[List.all_cons,aF]at f;rw[List.any_cons,List.any_cons,zJd r f.1,qW1 t f.2]
theorem qZk{x:V}(rx:RelV x v)(fx:qJr x=true):∀{xs:List V} {us:List Value},Vals xs us->xs.all qJr=true->∀u∈us,SeqAt.EqAt A s u v (eqU x u)
 |_,_,.nil,_=>fun u hu=>by cases hu
 | y::xs,u::us, .cons r t,f=>fun u' hu=>by
   rw[List.all_cons,aF]at f;rcases bV.mp hu with rfl|hu
   ·rw[zJd r f.1];exact jJa r rx f.1 fx
   ·exact qZk rx fx t f.2 u' hu
noncomputable def inV(x:V)(xs:List V):Bool:=xs.any fun y=>eqV y x
noncomputable def rIn(K:aQ)(neg:Bool):R2:=fun x y H Q=>∃p xs,y=.ref p/\(SqL K H p xs\/SqT K H p xs)/\qJr x=true/\xs.all qJr=true/\Q (.bl (if neg then !inV x xs else inV x xs)) H
theorem zQx:OpR X (bL .In) (rIn X.K false):=by
 intro pins s σ H x y v u Q I rx ry h;obtain⟨p,xs,rfl,hq,fx,fs,q⟩:=h;cases ry;rcases hq with hq|hq
 ·obtain⟨its,r,pl,hz⟩:=I.list hq;refine SeqAt.in_listAt (eqU x) pl.isList (fun w hw=>qZk rx fx r fs w (by simpa using hw)) ⟨.bl _,H,I,rfl,?_⟩;rw[show its.toArray.any (eqU x)=its.any (eqU x) by simp,qW1 r fs];exact q
 ·obtain⟨its,r,pl,hz⟩:=I.tuple hq;refine SeqAt.in_tupleAt (eqU x) pl (fun w hw=>qZk rx fx r fs w (by simpa using hw)) ⟨.bl _,H,I,rfl,?_⟩;rw[show its.toArray.any (eqU x)=its.any (eqU x) by simp,qW1 r fs];exact q
theorem vZ3:OpR X (bL .NotIn) (rIn X.K true):=by
 intro pins s σ H x y v u Q I rx ry h;obtain⟨p,xs,rfl,hq,fx,fs,q⟩:=h;cases ry;rcases hq with hq|hq
 ·obtain⟨its,r,pl,hz⟩:=I.list hq;refine SeqAt.notIn_listAt (eqU x) pl.isList (fun w hw=>qZk rx fx r fs w (by simpa using hw)) ⟨.bl _,H,I,rfl,?_⟩;rw[show its.toArray.any (eqU x)=its.any (eqU x) by simp,qW1 r fs];exact q
 ·obtain⟨its,r,pl,hz⟩:=I.tuple hq;refine SeqAt.notIn_tupleAt (eqU x) pl (fun w hw=>qZk rx fx r fs w (by simpa using hw)) ⟨.bl _,H,I,rfl,?_⟩;rw[show its.toArray.any (eqU x)=its.any (eqU x) by simp,qW1 r fs];exact q
theorem vJb:jW X (.builtin "len") (fun xs H Q=>∃p ys,xs=[.ref p]/\(SqL X.K H p ys\/SqT X.K H p ys)/\Q (.int ys.length) H):=by
 intro pins s σ H xs us Q I r h;obtain⟨p,ys,rfl,hq,q⟩:=h;obtain⟨u,rfl,rx⟩:=xS r;cases rx;have hn:=qKm;rcases hq with hq|hq
 ·obtain⟨its,r',pl,hz⟩:=I.list hq;have hlen:=r'.length;exact Calls.call_len_list pl.isList (by simp only[bJ] <;> omega) ⟨.int ys.length,H,I.tok _,⟨s.toks+1,by rw[bJ,hlen]⟩,q⟩
 ·obtain⟨its,r',pl,hz⟩:=I.tuple hq;have hlen:=r'.length;exact len_tuple pl (by simp only[bJ] <;> omega) ⟨.int ys.length,H,I.tok _,⟨s.toks+1,by rw[bJ,hlen]⟩,q⟩
theorem vJa:jW X (.builtin "len") (fun xs H Q=>∃z,xs=[.str z]/\z.length<=aT/\Q (.int z.length) H):=by
 intro pins s σ H xs us Q I r h;obtain⟨z,rfl,hz,q⟩:=h;obtain⟨u,rfl,t,rfl⟩:=xS r;have hn:=qKm;exact len_str (by omega) ⟨.int z.length,H,I.tok _,⟨_,rfl⟩,q⟩
theorem jW.or{f:Value}{r r' :List V->Hp->VK->Prop}(h:jW X f r)(h' :jW X f r'):jW X f (fun xs H Q=>r xs H Q\/r' xs H Q):=by
 intro pins s σ H xs us Q I rs q;rcases q with q|q
 ·exact h pins s σ H xs us Q I rs q
 ·exact h' pins s σ H xs us Q I rs q
theorem vZ9:jW X (.type "list") (fun xs H Q=>∃p ys,xs=[.ref p]/\(SqL X.K H p ys\/SqT X.K H p ys)/\∀l,H l=none->Q (.ref l) (upd H l (.lst ys))):=by
 intro pins s σ H xs us Q I r h;obtain⟨p,ys,rfl,hq,q⟩:=h;obtain⟨u,rfl,rx⟩:=xS r;cases rx
 have fin:∀(its:List Value),Vals ys its->ys.length<=aT->∀(h' :Heap) (c' :Nat),(∀b o',s.heap.get? b=some o' ->h'.get? b=some o')->
   h'.get? s.heap.objs.size=some {cls:=.type "list",dict:=none,data:=.seq its.toArray c',slots:=#[]}->EP X pins σ Q (.ref s.heap.objs.size) {s with heap:=h' }:=fun its r' hz h' c' kp e=>
  ⟨.ref s.heap.objs.size,_,I.laid (t' :=s.toks) kp (aD _) (show vO X.prog X.w _ h' _ (.lst ys) from⟨hz,its,c',r',e⟩),rfl,q _ (I.hok.fresh (aD _))⟩
 rcases hq with hq|hq
 ·obtain⟨its,r',pl,hz⟩:=I.list hq;have hlen:=r'.length;obtain⟨o,ho,hc,n,hd⟩:=pl.isList;exact call_list_seq p (.inl rfl) ho hc hd (fun h' c' kp e=>fin its r' hz h' c' kp e) (by simp only[bJ] <;> omega)
 ·obtain⟨its,r',pl,hz⟩:=I.tuple hq;have hlen:=r'.length;obtain⟨o,ho,hc,n,hd⟩:=pl;exact call_list_seq p (.inr rfl) ho hc hd (fun h' c' kp e=>fin its r' hz h' c' kp e) (by simp only[bJ] <;> omega)
theorem vQ4:jW X (.type "tuple") (fun xs H Q=>∃p ys,xs=[.ref p]/\((SqL X.K H p ys/\∀l,H l=none->Q (.ref l) (upd H l (.tup ys)))\/(SqT X.K H p ys/\Q (.ref p) H))):=by
 intro pins s σ H xs us Q I r h;obtain⟨p,ys,rfl,h⟩:=h;obtain⟨u,rfl,rx⟩:=xS r;cases rx;rcases h with⟨hq,q⟩|⟨hq,q⟩
 ·obtain⟨its,r',pl,hz⟩:=I.list hq;have hlen:=r'.length;refine call_tuple_list pl.isList (fun h' kp=>?_) (by simp only[bJ] <;> omega);have I1:Inv X pins σ H {s with heap:=h' }:=I.kept (t' :=s.toks) kp;have I2:Inv X pins σ (upd H h'.objs.size (.tup ys)) {s with heap:=h'.push {cls:=.type "tuple",data:=.seq its.toArray}}:=
   I1.laid (t' :=s.toks) (fun b o e=>aK _ e) (aD _) (show vO X.prog X.w _ _ _ (.tup ys) from⟨hz,its,r',IsTup.new _ _⟩)
  exact⟨.ref h'.objs.size,_,I2,rfl,q _ (I1.hok.fresh (aD _))⟩
 ·obtain⟨its,r',pl,hz⟩:=I.tuple hq;exact call_tuple_same pl ⟨.ref p,H,I,rfl,q⟩
noncomputable def tyV(K:aQ)(T:String)(x:V)(H:Hp):Prop:=match x with
 |.str _=>T="str"
 |.int _=>T="int"
 | .ref p=>(T="list"/\∃xs,SqL K H p xs)\/(T="tuple"/\∃o,K.lookup p=some o/\o.cls= .type "tuple"/\o.dict=none)\/
   (T="dict"/\((∃kvs,H p=some (.dK kvs))\/∃kvs,H p=some (.dT kvs)))\/(T="set"/\∃S n,H p=some (.set S n))
 |_=>False
theorem zZe{pins:List (aV×Obj)}{σ:St}{H:Hp}{T:String}{x:V}(I:Inv X pins σ H s)(r:RelV x v)(ty:tyV X.K T x H):
  s.TypeIs v T/\∀a,v=.ref a->∃ob,s.heap.get? a=some ob/\ob.dict=none:=by
 cases x with
 | str z=>
   obtain⟨t,rfl⟩:=r;cases(show T="str" from ty);exact⟨dA s z t,fun _ e=>nomatch e⟩
 | int i=>
   obtain⟨t,rfl⟩:=r;cases(show T="int" from ty);exact⟨typeIs_int s i t,fun _ e=>nomatch e⟩
 | ref p=>
   cases r;rcases ty with⟨rfl,xs,hq⟩|⟨rfl,o,hk,hc,hd⟩|⟨rfl,hk⟩|⟨rfl,S,n,hk⟩
   ·obtain⟨its,_,pl,_⟩:=I.list hq;refine⟨pl.isList.typeIs,fun a e=>?_⟩;cases e;obtain⟨o,n,e,c,hd,_⟩:=pl;exact⟨o,e,hd⟩
   ·refine⟨⟨o,I.kIn p o hk,hc⟩,fun a e=>?_⟩;cases e;exact⟨o,I.kIn _ o hk,hd⟩
   ·have z:∃o,s.heap.get? p=some o/\o.ExactDict:=by
     rcases hk with⟨kvs,hk⟩|⟨kvs,hk⟩
     ·obtain⟨_,_,_,_,o,_,_,e,ex,_⟩:=I.hok p _ hk;exact⟨o,e,ex⟩
     ·obtain⟨_,_,_,_,o,_,_,e,ex,_⟩:=I.hok p _ hk;exact⟨o,e,ex⟩
    obtain⟨o,e,ex⟩:=z;refine⟨⟨o,e,ex.1⟩,fun a e2=>?_⟩;cases e2;exact⟨o,e,ex.2.1⟩
   ·obtain⟨o,_,_,_,e,ex,_⟩:=I.hok p _ hk;refine⟨⟨o,e,ex.1⟩,fun a e2=>?_⟩;cases e2;exact⟨o,e,ex.2.1⟩
 |_=>exact False.elim ty
noncomputable def tBM0(K:aQ)(T:String)(r:V->List V->Hp->VK->Prop)(to:TE):TE:=fun σ H Q=>to σ H fun x H1=>tyV K T x H1/\r x [] H1 Q
noncomputable def tBM(K:aQ)(T:String)(r:V->List V->Hp->VK->Prop)(to:TE)(t:TA):TE:=fun σ H Q=>to σ H fun x H1=>tyV K T x H1/\t σ H1 fun xs H2=>r x xs H2 Q
variable{o e:Expr}{es:List Expr}{to:TE}{t:TA}{name:Str}{apos cpos:Pos}{T id:String}{r:V->List V->Hp->VK->Prop}
theorem jV5(pa:PlainAttrs T)(slot:Slot T name id)(hty:typeOf (.builtin id)=pure (.type "method_descriptor"))(hm:MtR X id r)(ho:PE X o to)(hbase:attributeBase o name X.env (eval o X.env)=eval o X.env:=by rfl)(hline:(apos.endLine == cpos.line)=true:=by rfl):PE X (.Call (.Attribute o name apos) [] [] cpos) (tBM0 X.K T r to):=by
 intro pins s σ H Q I h;refine wpAny_Call_method0_late hbase hline (thn (ho pins s σ H _ I h) fun v s1 ⟨x,H1,I1,r1,ty,q1⟩=>?_);obtain⟨h1,h2⟩:=zZe I1 r1 ty;exact⟨T,id,pa,slot,hty,h1,h2,Calls.callWith_builtin rfl (PySem.evalArgs_none (hm pins s1 σ H1 x [] v [] Q I1 r1 .nil q1))⟩
theorem vYq(pa:PlainAttrs T)(slot:Slot T name id)(hty:typeOf (.builtin id)=pure (.type "method_descriptor"))(hm:MtR X id r)(ho:PE X o to)(ha:PA X (e::es) t)(hbase:attributeBase o name X.env (eval o X.env)=eval o X.env:=by rfl)(hfew:((cX cpos (aX (e::es) X.env)).all (fun x=>!x.1) && (backToKw cpos (keywordEach [] X.env)).all (fun x=>x.1.isSome)
   && decide ((e::es).length+([]:List Keyword).length+(if([]:List Keyword).isEmpty then 0 else 1)<30))=true:=by rfl)(hline:(apos.endLine == cpos.line)=true:=by rfl)(hs:aX (e::es) X.env=(false,eval e X.env)::aX es X.env:=by rfl)(hplain:(cX cpos (aX es X.env)).any (·.1)=false:=by rfl):
  PE X (.Call (.Attribute o name apos) (e::es) [] cpos) (tBM X.K T r to t):=by
 intro pins s σ H Q I h;refine wpAny_Call_method_late hbase hfew hline rfl (thn (ho pins s σ H _ I h) fun v s1 ⟨x,H1,I1,r1,ty,q1⟩=>?_);obtain⟨h1,h2⟩:=zZe I1 r1 ty;refine⟨T,id,pa,slot,hty,h1,h2,?_⟩;have hA:=ha cpos pins s1 σ H1 _ I1 q1;rw[hs]at hA⊢;refine Calls.callWith_builtin (by show(false || (cX cpos (aX es X.env)).any (·.1))=false;rw[hplain] <;> rfl) (Calls.evalArgs_plain ?_);exact thn hA fun us s2 ⟨vs,H2,I2,r2,q2⟩=>hm pins s2 σ H2 x vs v us Q I2 r1 r2 q2
end
noncomputable def MtM(X:Cx)(id:String)(r:V->List V->Hp->VK->Prop):Prop:=
 ∀(pins:List (aV×Obj)) (s:aY) (σ:St) (H:Hp) (x:V) (xs:List V) (v:Value) (us:List Value) (Q:VK),Inv X pins σ H s->RelV x v->Vals xs us->r x xs H Q->
  aO (model X.prog X.w) X.A (call (.builtin id) (v::us)) (EP X pins σ Q) X.xe s
theorem Vals.one:∀{x:V} {us:List Value},Vals [x] us->∃u,us=[u]/\RelV x u
 |_,_,.cons r .nil =>⟨_,rfl,r⟩
theorem Vals.zero:∀{us:List Value},Vals [] us->us=[]
 |_,.nil =>rfl
theorem Vals.dropLast{xs:List V}{us:List Value}(h:Vals xs us):Vals xs.dropLast us.dropLast:=by
 induction h with
 |nil=>exact .nil
 | cons r t ih=>
   cases t with
   |nil=>exact .nil
   |cons q t' =>exact .cons r ih
theorem vYa(l:List α):l.eraseIdx (l.length - 1)=l.dropLast:=by
 induction l with
 |nil=>rfl
 | cons a r ih=>
   cases r with
   |nil=>rfl
   | cons b r=>
     have e:(a::b::r).length - 1=((b::r).length - 1)+1:=by
      have h1:(a::b::r).length =r.length+2:=rfl;have h2:(b::r).length =r.length+1:=rfl;omega
     rw[e,List.eraseIdx_cons_succ,ih];all_goals rfl
section
variable{X:Cx}{pins:List (aV×Obj)}{σ:St}{H:Hp}{s:aY}{l b:aV}{xs ys zs:List V}
theorem Inv.lset{its':List Value}{f:Array Value->Array Value}(I:Inv X pins σ H s)(hH:H l=some (.lst xs))(e:s.heap.get? l=some {cls:=.type "list",data:=.seq its.toArray n})(hf:f its.toArray=its'.toArray)(hv:Vals ys its')(hz:ys.length<=aT):
  Inv X pins σ (upd H l (.lst ys)) {s with heap:=s.heap.update l (Obj.mapSeq f),toks:=t' }:=by
 have q:=PySem.IsL.update e f;rw[hf]at q;refine I.write (x:=l) (e:=l) (by rw[hH];exact trivial) (.inl rfl) (fun b' u hb hu=>(Heap.get?_update_other s.heap (Obj.mapSeq f) (Ne.symm hb)).trans hu) ⟨_,q⟩ ?_
 exact⟨hz,its',_,hv,q⟩
theorem Inv.lnew(I:Inv X pins σ H s)(hv:Vals ys its)(hz:ys.length<=aT):
  Inv X pins σ (upd H s.heap.objs.size (.lst ys)) {s with heap:=s.heap.push {cls:=.type "list",data:=.seq its.toArray},toks:=t' }:=
 I.laid (fun _ _ q=>aK _ q) (aD _) ⟨hz,its,0,hv,aN _ rfl⟩
theorem Inv.fresh(I:Inv X pins σ H s):H s.heap.objs.size=none:=I.hok.fresh (aD _)
theorem Inv.lstM(I:Inv X pins σ H s)(hH:H l=some (.lst xs)):xs.length<=aT/\∃(its:List Value) (n:Nat),Vals xs its/\xs.length=its.length/\s.heap.get? l=some {cls:=.type "list",data:=.seq its.toArray n}:=by
 obtain⟨z,its,n,r,e⟩:=I.hok l _ hH;exact⟨z,its,n,r,r.length,e⟩
end
section
variable{X:Cx}
noncomputable def rAppend:V->List V->Hp->VK->Prop:=fun x vs H Q=>∃l xs y,x=.ref l/\vs=[y]/\H l=some (.lst xs)/\xs.length<aT/\Q .non (upd H l (.lst (xs ++ [y])))
theorem vVo:MtM X "list.append" rAppend:=by
 intro pins s σ H x vs v us Q I rx rv h;obtain⟨l,xs,y,rfl,rfl,hH,hz,q⟩:=h;cases rx;obtain⟨u,rfl,ru⟩:=rv.one;obtain⟨z,its,n,r,hl,e⟩:=I.lstM hH;refine call_meets F.slot_list_append ⟨_,e,rfl⟩ F.entry_list_append (F.args_list_append_2 _ _) (PySem.list_append l its.toArray n u (by rw[bJ];omega)) ⟨e,?_⟩;refine⟨.non,_,I.lset (its' :=its ++ [u]) hH e (by simp) (r.append (.cons ru .nil)) ?_,rfl,q⟩;rw[aJ,List.length_singleton];omega
noncomputable def rPop:V->List V->Hp->VK->Prop:=fun x vs H Q=>∃l xs y,x=.ref l/\vs=[]/\H l=some (.lst xs)/\xs[xs.length - 1]?=some y/\Q y (upd H l (.lst xs.dropLast))
theorem jZl:MtM X "list.pop" rPop:=by
 intro pins s σ H x vs v us Q I rx rv h;obtain⟨l,xs,y,rfl,rfl,hH,hy,q⟩:=h;cases rx;have hus:=rv.zero;subst hus;obtain⟨z,its,n,r,hl,e⟩:=I.lstM hH;obtain⟨u,hu,ru⟩:=r.get hy;have hy' :its.toArray[its.toArray.size - 1]?=some u:=by
  show its.toArray[its.length - 1]?=some u;rw[←Array.getElem?_toList,←hl];exact hu
 refine call_meets F.slot_list_pop ⟨_,e,rfl⟩ F.entry_list_pop (F.args_list_pop_1 _) (MeetsSeq.list_pop_last l its.toArray n u hy' (by rw[bJ];omega)) ⟨e,?_⟩;refine⟨y,_,I.lset (its' :=its.dropLast) hH e ?_ r.dropLast ?_,ru,q⟩
 ·show its.toArray.eraseIdxIfInBounds (its.toArray.size - 1)=its.dropLast.toArray;rw[bJ,List.eraseIdxIfInBounds_toArray,vYa]
 ·rw [List.length_dropLast];omega
end
end L2
namespace Att
open PySem PySem.W PySem.Calls PyProof.Rows
variable{P:Params}{h:Heap}{l:OpenLaw}{n:Nat}
theorem qYv:∀(ns:List Int) (vs:List Value),WellAll P h vs (ns.map WData.int)->IntsAre vs ns:=by
 intro ns;induction ns with
 | nil=>
   intro vs w;cases w;exact .nil
 | cons n ns ih=>
   intro vs w;cases w with
   | cons a b=>
     cases a;exact .cons _ _ (ih _ b)
theorem zQm(hn:l.most=some n){args:List WData}{vals:List Value}(hpre:l.row.toRowW.claim.pre args=true)(hwl:WellAll P h vals args):
  ∃a vs ns,vals=[Value.ref a]/\args=[WData.list (ns.map WData.int)]/\h.get? a=some {cls:=.type "list",data:=.seq vs.toArray}/\IntsAre vs ns/\ns.length<=n:=by
 have hsh:WShape.hasAll [] args [.list .int]=true:=(pre_splitW hpre).1;have hc:l.pre.holds [] {args:=args}=true:=(pre_splitW hpre).2;obtain⟨d,r,rfl,h1,h2⟩:=hasAllW_cons hsh;obtain rfl:=hasAllW_nil h2;obtain⟨xs,rfl,h3⟩:=hasW_list h1;obtain⟨ns,rfl⟩:=items_int h3;have hlen:ns.length<=n:=by
  have h4:(WTm.not (.lt (.lit (.int (n:Int))) (.len (.arg 0)))).holds [] {args:=[.list (ns.map .int)]}=true:=by
   have h4:=(holds_andW hc).1;grind
  have h5:=condW_of h4 (w_not (w_lt w_lit (w_len_list (w_arg rfl))));grind
 cases hwl with
 | cons w1 w2=>
   cases w2;cases w1 with
   |list ho hall=>exact⟨_,_,ns,rfl,rfl,ho,qYv ns _ hall,hlen⟩
theorem zQt(l:OpenLaw)(args:List WData):l.row.toRowW.claim.post args (.bool true) args=true:=
 postW_of (r:=l.row.toRowW) (X:=(true == true))
  (show WShape.has [] (.bool true) .bool =true by first|rfl|decide|simp[WShape.has,WShape.arms,WShape.armsAll])
  (show(WTm.eq .res (.lit (.bool true))).value [] {args:=args,res:=some (.bool true),after:=args}=some (.bool (true == true)) from w_eq_bool (w_res rfl) w_lit) rfl
theorem vW5{q:bQ}{loose:List Str}{XP:(Str->Option Value)->Heap->Prop}{YP:bK->Heap->Prop}{d:DefRec}(hn:l.most=some n)(hdf:d.params.defaults=[])(call:∀(w:bK) (s₀ s₁:aY) (mg mb:Str->Option Value) (fa:aV) (o:Obj) (pm cd doc:Value) (a:aV) (vs:List Value) (ns:List Int),
   Ground q loose [] XP w s₀ mg mb s₁.heap->YP w s₁.heap->
   s₁.heap.get? fa=some o->o.data=.func (docDef d.name d.params d.body d.scope pm cd doc)->s₁.heap.CodeRec cd d.name->mg d.name=some (.ref fa)->
   s₁.heap.get? a=some {cls:=.type "list",data:=.seq vs.toArray}->IntsAre vs ns->ns.length<=n->s₁.gens=#[]->
   codeAny (model l.prog w) callerA (.call (.ref fa) ⟨[.ref a],[]⟩) (fun r s' =>r=.ok (.ret (.bool true))/\OldK s₁.heap s'.heap/\s'.os=s₁.os/\AllBare s'.gens) s₁):
  WalkO q loose XP YP l.row.toRowW d [] (fun f vs=>PySem.call f vs):=by
 intro w s₀ s₁ mg mb G Y fa o pm cd doc dV kV ho hd hcd hD hmg hg args vals as hpre hlay hrd hwl hlo
 obtain rfl:dV=.none :=Dflts.none hD hdf
 obtain rfl:kV=.none :=Dflts.noKw hD
 obtain⟨a,vs,ns,rfl,rfl,hobj,hints,hlen⟩:=zQm hn hpre hwl
 refine enter_call (codeAny_mono (call w s₀ s₁ mg mb fa o pm cd doc a vs ns G Y ho (fd_plain hd) hcd hmg hobj hints hlen hg) fun r s' hq=>?_)
 obtain⟨rfl,h2,h3,h4⟩:=hq
 exact⟨.inl ⟨.bool true,.bool true,[],rfl,fun _=>rfl,.bool true,zQt l _,fun _=>⟨List.Pairwise.nil,fun _ hm=>(nomatch hm)⟩⟩,h2,h3,h4⟩
end Att
namespace L2
open PySem PySem.Spec PyProof.Rows
variable{P:bQ}{w:bK}{K:aQ}{mg:Str->Option Value}{k n t' i:Nat}{a f p C:aV}{fd:aH}{qual:Str}{ps:List Str}{oc doc pm cdv ct:Value}{od an:Option aV}{osl:Array (Option Value)}{A:cC}{pos:Pos}{H H1 H2:Hp}{h:Heap}{s:aY}{pins:List (aV×Obj)}{σ:St}{fp ch:List aV}{E:Value->aY->Prop}
theorem vVf:∀{vs:List Value} {ns:List Int},IntsAre vs ns->Vals (ns.map V.int) vs
 |_,_,.nil =>.nil
 |_,_,.cons n t h=>.cons ⟨t,rfl⟩ (vVf h)
noncomputable def Only(H:Hp):Prop:=∀b,H b=none\/∃o xs,H b=some (.frz o (.lst xs))
theorem zWl{mb:Str->Option Value}{CX:CXT}{fa:aV}{x:Str}{sp:Sp}{s₁:aY}{vs:List Value}{ns:List Int}(KX:K.In s₁.heap)(hns:s₁.heap.Ns cE mg)(hb:s₁.heap.Ns builtinsNs mb)(hbb:∀x:Str,x≠"__name__"->mb x=cM x)(hlim:s₁.heap.NoLimit)(hg:s₁.gens=#[])(ha:s₁.heap.get? a=some {cls:=.type "list",data:=.seq vs.toArray})(hi:IntsAre vs ns)(hl:ns.length<=aT)(hr:Room k callerA)(F:∀base:Heap,K.In base->base.Ns cE mg->FnOk P w K mg base CX k fa fd [x] sp)(hbind:∀(s:aY) (u:Value),BindsTo s fd ⟨[u],[]⟩ [(x,u)])(hsp:∀H:Hp,Only H->SqL K H a (ns.map V.int)->sp [.ref a] H (fun v _=>v=.bl true) fun _ _ _=>False)(hCX:∀H e s',CX [] H s₁ (fun _ _ _=>False) e s' ->False):
  codeAny (model P w) callerA (.call (.ref fa) ⟨[.ref a],[]⟩) (fun r s' =>r=.ok (.ret (.bool true))/\OldK s₁.heap s'.heap/\s'.os=s₁.os/\AllBare s'.gens) s₁:=by
 have rv:=vVf hi;have lenV:=hi.length
 have core:∀H:Hp,Only H->SqL K H a (ns.map V.int)->HOk P w H s₁.heap->(∀b,H b≠none->b=a)->(H a≠none->K.lookup a=none)->
   codeAny (model P w) callerA (.call (.ref fa) ⟨[.ref a],[]⟩) (fun r s' =>r=.ok (.ret (.bool true))/\OldK s₁.heap s'.heap/\s'.os=s₁.os/\AllBare s'.gens) s₁:=by
  intro H hO hS hok hA hK;have base_of:∀{b:aV} {o:Obj},s₁.heap.get? b=some o->H b=none->(hidT s₁.heap H).get? b=some o:=fun e n=>zWu e n
  have noA:∀{b:aV} {o:Obj} {es:Array DictEntry} {ep:Nat},s₁.heap.get? b=some o->o.data=.dict es ep->H b=none:=fun {b o es ep} e d=>by
   cases q:H b with
   |none=>rfl
   | some u=>
     have e' :b=a:=hA b (by rw[q];simp);subst e';rw[ha]at e;cases e;have d' :Data.seq vs.toArray _=Data.dict es ep:=d;cases d'
  have nsK:∀{b:aV} {m:Str->Option Value},s₁.heap.Ns b m->(hidT s₁.heap H).Ns b m:=fun {b m} ⟨o,es,ep,e,d,r⟩=>⟨o,es,ep,base_of e (noA e d),d,r⟩
  have hKb:K.In (hidT s₁.heap H):=fun b o e=>base_of (KX b o e) (by
   cases q:H b with
   |none=>rfl
   | some u=>
     have e' :b=a:=hA b (by rw[q];simp);subst e';rw[hK (by rw[q];simp)]at e;cases e)
  have hM:Mod K mg (hidT s₁.heap H):=⟨hKb,nsK hns,⟨mb,nsK hb,hbb⟩,let ⟨mc,h1,h2⟩:=hlim;⟨mc,nsK h1,h2⟩⟩
  have e0:Env0 P w K mg (hidT s₁.heap H) callerA [] s₁ H:=⟨rfl,hM,fun b o e=>zYw e,Nat.le_of_eq (zQ8 _ _),trivial,fun b hb=>absurd (show b∈([]:List aV) from hb) (by simp),hok,.of_eq hg⟩
  refine codeAny_mono ((F _ hKb (nsK hns)).run callerA [] s₁ H ⟨[.ref a],[]⟩ [.ref a] [.ref a] _ _ hr e0 (hbind s₁ (.ref a)) (.cons rfl .nil) (hsp H hO hS)) fun r s' h=>?_
  cases r with
  |error e=>exact(hCX H e s' h).elim
  | ok fl=>
    cases fl with
    |next=>exact False.elim h
    |brk=>exact False.elim h
    |cont=>exact False.elim h
    | ret u=>
      obtain⟨v,H',os,bare,un,hok',r',q⟩:=h;have q' :v=.bl true:=q;subst q';obtain rfl:u=Value.bool true:=r';refine⟨rfl,OldK.of_keep fun b o e=>?_,os,bare⟩;cases q:H b with
      |none=>exact un.keep b o e q (by intro z;exact absurd (show b∈([]:List aV) from z) (by simp)) (by simp)
      | some u=>
        rcases hO b with z|⟨ob,xs,z⟩
        ·rw[q]at z;cases z
        ·have z2:=un.frzs b ob _ z;obtain⟨e1,_⟩:=hok b _ z;obtain⟨e2,_⟩:=hok' b _ z2;rw[e]at e1;cases e1;exact e2
 cases hk:K.lookup a with
 | some o=>
   have e:=KX a o hk;rw[ha]at e;cases e;refine core (fun _=>none) (fun _=>.inl rfl) (.inr ⟨_,vs.toArray,_,hk,rfl,rfl,rfl,by rw[bJ,lenV];exact hl,by simpa using rv⟩) (fun b u z=>by have z' :(none:Option HO)=some u:=z;cases z') (fun b z=>absurd rfl z) fun z=>absurd rfl z
 | none=>
   refine core (fun b=>if b=a then some (.frz {cls:=.type "list",data:=.seq vs.toArray} (.lst (ns.map V.int))) else none) (fun b=>?_) (.inl (.inr ⟨{cls:=.type "list",data:=.seq vs.toArray},if_pos rfl⟩)) (fun b u z=>?_) (fun b z=>?_) fun _=>hk
   ·by_cases hb:b=a
    ·exact .inr ⟨_,_,if_pos hb⟩
    ·exact .inl (if_neg hb)
   ·by_cases hb:b=a
    ·have z' :=(if_pos hb).symm.trans z;cases z';subst hb;exact⟨ha,by rw[aP];exact hl,vs,_,rv,ha⟩
    ·have z' :=(if_neg hb).symm.trans z;cases z'
   ·by_cases hb:b=a
    ·exact hb
    ·exact absurd (if_neg hb) z
theorem zXj{l:PySem.W.OpenLaw}{q:bQ}{loose:List Str}{XP:(Str->Option Value)->Heap->Prop}{YP:bK->Heap->Prop}{d:DefRec}{K:Params->aQ}{CX:bK->CXT}{sp:bK->Sp}{x:Str}(hn:l.most=some n)(hn2:n<=aT)(hdf:d.params.defaults=[])(hr:Room k callerA)(hY:∀(w:bK) (h:Heap),YP w h->(K w.params).In h)(F:∀(w:bK) (mg:Str->Option Value) (fa:aV) (h:Heap),(K w.params).In h->h.Ns cE mg->mg d.name=some (.ref fa)->
   ∃fd:aH,(∀(s:aY) (u:Value),BindsTo s fd ⟨[u],[]⟩ [(x,u)])/\
    ∀base:Heap,(K w.params).In base->base.Ns cE mg->FnOk l.prog w (K w.params) mg base (CX w) k fa fd [x] (sp w))(hsp:∀(w:bK) (H:Hp) (a:aV) (ns:List Int),ns.length<=n->Only H->SqL (K w.params) H a (ns.map V.int)->sp w [.ref a] H (fun v _=>v=.bl true) fun _ _ _=>False)(hCX:∀(w:bK) (H:Hp) (s:aY) (e:Value) (s' :aY),CX w [] H s (fun _ _ _=>False) e s' ->False):
  PySem.W.WalkO q loose XP YP l.row.toRowW d [] (fun f vs=>PySem.call f vs):=by
 refine Att.vW5 hn hdf fun w s₀ s₁ mg mb fa o pm cd doc a vs ns G Y ho hd hcd hmg hobj hints hlen hg=>?_
 have KX:=hY w _ Y;obtain⟨fd,hb,hF⟩:=F w mg fa _ KX G.T.g hmg;exact zWl KX G.T.g G.T.b G.T.builtins G.T.nolimit hg hobj hints (aM hlen hn2) hr hF hb (fun H hO hS=>hsp w H a ns hlen hO hS) fun H e s' =>hCX w H s₁ e s'
noncomputable abbrev E0:XK:=fun _ _ _=>False
structure Fun(K:aQ)(x qual:Str)(st:Stmt)(f:aV)(fd:aH):Prop where
 ex:∃(oc:Value) (od:Option aV) (kV doc pm:Value) (an:Option aV) (cdv ct:Value) (osl:Array (Option Value)),
  fd=cY x qual (jI st) (jQ st) (qY st) .none kV doc pm an cdv ct/\K.lookup f=some ⟨oc,od,.func fd,osl⟩/\PySem.W.codeIn K cdv qual=true
 kp:cV K (.ref f)=true
section
variable{P:bQ}{w:bK}{K:aQ}{mg:Str->Option Value}{base:Heap}
theorem Fun.binds{x:Str}{st:Stmt}(F:Fun K x qual st f fd)(h:∀(kV doc pm:Value) (an:Option aV) (cdv ct:Value) (us:List Value),us.length=ps.length->bindArgs (cY x qual (jI st) (jQ st) (qY st) .none kV doc pm an cdv ct) ⟨us,[]⟩=pure (ps.zip us)):wV K fd ps []:=by
 obtain⟨oc,od,kV,doc,pm,an,cdv,ct,osl,rfl,lk,hcd⟩:=F.ex;exact .all (h kV doc pm an cdv ct)
theorem vZd{x:Str}{st:Stmt}{kV:Value}(l:K.lookup f=some ⟨oc,od,.func (cY x qual (jI st) (jQ st) (qY st) .none kV doc pm an cdv ct),osl⟩)(c:PySem.W.codeIn K cdv qual=true)(k:cV K (.ref f)=true):Fun K x qual st f (cY x qual (jI st) (jQ st) (qY st) .none kV doc pm an cdv ct):=⟨⟨oc,od,kV,doc,pm,an,cdv,ct,osl,rfl,l,c⟩,k⟩
end
theorem zZa(hr:Room k A):A.units+1<cLine:=Nat.lt_of_le_of_lt (Nat.add_le_add_left (by decide:1<=64) _) hr.units
theorem zQk(h:n<=1000):n<aT:=Nat.lt_of_le_of_lt h (by decide)
section
variable{X:Cx}
theorem pv(i:Nat){x:Str}(hN:X.N[i]?=some x:=by rfl)(hv:Vis X.env.scope x:=by first|exact Or.inl rfl|exact Or.inr (Or.inl rfl)|exact Or.inr (Or.inr rfl))(hd:(x == ("__debug__":Str))=false:=by decide)(hcd:(x == ("__classdict__":Str))=false:=by decide):PE X (.Name x pos) (tVar i):=jVy hN hv hd hcd
end
noncomputable def Same(H H' :Hp):Prop:=∀b o,H b=some o->H' b=some o
theorem Same.refl(H:Hp):Same H H:=fun _ _ h=>h
theorem Same.trans(a:Same H H1)(b:Same H1 H2):Same H H2:=fun c o h=>b c o (a c o h)
structure FnAt(K:aQ)(mg:Str->Option Value)(x:Str)(st:Stmt)(ps:List Str)(f:aV)(fd:aH):Prop where
 F:Fun K x x st f fd
 b:wV K fd ps []
 m:mg x=some (.ref f)
theorem Same.upd{o:HO}(h:H p=Option.none):Same H (upd H p o):=fun b u e=>by
 rw[qL (vE e h)];exact e
theorem Same.tup{H':Hp}{xs:List V}(e:Same H H')(h:SqT K H a xs):SqT K H' a xs:=by
 rcases h with(h|⟨o,h⟩)|h
 ·exact .inl (.inl (e _ _ h))
 ·exact .inl (.inr ⟨o,e _ _ h⟩)
 ·exact .inr h
theorem zZf:(2:Nat)<=aT:=by decide
theorem zKm{x:Str}{st:Stmt}{kV:Value}(X:K.In h)(G:h.Ns cE mg)(a:PySem.W.nsIn K cE x=some (some (.ref f)))(l:K.lookup f=some ⟨oc,od,.func (cY x x (jI st) (jQ st) (qY st) .none kV doc pm an cdv ct),osl⟩)(c:PySem.W.codeIn K cdv x=true)(k:cV K (.ref f)=true)(b:∀(kV doc pm:Value) (an:Option aV) (cdv ct:Value) (us:List Value),us.length=ps.length->bindArgs (cY x x (jI st) (jQ st) (qY st) .none kV doc pm an cdv ct) ⟨us,[]⟩=pure (ps.zip us)):
  FnAt K mg x st ps f (cY x x (jI st) (jQ st) (qY st) .none kV doc pm an cdv ct):=
 ⟨vZd l c k,(vZd l c k).binds b,PySem.W.mg_of X G a⟩
section
variable{X:Cx}
theorem zYu:OpR X (binaryOp .Mult) (rI IntMulOk fun i j=>.int (i * j)):=opI fun _ _ _ _ _ _ _ hc q=>mul_int q hc
noncomputable def qJt(_ j:Int):Prop:=0<j/\j.natAbs.log2<9000
theorem zWa:OpR X (binaryOp .FloorDiv) (rI qJt fun i j=>.int (i / j)):=opI fun i j _ _ _ _ _ hc q=>by
 have h0:(0:Int)<j:=hc.1;refine floordiv_int (by omega) ?_ (.inl (PyProof.noPylong_of_log2 hc.2))
 rw[Int.fdiv_eq_ediv_of_nonneg _ (Int.le_of_lt h0)];exact q
noncomputable def rIsi(K:aQ):List V->Hp->VK->Prop:=fun xs H Q=>∃x n t b,xs=[x,.ty n]/\TyOf K H x t/\bW K t (.type n)=some b/\Q (.bl b) H
theorem zXc:jW X (.builtin "isinstance") (rIsi X.K):=by
 intro pins s σ H xs us Q I r h;obtain⟨x,n,t,b,rfl,ty,e,q⟩:=h;obtain⟨u,w',rfl,r1,r2⟩:=vJd r;cases(show w' =Value.type n from r2);exact zQ5 I r1 ty e fun tk=>⟨.bl b,H,I.tok tk,rfl,q⟩
end
noncomputable def cCx(X:Cx)(scope:Scope)(cl:List (Str×aV))(C:aV)(Nc:List Str)(s:aY)(H:Hp)(fp:List aV):Cx where
 prog:=X.prog;w:=X.w;K:=X.K;mg:=X.mg;base:=X.base;A:=X.A;N:=Nc;s₀:=s;H₀:=H;env:=compEnvC scope cl C X.env;outer:=X.stack;stack:=X.stack;ex:=fp;fn:=fun _=>false
 calm:=X.calm;pn:=[]
 xe:=fun _ _=>False
noncomputable def PTs(X:Cx)(ifs:List Expr)(t:TT):Prop:=
 ∀(pins:List (aV×Obj)) (s:aY) (σ:St) (H:Hp) (Q:Bool->Hp->Prop),Inv X pins σ H s->t σ H Q->
  aO (model X.prog X.w) X.A (forIn ifs true fun c r=>if r=true then do let ok ←isTrue c X.env (eval c X.env);pure (ForInStep.yield ok) else pure (ForInStep.yield r)) (TP X pins σ Q) X.xe s
noncomputable def tTrue:TT:=fun _ H Q=>Q true H
theorem zX3{X:Cx}:PTs X [] tTrue:=fun _ _ _ H _ I h=>wpAny_tests_nil ⟨H,I,h⟩
theorem vYi{prog:bQ}{R:Result->aY->Prop}{elt target iter:Expr}{ifs:List Expr}{scope:Scope}{it acc:Value}{env:Env}(I:Nat->aY->Prop)(turn:∀n s,I n s->aO (model prog w) A (pyNext it) (fun r s₁=>match r with
   |none=>R (.ok .next) s₁
   | some v=>aO (model prog w) A (letOwnedTupleGo target it v) (fun _ s₂=>aO (model prog w) A (assign target env v) (fun _ s₃=>
     aO (model prog w) A (forIn ifs true fun c r=>if r=true then do let ok ←isTrue c env (eval c env);pure (ForInStep.yield ok) else pure (ForInStep.yield r)) (fun ok s₄=>
      if ok=true then aO (model prog w) A (eval elt env) (fun x s₅=>
       aO (model prog w) A (call (.builtin "list.append") [acc,x]) (fun _ s₆=>∃m,m<n/\I m s₆) (fun _ _=>False) s₅) (fun _ _=>False) s₄
      else∃m,m<n/\I m s₄) (fun _ _=>False) s₃) (fun _ _=>False) s₂) (fun _ _=>False) s₁) (fun _ _=>False) s)(n:Nat)(h:I n s):
  codeAny (model prog w) A (.compLoop (.ListComp elt [⟨target,iter,ifs,0⟩] scope pos) 0 it acc env) R s:=by
 refine codeAny_loop rfl I (fun n s hI=>?_) n h;refine wpAny_noted ?_
 refine aZ (wpAny_standAt (aZ (bS (turn n s hI) (fun r s₁ h₁=>?_) fun _ _ h' =>h'.elim)));cases r with
 |none=>exact aL h₁
 | some v=>
   refine aZ (bS h₁ (fun _ s₂ h₂=>aZ (bS h₂ (fun _ s₃ h₃=>aZ (bS h₃ (fun ok s₄ h₄=>?_) fun _ _ h' =>h'.elim)) fun _ _ h' =>h'.elim)) fun _ _ h' =>h'.elim);cases ok with
   |false=>exact aL ⟨rfl,h₄⟩
   | true=>
     exact aZ (aZ (bS h₄ (fun x s₅ h₅=>aZ (bS h₅ (fun _ s₆ h₆=>aL (aL ⟨rfl,h₆⟩)) fun _ _ h' =>h'.elim)) fun _ _ h' =>h'.elim))
noncomputable def jQ0(J:It)(g:TG)(tt:TT)(te:TE)(σ0:St)(Q:VK)(D:aV)(H1:Hp):Prop:=
 ∃W:Nat->Nat->St->List V->Hp->Prop,(∃m,W 0 m σ0 [] H1)/\∀i m σ2 ys H2,W i m σ2 ys H2->H2 D=some (.lst ys)/\ys.length<aT/\
  ((J.stop i H2/\Q (.ref D) H2)\/(J.go i H2/\∀x H3,J.yld i H2 x H3->g x σ2 H3 fun σ4 H4=>tt σ4 H4 fun b H5=>
    if b=true then te σ4 H5 fun v H6=>H6 D=some (.lst ys)/\∃m',m'<m/\W (i+1) m' σ4 (ys ++ [v]) (upd H6 D (.lst (ys ++ [v])))
    else∃m',m'<m/\W (i+1) m' σ4 ys H5))
noncomputable def tComp(wi:TI)(g:TG)(tt:TT)(te:TE)(σc:St->St):TE:=fun σ H Q=>wi σ H fun J H1=>∀D,H1 D=none->jQ0 J g tt te (σc σ) Q D (upd H1 D (.lst []))
structure Caps(X:Cx)(scope:Scope)(cl:List (Str×aV))(Nc:List Str)(σc:St->St):Prop where
 clos:closureFor scope X.env=pure cl
 kind:scope.kind=.function
 nocell:∀y∈scope.names,y.2≠ .cell
 names:∀y∈scope.names,y.2=.local ->scope.names.lookup y.1=some .local
 cells:∀x c,cl.lookup x=some c->X.env.cells.lookup x=some c
 has:∀x,((relabel scope X.env).names.lookup x=some .cell \/(relabel scope X.env).names.lookup x=some .free)->∃c,cl.lookup x=some c
 len:∀σ,(σc σ).length =Nc.length
 cap:∀σ (i:Nat) x v,Nc[i]?=some x->(σc σ)[i]?=some (some v)->Vis (relabel scope X.env) x->
  ((relabel scope X.env).names.lookup x=some .cell \/(relabel scope X.env).names.lookup x=some .free)/\
  (X.env.kindOf x=some .cell \/X.env.kindOf x=some .free)/\∃j:Nat,X.N[j]?=some x/\σ[j]?=some (some v)/\Vis X.env.scope x
section
variable{X:Cx}{tg iter elt:Expr}{ifs:List Expr}{scope:Scope}{cl:List (Str×aV)}{Nc:List Str}{σc:St->St}{pos:Pos}{wi:TI}{g:TG}{tt:TT}{te:TE}
theorem zJf(I:Inv X pins σ H s)(c:Caps X scope cl Nc σc)(hC:s.heap.objs.size<=C)(hf:∀b∈fp,FpOk X pins H b)(hlt:∀b∈fp,b<s.heap.objs.size):
  (cCx X scope cl C Nc s H fp).Ok where
 mod:=I.ok.mod;kind:=c.kind;glob:=I.ok.glob;blt:=I.ok.blt;above:=hC;inj:=fun x y a h1 h2=>I.ok.inj x y a (c.cells x a h1) (c.cells y a h2)
 has:=c.has;cab:=fun _ _ h _=>absurd (show false=true from h) aR
 hd:=I.ok.hd;frames:=I.ok.frames;stk:=.inl rfl;exf:=fun b hb=>⟨fun z=>absurd (aE (hlt b hb) hC) (by
    have z' :b=C:=z;rw[z'];exact cD _),fun x a h z=>(hf b hb).2.2.2.2.1 x a (c.cells x a h) z⟩
 bs:=I.bs;bsz:=aM I.ok.bsz I.sz;noex:=fun b o e hb=>by
  rcases(hf b hb).2.2.2.1 with z|z
  ·exact I.ok.noex b o e z
  ·exact absurd (aE (aC e) (aM I.ok.bsz z)) (cD _)
 exfs:=fun b hb z=>by
  rcases bV.mp (I.stkSub b z) with q|q
  ·exact(hf b hb).2.1 q
  ·exact(hf b hb).2.2.1 q
 funs:=I.stack;frf:=I.stkFree
theorem zK2{h' :Heap}{m:Str->Option Value}(I:Inv X pins σ H s)(c:Caps X scope cl Nc σc)(hC:s.heap.objs.size<=C)(hf:∀b∈fp,FpOk X pins H b)(hlt:∀b∈fp,b<s.heap.objs.size)(hk:∀b o,s.heap.get? b=some o->h'.get? b=some o)(hn:h'.Ns C m):
  Inv (cCx X scope cl C Nc s H fp) [] (σc σ) H {s with heap:=h',toks:=t' }:=by
 refine⟨zJf I c hC hf hlt,rfl,I.bare,Un.kept hk,⟨m,hn,fun i x v e1 e2 e3=>?_⟩,fun x a h=>?_,I.hok.fresh hC,fun x a h=>I.freeC x a (c.cells x a h),fun p hp=>absurd (show p∈([]:List (aV×Obj)) from hp) (by simp),I.hok.kept hk,c.len σ⟩
 ·obtain⟨k1,k2,j,n1,n2,n3⟩:=c.cap σ i x v e1 e2 e3;obtain⟨m0,_,hl⟩:=I.loc;obtain⟨u,ru,lk⟩:=hl j x v n1 n2 n3;refine⟨u,ru,.inr ⟨k1,?_⟩⟩;rcases lk with⟨z,_⟩|⟨_,a,ha,hcell⟩
  ·rcases k2 with k2|k2 <;> rw[k2]at z <;> cases z
  ·obtain⟨a',ha'⟩:=c.has x k1;have e:=c.cells x a' ha';rw[ha]at e;cases e;obtain⟨o,ho,hd⟩:=hcell;exact⟨a,ha',⟨o,hk _ _ ho,hd⟩⟩
 ·obtain⟨v,o,ho,hd⟩:=I.cell x a (c.cells x a h);exact⟨v,o,hk _ _ ho,hd⟩
theorem vQq{Q:VK}{J:It}{it:aV}{tn:Nat->Heap->Prop}{RR:Value->aV->Result->aY->Prop}(hc:X.calm=true)(c:Caps X scope cl Nc σc)(hg:∀C s H fp,PG (cCx X scope cl C Nc s H fp) tg g)(ht:∀C s H fp,PTs (cCx X scope cl C Nc s H fp) ifs tt)(he:∀C s H fp,PE (cCx X scope cl C Nc s H fp) elt te)(I:Inv X pins σ H s)(T:Turn X.prog X.w X.K tg J fp it tn)(st:tn 0 s.heap)(hf:∀b∈fp,FpOk X pins H b)(h:∀D,H D=none->jQ0 J g tt te (σc σ) Q D (upd H D (.lst [])))(hRR:∀D C H' s' m,Inv X pins σ H' s' ->H' C=none->s.heap.objs.size<=C->s'.heap.Ns C m->Q (.ref D) H' ->RR (.ref D) C (.ok .next) s'):
  aO (model X.prog X.w) X.A (newList []) (fun acc s₃=>aO (model X.prog X.w) X.A (newFunctionEnv scope X.env.globals cl [] X.env.qual none .none (some X.env)) (fun cenv s₄=>
   codeAny (model X.prog X.w) X.A (.compStart (.ListComp elt [⟨tg,iter,ifs,0⟩] scope pos) 0 (.ref it) acc {cenv with scope:=relabel scope X.env}) (RR acc cenv.locals) s₄) E s₃) E s:=by
 have fit:∀b∈fp,b<s.heap.objs.size:=fun b hb=>by
  obtain⟨o,e,_⟩:=T.obj _ _ st b hb;exact aC e
 obtain⟨W,⟨m0,w0⟩,turn⟩:=h s.heap.objs.size (I.hok.fresh (aD _));refine wpAny_newObj_type (wpAny_newFunctionEnv c.nocell (by intro y hy;simp at hy) (fun h₁ hns₁ hsb₁=>?_) c.kind);dsimp only at hns₁ hsb₁⊢;have I1:Inv X pins σ (upd H s.heap.objs.size (.lst [])) {s with heap:=s.heap.push {cls:=.type "list",dict:=none,data:=.seq ([]:List Value).toArray }}:=
  I.laid (t' :=s.toks) (fun b u e=>aK _ e) (aD _) ⟨dW _,[],0,.nil,aN _ rfl⟩
 generalize hH2:s.heap.push {cls:=.type "list",dict:=none,data:=.seq ([]:List Value).toArray }=G at hns₁ hsb₁ I1⊢;have hG:G.objs.size=s.heap.objs.size+1:=by rw[←hH2,cI]
 have old:∀b o,G.get? b=some o->h₁.get? b=some o:=fun b o e=>hsb₁.extBut b o (bY (aC e)) (aK _ e)
 have hf1:∀b∈fp,FpOk X pins (upd H s.heap.objs.size (.lst [])) b:=fun b hb=>
  ⟨by rw[qL (bY (fit b hb))];exact(hf b hb).1,(hf b hb).2⟩
 have hlt1:∀b∈fp,b<G.objs.size:=fun b hb=>aE (fit b hb) (by rw[hG];exact Nat.le_succ _)
 have I2:=zK2 (C:=G.objs.size) (t' :=s.toks+([]:List (Str×Value)).length) I1 c (aD _) hf1 hlt1 old hns₁;have st1:tn 0 h₁:=T.keep _ _ _ st fun b hb o e=>old b o (by rw[←hH2];exact aK _ e)
 have fpB:∀{H' :Hp},(∀b∈fp,H' b=none)->∀b∈fp,FpOk (cCx X scope cl G.objs.size Nc {s with heap:=G} (upd H s.heap.objs.size (.lst [])) fp) [] H' b:=fun {H'} hn b hb=>by
  have ok:=zJf (C:=G.objs.size) I1 c (aD _) hf1 hlt1;obtain⟨e1,e2⟩:=ok.exf b hb;exact⟨hn b hb,e1,ok.exfs b hb,.inl hb,e2,fun p hp=>absurd (show p∈([]:List (aV×Obj)) from hp) (by simp)⟩
 have loop:∀s₃:aY,s₃={s with heap:=h₁,toks:=s.toks+([]:List (Str×Value)).length }->
   codeAny (model X.prog X.w) X.A (.compLoop (.ListComp elt [⟨tg,iter,ifs,0⟩] scope pos) 0 (.ref it) (.ref s.heap.objs.size) (compEnvC scope cl G.objs.size X.env))
    (RR (.ref s.heap.objs.size) G.objs.size) s₃:=by
  rintro s₃ rfl
  refine vYi (fun n s' =>∃i σ' ys H',Inv (cCx X scope cl G.objs.size Nc {s with heap:=G} (upd H s.heap.objs.size (.lst [])) fp) [] σ' H' s' /\tn i s'.heap/\(∀b∈fp,H' b=none)/\W i n σ' ys H') ?_ m0
   ⟨0,σc σ,[],_,I2,st1,fun b hb=>(hf1 b hb).1,w0⟩
  rintro n s5 ⟨i,σ5,ys,H5,I5,st5,fr5,w5⟩;obtain⟨hD,hsz,alt⟩:=turn i n σ5 ys H5 w5;rcases alt with⟨stop,q⟩|⟨go,step⟩
  ·refine thn (T.done (cCx X scope cl G.objs.size Nc {s with heap:=G} (upd H s.heap.objs.size (.lst [])) fp) rfl rfl rfl hc i [] s5 σ5 H5 _ I5 (fpB fr5) st5 stop) fun r s6 ⟨hr,I6⟩=>?_
   subst hr;obtain⟨m6,n6,_⟩:=I6.loc;have I7:Inv X pins σ H5 s6:=I1.call' I6.os I6.base I6.hok I6.bare fun b hb=>⟨(hf1 b hb).2.2.2.1,(hf1 b hb).2.1,(hf1 b hb).2.2.2.2.1,(hf1 b hb).2.2.2.2.2⟩
   exact hRR _ _ H5 s6 m6 I7 I6.free (by rw[hG];exact Nat.le_succ _) n6 q
  ·refine thn (T.item (cCx X scope cl G.objs.size Nc {s with heap:=G} (upd H s.heap.objs.size (.lst [])) fp) rfl rfl rfl hc i [] s5 σ5 H5 _ I5 (fpB fr5) st5 go) fun r s6 ⟨u,hr,h6⟩=>?_
   subst hr;refine thn h6 fun _ s7 ⟨x,H7,I7,r7,y7,st7,fr7⟩=>?_
   have I7' :=I7.pinned (fpB fr7) (T.obj _ _ st7);refine thn (hg _ _ _ _ _ s7 σ5 H7 x u _ I7' r7 (step x H7 y7)) fun _ s8 ⟨σ8,H8,I8,q8⟩=>?_
   refine thn (ht _ _ _ _ _ s8 σ8 H8 _ I8 q8) fun ok s9 ⟨H9,I9,q9⟩=>?_
   have again:∀{σ' :St} {H' :Hp} {s' :aY} {ys' :List V} {m' :Nat},Inv (cCx X scope cl G.objs.size Nc {s with heap:=G} (upd H s.heap.objs.size (.lst [])) fp) ([] ++ qKh fp s7.heap) σ' H' s' ->m'<n->W (i+1) m' σ' ys' H' ->
     ∃m,m<n/\∃i σ' ys H',Inv (cCx X scope cl G.objs.size Nc {s with heap:=G} (upd H s.heap.objs.size (.lst [])) fp) [] σ' H' s' /\tn i s'.heap/\(∀b∈fp,H' b=none)/\W i m σ' ys H' :=fun {σ' H' s' ys' m'} J7 hm hw=>by
    refine⟨m',hm,i+1,σ',ys',H',J7.unpinned,T.keep _ _ _ st7 fun b hb o e=>(J7.pin (b,o) (bF _ (bF _ (qVm hb e)))).1,fun b hb=>?_,hw⟩;obtain⟨o,e,d⟩:=T.obj _ _ st7 b hb;exact(J7.pin (b,o) (bF _ (bF _ (qVm hb e)))).2.1
   cases ok with
   | false=>
     rw[if_neg aR]at q9⊢;obtain⟨m',hm,hw⟩:=q9;exact again I9 hm hw
   | true=>
     rw[if_pos rfl]at q9⊢;refine thn (he _ _ _ _ _ s9 σ8 H9 _ I9 q9) fun v s10 ⟨y,H10,I10,r10,hD10,m',hm,hw⟩=>?_
     refine thn (vVo _ s10 σ8 H10 (.ref s.heap.objs.size) [y] (.ref s.heap.objs.size) [v] (fun _ H' =>H' =upd H10 s.heap.objs.size (.lst (ys ++ [y]))) I10 rfl (.cons r10 .nil) ⟨_,ys,y,rfl,rfl,hD10,hsz,rfl⟩) fun _ s11 ⟨z,H11,I11,_,e11⟩=>?_
     subst e11;exact again I11 hm hw
 exact codeAny_compStart_list (loop _ rfl) (T.self _ 0 _ _ _ st1 (loop _ rfl))
theorem zYp(hc:X.calm=true)(c:Caps X scope cl Nc σc)(hi:PI X tg iter wi)(hg:∀C s H fp,PG (cCx X scope cl C Nc s H fp) tg g)(ht:∀C s H fp,PTs (cCx X scope cl C Nc s H fp) ifs tt)(he:∀C s H fp,PE (cCx X scope cl C Nc s H fp) elt te)(hs:∀x,foldedSetIterable iter X.env x=pure x:=by intro _;rfl):PE X (.ListComp elt [⟨tg,iter,ifs,0⟩] scope pos) (tComp wi g tt te σc):=by
 intro pins s σ H Q I h;rw[eval_ListComp];refine wpAny_comprehension_free (use:=none) rfl hs c.clos c.kind c.names (thn (hi pins s σ H _ I h) fun v s1 h1=>thn h1 fun itv s2 h2=>?_);obtain⟨it,fp,tn,J,H2,rfl,I2,T,st2,f2,W⟩:=h2;refine vQq (Q:=Q) hc c hg ht he I2 T st2 f2 W ?_
 intro D C H' s' m I' hC hCs hn q;refine⟨m,hn,fun h' sb=>⟨.ref D,H',?_,rfl,q⟩⟩;have nl:C≠X.env.locals:=dN (aE I2.lt hCs);refine I'.turned (t' :=s'.toks) (it:=C) (fun b o hb e=>sb.extBut b o hb e) hC nl (.inr (aM I2.sz hCs)) (fun x a e z=>?_) (fun p hp z=>?_)
 ·obtain⟨v,q⟩:=I2.cell x a e;exact absurd (aE q.lt hCs) (by rw[z];exact cD _)
 ·exact absurd (aE (aC (I2.pin p hp).1) hCs) (by rw[z];exact cD _)
theorem zX9{y:Str}{py spos:Pos}(hc:X.calm=true)(hN:X.N.Nodup)(hiy:X.N[i]?=some y)(hy:Loc X.env.scope y)(c:Caps X scope cl Nc σc)(hi:PI X tg iter wi)(hg:∀C s H fp,PG (cCx X scope cl C Nc s H fp) tg g)(ht:∀C s H fp,PTs (cCx X scope cl C Nc s H fp) ifs tt)(he:∀C s H fp,PE (cCx X scope cl C Nc s H fp) elt te)(hsw:swapsWith (.ListComp elt [⟨tg,iter,ifs,0⟩] scope pos) (some (.Name y py)) spos.line X.env=pure true:=by rfl)(hs:∀x,foldedSetIterable iter X.env x=pure x:=by intro _;rfl)(hf:X.fn y=true\/X.env.scope.names.lookup y=some .local :=by first|exact .inl rfl|exact .inr rfl|assumption):
  PS X (.Assign [.Name y py] (.ListComp elt [⟨tg,iter,ifs,0⟩] scope pos) spos) (tAsg (tComp wi g tt te σc) (vY0 i)):=by
 intro pins s σ H D I h;rw[exec_Assign_Name_used _ _ _ _ hsw];refine aZ (wpAny_standAt (aZ ?_));show aO _ X.A (do let _ ←comprehension (.ListComp elt [⟨tg,iter,ifs,0⟩] scope pos) scope X.env _ (newList []) false (eval iter X.env) (some (assign (.Name y py) X.env))) _ _ s
 refine aZ (bS (wpAny_comprehension_free (use:=some (assign (.Name y py) X.env)) (Q:=fun _ s' =>SP X pins D .next s') rfl hs c.clos c.kind c.names
  (thn (hi pins s σ H _ I h) fun v s1 h1=>thn h1 fun itv s2 h2=>?_)) (fun _ s' hq=>aL (aL hq)) fun _ _ e=>e)
 obtain⟨it,fp,tn,J,H2,rfl,I2,T,st2,f2,W⟩:=h2;refine vQq (Q:=fun v H' =>D.nx (σ.set i (some v)) H') hc c hg ht he I2 T st2 f2 W ?_
 intro L C H' s' m I' hC hCs hn q;have nl:C≠X.env.locals:=dN (aE I2.lt hCs);have nfs:C∉X.fs:=I2.nofs hCs;obtain⟨oC,es,ep,hoC,hdC,hrC⟩:=id hn;have ncell:∀v,oC.data≠ .cell v:=fun v z=>by rw[hdC]at z;cases z
 have I'' :Inv X (pins ++ [(C,oC)]) σ H' s' :=I'.pins_of fun p hp=>by
  rcases cF.mp hp with z|z
  ·exact I'.pin p (bF _ z)
  ·have e:p=(C,oC):=by simpa using z
   subst e;exact⟨hoC,hC,nl,nfs,ncell⟩
 show aO _ X.A (assign (.Name y py) X.env (.ref L)) _ _ _;refine wpAny_assign_Name (qQ5 I'' hN hiy hy (v:=.ref L) rfl (fun s3 I3=>?_) hf);have hn3:s3.heap.Ns C m:=⟨oC,es,ep,(I3.pin (C,oC) (by simp)).1,hdC,hrC⟩
 refine⟨m,hn3,fun h' sb=>⟨σ.set i (some (.ref L)),H',?_,q⟩⟩;refine I3.unpinned.turned (t' :=s3.toks) (it:=C) (fun b o hb e=>sb.extBut b o hb e) hC nl (.inr (aM I2.sz hCs)) (fun x a e z=>?_) (fun p hp z=>?_)
 ·obtain⟨v,q⟩:=I2.cell x a e;exact absurd (aE q.lt hCs) (by rw[z];exact cD _)
 ·exact absurd (aE (aC (I2.pin p hp).1) hCs) (by rw[z];exact cD _)
theorem jWs(hk:scope.kind=.function)(hfree:∀x∈scope.names,x.2≠ .free)(hcell:∀x∈scope.names,x.2≠ .cell)(hnames:∀y∈scope.names,y.2=.local ->scope.names.lookup y.1=some .local):
  Caps X scope [] Nc (fun _=>List.replicate Nc.length none) where
 clos:=closureFor_none hfree;kind:=hk;nocell:=hcell;names:=hnames;cells:=fun x c e=>by cases e
 has:=fun x h=>by
  have hm:(relabel scope X.env).names =scope.names:=by
   unfold relabel;refine map_eq_self fun y hy=>?_
   obtain⟨n,k⟩:=y;have:(k == NameKind.free)=false:=by simpa using hfree _ hy
   simp[this]
  rw[hm]at h;rcases h with h|h
  ·exact absurd rfl (hcell _ (dJ h))
  ·exact absurd rfl (hfree _ (dJ h))
 len:=fun _=>by simp
 cap:=fun σ i x v _ e _=>by
  rw[List.getElem?_replicate]at e;split at e <;> cases e
end
section
variable{X:Cx}{pins:List (aV×Obj)}{σ:St}{H:Hp}{s:aY}{h' :Heap}
theorem Inv.turnedLaid{o:HO}(I:Inv X pins σ H s)(k:∀b u,b∉ch->s.heap.get? b=some u->h'.get? b=some u)(hf:∀b∈ch,FpOk X pins H b)(hp:s.heap.objs.size<=p)(new:vO X.prog X.w (upd H p o) h' p o):Inv X pins σ (upd H p o) {s with heap:=h',toks:=t' }:=by
 have hn:=I.hok.fresh hp;have nch:∀b u,H b=some u->b∉ch:=fun b u e z=>by rw[(hf b z).1]at e;cases e
 refine I.call (g' :=s.gens) (d' :=s.drawn) (ch:=ch) ⟨fun b u e _ _ hc=>k b u hc e,fun b u e _ _ hc=>⟨u.slots,k b u hc e⟩,fun b u e n _=>?_,fun b u e hc=>⟨u,k b u hc e⟩,fun b xs e=>?_,fun b u xs e=>?_,fun b ps e=>?_⟩ (fun b u e=>?_) I.bare
  fun b hb=>⟨(hf b hb).2.2.2.1,(hf b hb).2.1,(hf b hb).2.2.2.2.1,(hf b hb).2.2.2.2.2⟩
 ·rw [qL (bY (aE (aC e) hp))];exact n
 ·rw [qL (vE e hn)];exact e
 ·rw [qL (vE e hn)];exact e
 ·exact⟨#[],by rw[qL (vE e hn),e];simp⟩
 ·by_cases hb:b=p
  ·subst hb;rw[upd_same]at e;cases e;exact new
  ·rw [qL hb] at e;refine(I.hok b u e).stay (fun c v hc q=>k c v ?_ q) (fun c q=>by rw[qL (vE q hn)];exact q) fun c xs q=>by rw[qL (vE q hn)];exact q
   rcases hc with z|z
   ·rw [z];exact nch b u e
   ·exact nch c _ z
theorem Inv.turnedAll(I:Inv X pins σ H s)(k:∀b u,b∉ch->s.heap.get? b=some u->h'.get? b=some u)(hf:∀b∈ch,FpOk X pins H b):Inv X pins σ H {s with heap:=h',toks:=t' }:=by
 have nch:∀b u,H b=some u->b∉ch:=fun b u e z=>by rw[(hf b z).1]at e;cases e
 refine I.call (g' :=s.gens) (d' :=s.drawn) (ch:=ch) ⟨fun b u e _ _ hc=>k b u hc e,fun b u e _ _ hc=>⟨u.slots,k b u hc e⟩,fun b u e n _=>n,fun b u e hc=>⟨u,k b u hc e⟩,fun b xs e=>e,fun b u xs e=>e,fun b ps e=>⟨#[],by rw[e];simp⟩⟩ (fun b u e=>?_) I.bare
  fun b hb=>⟨(hf b hb).2.2.2.1,(hf b hb).2.1,(hf b hb).2.2.2.2.1,(hf b hb).2.2.2.2.2⟩
 refine(I.hok b u e).stay (fun c v hc q=>k c v ?_ q) (fun c q=>q) fun c xs q=>q
 rcases hc with z|z
 ·rw [z];exact nch b u e
 ·exact nch c _ z
end
theorem vO.there{o:HO}(x:vO P w H h a o):∃ob,h.get? a=some ob:=by
 cases o with
 |lst xs=>obtain⟨_,_,_,_,e⟩:=x;exact⟨_,e⟩
 |tup xs=>obtain⟨_,_,_,_,e,_⟩:=x;exact⟨_,e⟩
 |dK kvs=>obtain⟨_,_,_,_,o,_,_,e,_⟩:=x;exact⟨_,e⟩
 |dT kvs=>obtain⟨_,_,_,_,o,_,_,e,_⟩:=x;exact⟨_,e⟩
 |set S n=>obtain⟨o,_,_,_,e,_⟩:=x;exact⟨_,e⟩
 |ins C dx fs=>obtain⟨_,_,_,e,_⟩:=x;exact⟨_,e⟩
 |own y=>exact x
 |xd fs=>obtain⟨_,⟨_,_,_,e,_⟩,_⟩:=x;exact⟨_,e⟩
 |rng lo hi=>obtain⟨_,_,_,e⟩:=x;exact⟨_,e⟩
 |frz ob u=>obtain⟨e,_⟩:=x;exact⟨_,e⟩
 |tbl ps=>exact⟨_,(show h.get? a=some _ from x)⟩
 |tab l c q=>obtain⟨_,e,_⟩:=x;exact⟨_,e⟩
 |met f y=>exact⟨_,(show h.get? a=some _ from x)⟩
 |ext φ=>obtain⟨_,e,_⟩:=x;exact e
theorem HOk.there{o:HO}(x:HOk P w H h)(e:H a=some o):∃ob,h.get? a=some ob:=(x a o e).there
theorem HOk.untracked(x:HOk P w H h)(e:h.get? a=none):H a=none:=by
 cases q:H a with
 |none=>rfl
 | some u=>
   obtain⟨ob,z⟩:=x.there q;grind
noncomputable abbrev Cx.marked(X:Cx)(ea:aV):Cx:={X with A:=X.A.mark (some (.ref ea)),calm:=false,xe:=fun _ _=>False}
section
variable{X:Cx}{pins:List (aV×Obj)}{σ:St}{H:Hp}{s:aY}{ea:aV}
theorem Inv.marked(I:Inv X pins σ H s)(ea:aV):Inv (X.marked ea) pins σ H s:=
 ⟨⟨I.ok.mod,I.ok.kind,I.ok.glob,I.ok.blt,I.ok.above,I.ok.inj,I.ok.has,I.ok.cab,fun h=>absurd (show false=true from h) aR,I.ok.frames,I.ok.stk,I.ok.exf,I.ok.bs,I.ok.bsz,I.ok.noex,I.ok.exfs,I.ok.funs,I.ok.frf⟩,
   I.os,I.bare,I.base,I.loc,I.cell,I.free,I.freeC,I.pin,I.hok,I.len⟩
theorem Inv.unmarked(I:Inv (X.marked ea) pins σ H s)(hd:X.calm=true->X.A.handled=none):Inv X pins σ H s:=
 ⟨⟨I.ok.mod,I.ok.kind,I.ok.glob,I.ok.blt,I.ok.above,I.ok.inj,I.ok.has,I.ok.cab,hd,I.ok.frames,I.ok.stk,I.ok.exf,I.ok.bs,I.ok.bsz,I.ok.noex,I.ok.exfs,I.ok.funs,I.ok.frf⟩,
   I.os,I.bare,I.base,I.loc,I.cell,I.free,I.freeC,I.pin,I.hok,I.len⟩
theorem Inv.adopt{o:HO}(I:Inv X pins σ H s)(hn:H p=none)(h0:X.s₀.heap.get? p=none)(hL:p≠X.env.locals)(hc:∀x c,X.env.cells.lookup x=some c->c≠p)(hp:∀q∈X.pn ++ pins,q.1≠p)(new:vO X.prog X.w (upd H p o) s.heap p o):Inv X pins σ (upd H p o) s:=by
 refine⟨I.ok,I.os,I.bare,⟨I.base.keep,I.base.slot,fun b u e n hx=>?_,I.base.there,fun b xs e=>?_,fun b u xs e=>?_,fun b ps e=>?_⟩,I.loc,I.cell,?_,fun x c e=>?_,fun q hq=>?_,fun b u e=>?_,I.len⟩
 ·rw [qL (fun z=>by rw [z,h0] at e;cases e)];exact I.base.free b u e n hx
 ·have z:=I.base.tups b xs e;rw[qL (vE z hn)];exact z
 ·have z:=I.base.frzs b u xs e;rw[qL (vE z hn)];exact z
 ·obtain⟨more,z⟩:=I.base.tbls b ps e;exact⟨more,by rw[qL (vE z hn)];exact z⟩
 ·rw [qL hL.symm];exact I.free
 ·rw [qL (hc x c e)];exact I.freeC x c e
 ·obtain⟨a1,a2,a3⟩:=I.pin q hq;exact⟨a1,by rw[qL (hp q hq)];exact a2,a3⟩
 ·by_cases hb:b=p
  ·subst hb;rw[upd_same]at e;cases e;exact new
  ·rw [qL hb] at e;exact(I.hok b u e).stay (fun c v _ q=>q) (fun c q=>by rw[qL (vE q hn)];exact q) fun c xs q=>by rw[qL (vE q hn)];exact q
theorem vVg{M:Model}{x:Str}{Q:Unit->aY->Prop}(I:Inv X pins σ H s)(hN:X.N.Nodup)(hi:X.N[i]?=some x)(hx:X.env.scope.names.lookup x=some .local)(h:∀s',Inv X pins (σ.set i none) H s' ->Q () s'):aO M A (do bindName X.env x .none;unbindBehindTheSuite X.env x pos) Q E s:=by
 refine aZ (wpAny_bindName (qQ5 I hN hi (Or.inl hx) (v:=.non) rfl (fun s1 I1=>?_) (.inr hx)));have hkind:(X.env.scope.kind ==.class || (X.env.scope.kind ==.module && X.env.locals != X.env.globals))=false:=by rw[I.ok.kind];rfl
 obtain⟨m,hn,hl⟩:=I1.loc;have hlen:i<(σ.set i (some V.non)).length :=by
  rw[I1.len];exact(aU.mp hi).1
 obtain⟨u,ru,lk⟩:=hl i x .non hi (by rw[cW]at hlen;simp[hlen]) (Or.inl hx);have hm:m x=some u:=by
  rcases lk with⟨_,z⟩|⟨z,_⟩
  ·exact z
  ·have hx' :X.env.kindOf x=some .local :=hx;rcases z with z|z <;> rw[hx']at z <;> cases z
 unfold unbindBehindTheSuite;refine wpAny_onRaise (wpAny_unbindName_local hx hn hm hkind fun h' v hn' sb=>?_);refine h _ ?_
 have tracked:HOk X.prog X.w H h' :=fun b ob e=>by
  refine(I1.hok b ob e).stay (fun c w' hc q=>(sb.2 c ?_).trans q) (fun _ q=>q) fun _ _ q=>q
  rintro rfl;rcases hc with z|hc
  ·rw[←z,I1.free]at e;cases e
  ·rw[I1.free]at hc;cases hc
 refine⟨I.ok,I1.os,I1.bare,⟨fun b o e n hb hx=>?_,fun b o e n hb hx=>?_,I1.base.free,fun b o e hx=>?_,I1.base.tups,I1.base.frzs,I1.base.tbls⟩,⟨_,hn',fun j y v' e1 e2 e3=>?_⟩,fun y c e=>?_,I1.free,I1.freeC,fun p hp=>?_,tracked,by rw[cW];exact I.len⟩
 ·exact(sb.2 b (bY (aE (aC e) I.ok.above))).trans (I1.base.keep b o e n hb hx)
 ·obtain⟨sl,e1⟩:=I1.base.slot b o e n hb hx;exact⟨sl,(sb.2 b (bY (aE (aC e) I.ok.above))).trans e1⟩
 ·obtain⟨o',e1⟩:=I1.base.there b o e hx;exact⟨o',(sb.2 b (bY (aE (aC e) I.ok.above))).trans e1⟩
 ·have hj:j≠i:=fun z=>by
   subst z;rw[eZ]at e2;split at e2
   ·split at e2 <;> cases e2
   ·rename_i z;exact absurd rfl z
  rw[bZ (Ne.symm hj)]at e2;obtain⟨u',r',q⟩:=hl j y v' e1 (by rw[bZ (Ne.symm hj)];exact e2) e3;refine⟨u',r',?_⟩;rcases q with⟨k,e⟩|⟨k,c,e,z⟩
  ·refine .inl ⟨k,?_⟩;have:y≠x:=fun e=>hj (qK0 hN e1 (e▸hi))
   simp[this,e]
  ·exact .inr ⟨k,c,e,z.sameBut sb (I1.cne y c e)⟩
 ·obtain⟨w',z⟩:=I1.cell y c e;exact⟨w',z.sameBut sb (I1.cne y c e)⟩
 ·obtain⟨e,n,ne,nf,d⟩:=I1.pin p hp;exact⟨(sb.2 p.1 ne).trans e,n,ne,nf,d⟩
theorem vWo{s1 s' :aY}{cls a0:Value}{B h5:Heap}(I1:Inv X pins σ H1 s1)(os:s'.os=s1.os)(bare:AllBare s'.gens)(un:Un (frs X.stack) [] H1 H2 s1.heap s'.heap)(hok:HOk X.prog X.w H2 s'.heap)(fl:Heap.FlyingW B X.stack ea cls a0 h5)(cov:∀b o,s'.heap.get? b=some o->b∉frs X.stack->(H2 b≠none\/s1.heap.get? b≠none)->B.get? b=some o)(sm:s'.heap.UpToSlots h5):Inv X pins σ H2 {s' with heap:=h5}:=by
 have nx:∀b,b∉([]:List aV):=fun b=>by simp
 have k5:∀b o,s'.heap.get? b=some o->b∉frs X.stack->(H2 b≠none\/s1.heap.get? b≠none)->h5.get? b=some o:=fun b o e n1 n2=>fl.1 b o (cov b o e n1 n2)
 have slt:∀b o,s1.heap.get? b=some o->b∈frs X.stack->∃sl,h5.get? b=some {o with slots:=sl}:=fun b o e hb=>by
  obtain⟨_,o',ho',hd⟩:=I1.stack.mem hb;rw[e]at ho';cases ho';obtain⟨sl,e1⟩:=un.slot b o e (I1.stkFree b hb) hb (nx b);obtain⟨sl',e2⟩:=sm b _ e1 hd;exact⟨sl',e2⟩
 have fr2:∀b u,H2 b=some u->b∉frs X.stack:=fun b u e hb=>by
  obtain⟨_,o',ho',hd⟩:=I1.stack.mem hb;rw[un.free b o' ho' (I1.stkFree b hb) (nx b)]at e;cases e
 refine I1.call' (s' :={s' with heap:=h5}) (ch:=[]) os ⟨fun b o e n hb _=>?_,fun b o e n hb _=>slt b o e hb,un.free,fun b o e hx=>?_,un.tups,un.frzs,un.tbls⟩ (fun b u e=>?_) bare fun b hb=>absurd hb (nx b)
 ·exact k5 b o (un.keep b o e n hb (nx b)) hb (.inr (by rw[e];simp))
 ·by_cases hb:b∈frs X.stack
  ·obtain⟨sl,z⟩:=slt b o e hb;exact⟨_,z⟩
  ·obtain⟨o',e1⟩:=un.there b o e hx;exact⟨o',k5 b o' e1 hb (.inr (by rw[e];simp))⟩
 ·refine(hok b u e).stay (fun c v hc q=>?_) (fun _ q=>q) fun _ _ q=>q
  rcases hc with z|z
  ·subst z;exact k5 c v q (fr2 c u e) (.inl (by rw[e];simp))
  ·exact k5 c v q (fr2 c _ z) (.inl (by rw[z];simp))
noncomputable def jWx(p:aV)(cls:Value)(h:Heap):Prop:=∃o,h.get? p=some o/\o.cls=cls
end
end L2
namespace L2
open PySem PySem.Spec PySem.W PySem.Calls PyProof.Rows
variable{M:Model}{R:Result->aY->Prop}{tk:Tok}
structure ExcKit(K:Frag)(C:aV):Prop where
 ga:findIn K (.ref C) "__getattribute__"=some (some (.builtin "BaseException.__getattribute__"))
 gx:findIn K (.ref C) "__getattr__"=some none
 cl:findIn K (.ref C) "__class__"=some (some (.builtin "object.__class__"))
 mo:mroIn K C (.type "object")=some true
 mb:mroIn K C (.type "BaseException")=some true
section
variable{prog:bQ}{w:bK}{A:cC}{E:Value->aY->Prop}{h:Heap}{g:Array GenState}{d:Drawn}{t:Nat}{os:OsState}{a C:aV}{o:Obj}{K:Frag}
theorem vXk(hx:h.get? a=some o)(hc:o.cls=.ref C):Looks M h (typeOf (.ref a)) (.ref C):=hc▸(Looks.ld hx).andThen .now
open Builtin Builtin.ObjectAttr Builtin.Getset_descriptor in
theorem zKr{tp:Value}(X:K.In h)(k:ExcKit K C)(hx:h.get? a=some o)(hc:o.cls=.ref C)(hq:R (.ok (.ret (.ref C))) ⟨h,g,d,t,os⟩):
  codeAny (model prog w) A (.call (.builtin "getset_descriptor.__get__") ⟨[.builtin "object.__class__",.ref a,tp],[]⟩) R ⟨h,g,d,t,os⟩:=by
 have L0:=vXk (M:=model prog w) hx hc;have L1:=looks_mroIn (M:=model prog w) X k.mo;refine eY KF.slot_gs.plain KF.entry_gs (KF.slot_gs.check _ _ _ _ _ _ _ _ KF.type_class (KF.args_gs _ _ _) ?_);unfold Builtin.«getset_descriptor.__get__» descrGet;rw[dga_obj];refine aZ (aL ?_);unfold descrGetter descrCheckInstance descrNameAndClass isInstance;simp only[KF.owner_class];repeat lk
 refine⟨Code.quiet_builtin _ (by decide +kernel),codeAny_builtin KF.entry_class ?_⟩;unfold Builtin.«object.__class__» shownTypeOf;repeat lk
 exact hq
theorem zVb{Q:Fin->aY->Prop}(X:K.In h)(k:ExcKit K C)(hx:h.get? a=some o)(hc:o.cls=.ref C)(hq:Q (.done (.ret (.ref C))) ⟨h,g,d,t,os⟩):
  aO (model prog w) A (Builtin.«object.__getattribute__» ⟨[.ref a,.str "__class__" tk],[]⟩) Q E ⟨h,g,d,t,os⟩:=by
 have f5:=F.typeOf_object_class;have f6:=F.slot_gs_get.lookup;have f7:=F.slot_gs_set.lookup;have L3:=looks_findIn (M:=model prog w) X k.cl;repeat (any_goals (first|assumption|with_reducible refine L3.at ?_|(with_reducible refine cG hx ?_;rw[hc])|wp_step))
 refine zKr X k hx hc ?_
 repeat (any_goals (first|assumption|wp_step))
theorem vVv{nameV:Value}{Q:Unit->aY->Prop}(X:K.In h)(k:ExcKit K C)(hx:h.get? a=some o)(hc:o.cls=.ref C)(hq:Q () ⟨h,g,d,t,os⟩):
  aO M A (checkBuiltinCall "BaseException.__getattribute__" ⟨[.ref a,nameV],[]⟩) Q E ⟨h,g,d,t,os⟩:=by
 have hk:builtinKind "BaseException.__getattribute__"=some .slot :=by decide +kernel
 have hsplit:splitId "BaseException.__getattribute__"=some ("BaseException","__getattribute__"):=by decide +kernel
 have L0:=vXk (M:=M) hx hc;have L1:=looks_mroIn (M:=M) X k.mb;simp only[checkBuiltinCall,hsplit];repeat (first|with_reducible refine L0.at ?_|with_reducible refine L1.at ?_|wp_step)
 exact hq
theorem zW5(X:K.In h)(k:ExcKit K C)(hx:h.get? a=some o)(hc:o.cls=.ref C)(hq:R (.ok (.ret (.ref C))) ⟨h,g,d,t,os⟩):
  codeAny (model prog w) A (.call (.builtin "BaseException.__getattribute__") ⟨[.ref a,.str "__class__" tk],[]⟩) R ⟨h,g,d,t,os⟩:=
 eY F.attrBase_ValueError.ga.plain F.entry_bexc_ga (vVv X k hx hc (zVb X k hx hc hq))
theorem jZ9{fill expr:Bool}{Q:Value->aY->Prop}(X:K.In h)(k:ExcKit K C)(hx:h.get? a=some o)(hc:o.cls=.ref C)(hq:Q (.ref C) ⟨h,g,d,t,os⟩):
  aO (model prog w) A (getAttrBy (.ref a) (.str "__class__" tk) fill expr) Q E ⟨h,g,d,t,os⟩:=by
 have f3:=F.attrBase_ValueError.ga.bind (.ref a);have hx0:(expr && onTheHeap (Value.builtin "BaseException.__getattribute__"))=false:=by cases expr <;> rfl
 have hx2:(Value.builtin "BaseException.__getattribute__" == Value.builtin "object.__getattribute__")=false:=by decide +kernel
 have L1:=looks_findIn (M:=model prog w) X k.ga;have L2:=looks_findIn (M:=model prog w) X k.gx;repeat (any_goals (first|assumption|with_reducible refine L1.at ?_|with_reducible refine L2.at ?_|(with_reducible refine cG hx ?_;rw[hc])|wp_step))
 refine zW5 X k hx hc ?_
 repeat (any_goals (first|assumption|wp_step))
theorem zW6{Q:Option Value->aY->Prop}(X:K.In h)(k:ExcKit K C)(hx:h.get? a=some o)(hc:o.cls=.ref C)(hq:Q (some (.ref C)) ⟨h,g,d,t+1,os⟩):
  aO (model prog w) A (getAttr? (.ref a) "__class__") Q E ⟨h,g,d,t,os⟩:=by
 repeat (any_goals (first|assumption|with_reducible apply jZ9 X k hx hc|wp_step))
theorem zWm(k:ExcKit K C):KitX K (.ref a) (.ref C) (jWx a (.ref C)) where
 ty:=fun _ _ _ ⟨_,e,c⟩=>vXk e c
 it:=fun _ _ X _=>by
  obtain⟨cdD,hcD,_⟩:=Option.bind_eq_some_iff.mp k.mo;unfold clsIn at hcD;split at hcD
  ·rename_i c' d' cd' sl' ho;intro A' Q' E' s' k q;exact aZ (wpAny_loadPart (k _ _ (X _ _ ho)) (aL q))
  ·cases hcD
 ne:=fun h tp dd its n sl X htp=>by
  obtain⟨cdD,hcD,_⟩:=Option.bind_eq_some_iff.mp k.mo;refine Bool.eq_false_iff.mpr fun q=>?_
  have e:C=tp:=Value.ref.inj (beq_iff_eq.mp q);subst e;unfold clsIn at hcD;split at hcD
  ·rename_i c' d' cd' sl' ho;have z:=(X _ _ ho).symm.trans htp;cases z
  ·cases hcD
 ca:=fun {_ _ _ _ _ s} X ⟨o,e,c⟩ q=>by
  exact zW6 X k e c q
end
section
variable{X:Cx}
theorem zJv{c:V}{u v:Value}(h:(∃n,c=.ty n)\/∃a,c=.ref a)(r:RelV c u)(q:RelV c v):u=v:=by
 rcases h with⟨n,rfl⟩|⟨n,rfl⟩
 ·exact(show u=Value.type n from r).trans (show v=Value.type n from q).symm
 ·exact(show u=Value.ref n from r).trans (show v=Value.ref n from q).symm
end
end L2
namespace L2
open PySem PySem.Spec PyProof.Rows
variable{Q:Option Value->aY->Prop}
section
variable{X:Cx}
noncomputable def rLeS:R2:=fun x y H Q=>∃i j,x=.str i/\y=.str j/\Q (.bl (!decide (j.cps.toList<i.cps.toList))) H
theorem jD:OpR X (bL .LtE) rLeS:=by
 intro pins s σ H x y v u Q I rx ry h;obtain⟨i,j,rfl,rfl,q⟩:=h;obtain⟨t,rfl⟩:=rx;obtain⟨t',rfl⟩:=ry;exact PySem.P.le_str (vH I q rfl)
theorem vX4:OpR X (binaryOp .Mult) (fun x y H Q=>∃z n,x=.str z/\y=.int n/\MulOk z n/\Q (.str (Txt.mul z n)) H):=by
 intro pins s σ H x y v u Q I rx ry h;obtain⟨z,n,rfl,rfl,hm,q⟩:=h;obtain⟨t,rfl⟩:=rx;obtain⟨t',rfl⟩:=ry;exact SB.mul hm fun t' k=>⟨.str (Txt.mul z n),H,I.tok _,⟨_,rfl⟩,q⟩
end
section
variable{X:Cx}{pins:List (aV×Obj)}{σ:St}{H:Hp}{s:aY}
theorem zVp:jW X (.builtin "isinstance") (fun xs H Q=>∃a vs n b,xs=[.ref a,.ty n]/\SqT X.K H a vs/\bW X.K (.type "tuple") (.type n)=some b/\Q (.bl b) H):=by
 intro pins s σ H xs us Q I r h;obtain⟨a,vs,n,b,rfl,ht,e,q⟩:=h;obtain⟨u,w',rfl,r1,r2⟩:=vJd r;cases(show u=Value.ref a from r1);cases(show w' =Value.type n from r2);obtain⟨its,_,⟨o,h1,h2,_⟩,_⟩:=I.tuple ht;exact bO PySem.W.kitx_tuple I.kIn ⟨o,h1,h2⟩ e (fun z=>nomatch z) fun tk=>⟨.bl b,H,I.tok tk,rfl,q⟩
end
structure Feed(i l:aV)(P:Nat->Heap->Prop)(f:Nat->Option Value):Prop where
 obj:∀k h,P k h->∃o,h.get? i=some o/\∀v,o.data≠ .cell v
 keep:∀k (h g:Heap),P k h->(∀b o,b=i\/b=l->h.get? b=some o->g.get? b=some o)->P k g
 item:∀{prog:bQ} {w:bK} {A:cC} {E:Value->aY->Prop} {s:aY} {k:Nat} {x:Value} {Q:Value->aY->Prop},P k s.heap->f k=some x->
  (∀g,P (k+1) g->Heap.SameBut i s.heap g->Q x {s with heap:=g})->aO (model prog w) A (Builtin.SmallTypes.nextOf (.ref i)) Q E s
 stop:∀{prog:bQ} {w:bK} {A:cC} {E:Value->aY->Prop} {s:aY} {k:Nat} {Q:Value->aY->Prop},A.handled=none->P k s.heap->f k=none->
  (∀g e,Heap.ExtBut i s.heap g->(∃o,g.get? e=some o/\o.cls=.type "StopIteration")->E (.ref e) {s with heap:=g})->aO (model prog w) A (Builtin.SmallTypes.nextOf (.ref i)) Q E s
section
variable{prog:bQ}{w:bK}{A:cC}{E:Value->aY->Prop}{s:aY}
theorem vX8{i l:aV}(hil:l≠i)(xs:Array Value):Feed i l (fun k h=>h.IsTupleIter i l k/\h.IsTuple l xs) (fun k=>xs[k]?) where
 obj:=fun k h p=>by
  obtain⟨⟨o,e,_,d⟩,_⟩:=p;exact⟨o,e,fun v z=>by rw[d]at z;cases z⟩
 keep:=fun k h g p q=>⟨p.1.at fun o e=>q i o (.inl rfl) e,by
  obtain⟨o,e,r⟩:=p.2;exact⟨o,q l o (.inr rfl) e,r⟩⟩
 item:=by
  intro prog w A E s k x Q p hx hQ;obtain⟨⟨oi,ei,ci,di⟩,⟨ol,el,cl,nl,dl⟩⟩:=id p;unfold Builtin.SmallTypes.nextOf;refine aZ (wpAny_callSpecial?_slot (name:=Str.ofString "__next__") p.1.typeIs dC (wpAny_call_entry dC p.1.typeIs PySem.F.entry_tuple_iterator_next ?_ (PySem.F.args_tuple_iterator_next_1 _)));show aO _ _ (field (.ref i) 0 >>=_) _ _ s;refine aZ (dP ei di (x:=.ref l) rfl ?_);show aO _ _ (if(Value.ref l == Value.none)=true then _ else _) _ _ s;rw[if_neg (show¬((Value.ref l == Value.none)=true) from aR)];show aO _ _ (field (.ref i) 1 >>=_) _ _ s;refine aZ (dP ei di (x:=.int k 0) rfl ?_);show aO _ _ (seqItems? (.ref l) >>=_) _ _ s;refine aZ (dO el dl ?_);have hx' :xs[k]?=some x:=hx;simp only[Int.toNat_natCast,hx'];refine aZ (wpAny_setField ei di (by simp) (aL ⟨x,rfl,aL (hQ _ ⟨?_,?_⟩ (Heap.SameBut.update ..))⟩))
  ·exact⟨_,Heap.get?_update_self _ ei (Obj.isFreed_of_fields (Obj.data_mapFields di _)),(Obj.cls_mapFields ..).trans ci,by rw[Obj.data_mapFields di];simp[rawInt]⟩
  ·exact⟨ol,((Heap.SameBut.update ..).2 l hil).trans el,cl,nl,dl⟩
 stop:=by
  intro prog w A E s k Q hh p hx hE;obtain⟨⟨oi,ei,ci,di⟩,⟨ol,el,cl,nl,dl⟩⟩:=id p;unfold Builtin.SmallTypes.nextOf;refine aZ (wpAny_callSpecial?_slot (name:=Str.ofString "__next__") p.1.typeIs dC (wpAny_call_entry dC p.1.typeIs PySem.F.entry_tuple_iterator_next ?_ (PySem.F.args_tuple_iterator_next_1 _)));show aO _ _ (field (.ref i) 0 >>=_) _ _ s;refine aZ (dP ei di (x:=.ref l) rfl ?_);show aO _ _ (if(Value.ref l == Value.none)=true then _ else _) _ _ s;rw[if_neg (show¬((Value.ref l == Value.none)=true) from aR)];show aO _ _ (field (.ref i) 1 >>=_) _ _ s;refine aZ (dP ei di (x:=.int k 0) rfl ?_);show aO _ _ (seqItems? (.ref l) >>=_) _ _ s;refine aZ (dO el dl ?_);have hx' :xs[k]?=none:=hx;simp only[Int.toNat_natCast,hx'];refine aZ (wpAny_rule (aZ (wpAny_setField ei di (by simp) ?_)));show aO _ _ (newExc (.type "StopIteration") [] >>=_) _ _ _;refine aZ ?_
  simp only[newExc,newTuple];refine aZ (wpAny_newObj_type ?_ (by size_fits));refine aZ (m:=firstArgMember _ _) (wpAny_of_eq (a:=Value.none) (by first|rfl|(simp only[firstArgMember];rfl)) (wpAny_newObj_type ?_ (by size_fits)));simp only[raiseNew];refine aZ (wpAny_handled ?_);first|rw[show A.in1.handled=none from hh]|rw[hh]
  refine aZ (aL (wpAny_throw ?_));exact hE _ _ (((Heap.SameBut.update ..).extBut.push _).push _) ⟨_,aN _ rfl,rfl⟩
variable{z TI TO i1 i2 l1 l2:aV}{P1 P2:Nat->Heap->Prop}{f1 f2:Nat->Option Value}{k1 k2:Nat}{x y a b:Value}
theorem zQf(F1:Feed i1 l1 P1 f1)(F2:Feed i2 l2 P2 f2)(D:ZipApart z TI TO i1 i2 l1 l2)(hz:IsZip s.heap z TI TO .none)(hI:IsPair s.heap TI (.ref i1) (.ref i2))(hO:IsPair s.heap TO a b)(p1:P1 k1 s.heap)(p2:P2 k2 s.heap)(hx:f1 k1=some x)(hy:f2 k2=some y)(hQ:∀g,IsZip g z TI TO (rawInt s.heap.objs.size)->IsPair g TO x y->P1 (k1+1) g->P2 (k2+1) g->IsPair g s.heap.objs.size x y->
   (∀c o,c≠z->c≠TO->c≠i1->c≠i2->s.heap.get? c=some o->g.get? c=some o)->Q (some (.ref s.heap.objs.size)) {s with heap:=g}):
  aO (model prog w) A (pyNext (.ref z)) Q E s:=by
 have ty:s.TypeIs (.ref z) "zip":=⟨_,hz,rfl⟩
 unfold pyNext;refine aZ (wpAny_attempt (wpAny_callSpecial?_slot (name:=Str.ofString "__next__") ty PySem.F.slot_zip_next (wpAny_call_entry PySem.F.slot_zip_next ty PySem.F.entry_zip_next ?_ (PySem.F.args_zip_next_1 _))));show aO _ _ (field (.ref z) 2 >>=_) _ _ _;refine aZ (dP hz rfl (x:=.bool false) rfl ?_);show aO _ _ (field (.ref z) 3 >>=_) _ _ _;refine aZ (dP hz rfl (x:=.ref TI) rfl (aZ (dO hI rfl ?_)));show aO _ _ (Builtin.SmallTypes.ownedTupleIsFree (.ref z) >>=_) _ _ _;refine aZ ?_
 unfold Builtin.SmallTypes.ownedTupleIsFree;refine aZ (dP hz rfl (x:=.none) rfl (aL ?_));simp only[if_true];refine aZ (wpAny_rule (aZ (dP hz rfl (x:=.ref TO) rfl ?_)));refine aZ (eQ hz (by simp) fun g1 z1 b1=>?_);replace z1:IsZip g1 z TI TO .ellipsis :=z1;refine aZ ?_
 simp only[List.zipIdx_cons,List.zipIdx_nil,List.forIn_cons,List.forIn_nil];refine aZ (aZ (wpAny_onRaise ?_));show aO _ _ (Builtin.SmallTypes.nextOf (.ref i1) >>=_) _ _ _;have q1:P1 k1 g1:=F1.keep _ _ _ p1 fun c o hc e=>b1.extBut _ _ (by rcases hc with rfl|rfl;exact D.i1z;exact D.l1z) e
 refine aZ (F1.item q1 hx fun g2 r1 b2=>aL ?_);have O2:IsPair g2 TO a b:=b2.extBut _ _ D.TOi1 (b1.extBut _ _ D.TOz hO);refine aZ (dO O2 rfl (aZ (wpAny_updateSeq_pair O2 fun g3 O3 b3=>?_)));replace O3:IsPair g3 TO x b:=O3;refine aZ (wpAny_letGo (aL (aZ (aZ (wpAny_onRaise ?_)))));show aO _ _ (Builtin.SmallTypes.nextOf (.ref i2) >>=_) _ _ _;have q2:P2 k2 g3:=F2.keep _ _ _ p2 fun c o hc e=>b3.extBut _ _ (by rcases hc with rfl|rfl;exact D.TOi2.symm;exact D.l2TO) (b2.extBut _ _ (by rcases hc with rfl|rfl;exact D.i12.symm;exact D.l2i1) (b1.extBut _ _ (by rcases hc with rfl|rfl;exact D.i2z;exact D.l2z) e))
 refine aZ (F2.item q2 hy fun g4 r2 b4=>aL ?_);have O4:IsPair g4 TO x b:=b4.extBut _ _ D.TOi2 O3;refine aZ (dO O4 rfl (aZ (wpAny_updateSeq_pair O4 fun g5 O5 b5=>?_)));replace O5:IsPair g5 TO x y:=O5;refine aZ (wpAny_letGo (aL (aL (aZ (dO O5 rfl (aZ (wpAny_newTuple ?_)))))));have sz:g5.objs.size=s.heap.objs.size:=by rw[b5.1,b4.1,b3.1,b2.1,b1.1]
 have z5:IsZip g5 z TI TO .ellipsis :=b5.extBut _ _ D.TOz.symm (b4.extBut _ _ D.i2z.symm (b3.extBut _ _ D.TOz.symm (b2.extBut _ _ D.i1z.symm z1)));have all5:∀c o,c≠z->c≠TO->c≠i1->c≠i2->s.heap.get? c=some o->g5.get? c=some o:=fun c o n1 n2 n3 n4 e=>
  b5.extBut _ _ n2 (b4.extBut _ _ n4 (b3.extBut _ _ n2 (b2.extBut _ _ n3 (b1.extBut _ _ n1 e))))
 have s1:P1 (k1+1) g5:=F1.keep _ _ _ r1 fun c o hc e=>b5.extBut _ _ (by rcases hc with rfl|rfl;exact D.TOi1.symm;exact D.l1TO) (b4.extBut _ _ (by rcases hc with rfl|rfl;exact D.i12;exact D.l1i2) (b3.extBut _ _ (by rcases hc with rfl|rfl;exact D.TOi1.symm;exact D.l1TO) e))
 have s2:P2 (k2+1) g5:=F2.keep _ _ _ r2 fun c o hc e=>b5.extBut _ _ (by rcases hc with rfl|rfl;exact D.TOi2.symm;exact D.l2TO) e
 have ltz:z<g5.objs.size:=aC z5;show aO _ _ (Builtin.SmallTypes.ownedTupleHandOut (.ref z) (.ref g5.objs.size) >>=_) _ _ _;refine aZ ?_
 unfold Builtin.SmallTypes.ownedTupleHandOut;have z6:IsZip (g5.push {cls:=.type "tuple",data:=.seq #[x,y]}) z TI TO .ellipsis :=aK _ z5;refine aZ (eQ z6 (by simp) fun g7 z7 b7=>?_);replace z7:IsZip g7 z TI TO (rawInt g5.objs.size):=z7;refine eQ z7 (by simp) fun g8 z8 b8=>?_
 replace z8:IsZip g8 z TI TO (rawInt g5.objs.size):=z8;have up:∀c o,c≠z->g5.get? c=some o->g8.get? c=some o:=fun c o n e=>b8.extBut _ _ n (b7.extBut _ _ n (aK _ e))
 have T8:IsPair g8 g5.objs.size x y:=b8.extBut _ _ (dN ltz) (b7.extBut _ _ (dN ltz) (aN _ rfl));rw[sz]at z8 T8;refine aL ⟨_,rfl,aL ?_⟩;show Q (some (.ref g5.objs.size)) _;rw[sz]
 exact hQ g8 z8 (up _ _ D.TOz O5) (F1.keep _ _ _ s1 fun c o hc e=>up c o (by rcases hc with rfl|rfl;exact D.i1z;exact D.l1z) e) (F2.keep _ _ _ s2 fun c o hc e=>up c o (by rcases hc with rfl|rfl;exact D.i2z;exact D.l2z) e) T8
  fun c o n1 n2 n3 n4 e=>up c o n1 (all5 c o n1 n2 n3 n4 e)
theorem zJi(hh:A.handled=none)(F1:Feed i1 l1 P1 f1)(F2:Feed i2 l2 P2 f2)(D:ZipApart z TI TO i1 i2 l1 l2)(hz:IsZip s.heap z TI TO .none)(hI:IsPair s.heap TI (.ref i1) (.ref i2))(hO:IsPair s.heap TO a b)(p1:P1 k1 s.heap)(p2:P2 k2 s.heap)(ends:f1 k1=none\/f2 k2=none)(hQ:∀g,(∀c o,c≠z->c≠TO->c≠i1->c≠i2->s.heap.get? c=some o->g.get? c=some o)->Q none {s with heap:=g}):aO (model prog w) A (pyNext (.ref z)) Q E s:=by
 have ty:s.TypeIs (.ref z) "zip":=⟨_,hz,rfl⟩
 have last:∀(g:Heap) (e:aV),(∀c o,c≠z->c≠TO->c≠i1->c≠i2->s.heap.get? c=some o->g.get? c=some o)->(∃o,g.get? e=some o/\o.cls=.type "StopIteration")->
   aO (model prog w) A (do let b ←isInstance (.ref e) (.type "StopIteration");if b=true then pure none else throw (.ref e)) Q E {s with heap:=g}:=fun g e k1 k2=>by
  obtain⟨o,ho,hc⟩:=k2;refine aZ (wpAny_isInstance (T:="StopIteration") (b:=true) ⟨o,ho,hc⟩ isSubtype_stop ?_);exact aL (hQ g k1)
 unfold pyNext;refine aZ (wpAny_attempt (wpAny_callSpecial?_slot (name:=Str.ofString "__next__") ty PySem.F.slot_zip_next (wpAny_call_entry PySem.F.slot_zip_next ty PySem.F.entry_zip_next ?_ (PySem.F.args_zip_next_1 _))));show aO _ _ (field (.ref z) 2 >>=_) _ _ _;refine aZ (dP hz rfl (x:=.bool false) rfl ?_);show aO _ _ (field (.ref z) 3 >>=_) _ _ _;refine aZ (dP hz rfl (x:=.ref TI) rfl (aZ (dO hI rfl ?_)));show aO _ _ (Builtin.SmallTypes.ownedTupleIsFree (.ref z) >>=_) _ _ _;refine aZ ?_
 unfold Builtin.SmallTypes.ownedTupleIsFree;refine aZ (dP hz rfl (x:=.none) rfl (aL ?_));simp only[if_true];refine aZ (wpAny_rule (aZ (dP hz rfl (x:=.ref TO) rfl ?_)));refine aZ (eQ hz (by simp) fun g1 z1 b1=>?_);replace z1:IsZip g1 z TI TO .ellipsis :=z1;refine aZ ?_
 simp only[List.zipIdx_cons,List.zipIdx_nil,List.forIn_cons,List.forIn_nil];refine aZ (aZ (wpAny_onRaise ?_));show aO _ _ (Builtin.SmallTypes.nextOf (.ref i1) >>=_) _ _ _;have q1:P1 k1 g1:=F1.keep _ _ _ p1 fun c o hc e=>b1.extBut _ _ (by rcases hc with rfl|rfl;exact D.i1z;exact D.l1z) e
 cases hx:f1 k1 with
 | none=>
   refine aZ (F1.stop hh q1 hx fun g2 e b2 he=>?_);obtain⟨oe,hoe,hce⟩:=he;have z2:IsZip g2 z TI TO .ellipsis :=b2 _ _ D.i1z.symm z1;have ez:e≠z:=fun q=>by subst q;rw[z2]at hoe;cases hoe;simp at hce
   exact eQ z2 (by simp) fun g3 _ b3=>last g3 e (fun c o n1 _ n3 _ q=>b3.extBut _ _ n1 (b2 _ _ n3 (b1.extBut _ _ n1 q))) ⟨oe,b3.extBut _ _ ez hoe,hce⟩
 | some x=>
   have hy:f2 k2=none:=by
    rcases ends with q|q
    ·rw[hx]at q;cases q
    ·exact q
   refine aZ (F1.item q1 hx fun g2 r1 b2=>aL ?_);have O2:IsPair g2 TO a b:=b2.extBut _ _ D.TOi1 (b1.extBut _ _ D.TOz hO);refine aZ (dO O2 rfl (aZ (wpAny_updateSeq_pair O2 fun g3 O3 b3=>?_)));refine aZ (wpAny_letGo (aL (aZ (aZ (wpAny_onRaise ?_)))));show aO _ _ (Builtin.SmallTypes.nextOf (.ref i2) >>=_) _ _ _;have q2:P2 k2 g3:=F2.keep _ _ _ p2 fun c o hc e=>b3.extBut _ _ (by rcases hc with rfl|rfl;exact D.TOi2.symm;exact D.l2TO) (b2.extBut _ _ (by rcases hc with rfl|rfl;exact D.i12.symm;exact D.l2i1) (b1.extBut _ _ (by rcases hc with rfl|rfl;exact D.i2z;exact D.l2z) e))
   refine aZ (F2.stop hh q2 hy fun g4 e b4 he=>?_);obtain⟨oe,hoe,hce⟩:=he;have z4:IsZip g4 z TI TO .ellipsis :=b4 _ _ D.i2z.symm (b3.extBut _ _ D.TOz.symm (b2.extBut _ _ D.i1z.symm z1));have ez:e≠z:=fun q=>by subst q;rw[z4]at hoe;cases hoe;simp at hce
   exact eQ z4 (by simp) fun g5 _ b5=>last g5 e (fun c o n1 n2 n3 n4 q=>b5.extBut _ _ n1 (b4 _ _ n4 (b3.extBut _ _ n2 (b2.extBut _ _ n3 (b1.extBut _ _ n1 q))))) ⟨oe,b5.extBut _ _ ez hoe,hce⟩
end
end L2
namespace SG
open PySem PySem.Spec PyProof.Rows L2
variable{prog:bQ}{w:bK}{h:Heap}{a:aV}{Q:Value->aY->Prop}
theorem zWp{k:L2.Key}{v:Value}(h:(zT prog w).is k v=true):v.scannable=true:=by
 rcases zK h with⟨i,t,rfl,rfl⟩|⟨x,t,rfl,rfl⟩ <;> rfl
instance decMem(k:L2.Key)(l:List L2.Key):Decidable (k∈l):=by
 letI:BEq L2.Key:=instBEqOfDecidableEq;exact inferInstance
noncomputable def fmK(val:Nat->L2.Key):Nat->List L2.Key
 | 0=> []
 |i+1=>if val i∈fmK val i then fmK val i else fmK val i ++ [val i]
theorem vKw(val:Nat->L2.Key):∀i,(fmK val i).length <=i
 | 0=>aD _
 | i + 1=>by
   have:=vKw val i;unfold fmK;split
   ·omega
   ·rw[aJ];show _+1<=_;omega
theorem jZ6(val:Nat->L2.Key)(i:Nat)(j:L2.Key):(decide (j∈fmK val i) || decide (j=val i))=decide (j∈fmK val (i+1)):=by
 rw[←Bool.decide_or];refine decide_eq_decide.mpr ?_
 show _↔j∈(if val i∈fmK val i then fmK val i else fmK val i ++ [val i]);split
 ·rename_i h;exact⟨fun z=>z.elim id fun e=>e▸h,.inl⟩
 ·rw[cF,bA]
theorem zW0(val:Nat->L2.Key)(i:Nat):(if decide (val i∈fmK val i)=true then(fmK val i).length else(fmK val i).length+1)=(fmK val (i+1)).length :=by
 show _=(if val i∈fmK val i then fmK val i else fmK val i ++ [val i]).length;grind
theorem jWr{S S' :L2.Key->Bool}{n n' :Nat}(g:h.SetOf (zT prog w) a S n)(e:∀k,S k=S' k)(en:n=n'):h.SetOf (zT prog w) a S' n' :=by
 cases en;cases(funext e:S=S');exact g
noncomputable abbrev SetK(prog:bQ)(w:bK)(a:aV)(l:List L2.Key)(h:Heap):Prop:=h.SetOf (zT prog w) a (fun j=>decide (j∈l)) l.length
theorem SetK.at{l:List L2.Key}{h':Heap}(g:SetK prog w a l h)(k:∀o,h.get? a=some o->h'.get? a=some o):SetK prog w a l h' :=by
 obtain⟨o,es,ep,t,e,r⟩:=g;exact⟨o,es,ep,t,k _ e,r⟩
section
variable{prog:bQ}{w:bK}{A:cC}{R:Result->aY->Prop}{I:aV}{fp wr:List aV}{G:Array GenState->Array GenState->Prop}{n:Nat}{P:Nat->Value->Prop}{St:Nat->aY->Prop}
theorem jQo(W:WalksS prog w A.in1 I fp wr G n P St)(S:aV)(off:S∉fp)(val:Nat->L2.Key)(hv:∀i v,P i v->qWt (val i) v=true)(few:n+1<scanBound):
  ∀(k i:Nat) (s:aY),n - i=k->i<=n->St i s->SetK prog w S (fmK val i) s.heap->
   (∀s',Moved (S::wr) G s s' ->SetK prog w S (fmK val n) s'.heap->R (.ok (.ret .none)) s')->
   codeAny (model prog w) A (.builtin "set.update.loop" ⟨[.ref S,.ref I],[]⟩) R s:=by
 have ow:S∉wr:=fun z=>off (W.sub _ z)
 have up:∀b∈wr,b∈S::wr:=fun b z=>aB _ z
 intro k
 induction k with
 | zero=>
   intro i s hk hi st g hR
   obtain rfl:i=n:=by omega
   refine codeAny_builtin F.entry_set_update_loop ?_
   refine aZ (m:=pyNext (.ref I)) (W.done s _ _ st fun s' m=>?_)
   exact aL (hR s' (m.mono up) (g.at fun o e=>m.heap S _ ow e))
 | succ k ih=>
   intro i s hk hi st g hR
   have lt:i<n:=by omega
   refine codeAny_builtin F.entry_set_update_loop ?_
   refine aZ (m:=pyNext (.ref I)) (W.item i s _ _ lt st fun v s' p st' m=>?_)
   have hk:(zT prog w).is (val i) v=true:=hv i v p
   have g' :=g.at (h' :=s'.heap) fun o e=>m.heap S _ ow e
   refine aZ (m:=holding [v] (setAdd S v)) (wpAny_holding ?_)
   refine wpAny_holding (aZ ((zT prog w).pyHash (k:=val i) hk ?_))
   refine wpAny_setAddHashed_of (knd:=zT prog w) (s:={s' with toks:=s'.toks+1}) hk (zWp hk) g' (by have:=vKw val i;omega) fun h2 sb g2=>?_
   have g3:SetK prog w S (fmK val (i+1)) h2:=jWr g2 (fun j=>jZ6 val i j) (zW0 val i)
   refine aL ⟨plainId_quiet F.plain_set_update_loop _,ih (i+1) _ (by omega) lt (W.frame _ s' _ _ st' (Nat.le_succ _) fun b hb o e=>?_) g3 fun s2 m2 g4=>?_⟩
   ·rw[sb.2 b fun z=>off (by rw[←z];exact hb)];exact e
   ·refine hR s2 (Moved.trans W.gtrans ((m.mono up).then_heap (Nat.le_succ _) fun b o hb e=>?_) m2) g4
    rw[sb.2 b fun z=>hb (by rw[z];exact aA)];exact e
end
section
variable{prog:bQ}{w:bK}{A:cC}{E:Value->aY->Prop}{s:aY}
noncomputable abbrev newS(w:bK):Obj:={cls:=.type "set",dict:=none,data:=.set #[] 0 (.fresh 0 0 (!w.params.followText "set-order"))}
theorem newG(a:Value)(h:Q (.ref s.heap.objs.size) {s with heap:=s.heap.push (newS w)}):
  codeAny (model prog w) A (.call (.builtin "set.__new__") ⟨[.type "set",a],[]⟩) (wants Q E) s:=by
 refine codeAny_of_tree ?_
 show aO _ A.in1 (do checkBuiltinCall "set.__new__" ⟨[.type "set",a],[]⟩;again (.builtin "set.__new__" ⟨[.type "set",a],[]⟩)) _ _ s;refine aZ (wpAny_of_eq (PySem.F.newCall_set_1 a) (aL ⟨plainId_quiet PySem.F.plain_set_new _,codeAny_builtin PySem.F.entry_set_new ?_⟩));rw[Around.under_plainId PySem.F.plain_set_new _];unfold Builtin.«set.__new__» Builtin.Frozenset.newClass;have hsub:=sub_set_self;obtain⟨hp,g,d,tk,os⟩:=s;dsimp only;wp_walk;refine wpAny_askSetting (aL ?_);dsimp only;simp only[newObj];exact aZ (wpAny_alloc (aL (aL h)))
theorem zWc(w:bK)(s:aY):(s.heap.push (newS w)).get? s.heap.objs.size=some (newS w):=aN _ rfl
noncomputable abbrev vK(xs:List L2.Key)(i:Nat):L2.Key:=xs.getD i (.inl 0)
noncomputable def zQe(vs:List Value)(xs:List L2.Key):Prop:=∀(i:Nat) (v:Value),vs[i]?=some v->qWt (vK xs i) v=true
theorem zZ2(prog:bQ)(w:bK)(e:h.get? a=some (newS w)):SetK prog w a [] h:=
 ⟨newS w,#[],0,_,e,⟨rfl,rfl,rfl⟩,rfl,fun e he=>by simp at he,fun k=>by simp,by decide,by rfl,rfl⟩
set_option maxHeartbeats 3200000 in
theorem zVl{l:aV}{its:Array Value}{xs:List L2.Key}(hh:A.handled=none)(b:Bool)(hl:cond b (s.heap.IsList l its) (s.heap.IsTuple l its))(hi:zQe its.toList xs)(few:its.size+1<scanBound)(h:∀(h' :Heap) (tk:Nat),SetK prog w s.heap.objs.size (fmK (vK xs) its.size) h' ->(∀b o,b<s.heap.objs.size->s.heap.get? b=some o->h'.get? b=some o)->Q (.ref s.heap.objs.size) {s with heap:=h',toks:=tk}):
  aO (model prog w) A (call (.type "set") [.ref l]) Q E s:=by
 obtain⟨c,tl,hmro⟩:=cR.mro;have hmade:=cR.made;have hsub:=cR.sub;refine wpAny_call (codeAny_of_tree ?_);show aO _ _ (callAny (.type "set") _) _ _ _;refine aL ⟨Code.quiet_builtin _ (by decide +kernel),codeAny_builtin PySem.F.entry_type_call ?_⟩;rw[Around.under_plain (weight_type_call_type "set" [.ref l] []) rfl];have h1:=cR.notType;have h2:=cR.canCreate;have hct:=PySem.F.typeCall_set_1 (.ref l);repeat (any_goals (first|assumption|wp_step))
 refine codeAny_mono (newG (.ref l) (E:=E) (Q:=fun u z=>u=.ref s.heap.objs.size/\z={s with heap:=s.heap.push (newS w)}) ⟨rfl,rfl⟩) fun r z hr=>?_
 cases r with
 |error e=>exact hr
 | ok fl=>
   cases fl with
   | ret u=>
     obtain⟨rfl,rfl⟩:=hr;have hS:=zWc w s;have hT:Shared.TypeIs {s with heap:=s.heap.push (newS w)} (.ref s.heap.objs.size) "set":=⟨_,hS,rfl⟩
     have hli:=cR.init.lookup;have hbi:=cR.init.bind (.ref s.heap.objs.size);repeat (any_goals (first|assumption|wp_step))
     refine codeAny_mono (eY (R:=wants (fun r z=>r=.none /\∃h' tk,z={s with heap:=h',toks:=tk}/\SetK prog w s.heap.objs.size (fmK (vK xs) its.size) h' /\∀b o,b<s.heap.objs.size->s.heap.get? b=some o->h'.get? b=some o) E)
      cR.init.plain PySem.F.entry_set_init (check_set_init_1 hT ?_)) fun r2 z2 hr2=>?_
     ·cases b
      all_goals
       obtain⟨ol,hol,hcl,nl,hdl⟩:=hl;obtain⟨ocls,odict,odata,oslots⟩:=ol;simp only at hcl hdl;subst hcl;subst hdl;have hol' :=aK (newS w) hol;have h3:=PySem.F.sub_list_set;have h4:=PySem.F.sub_list_frozenset;have h5:=PySem.F.sub_tuple_set;have h6:=PySem.F.sub_tuple_frozenset;have hne:(Value.type "list" == Value.type "dict")=false:=by decide
       have hnt:(Value.type "tuple" == Value.type "dict")=false:=by decide
       have lS:l<s.heap.objs.size:=aC hol;have lI:l≠(s.heap.push (newS w)).objs.size:=by rw[cI];exact bY (Nat.lt_succ_of_lt lS)
       have off:s.heap.objs.size∉ [(s.heap.push (newS w)).objs.size,l]:=by
        rw[cI];intro z;rcases bV.mp z with z|z
        ·exact absurd z (bY (Nat.lt_succ_self _))
        ·exact absurd (bA.mp z) (dN lS)
       unfold Builtin.«set.__init__» noKeywords Builtin.Frozenset.updateFrom;generalize hPI:pyIter=PI;wp_walk;subst hPI
       first
        | have hl1:(s.heap.push (newS w)).IsList l its:=⟨_,hol',rfl,nl,rfl⟩
          refine wpAny_pyIter_list hl1 (aZ (wpAny_runValue ?_))
          refine jQo ((Walks.list (show A.in1.in1.in1.handled=none by simp[hh]) _ l lI its).toS) s.heap.objs.size off (vK xs) (fun i v q=>hi i v (by rw[Array.getElem?_toList];exact q)) few (its.size - 0) 0 _ (by omega) (dW _)
           ⟨⟨_,aN _ rfl,rfl,rfl⟩,hl1.push _⟩ (zZ2 prog w (aK _ hS)) fun z m g=>?_
        | have hl1:(s.heap.push (newS w)).IsTuple l its:=⟨_,hol',rfl,nl,rfl⟩
          refine wpAny_pyIter_tuple hl1 (aZ (wpAny_runValue ?_))
          refine jQo ((Walks.tuple (show A.in1.in1.in1.handled=none by simp[hh]) _ l lI its).toS) s.heap.objs.size off (vK xs) (fun i v q=>hi i v (by rw[Array.getElem?_toList];exact q)) few (its.size - 0) 0 _ (by omega) (dW _)
           ⟨⟨_,aN _ rfl,rfl,rfl⟩,hl1.push _⟩ (zZ2 prog w (aK _ hS)) fun z m g=>?_
       obtain⟨h',g',d',tk',os'⟩:=z;obtain rfl:g' =s.gens:=m.gens;obtain rfl:d' =s.drawn:=m.drawn;obtain rfl:os' =s.os:=m.os;refine aL ?_
       show aO _ _ (ret Value.none) _ _ _;refine aL ⟨rfl,h',tk',rfl,g,fun b o hb e=>m.heap b o (fun z=>?_) (aK _ (aK _ e))⟩;rcases bV.mp z with z|z
       ·exact absurd z (bY hb)
       ·have z:=bA.mp z;rw[cI]at z;exact absurd z (bY (Nat.lt_succ_of_lt hb))
     ·cases r2 with
      |error e=>exact hr2
      | ok f2=>
        cases f2 with
        | ret r=>
          obtain⟨rfl,h',tk,rfl,g,k⟩:=hr2;repeat (any_goals (first|assumption|wp_step))
          exact h _ _ g k
        |_=>exact hr2.elim
   |_=>exact hr.elim
end
end SG
namespace L2
open PySem PySem.Spec PyProof.Rows
variable{P:bQ}{w:bK}{H:Hp}{Q:Value->aY->Prop}
section
variable{κ:Type}[DecidableEq κ]
noncomputable def valV(kvs:List (κ×V))(k:κ):Option V:=(kvs.find? fun kv=>decide (kv.1=k)).map (·.2)
theorem qKr{p:κ×V}{r:List (κ×V)}{k:κ}(e:p.1=k):valV (p::r) k=some p.2:=by simp[valV,List.find?_cons,e]
theorem qKs{p:κ×V}{r:List (κ×V)}{k:κ}(e:¬p.1=k):valV (p::r) k=valV r k:=by simp[valV,List.find?_cons,e]
theorem RelO.isSome_eq{o:Option V}{u:Option Value}(r:RelO o u):o.isSome=u.isSome:=by
 cases o with
 | none=>cases u with
   |none=>rfl
   |some _=>exact(show False from r).elim
 | some _=>cases u with
   |none=>exact(show False from r).elim
   |some _=>rfl
theorem KV.val{kvs:List (κ×V)}{vs:List (κ×Value)}(r:KV kvs vs)(k:κ):RelO (valV kvs k) (valueAt vs k):=by
 unfold KV at r;induction r with
 |nil=>exact True.intro
 | @cons p q ps qs h t ih=>
   obtain⟨h1,h2⟩:=h;by_cases e:p.1=k
   ·have e' :q.1=k:=h1.symm.trans e;have b:valueAt (q::qs) k=some q.2:=by simp[valueAt,List.find?_cons,e']
    rw[qKr e,b];exact h2
   ·have e' :¬q.1=k:=fun z=>e (h1.trans z)
    have b:valueAt (q::qs) k=valueAt qs k:=by simp[valueAt,List.find?_cons,e']
    rw[qKs e,b];exact ih
theorem KV.length{kvs:List (κ×V)}{vs:List (κ×Value)}(r:KV kvs vs):kvs.length=vs.length:=Paired.length r
end
theorem vYv{k:Key}{u:Value}(r:RelV (kV k) u):(zT P w).is k u=true:=by
 cases k with
 |inl i=>obtain⟨t,e⟩:=(show∃t,u=Value.int i t from r);subst e;exact vWw P w i t
 |inr x=>obtain⟨t,e⟩:=(show∃t,u=Value.str x t from r);subst e;exact vWv P w x t
theorem vVt:∀{ks:List Key} {us:List Value},Vals (ks.map kV) us->ItemsAre (zT P w) ks us
 |[],_,r=>by rw[List.map_nil]at r;cases r;exact .nil
 | k::ks,_,r=>by
   cases r with
   |cons h t=>exact .cons (vYv h) (vVt t)
noncomputable abbrev KT(H:Hp):List (List Key×V)->List (List Key×aV×Value)->Prop:=Paired fun p q=>p.1=q.1/\H q.2.1=some (.tup (p.1.map kV))/\RelV p.2 q.2.2
theorem KT.val{kvs:List (List Key×V)}{xs:List (List Key×aV×Value)}(r:KT H kvs xs)(k:List Key):RelO (valV kvs k) ((atKey xs k).map (·.2)):=by
 induction r with
 |nil=>exact True.intro
 | @cons p q ps qs h t ih=>
   obtain⟨h1,_,h2⟩:=h;by_cases e:p.1=k
   ·have e' :q.1=k:=h1.symm.trans e;have b:atKey (q::qs) k=some q.2:=by simp[atKey,e']
    rw[qKr e,b];exact h2
   ·have e' :¬q.1=k:=fun z=>e (h1.trans z)
    have b:atKey (q::qs) k=atKey qs k:=by simp[atKey,e']
    rw[qKs e,b];exact ih
section
variable{P:bQ}{w:bK}{H:Hp}{h:Heap}{a:aV}
theorem jQb{u:HO}(ok:HOk P w H h)(e:Rd H a u):vO P w H h a u:=e.ok ok
theorem vJn{kvs:List (Key×V)}(ok:HOk P w H h)(e:Rd H a (.dK kvs)):kvs.length<=aT/\(a == sysModules)=false/\∃vs,KV kvs vs/\h.DictOf (zT P w) a vs:=
 show vO P w H h a (.dK kvs) from jQb ok e
theorem vV9{ks:List Key}(ok:HOk P w H h)(e:H a=some (.tup (ks.map kV))):(tupleKind (zT P w)).is h ks a:=by
 obtain⟨_,its,r,o,h1,h2,n,h3⟩:=(show vO P w H h a (.tup (ks.map kV)) from ok a _ e)
 exact⟨o,its.toArray,n,h1,h2,h3,by simpa using vVt r⟩
theorem vY2{kvs:List (List Key×V)}(ok:HOk P w H h)(e:Rd H a (.dT kvs)):kvs.length<=aT/\(a == sysModules)=false/\
  ∃xs,KT H kvs xs/\h.DictOfH (tupleKind (zT P w)) a xs:=by
 obtain⟨z,y,xs,r,o,es,ep,h1,h2,h3,h4,h5⟩:=(show vO P w H h a (.dT kvs) from jQb ok e)
 refine⟨z,y,xs,r,o,es,ep,h1,h2,h3,h4,fun x hx=>?_,h5⟩;have all:∀{l:List (List Key×V)} {m:List (List Key×aV×Value)},KT H l m->∀x∈m,(tupleKind (zT P w)).is h x.1 x.2.1:=by
  intro l m q;induction q with
  |nil=>intro x hx;exact nomatch hx
  | @cons p q ps qs hq t ih=>
    intro x hx;rcases bV.mp hx with e|hx
    ·subst e;exact vV9 ok (by rw[←hq.1];exact hq.2.1)
    ·exact ih x hx
 exact all r x hx
end
noncomputable def DGet(H:Hp)(a:aV)(y:V)(r:Option V):Prop:=
 (∃kvs k,Rd H a (.dK kvs)/\y=kV k/\r=valV kvs k)\/∃kvs k b,Rd H a (.dT kvs)/\y=.ref b/\H b=some (.tup (k.map kV))/\r=valV kvs k
section
variable{X:Cx}{pins:List (aV×Obj)}{σ:St}{H:Hp}{s:aY}{a:aV}{y v:V}{u r:Value}{o:Option V}{A:cC}{E:Value->aY->Prop}
theorem zVk(hu:A.units+1<cLine)(I:Inv X pins σ H s)(g:DGet H a y (some v))(ry:RelV y u)(h:∀w' s',Inv X pins σ H s' ->RelV v w' ->Q w' s'):
  aO (model X.prog X.w) A (getItem (.ref a) u) Q E s:=by
 rcases g with⟨kvs,k,e,ey,l⟩|⟨kvs,k,b,e,ey,eb,l⟩
 ·subst ey;obtain⟨z,hd,vs,rel,dd⟩:=vJn I.hok e;obtain⟨w',hw,rw'⟩:=RelO.some_of (v:=v) (o:=valueAt vs k) (by rw[l];exact rel.val k);exact wpAny_getItem_of (vYv ry) dd.mapOf hw (h w' _ (I.tok _) rw')
 ·subst ey;cases(show u=Value.ref b from ry);obtain⟨z,hd,xs,rel,dd⟩:=vY2 I.hok e;obtain⟨w',hw,rw'⟩:=RelO.some_of (v:=v) (o:=(atKey xs k).map (·.2)) (by rw[l];exact rel.val k);obtain⟨p,hp,hp2⟩:=bP.mp hw;refine wpAny_getItem_heap (tupleKind_room_in1 hu) (vV9 I.hok eb) dd hp ?_
  rw[hp2];exact h w' _ (I.tok _) rw'
theorem d_in(hu:A.units+1<cLine)(I:Inv X pins σ H s)(g:DGet H a y o)(ry:RelV y u)(h:∀s',Inv X pins σ H s' ->Q (.bool o.isSome) s'):
  aO (model X.prog X.w) A (bL .In u (.ref a)) Q E s:=by
 rcases g with⟨kvs,k,e,ey,l⟩|⟨kvs,k,b,e,ey,eb,l⟩
 ·subst ey;obtain⟨z,hd,vs,rel,dd⟩:=vJn I.hok e;refine wpAny_in_of (vYv ry) hd dd.mapOf ?_
  rw[←(rel.val k).isSome_eq,←l];exact h _ (I.tok _)
 ·subst ey;cases(show u=Value.ref b from ry);obtain⟨z,hd,xs,rel,dd⟩:=vY2 I.hok e;refine wpAny_in_heap (tupleKind_room_in1 hu) (vV9 I.hok eb) hd dd ?_
  have q:=(rel.val k).isSome_eq;rw[Option.isSome_map]at q;rw[←q,←l];exact h _ (I.tok _)
theorem zKz(hu:A.units+1<cLine)(I:Inv X pins σ H s)(g:DGet H a y o)(ry:RelV y u)(h:∀s',Inv X pins σ H s' ->Q (.bool (!o.isSome)) s'):
  aO (model X.prog X.w) A (bL .NotIn u (.ref a)) Q E s:=by
 rcases g with⟨kvs,k,e,ey,l⟩|⟨kvs,k,b,e,ey,eb,l⟩
 ·subst ey;obtain⟨z,hd,vs,rel,dd⟩:=vJn I.hok e;refine wpAny_notIn_of (vYv ry) hd dd.mapOf ?_
  rw[←(rel.val k).isSome_eq,←l];exact h _ (I.tok _)
 ·subst ey;cases(show u=Value.ref b from ry);obtain⟨z,hd,xs,rel,dd⟩:=vY2 I.hok e;refine wpAny_notIn_heap (tupleKind_room_in1 hu) (vV9 I.hok eb) hd dd ?_
  have q:=(rel.val k).isSome_eq;rw[Option.isSome_map]at q;rw[←q,←l];exact h _ (I.tok _)
end
section
variable{X:Cx}{pins:List (aV×Obj)}{σ:St}{H:Hp}{s:aY}{a:aV}{kvs:List (Key×V)}{k:Key}{u:Value}{A:cC}{E:Value->aY->Prop}
theorem jWp(I:Inv X pins σ H s)(e:Rd H a (.dK kvs))(h:∀t s',Inv X pins σ H s' ->Q (.int kvs.length t) s'):aO (model X.prog X.w) A (call (.builtin "len") [.ref a]) Q E s:=by
 obtain⟨z,hd,vs,rel,dd⟩:=vJn I.hok e;refine call_len_dict hd dd (by rw[←rel.length];rw[sizeLine_eq]at z;omega) ?_
 rw[←rel.length];exact h _ _ (I.tok _)
end
theorem vWz{X:Cx}{pins:List (aV×Obj)}{σ:St}{s:aY}{a:aV}{y:V}{o:Option V}(I:Inv X pins σ H s)(g:DGet H a y o):s.TypeIs (.ref a) "dict":=by
 rcases g with⟨kvs,k,e,_,_⟩|⟨kvs,k,b,e,_,_,_⟩
 ·obtain⟨_,_,vs,_,dd⟩:=vJn I.hok e;exact dd.typeIs
 ·obtain⟨_,_,xs,_,dd⟩:=vY2 I.hok e;exact dd.typeIs
structure M1(X:Cx)(o:Expr)(m:Str)(apos:Pos)(e:Expr)(cpos:Pos):Prop where
 base:attributeBase o m X.env (eval o X.env)=eval o X.env
 few:((cX cpos (aX [e] X.env)).all (fun x=>!x.1) && (backToKw cpos (keywordEach [] X.env)).all (fun x=>x.1.isSome)
  && decide (([e]:List Expr).length+([]:List Keyword).length+(if([]:List Keyword).isEmpty then 0 else 1)<30))=true
 line:(apos.endLine == cpos.line)=true
 trees:cX cpos (aX [e] X.env)=[(false,eval e X.env)]
theorem zVa{i l:aV}(hil:l≠i)(xs:Array Value):Feed i l (fun k h=>h.IsListIter i l k/\h.IsList l xs) (fun k=>xs[k]?) where
 obj:=fun k h p=>by
  obtain⟨⟨o,e,_,d⟩,_⟩:=p;exact⟨o,e,fun v z=>by rw[d]at z;cases z⟩
 keep:=fun k h g p q=>⟨p.1.at fun o e=>q i o (.inl rfl) e,by
  obtain⟨o,e,r⟩:=p.2;exact⟨o,q l o (.inr rfl) e,r⟩⟩
 item:=fun p hx hQ=>wpAny_nextOf_list_item p.1 p.2 hx fun g h1 h2=>hQ g ⟨h1,p.2.extBut h2.extBut hil⟩ h2
 stop:=fun hh p hx hE=>wpAny_nextOf_list_end hh p.1 p.2 hx hE
end L2
namespace L2
open PySem PySem.Spec PySem.W PyProof.Rows
section
variable{X:Cx}
theorem jZb(hu:X.A.units+1<cLine):OpR X (bL .In) (fun x y H Q=>∃a o,y=.ref a/\DGet H a x o/\Q (.bl o.isSome) H):=by
 intro pins s σ H x y u v Q I ru rv h;obtain⟨a,o,rfl,g,q⟩:=h;cases(show v=Value.ref a from rv);exact d_in hu I g ru fun s' I' =>⟨.bl _,H,I',rfl,q⟩
theorem zQv(hu:X.A.units+1<cLine):OpR X (bL .NotIn) (fun x y H Q=>∃a o,y=.ref a/\DGet H a x o/\Q (.bl (!o.isSome)) H):=by
 intro pins s σ H x y u v Q I ru rv h;obtain⟨a,o,rfl,g,q⟩:=h;cases(show v=Value.ref a from rv);exact zKz hu I g ru fun s' I' =>⟨.bl _,H,I',rfl,q⟩
end
end L2
namespace L2
open PySem PySem.Spec PyProof.Rows
variable{pos:Pos}{a:aV}{M:Model}
noncomputable def Ite(K:aQ)(a:aV):It:=
 ⟨fun i H=>∃xs x,SqL K H a xs/\xs[i]?=some x,
  fun i H v H' =>∃p,v=.ref p/\H p=none/\∀xs x,SqL K H a xs->xs[i]?=some x->H' =upd H p (.tup [.int (i:Int),x]),
  fun i H=>∃xs,SqL K H a xs/\xs.length<=i⟩
theorem zQh{P:bQ}{w:bK}{K:aQ}{elts:List Expr}{kk:Nat}(a e it:aV)(hne:e≠it):
  Turn P w K (.Tuple elts kk pos) (Ite K a) [e,it] e (fun i h=>(∃old,IsEnum h e it (i:Int) old)/\h.IsListIter it a i) where
 mem:=by simp
 obj:=fun i h st c hc=>by
  obtain⟨⟨old,he⟩,⟨o2,e2,c2,d2⟩⟩:=st;have hc' :c=e\/c=it:=by simpa using hc
  rcases hc' with rfl|rfl
  ·exact⟨_,he,fun v q=>by have q' :Data.fields _=Data.cell v:=q;cases q'⟩
  ·exact⟨_,e2,fun v q=>by rw[d2]at q;cases q⟩
 keep:=fun i h h' st k=>by
  obtain⟨⟨old,he⟩,h2⟩:=st;exact⟨⟨old,k e (by simp) _ he⟩,h2.at fun o e' =>k it (by simp) o e'⟩
 item:=by
  intro X hP hw hK hc i pins s σ H E I hf st hg;subst hP hw hK;obtain⟨xs,x,hq,hx⟩:=hg;obtain⟨its,rv,p1,hz1⟩:=I.list hq;obtain⟨u,hu,ru⟩:=rv.get hx;obtain⟨⟨old,he⟩,hit⟩:=st;refine wpAny_pyNext_enum_item he hit p1.isList (x:=u) (by simpa using hu) hne fun h' a1 a2 a3 a4 hk=>?_
  refine⟨_,rfl,wpAny_letOwnedTupleGo_enum a1 fun h'' hz'' sb=>?_⟩;have nz:s.heap.objs.size≠e:=dN (aC he);have hk2:∀c o,c∉ [e,it]->s.heap.get? c=some o->h''.get? c=some o:=fun c o hc e' =>by
   simp only[bV,List.not_mem_nil,or_false,not_or]at hc;exact sb.extBut c o hc.1 (hk c o hc.1 hc.2 e')
  refine⟨.ref s.heap.objs.size,upd H s.heap.objs.size (.tup [.int (i:Int),x]),I.turnedLaid (t' :=s.toks+1) hk2 hf (aD _) ⟨zZf,[.int (i:Int) s.toks,u],.cons ⟨_,rfl⟩ (.cons ru .nil),⟨_,sb.extBut _ _ nz a3,rfl,_,rfl⟩⟩,rfl,
   ⟨_,rfl,I.hok.fresh (aD _),fun xs' x' e1 e3=>?_⟩,⟨⟨_,hz''⟩,a2.extBut sb.extBut hne.symm⟩,fun c hc=>?_⟩
  ·rw [I.list_inj e1 hq,hx] at e3;cases e3;rfl
  ·obtain⟨o,e',_⟩:∃o,s.heap.get? c=some o/\True:=by
    have hc' :c=e\/c=it:=by simpa using hc
    obtain⟨o2,e2,_⟩:=hit;rcases hc' with rfl|rfl
    ·exact⟨_,he,trivial⟩
    ·exact⟨_,e2,trivial⟩
   rw[qL (bY (aC e'))];exact(hf c hc).1
 done:=by
  intro X hP hw hK hc i pins s σ H E I hf st hg;subst hP hw hK;obtain⟨xs,hq,hend⟩:=hg;obtain⟨its,rv,p1,hz1⟩:=I.list hq;obtain⟨⟨old,he⟩,hit⟩:=st;have l1:=rv.length;refine wpAny_pyNext_enum_end (I.ok.hd hc) he hit p1.isList (by simp;omega) fun h' hk=>⟨rfl,I.turnedAll (t' :=s.toks) (ch:=[e,it]) (fun c o hc e' =>?_) hf⟩
  simp only[bV,List.not_mem_nil,or_false,not_or]at hc;exact hk c o hc.2 e'
 self:=fun _ _ _ _ _ st h=>let ⟨_,he⟩:=st.1;wpAny_pyIter_enum he h
section
variable{X:Cx}{elts:List Expr}{kk:Nat}{tpos:Pos}
noncomputable def jWk(K:aQ)(ta:TA):TI:=fun σ H R=>ta σ H fun vs H1=>∃a,vs=[.ref a]/\(∃xs,SqL K H1 a xs)/\R (Ite K a) H1
theorem zYk{e1:Expr}{ta:TA}{p:Pos}(hg:Gl X "enumerate")(hm:X.mg "enumerate"=none)(ha:PA X [e1] ta)(hs:aX [e1] X.env=[(false,eval e1 X.env)]:=by rfl)(hs2:aX [] X.env=[]:=by rfl):PI X (.Tuple elts kk tpos) (.Call (.Name "enumerate" p) [e1] [] pos) (jWk X.K ta):=by
 intro pins s σ H R I h;refine Call_ (qXm I hg hm Boot.«enumerate» (dH (thn (ha pos pins s σ H _ I h) fun us s1 ⟨vs,H1,I1,r1,q1⟩=>?_) (by rw[hs,hs2]) (by rw[hs2];rfl)));obtain⟨a,e,⟨xs,hx⟩,q⟩:=q1;subst e;obtain⟨u,rfl,r⟩:=xS r1;cases(show u=Value.ref a from r);obtain⟨its,rv,p1,hz1⟩:=I1.list hx;refine call_enumerate_list p1.isList fun h' he hit hsz hk=>?_
 refine wpAny_pyIter_enum he ?_
 refine⟨s1.heap.objs.size+1,[s1.heap.objs.size+1,s1.heap.objs.size],_,_,H1,rfl,I1.kept (t' :=s1.toks) hk,zQh a _ _ (Nat.succ_ne_self _),⟨⟨_,he⟩,hit⟩,fun c hc=>?_,q⟩;have hc' :s1.heap.objs.size<=c:=by
  grind
 exact I1.fpOk hc' (I1.hok.fresh hc')
end
noncomputable def DkH(h h' :Heap):Prop:=∀b o,h.get? b=some o->∃o',h'.get? b=some o' /\o'.dict=o.dict
theorem DkH.refl(h:Heap):DkH h h:=fun _ o e=>⟨o,e,rfl⟩
theorem DkH.trans{h1 h2 h3:Heap}(x:DkH h1 h2)(y:DkH h2 h3):DkH h1 h3:=fun b o e=>by
 obtain⟨o1,e1,d1⟩:=x b o e;obtain⟨o2,e2,d2⟩:=y b o1 e1;grind
theorem DkH.push(h:Heap)(o:Obj):DkH h (h.push o):=fun _ u e=>⟨u,aK _ e,rfl⟩
noncomputable def TmF(f:Obj->Obj):Prop:=∀o:Obj,(f o).dict =o.dict/\(o.isFreed=false->(f o).isFreed =false)
theorem DkH.update{h:Heap}{f:Obj->Obj}(hf:TmF f):DkH h (h.update a f):=fun b o e=>by
 by_cases hb:a=b
 ·subst hb;exact⟨f o,Heap.get?_update_self f e ((hf o).2 (Heap.get?_some_iff.mp e).2),(hf o).1⟩
 ·exact⟨o,(Heap.get?_update_other h f hb).trans e,rfl⟩
inductive Tm{α:Type}:Sem α->Prop
 |pure (a:α):Tm (.pure a)
 |raise (e:Value):Tm (.raise e)
 |unsupported (w:String):Tm (.unsupported w)
 |load {a:aV} {p:Option Value} {k:Obj->Sem α} (h:∀o,Tm (k o)):Tm (.load a p k)
 |update {a:aV} {p:Option Value} {f:Obj->Obj} {k:Unit->Sem α} (hf:TmF f) (h:Tm (k ())):Tm (.update a p f k)
 |alloc {o:Obj} {k:aV->Sem α} (h:∀a,Tm (k a)):Tm (.alloc o k)
 |ask {k:Setting->Sem α} (h:∀a,Tm (k a)):Tm (.ask k)
 |rule {t:String} {k:Unit->Sem α} (h:Tm (k ())):Tm (.rule t k)
 |stack {k:List (Code×Pos)->Sem α} (h:∀l,Tm (k l)):Tm (.stack k)
section
variable{α β:Type}
theorem Tm.bind{m:Sem α}{f:α->Sem β}(h:Tm m)(k:∀a,Tm (f a)):Tm (m.bind f):=by
 induction h with
 |pure a=>exact k a
 |raise e=>exact .raise e
 |unsupported w=>exact .unsupported w
 |load _ ih=>exact .load ih
 |update hf _ ih=>exact .update hf ih
 |alloc _ ih=>exact .alloc ih
 |ask _ ih=>exact .ask ih
 |rule _ ih=>exact .rule ih
 |stack _ ih=>exact .stack ih
theorem Tm.bind'{m:Sem α}{f:α->Sem β}(h:Tm m)(k:∀a,Tm (f a)):Tm (m >>=f):=h.bind k
theorem Tm.wp{Γ:PySem.Ctx}{m:Sem α}(h:Tm m):∀{Q:α->Pos->aY->Prop} {E:Value->Pos->aY->Prop} {p:Pos} {s:aY},Sem.wp M Γ m Q E p s->
  Sem.wp M Γ m (fun a p' s' =>Q a p' s' /\DkH s.heap s'.heap) (fun e p' s' =>E e p' s' /\DkH s.heap s'.heap) p s:=by
 induction h with
 |pure a=>intro Q E p s w;rw[Sem.wp_pure]at w⊢;exact⟨w,.refl _⟩
 |raise e=>intro Q E p s w;rw[Sem.wp_raise]at w⊢;exact⟨w,.refl _⟩
 |unsupported w=>simp_all
 | load _ ih=>
   intro Q E p s w;rw[Sem.wp_load]at w⊢;grind
 | update hf _ ih=>
   intro Q E p s w;exact⟨w.1,Sem.wp_mono M Γ _ (fun _ _ _ q=>⟨q.1,(DkH.update hf).trans q.2⟩) (fun _ _ _ q=>⟨q.1,(DkH.update hf).trans q.2⟩) _ _ (ih w.2)⟩
 | alloc _ ih=>
   intro Q E p s w;exact Sem.wp_mono M Γ _ (fun _ _ _ q=>⟨q.1,(DkH.push _ _).trans q.2⟩) (fun _ _ _ q=>⟨q.1,(DkH.push _ _).trans q.2⟩) _ _ (ih _ w)
 |ask _ ih=>simp_all
 |rule _ ih=>simp_all
 |stack _ ih=>simp_all
theorem Tm.any{A:cC}{m:Sem α}{Q:α->aY->Prop}{E:Value->aY->Prop}{s:aY}(h:Tm m)(w:aO M A m Q E s):
  aO M A m (fun a s' =>Q a s' /\DkH s.heap s'.heap) (fun e s' =>E e s' /\DkH s.heap s'.heap) s:=fun Γ p hΓ=>h.wp (w Γ p hΓ)
end
theorem vXu(f:Array Value->Array Value):TmF (Obj.mapFields f):=fun o=>by
 obtain⟨c,d,dt,sl⟩:=o;cases dt <;> exact⟨rfl,fun h=>h⟩
theorem vZf(a:aV):Tm (load a):=.load fun o=>.pure o
theorem vVh{f:Obj->Obj}(h:TmF f):Tm (update a f):=.update h (.pure ())
theorem zJl(o:Obj):Tm (alloc o):=.alloc fun a=>.pure a
theorem vWr(v:Value):Tm (fieldsOf v):=by
 unfold fieldsOf;split
 ·refine .bind' (vZf _) fun o=>?_
  split <;> first|exact .pure _|exact .unsupported _
 ·exact .unsupported _
theorem qW3(v:Value)(i:Nat):Tm (field v i):=by
 refine .bind' (vWr v) fun vs=>?_
 split <;> first|exact .pure _|exact .unsupported _
theorem qZn(v:Value)(i:Nat)(x:Value):Tm (setField v i x):=by
 unfold setField;split
 ·unfold updateField;refine .bind' (vZf _) fun o=>?_
  split
  ·split
   ·exact vVh (vXu _)
   ·exact .unsupported _
  ·exact .unsupported _
 ·exact .unsupported _
theorem qVo(e:Value)(f:Option aV):Tm (setFlight e f):=by
 refine .bind' (qW3 _ _) fun tb=>?_
 split
 ·exact qZn _ _ _
 ·exact .pure _
theorem qZ3:∀l:List Env,Tm (readyFrames l)
 |[]=>.pure _
 | env::outer=>by
   unfold readyFrames;split
   ·refine .bind' (vZf _) fun o=>?_
    split
    ·exact .pure _
    ·refine .bind' ?_ fun _=> .bind' ?_ fun _=> .bind' (vVh fun o=>⟨rfl,fun h=>?_⟩) fun _=>qZ3 outer
     ·unfold behindIsImport;split
      ·exact .pure _
      ·split
       ·exact .pure _
       ·exact .bind' (qW3 _ _) fun _=>.pure _
     ·unfold keptBack;split
      ·split
       ·exact .pure _
       ·unfold underTheClaimsCaller;exact .bind' (.bind' (.stack fun _=>.pure _) fun _=>.pure _) fun _=>.pure _
      ·exact .pure _
     ·obtain⟨c,d,dt,sl⟩:=o;cases dt <;> first|rfl|exact h
   ·exact .unsupported _
theorem vXv(env:Env):Tm (PySem.frameOf env):=by
 refine .bind' (.bind' (.stack fun _=>.pure _) fun _=>.pure _) fun l=>.bind' ?_ fun o=>?_
 ·unfold frameObject;split
  ·exact .pure _
  ·exact .bind' (qZ3 _) fun _=>.pure _
 ·split <;> first|exact .pure _|exact .unsupported _
theorem vZy(t:String)(vs:List Value):Tm (newFields t vs):=by
 unfold newFields newObj;dsimp only;have k:Tm (newObjAsIs (.type t) (.fields vs.toArray)):=by
  exact .bind' (zJl _) fun _=>.pure _
 split
 ·exact .bind' (.unsupported _) fun _=>k
 ·exact k
theorem qXa(e:Value)(env:Env):Tm (noteFrame e env):=by
 unfold noteFrame;split
 ·refine .bind' (qW3 _ _) fun head=>?_
  have rest:∀f,Tm (do setField e 1 (←EntryCells.newEntry head (←PySem.frameOf env) .none (rawInt f) .none (←entryPlaceOf f (head !=.none)))):=fun f=>by
   refine .bind' (vXv _) fun fr=>.bind' ?_ fun pl=>.bind' ?_ fun t=>qZn _ _ _
   ·unfold entryPlaceOf;refine .bind' (.stack fun _=>.pure _) fun acts=>?_
    split <;> exact .pure _
   ·unfold EntryCells.newEntry;exact vZy _ _
  split
  ·refine .bind' (qW3 _ _) fun x=>?_
   split
   ·exact .pure _
   ·exact .bind' (qZn _ _ _) fun _=>rest _
  ·exact rest _
 ·exact .unsupported _
theorem vQe(env:Env)(e:Value):Tm (leaving env e):=.bind' (qXa _ _) fun _=>qVo _ _
end L2
namespace L2
open PySem PySem.Spec PySem.W PySem.Calls PyProof.Rows
variable{rest:List Value}{w:bK}{C fI:aV}{pos:Pos}{h:Heap}
noncomputable abbrev vErr:List Value:=[.type "ValueError",.type "Exception",.type "BaseException",.type "object"]
structure IniCls(K:Frag)(C fI:aV):Prop where
 ob:∃nm q N bs bm hdct sn sub ab col dd k0 k1 k2 k3 k5,K.lookup C=some (excClassObj nm q C N bs bm hdct sn sub ab col dd k0 k1 k2 k3 k5 "ValueError.__new__")/\tailIn K vErr bm=true
 ini:findIn K (.ref C) "__init__"=some (some (.ref fI))
 fn:typeIn K (.ref fI)=some (.type "function")
 sa:findIn K (.ref C) "__setattr__"=some (some (.builtin "object.__setattr__"))
 hd:hasDictIn K C=true
section
variable{prog:bQ}{w:bK}{A:cC}{E:Value->aY->Prop}{h:Heap}{g:Array GenState}{d:Drawn}{t:Nat}{os:OsState}{K:Frag}{C fI:aV}
theorem vQ3{Q:Fin->aY->Prop}(X:K.In h)(k:IniCls K C fI)(hq:∀h' e,Heap.MadeExcOf h h' e (.ref C) rest->aO (model prog w) A (call (.ref fI) (.ref e::rest)) (fun r s' =>r=.none /\Q (.done (.ret (.ref e))) s') E ⟨h',g,d,t,os⟩)(hrest:rest.length<=aT):
  aO (model prog w) A (Builtin.«type.__call__» ⟨.ref C::rest,[]⟩) Q E ⟨h,g,d,t,os⟩:=by
 obtain⟨nm,q,N,bs,bm,hdct,sn,sub,ab,col,dd,k0,k1,k2,k3,k5,ho,ht⟩:=k.ob;have hC:=X _ _ ho;have T:=tail_of_in X ht;have F:=PySem.F.excBase_ValueError;repeat (first|with_reducible refine cG hC ?_|with_reducible refine wpAny_madeBy_exc hC ?_|wp_step)
 refine codeAny_call_builtin_code (Code.quiet_builtin _ F.quiet) (wpAny_check_new_subT F T hC ?_);refine codeAny_exc_new_subT F T hC ?_ hrest;generalize hh1:(h.push {cls:=.type "tuple",data:=.seq rest.toArray}).push {cls:=.ref C,data:=.fields #[.ref h.objs.size,.none,.none,.none,.bool false,.none]}=h1;have keep:∀b o,h.get? b=some o->h1.get? b=some o:=fun b o e=>by rw[←hh1];exact aK _ (aK _ e)
 have hget:h1.get? (h.objs.size+1)=some {cls:=.ref C,data:=.fields #[.ref h.objs.size,.none,.none,.none,.bool false,.none]}:=by rw[←hh1];heap_get
 have htup:h1.get? h.objs.size=some {cls:=.type "tuple",data:=.seq rest.toArray}:=by rw[←hh1];exact aK _ (Heap.get?_push_at rfl rfl)
 have X1:K.In h1:=fun a o e=>keep a o (X a o e)
 have L3:=looks_findIn (M:=model prog w) X1 k.ini;have L4:=bind_fn (M:=model prog w) X1 (.ref (h.objs.size+1)) k.fn;have hcC:(Value.ref C::bm).contains (.ref C)=true:=by simp
 repeat (first|with_reducible refine cG hget ?_|(with_reducible refine wpAny_isSubtype_exc (keep _ _ hC) ?_;rw[hcC])|wp_step)
 refine L3.at ?_
 refine wpAny_holding (aZ (L4.at ?_));refine aZ (bS (hq h1 (h.objs.size+1) ⟨keep,Heap.get?_none_of_le (Nat.le_succ _),h.objs.size,hget,Heap.get?_none_of_le (aD _),htup⟩) (fun r s' hr=>?_) fun _ _ x=>x);obtain⟨rfl,hQ⟩:=hr;wp_walk;exact hQ
theorem zWt{Q:Value->aY->Prop}(X:K.In h)(k:IniCls K C fI)(hq:∀h' e,Heap.MadeExcOf h h' e (.ref C) rest->aO (model prog w) (A.under (.builtin "type.__call__" ⟨.ref C::rest,[]⟩)) (call (.ref fI) (.ref e::rest)) (fun r s' =>r=.none /\Q (.ref e) s') E ⟨h',g,d,t,os⟩)(hrest:rest.length<=aT):
  aO (model prog w) A (call (.ref C) rest) Q E ⟨h,g,d,t,os⟩:=by
 obtain⟨nm,q,N,bs,bm,hdct,sn,sub,ab,col,dd,k0,k1,k2,k3,k5,ho,ht⟩:=k.ob;have hC:=X _ _ ho;have f1:=tc_lookup;have f2:=tc_bind (.ref C);refine wpAny_call (codeAny_of_tree ?_);repeat (any_goals (first|assumption|with_reducible refine cG hC ?_|wp_step))
 refine⟨rfl,?_⟩;exact codeAny_call_builtin_at (Code.quiet_builtin _ (by decide +kernel)) entry_typeCall (wpAny_check_type_call_sub hC (vQ3 X k hq hrest))
end
noncomputable def ExcR(e:aV)(cls:Value)(t:aV)(dx:Option aV):Heap->Prop:=fun h=>∃o,h.get? e=some o/\o.cls=cls/\o.data=.fields #[.ref t,.none,.none,.none,.bool false,.none]/\o.dict=dx
theorem zQ7{prog:bQ}{A:cC}{E:Value->aY->Prop}{s:aY}{env:Env}{K:Frag}{x:Str}{np cpos:Pos}{args:List Expr}{Q:Flow->aY->Prop}(k:IniCls K C fI)(hh:A.handled=none)(hplain:(cX cpos (aX args env)).any (·.1)=false)(h:aO (model prog w) A (eval (.Name x np) env) (fun f s₁=>f=.ref C/\aO (model prog w) A (evalArgs (.ref C) true (cX cpos (aX args env)) [])
   (fun a s₂=>a.kw=[]/\a.pos.length<=aT/\K.In s₂.heap/\
    ∀h' e,Heap.MadeExcOf s₂.heap h' e (.ref C) a.pos->aO (model prog w) (A.under (.builtin "type.__call__" ⟨.ref C::a.pos,[]⟩)) (call (.ref fI) (.ref e::a.pos))
     (fun r s' =>r=.none /\K.In s'.heap/\(∃t dx,ExcR e (.ref C) t dx s'.heap)/\E (.ref e) s') E {s₂ with heap:=h' }) E s₁) E s):
  aO (model prog w) A (exec (.Raise (some (.Call (.Name x np) args [] cpos)) none pos) env) Q E s:=by
 obtain⟨nm,q,N,bs,bm,hdct,sn,sub,ab,col,dd,k0,k1,k2,k3,k5,ho,ht⟩:=k.ob;have F:=PySem.F.excBase_ValueError;rw[arm_exec_Raise];refine aZ (wpAny_standAt ?_);unfold raiseStmt;refine aZ (aZ (bS (wpAny_Call_ofName (Q:=fun v s₃=>K.In s₃.heap/\∃e t dx,v=.ref e/\ExcR e (.ref C) t dx s₃.heap/\E (.ref e) s₃) (bS h (fun f s₁ h₁=>?_) fun _ _ x=>x)) (fun v s₃ h₃=>aZ (wpAny_standAt (aL ?_))) fun _ _ x=>x))
 ·obtain⟨rfl,h₁⟩:=h₁;unfold callWith;refine aZ (wpAny_holding (bS h₁ (fun a s₂ h₂=>aZ (wpAny_standAt ?_)) fun _ _ x=>x));obtain⟨apos,akw⟩:=a;obtain⟨hkw,hlen,X2,h₂⟩:=h₂;obtain rfl:akw=[]:=hkw;obtain⟨hp,g,d,tk,os⟩:=s₂;simp only[hplain];refine aZ (wpAny_keeperOf_exc (X2 _ _ ho) ?_);refine aZ (zWt X2 k (fun h' e hm=>bS (h₂ h' e hm) (fun r s' hr=>⟨hr.1,aZ (wpAny_holding (wpAny_point (aL ?_)))⟩) fun _ _ x=>x) hlen);obtain⟨_,X3,⟨t,dx,hx⟩,hE⟩:=hr;exact⟨X3,e,t,dx,rfl,hx,hE⟩
 ·obtain⟨X3,e,t,dx,rfl,⟨o,he,hc,hd,_⟩,hE⟩:=h₃;have T:=tail_of_in X3 ht;have hC:=X3 _ _ ho;obtain⟨hp,g,d,tk,os⟩:=s₃;have hcB:(Value.ref C::bm).contains (.type "BaseException")=true:=by rw[bH,T.hasType F.hasBase,Bool.or_true]
  obtain⟨oc,od,odt,osl⟩:=o;dsimp only at hc hd;subst hc hd;repeat (first|with_reducible refine cG he ?_|with_reducible refine cG hC ?_|(with_reducible refine wpAny_isSubtype_exc hC ?_;rw[hcB])|wp_step)
  exact wpAny_raiseNew_none hh hE
theorem vWt{l:List Value}(self:Value)(T:OwnTail h vErr l):refuseLoop self "__setattr__" l=pure ():=by
 induction T with
 |base=>exact PySem.F.store_ValueError.passes self
 |own _ _ _ _ ih=>rw[refuseLoop_ref];exact ih
section
variable{prog:bQ}{w:bK}{A:cC}{E:Value->aY->Prop}{s:aY}{K:Frag}{C fI x t:aV}{name:Str}{v:Value}
theorem zKe{Q:Unit->aY->Prop}(X:K.In s.heap)(k:IniCls K C fI)(hn:findIn K (.ref C) name=some none)(hx:ExcR x (.ref C) t none s.heap)(h:∀h',ExcR x (.ref C) t (some s.heap.objs.size) h' ->h'.Ns1 s.heap.objs.size (fun y=>if y=name then some v else none)->(∀b o,b≠x->s.heap.get? b=some o->h'.get? b=some o)->h'.objs.size=s.heap.objs.size+1->Q () {s with heap:=h',toks:=s.toks+2}):
  aO (model prog w) A (setAttr (.ref x) name v) Q E s:=by
 obtain⟨nm,q,N,bs,bm,hdct,sn,sub,ab,col,dd,k0,k1,k2,k3,k5,ho,ht⟩:=k.ob;obtain⟨o,he,hc,hd,hdict⟩:=hx;obtain⟨oc,od,odt,osl⟩:=o;subst hc hd hdict;have SF:=PySem.F.store_object;have I:InstAt s.heap x _ C none:=⟨he,rfl,rfl,trivial⟩
 have T:=tail_of_in X ht;obtain⟨cd,hcl,hmro⟩:∃cd,clsIn K C=some cd/\cd.mro=.ref C::bm:=⟨_,by unfold clsIn;rw[ho],rfl⟩
 have hdd:cd.hasDict=true:=by
  obtain⟨cd',hcd,hdd⟩:=any_some k.hd;grind
 have hm:Looks (model prog w) s.heap (mroOf (.ref C)) (.ref C::bm):=hmro▸(looks_clsIn X hcl).andThen .now;have hobj:(Value.ref C::bm).contains (.type "object")=true:=by rw[bH,T.hasType (show vErr.contains (.type "object")=true by decide),Bool.or_true]
 have sub' :Looks (model prog w) s.heap (isInstance (.ref x) (.type "object")) true:=I.type.andThen (looks_mroIn X (by unfold mroIn;rw[hcl,Option.bind_some,hmro];exact congrArg some hobj));refine set_plain X I k.sa ?_
 refine eY SF.slot.plain SF.entry (@check_slot (model prog w) _ _ {s with toks:=s.toks+1} "object.__setattr__" "object" "__setattr__" (.ref x) [.str name s.toks,v] [] _ SF.kind SF.split sub' (SF.args (.ref x) (.str name s.toks) v) ?_);rw[osa_eq,refuse_eq];refine aZ (aZ (I.type.here (s:={s with toks:=s.toks+1}) (aZ (hm.here (s:={s with toks:=s.toks+1}) ?_))));rw[refuseLoop_ref,vWt _ T];refine aL (aZ (I.type.here (s:={s with toks:=s.toks+1}) (aZ ((looks_findIn X hn).here (s:={s with toks:=s.toks+1}) (aZ (aL ?_))))));have hxs:x≠s.heap.objs.size:=bY (aC he);have hx₁:=aK (h:=s.heap) {cls:=.type "dict",data:=.dict #[]} he;refine aZ (aL (aZ ?_));refine aZ (wpAny_loadPart he (aZ ((looks_clsIn X hcl).here (s:={s with toks:=s.toks+1}) ?_)));rw[hdd];refine aZ (wpAny_alloc' (aZ (wpAny_update' hx₁ ?_)));generalize hh1:(s.heap.push {cls:=.type "dict",data:=.dict #[]}).update x (fun o=> {o with dict:=some s.heap.objs.size})=h1;have gd:h1.get? s.heap.objs.size=some {cls:=.type "dict",data:=.dict #[]}:=by rw[←hh1];exact(Heap.get?_update_ne _ _ _ _ hxs.symm).trans (Heap.get?_push_at rfl rfl)
 have gx:h1.get? x=some {cls:=.ref C,dict:=some s.heap.objs.size,data:=.fields #[.ref t,.none,.none,.none,.bool false,.none],slots:=osl}:=by rw[←hh1];exact Heap.get?_update_self _ hx₁ rfl
 have gb:∀b o,b≠x->s.heap.get? b=some o->h1.get? b=some o:=fun b o n e=>by rw[←hh1];exact(Heap.get?_update_ne _ _ _ _ n).trans (aK _ e)
 have nd:h1.Ns s.heap.objs.size (fun _=>none):=⟨_,#[],_,gd,rfl,fun e he=>absurd he (by simp),fun _=>rfl⟩
 have sz:h1.objs.size=s.heap.objs.size+1:=by rw[←hh1,Heap.size_update,cI]
 refine aL (a:=some s.heap.objs.size) (aZ (aL (aZ (wpAny_nsSet1 (s:={s with heap:=h1,toks:=s.toks+1}) (Heap.Ns1.of_empty nd) fun h2 hn2 hs2=>?_))));obtain⟨oD,esD,epD,hoD,hdD,hcD⟩:=hn2.count (Within.cons name v Within.nil);refine aZ (wpAny_lookBehind hoD (by rw[hdD];exact pastItsLine_dict (aM hcD (by rw[aW,List.length_nil,sizeLine_eq];omega))) ?_);refine aL (h h2 ⟨_,(hs2.2 x hxs).trans gx,rfl,rfl,rfl⟩ hn2 (fun b o n e=>(hs2.2 b (bY (aC e))).trans (gb b o n e)) (hs2.1.trans sz))
end
noncomputable def sXF(K:Frag)(C:aV)(ta tv:TE)(f:Str):TS:=fun D σ H=>tv σ H fun y H1=>ta σ H1 fun x H2=>∃e t,x=.ref e/\H2 e=some (.ext (ExcR e (.ref C) t none))/\findIn K (.ref C) f=some none/\
 ∀dx,H2 dx=none->D.nx σ (upd (upd H2 e (.ext (ExcR e (.ref C) t (some dx)))) dx (.xd [(f,y)]))
theorem vWl{P:bQ}{H:Hp}{e t:aV}{cls:Value}{dx:Option aV}(x:ExcR e cls t dx h):vO P w H h e (.ext (ExcR e cls t dx)):=by
 obtain⟨o,a,b,c,d⟩:=x;exact⟨⟨o,a,b,c,d⟩,⟨o,a⟩,fun h1 h2 ⟨o,a,b,c,d⟩ k=>⟨o,k o a,b,c,d⟩⟩
theorem zX6{X:Cx}{o value:Expr}{ta tv:TE}{f:Str}{pos':Pos}(k:IniCls X.K C fI)(ha:PE X o ta)(hv:PE X value tv)(hs:swapsWith value (some (.Attribute o f pos')) pos.line X.env=pure false):
  PS X (.Assign [.Attribute o f pos'] value pos) (sXF X.K C ta tv f):=by
 intro pins s σ H D I h;refine plainObj_wpAny_Assign_Attribute (thn (hv pins s σ H _ I h) fun u s1 ⟨y,H1,I1,ry,q⟩=>thn (ha pins s1 σ H1 _ I1 q) fun ov s2 ⟨x,H2,I2,rx,e,t,ex,he,hf,q2⟩=>?_) hs;subst ex;obtain rfl:ov=Value.ref e:=rx;obtain⟨φ,_,_⟩:=(show vO X.prog X.w H2 s2.heap e _ from I2.hok e _ he)
 refine zKe I2.kIn k hf φ fun h' x1 n1 k1 sz=>?_
 have fr:H2 s2.heap.objs.size=none:=I2.hok.fresh (aD _);have ne:e≠s2.heap.objs.size:=vE he fr;refine⟨σ,_,?_,q2 _ fr⟩;have I3:=I2.write (x:=e) (e:=e) (o:=.ext (ExcR e (.ref C) t (some s2.heap.objs.size))) (h' :=h') (t' :=s2.toks+2) (by rw[he];exact True.intro) (.inl rfl) k1 (let ⟨o,a,_⟩:=x1;⟨o,a⟩) (vWl x1);have lt:∀b o,s2.heap.get? b=some o->s2.heap.objs.size≠b:=fun b o z=>dN (aC z)
 refine I3.adopt (by rw[qL ne.symm];exact fr) ?_ ?_ (fun y c z=>?_) (fun p hp=>?_) ?_
 ·cases q:X.s₀.heap.get? s2.heap.objs.size with
  |none=>rfl
  | some o=>
    exact absurd (aE (aC q) I2.sz) (cD _)
 ·obtain⟨m,⟨o,_,_,z,_⟩,_⟩:=I2.loc;exact lt _ _ z
 ·obtain⟨v,o,z,_⟩:=I2.cell y c z;exact(lt _ _ z).symm
 ·exact(lt _ _ (I2.pin p hp).1).symm
 ·refine⟨_,n1,fun g=>?_⟩;show RelO (List.lookup g [(f,y)]) (if g=f then some u else none);by_cases z:g=f
  ·subst z;rw[if_pos rfl];simp only[List.lookup,beq_self_eq_true];exact ry
  ·have z' :(g == f)=false:=by simpa using z
   rw[if_neg z];simp only[List.lookup,z'];exact True.intro
end L2
namespace L2
open PySem PySem.Spec PyProof.Rows
variable{P:bQ}{w:bK}{X:Cx}{H:Hp}{a b f C:aV}{K:aQ}{mg:Str->Option Value}{base:Heap}{N ps:List Str}{qual:Str}{scope:Scope}{cdv cls:Value}{A:cC}{outer:List Env}{s:aY}{E:XK}{fd:aH}{k:Nat}{sp:Sp}
noncomputable def CXd(P:bQ)(w:bK):CXT:=fun outer H s E e s' =>∃(ea:aV) (cls a0:Value) (H' :Hp) (B:Heap) (ox:Option aV),
 e=.ref ea/\s'.os=s.os/\AllBare s'.gens/\Un (frs outer) [] H H' s.heap s'.heap/\HOk P w H' s'.heap/\Heap.FlyingW B outer ea cls a0 s'.heap/\
 (∀b o,s'.heap.get? b=some o->b∉frs outer->(H' b≠none\/s.heap.get? b≠none)->B.get? b=some o)/\H' ea=none/\s.heap.get? ea=none/\(∃oe,s'.heap.get? ea=some oe/\oe.dict=ox)/\E cls ox H'
theorem jJ4:jR (CXd P w) X E0:=fun _ _ _ _ _ _ _ h=>by
 obtain⟨_,_,_,_,_,_,_,_,_,_,_,_,_,_,_,_,z⟩:=h;exact z.elim
noncomputable def but1(H:Hp)(a:aV):Hp:=fun b=>if b=a then none else H b
theorem qX6:but1 H a a=none:=if_pos rfl
theorem qY8(h:b≠a):but1 H a b=H b:=if_neg h
theorem vVz{o:HO}(h:but1 H a b=some o):b≠a/\H b=some o:=by
 by_cases z:b=a
 ·subst z;rw[qX6]at h;cases h
 ·exact⟨z,by rwa [qY8 z]at h⟩
theorem vWy{pins:List (aV×Obj)}{σ:St}{H1:Hp}{s2:aY}{h' :Heap}{ea t:aV}{ox:Option aV}(I:Inv (cxOf (CXd P w) P w K mg base N qual scope f cdv A outer s H E) pins σ H1 s2)(kp:∀b o,s2.heap.get? b=some o->h'.get? b=some o)(sea:s.heap.get? ea=none)(hL:ea≠s.heap.objs.size)(hx:ExcR ea cls t ox h')(ne:H1 ea=none\/∃φ,H1 ea=some (.ext φ))(he:E cls ox (but1 H1 ea)):
  (cxOf (CXd P w) P w K mg base N qual scope f cdv A outer s H E).xe (.ref ea) {s2 with heap:=h' }:=by
 obtain⟨oe,hoe,hcls,hdat,hdic⟩:=hx;have fr:(A.deeper (envOfC qual scope s.heap.objs.size f cdv)).frames =some (envOfC qual scope s.heap.objs.size f cdv::outer):=I.ok.frames;have hin:∀env∈(envOfC qual scope s.heap.objs.size f cdv::outer),∀b,env.frame=some b->b∈frs (envOfC qual scope s.heap.objs.size f cdv::outer):=fun env he b hb=>cQ.mpr ⟨env,he,hb⟩
 have hfs:∀b,b∈frs (envOfC qual scope s.heap.objs.size f cdv::outer)->b=s.heap.objs.size\/b∈frs outer:=fun b hb=>by
  obtain⟨env,he,hf⟩:=cQ.mp hb;rcases bV.mp he with rfl|he
  ·exact .inl (Option.some.inj hf).symm
  ·exact .inr (cQ.mpr ⟨env,he,hf⟩)
 have old:∀b o,s.heap.get? b=some o->b≠s.heap.objs.size:=fun b o e=>bY (aC e)
 have nx:∀b,b∉([]:List aV):=fun b=>by simp
 have nfr:∀b,b∈frs (envOfC qual scope s.heap.objs.size f cdv::outer)->b≠ea:=fun b hb z=>by
  rcases hfs b hb with q|q
  ·exact hL (z.symm.trans q)
  ·obtain⟨_,o',ho',_⟩:=I.ok.funs.mem q;rw[z]at ho';have q2:s.heap.get? ea=some o' :=ho';rw[sea]at q2;cases q2
 have k2:∀b o,h'.get? b=some o->b∉frs (envOfC qual scope s.heap.objs.size f cdv::outer)->b≠ea->(PySem.W.hideAll h' (ea::frs (envOfC qual scope s.heap.objs.size f cdv::outer))).get? b=some o:=fun b o e n1 n2=>
  PySem.W.hideAll_get _ e fun z=>(bV.mp z).elim n2 n1
 have ff:h'.FunFrames (PySem.W.hideAll h' (ea::frs (envOfC qual scope s.heap.objs.size f cdv::outer))) (envOfC qual scope s.heap.objs.size f cdv::outer):=
  PySem.W.funFrames_hide (h:=h') (I.stack.of_keeps fun b o e hn=>⟨o,kp b o e,rfl⟩) fun env he b hb=>aB _ (hin env he b hb)
 show aO _ _ (leaving _ _) _ _ _;refine bS ((vQe _ _).any (wpAny_leaving_firstW (s:={s2 with heap:=h' }) (base:=PySem.W.hideAll h' (ea::frs (envOfC qual scope s.heap.objs.size f cdv::outer))) (a0:=.ref t) fr ff rfl hoe (fun b o q=>PySem.W.of_hideAll _ q) ?_ hdat rfl rfl (E:=fun _ _=>False) (Q:=fun _ s' =>∃h'',s' ={s2 with heap:=h'' }/\Heap.LeftW (PySem.W.hideAll h' (ea::frs (envOfC qual scope s.heap.objs.size f cdv::outer))) (envOfC qual scope s.heap.objs.size f cdv::outer) ea oe.cls (.ref t) h' h'') fun h'' hL' =>⟨h'',rfl,hL'⟩)) (fun _ s' hq=>?_) fun _ _ z=>z.1.elim
 ·cases q:(PySem.W.hideAll h' (ea::frs (envOfC qual scope s.heap.objs.size f cdv::outer))).get? ea with
  |none=>rfl
  |some o=>rw[PySem.W.hideAll_none _ aA]at q;cases q
 obtain⟨⟨h'',rfl,b1,⟨_,_,b2⟩,b3,sm⟩,dk⟩:=hq;have hB:∀b o,s2.heap.get? b=some o->b∉frs outer->b≠s.heap.objs.size->b≠ea->h''.get? b=some o:=fun b o e n1 n2 n3=>b1 b o (k2 b o (kp b o e) (fun z=>(hfs b z).elim n2 n1) n3)
 have ksl:∀b o,s2.heap.get? b=some o->b∈frs outer->∃sl,h''.get? b=some {o with slots:=sl}:=fun b o e hb=>by
  obtain⟨_,o',ho',hd⟩:=I.funs.mem hb;rw[e]at ho';cases ho';exact sm b o (kp b o e) hd
 have trk:∀b u,H1 b=some u->b∉frs outer/\b≠s.heap.objs.size:=fun b u e=>by
  refine⟨fun z=>?_,fun z=>?_⟩
  ·have:=I.stkFree b (cQ.mpr (by
    obtain⟨env,he,hf⟩:=cQ.mp z;exact⟨env,aB _ he,hf⟩))
   rw[this]at e;cases e
  ·have z' :H1 s.heap.objs.size=none:=I.free;rw[z,z']at e;cases e
 have nea:∀b o,s.heap.get? b=some o->b≠ea:=fun b o e z=>by rw[z,sea]at e;cases e
 have keepE:∀{b:aV} {u:HO},H1 b=some u->(∀φ,u≠ .ext φ)->but1 H1 ea b=some u:=fun {b u} e hn=>by
  rw[qY8]
  ·exact e
  ·rintro rfl;rcases ne with z|⟨φ,z⟩ <;> rw[z]at e <;> cases e
   exact hn φ rfl
 obtain⟨oe',q1,q2⟩:=dk ea oe hoe;refine⟨ea,cls,.ref t,but1 H1 ea,PySem.W.hideAll h' (ea::frs (envOfC qual scope s.heap.objs.size f cdv::outer)),ox,rfl,I.os,I.bare,⟨fun b o e n hb _=>?_,fun b o e n hb _=>?_,fun b o e n hx=>?_,fun b o e hx=>?_,fun b xs e=>keepE (I.base.tups b xs e) fun _ z=>(nomatch z),fun b o u e=>keepE (I.base.frzs b o u e) fun _ z=>(nomatch z),fun b ps e=>?_⟩,
  fun b u e=>?_,⟨b1,PySem.W.hideAll_none _ aA,b2,hcls▸b3⟩,fun b o e nb hh=>?_,qX6,sea,⟨oe',q1,q2.trans hdic⟩,he⟩
 ·exact hB b o (I.base.keep b o e n hb (nx b)) hb (old b o e) (nea b o e)
 ·obtain⟨sl,e1⟩:=I.base.slot b o e n hb (nx b);obtain⟨sl',e2⟩:=ksl b _ e1 hb;exact⟨sl',e2⟩
 ·rw[qY8 (nea b o e)];exact I.base.free b o e n hx
 ·obtain⟨o',e1⟩:=I.base.there b o e hx;by_cases hb:b∈frs outer
  ·obtain⟨sl,e2⟩:=ksl b o' e1 hb;exact⟨_,e2⟩
  ·exact⟨o',hB b o' e1 hb (old b o e) (nea b o e)⟩
 ·obtain⟨more,z⟩:=I.base.tbls b ps e;exact⟨more,keepE z fun _ z=>(nomatch z)⟩
 ·obtain⟨n0,e⟩:=vVz e;refine(I.hok b u e).stay (fun c v hc q=>?_) (fun c q=>keepE q fun _ z=>(nomatch z)) fun c xs q=>keepE q fun _ z=>(nomatch z)
  rcases hc with z|z
  ·subst z;exact hB c v q (trk c u e).1 (trk c u e).2 n0
  ·refine hB c v q (trk c _ z).1 (trk c _ z).2 ?_
   rintro rfl;rcases ne with y|⟨φ,y⟩ <;> rw[y]at z <;> cases z
 ·have e2:(∃o2,s2.heap.get? b=some o2)/\b≠s.heap.objs.size/\b≠ea:=by
   rcases hh with z|z
   ·cases q:but1 H1 ea b with
    |none=>exact absurd q z
    | some u=>
      obtain⟨n0,q⟩:=vVz q;exact⟨I.hok.there q,(trk b u q).2,n0⟩
   ·cases q:s.heap.get? b with
    |none=>exact absurd q z
    |some o1=>exact⟨I.base.there b o1 q (nx b),old b o1 q,nea b o1 q⟩
  obtain⟨⟨o2,e2⟩,nL,n3⟩:=e2;have e3:=hB b o2 e2 nb nL n3;rw[e]at e3;cases e3;exact k2 b _ (kp b _ e2) (fun z=>(hfs b z).elim nL nb) n3
theorem xD:
  jR (CXd P w) (cxOf (CXd P w) P w K mg base N qual scope f cdv A outer s H E) E:=by
 intro pins σ H1 s1 e s' I hcx;obtain⟨ea,cls,a0,H2,B,ox,rfl,hos,bare,un,hok,fl,cov,hea,sea,⟨oe,hoe,hdic⟩,he⟩:=hcx;have fr:(A.deeper (envOfC qual scope s.heap.objs.size f cdv)).frames =some (envOfC qual scope s.heap.objs.size f cdv::outer):=I.ok.frames;have hfs:∀b,b∈frs (envOfC qual scope s.heap.objs.size f cdv::outer)->b=s.heap.objs.size\/b∈frs outer:=fun b hb=>by
  obtain⟨env,he,hf⟩:=cQ.mp hb;rcases bV.mp he with rfl|he
  ·exact .inl (Option.some.inj hf).symm
  ·exact .inr (cQ.mpr ⟨env,he,hf⟩)
 have hof:∀b,b∈frs outer->b∈frs (envOfC qual scope s.heap.objs.size f cdv::outer):=fun b hb=>by
  obtain⟨env,he,hf⟩:=cQ.mp hb;exact cQ.mpr ⟨env,aB _ he,hf⟩
 have old:∀b o,s.heap.get? b=some o->b≠s.heap.objs.size:=fun b o e=>bY (aC e)
 have nx:∀b,b∉([]:List aV):=fun b=>by simp
 have u1:Un (frs outer) [] H H1 s.heap s1.heap:=I.base;have u2:Un (frs (envOfC qual scope s.heap.objs.size f cdv::outer)) [] H1 H2 s1.heap s'.heap:=un;show aO _ _ (leaving _ _) _ _ _;refine bS ((vQe _ _).any (wpAny_leaves_onW fr rfl fl (E:=fun _ _=>False) (Q:=fun _ t' =>∃h'',t' ={s' with heap:=h'' }/\Heap.FlyingW B outer ea cls a0 h'' /\s'.heap.UpToSlots h'') fun h'' fl2 sm=>⟨h'',rfl,fl2,sm⟩)) (fun _ t' hq=>?_) fun _ _ z=>z.1.elim
 obtain⟨⟨h'',rfl,fl2,sm⟩,dk⟩:=hq;obtain⟨oe',q1,q2⟩:=dk ea oe hoe;have k2:∀b o,s'.heap.get? b=some o->b∉frs (envOfC qual scope s.heap.objs.size f cdv::outer)->(H2 b≠none\/s1.heap.get? b≠none)->h''.get? b=some o:=fun b o e n1 n2=>fl2.1 b o (cov b o e n1 n2)
 have slt:∀b o,s1.heap.get? b=some o->b∈frs (envOfC qual scope s.heap.objs.size f cdv::outer)->∃sl,h''.get? b=some {o with slots:=sl}:=fun b o e hb=>by
  obtain⟨_,o',ho',hd⟩:=I.stack.mem hb;rw[e]at ho';cases ho';obtain⟨sl,e1⟩:=u2.slot b o e (I.stkFree b hb) hb (nx b);obtain⟨sl',e2⟩:=sm b _ e1 hd;exact⟨sl',e2⟩
 have fr2:∀b u,H2 b=some u->b∉frs (envOfC qual scope s.heap.objs.size f cdv::outer):=fun b u e hb=>by
  obtain⟨_,o',ho',hd⟩:=I.stack.mem hb;rw[u2.free b o' ho' (I.stkFree b hb) (nx b)]at e;cases e
 have nof:∀b o,s.heap.get? b=some o->b∉frs outer->b∉frs (envOfC qual scope s.heap.objs.size f cdv::outer):=fun b o e n z=>(hfs b z).elim (old b o e) n
 have thr:∀b o,s.heap.get? b=some o->∃o',h''.get? b=some o' :=fun b o e=>by
  obtain⟨o1,e1⟩:=u1.there b o e (nx b);by_cases hb:b∈frs (envOfC qual scope s.heap.objs.size f cdv::outer)
  ·obtain⟨sl,z⟩:=slt b o1 e1 hb;exact⟨_,z⟩
  ·obtain⟨o2,e2⟩:=u2.there b o1 e1 (nx b);exact⟨o2,k2 b o2 e2 hb (.inr (by rw[e1];simp))⟩
 refine⟨ea,cls,a0,H2,B,ox,rfl,hos.trans I.os,bare,⟨fun b o e n hb _=>?_,fun b o e n hb _=>?_,fun b o e n _=>?_,fun b o e _=>thr b o e,fun b xs e=>u2.tups b xs (u1.tups b xs e),fun b o u e=>u2.frzs b o u (u1.frzs b o u e),fun b ps e=>?_⟩,fun b u e=>?_,fl2,fun b o e nb hh=>?_,hea,?_,⟨oe',q1,q2.trans hdic⟩,he⟩
 ·have e1:=u1.keep b o e n hb (nx b);have n1:=u1.free b o e n (nx b);have hb2:=nof b o e hb;exact k2 b o (u2.keep b o e1 n1 hb2 (nx b)) hb2 (.inr (by rw[e1];simp))
 ·obtain⟨sl,e1⟩:=u1.slot b o e n hb (nx b);obtain⟨sl2,e2⟩:=slt b _ e1 (hof b hb);exact⟨sl2,e2⟩
 ·obtain⟨o1,e1⟩:=u1.there b o e (nx b);exact u2.free b o1 e1 (u1.free b o e n (nx b)) (nx b)
 ·obtain⟨m1,e1⟩:=u1.tbls b ps e;obtain⟨m2,e2⟩:=u2.tbls b _ e1;exact⟨m1 ++ m2,by rw[e2];first|rw[Array.append_assoc]|simp⟩
 ·refine(hok b u e).stay (fun c v hc q=>?_) (fun _ q=>q) fun _ _ q=>q
  rcases hc with z|z
  ·subst z;exact k2 c v q (fr2 c u e) (.inl (by rw[e];simp))
  ·exact k2 c v q (fr2 c _ z) (.inl (by rw[z];simp))
 ·have st:b∉frs (envOfC qual scope s.heap.objs.size f cdv::outer)/\(H2 b≠none\/s1.heap.get? b≠none)/\∃o2,s'.heap.get? b=some o2:=by
   rcases hh with z|z
   ·cases q:H2 b with
    |none=>exact absurd q z
    |some u=>exact⟨fr2 b u q,.inl (by simp),hok.there q⟩
   ·cases q:s.heap.get? b with
    |none=>exact absurd q z
    | some o1=>
      obtain⟨o3,e3⟩:=u1.there b o1 q (nx b);exact⟨nof b o1 q nb,.inr (by rw[e3];simp),u2.there b o3 e3 (nx b)⟩
  obtain⟨n1,n2,o2,e2⟩:=st;have e3:=k2 b o2 e2 n1 n2;rw[e]at e3;cases e3;exact cov b _ e2 n1 n2
 ·cases q:s.heap.get? ea with
  |none=>rfl
  | some o=>
    obtain⟨o',e1⟩:=u1.there ea o q (nx ea);rw[sea]at e1;cases e1
noncomputable def qY9(X:Cx)(C:aV)(R:aV->aV->Hp->Prop):Prop:=
 ∀(pins:List (aV×Obj)) (σ:St) (H:Hp) (s:aY) (ea t dx:aV),Inv X pins σ H s->H ea=some (.ext (ExcR ea (.ref C) t (some dx)))->X.s₀.heap.get? ea=none->R ea dx H->X.xe (.ref ea) s
theorem vXw:
  qY9 (cxOf (CXd P w) P w K mg base N qual scope f cdv A outer s H E) C (fun ea dx H1=>E (.ref C) (some dx) (but1 H1 ea)):=by
 intro pins σ H1 s2 ea t dx I hx sea he;obtain⟨φ,_,_⟩:=(show vO P w H1 s2.heap ea _ from I.hok ea _ hx)
 refine vWy I (t:=t) (h' :=s2.heap) (fun _ _ e=>e) sea ?_ φ (.inr ⟨_,hx⟩) he;rintro rfl;have z:H1 s.heap.objs.size=none:=I.free;grind
theorem Fun.okD{x:Str}{st:Stmt}(F:Fun K x qual st f fd)(S:FnScope N ps (qY st))(len:∀vs H Q E,sp vs H Q E->vs.length=ps.length)(hbody:∀(cdv:Value) (A:cC) (outer:List Env) (s:aY) (H:Hp) (vs:List V) (Q:VK) (E:XK),Room k (A.deeper (envOfC qual (qY st) s.heap.objs.size f cdv))->sp vs H Q E->
   ∃t,PSs (cxOf (CXd P w) P w K mg base N qual (qY st) f cdv A outer s H E) (jQ st) t/\t {nx:=fun _ H' =>Q .non H',rt:=Q} (qZa N vs) H):FnOk P w K mg base (CXd P w) (k+1) f fd ps sp:=by
 obtain⟨oc,od,kV,doc,pm,an,cdv,ct,osl,rfl,lk,hcd⟩:=F.ex;exact jWm lk hcd S len fun A outer s H vs Q E hr hsp=>hbody cdv A outer s H vs Q E hr hsp
noncomputable def zXl(C:aV)(sp:Sp)(te:TE)(R:aV->aV->Hp->Prop):TS:=fun _ σ H=>te σ H fun v H1=>([v]:List V).length =1/\∀ea t,H1 ea=none->
 sp (.ref ea:: [v]) (upd H1 ea (.ext (ExcR ea (.ref C) t none))) (fun r H2=>r=.non /\∃dx,H2 ea=some (.ext (ExcR ea (.ref C) t (some dx)))/\R ea dx H2) E0
theorem zQq{fI:aV}{x:Str}{e:Expr}{te:TE}{R:aV->aV->Hp->Prop}{np cpos pos:Pos}(c:IniCls X.K C fI)(F:FnOk X.prog X.w X.K X.mg X.base (CXd X.prog X.w) k fI fd ps sp)(hr:Room (k+1) X.A)(hb:wV X.K fd ps [])(hg:Gl X x)(hm:X.mg x=some (.ref C))(hcalm:X.calm=true)(hex:X.ex=[])(he:PE X e te)(ht:qY9 X C R)(hs:aX [e] X.env=[(false,eval e X.env)]:=by rfl)(hdb:(x == ("__debug__":Str))=false:=by decide):
  PS X (.Raise (some (.Call (.Name x np) [e] [] cpos)) none pos) (zXl C sp te R):=by
 intro pins s σ H D I h;refine zQ7 c (I.ok.hd hcalm) (by rw[hs];rfl) (qJe I hg hm ⟨rfl,?_⟩ hdb);have hA:PA X [e] (vQ6 te tNil):=wX he qQr hs;have h1:=hA cpos pins s σ H (fun vs H1=>vs.length=1/\∀ea t,H1 ea=none->sp (.ref ea::vs) (upd H1 ea (.ext (ExcR ea (.ref C) t none))) (fun r H2=>r=.non /\∃dx,H2 ea=some (.ext (ExcR ea (.ref C) t (some dx)))/\R ea dx H2) E0) I h;rw[hs]at h1⊢;refine Calls.evalArgs_plain (bS h1 (fun us s2 h2=>?_) fun _ _ y=>y);obtain⟨ws,H1,I1,rv,hl1,q1⟩:=h2;obtain⟨v,rfl⟩:∃v,ws=[v]:=by
  cases ws with
  |nil=>cases hl1
  | cons v r=>cases r with
    |nil=>exact⟨v,rfl⟩
    |cons _ _=>cases hl1
 obtain⟨u,rfl,ru⟩:=xS rv;refine⟨rfl,by show 1<=aT;decide,I1.kIn,fun h' ea hm' =>?_⟩;obtain⟨t,hea,_,_⟩:=hm'.there;have hn:H1 ea=none:=I1.hok.untracked hm'.new;have I2:Inv X pins σ H1 {s2 with heap:=h' }:=I1.kept hm'.keeps;have ne1:∀b o,s2.heap.get? b=some o->b≠ea:=fun b o e z=>by rw[z,hm'.new]at e;cases e
 have sea:X.s₀.heap.get? ea=none:=by
  cases q:X.s₀.heap.get? ea with
  |none=>rfl
  | some o=>
    obtain⟨o',z⟩:=I1.base.there ea o q (by rw[hex];simp);rw[hm'.new]at z;cases z
 have I3:Inv X pins σ (upd H1 ea (.ext (ExcR ea (.ref C) t none))) {s2 with heap:=h' }:=by
  refine I2.adopt hn sea ?_ (fun y cc e=>?_) (fun p hp=>?_) (vWl ⟨_,hea,rfl,rfl,rfl⟩)
  ·obtain⟨m,⟨o,_,_,z,_⟩,_⟩:=I1.loc;exact(ne1 _ _ z).symm
  ·obtain⟨v,o,z,_⟩:=I1.cell y cc e;exact ne1 _ _ z
  ·exact ne1 _ _ (I1.pin p hp).1
 have hsp:=q1 ea t hn;have r2:Vals [V.ref ea,v] [Value.ref ea,u]:=.cons rfl rv;have hl:([Value.ref ea,u] ++ []).length =ps.length:=by rw[bG,←r2.length];exact F.len _ _ _ _ hsp
 have hbd:=hb {s2 with heap:=h' } [.ref ea,u] I3.kIn hl;rw[bG]at hbd;refine wpAny_call (codeAny_mono (F.run _ X.stack _ _ ⟨[.ref ea,u],[]⟩ [.ref ea,u] _ _ _ (hr.make C [u] []) (I3.env0.make C [u] []) hbd r2 hsp) fun r s' hq=>?_);cases r with
 |error e=>exact(jJ4 pins σ _ _ e s' I3 hq:_)
 | ok fl=>
   cases fl with
   | ret u' =>
     obtain⟨v',H',I4,rv',ev,dx,hx,hR⟩:=I3.after hq;subst ev;obtain⟨φ,_,_⟩:=(show vO X.prog X.w H' s'.heap ea _ from I4.hok ea _ hx)
     exact⟨rv',I4.kIn,⟨t,_,φ⟩,ht pins σ H' s' ea t dx I4 hx sea hR⟩
   |next=>exact False.elim hq
   |brk=>exact False.elim hq
   |cont=>exact False.elim hq
noncomputable def ExcD(p:aV)(cls:Value)(ox:Option aV):Heap->Prop:=fun h=>∃o,h.get? p=some o/\o.cls=cls/\o.dict=ox/\∃vs,o.data=.fields vs
theorem zW7{h:Heap}{e:aV}{dx:Option aV}(x:ExcD e cls dx h):vO P w H h e (.ext (ExcD e cls dx)):=by
 obtain⟨o,a,b,c⟩:=x;exact⟨⟨o,a,b,c⟩,⟨o,a⟩,fun h1 h2 ⟨o,a,b,c⟩ k=>⟨o,k o a,b,c⟩⟩
end L2
namespace DX
open PySem L2 PyProof.Rows
variable{H H' F':Hp}{v:V}{vs us:List V}{i j C n:Nat}{Z B' W' Y' B W:Fp}{α β:Type}{c:Nat->aV}{π ls:List Nat}{env env' args:Ev}{σ σ' τ:L2.St}{y:Option HO}{io:Bool}{Q:VK}{E:XK}{X:Cx}{e:Expr}{h:Hn}{op:Operator}{t':TT}{r':R2}{op':CmpOp}{w:bK}{N ps:List Str}{g:SG}{body:SS}{it:SI}{pos:Pos}{P:bQ}{mg:Str->Option Value}{base:Heap}{qual:Str}{fd:aH}{kd:Kd}{as:List Am}{pl:Sem Bool}{q:Nat×List Str×List O}{CX:CXT}{fI:aV}
inductive Kd where
 |lst|tup|dct (ks:List Key)|dcT (ks:List (List Key))|obj (C:Nat) (fs:List Str)|exc (C:Nat) (fs:List Str)
inductive D where
 |non|int (i:Int)|str (s:Str)|bl (b:Bool)|fn (j:Nat)|nd (k:Kd) (ds:List D)
inductive O where
 |fz (d:D)|ow (k:Kd) (os:List O)
abbrev D.tup(ds:List D):D:=.nd .tup ds
noncomputable abbrev Fp:=aV->Nat
noncomputable def one(p:aV):Fp:=fun a=>if a=p then 1 else 0
theorem wZ{p:aV}:one p p=1:=if_pos rfl
theorem xQ{p a:aV}(h:a≠p):one p a=0:=if_neg h
noncomputable def hide(T:Fp)(H:Hp):Hp:=fun a=>if T a=0 then H a else none
theorem zZ{T:Fp}{a:aV}(h:T a=0):hide T H a=H a:=if_pos h
theorem qWx{T:Fp}{a:aV}(h:T a≠0):hide T H a=none:=if_neg h
theorem yX{T:Fp}{a:aV}{o:HO}(h:hide T H a=some o):T a=0/\H a=some o:=by
 by_cases z:T a=0
 ·rw[zZ z]at h;exact⟨z,h⟩
 ·rw[qWx z]at h;cases h
theorem vC{T:Fp}:Same (hide T H) H:=fun _ _ h=>(yX h).2
theorem zC{T T' :Fp}(h:∀a o,T a=0->H a=some o->T' a=0/\H' a=some o):Same (hide T H) (hide T' H'):=fun a o e=>by
 obtain⟨z,q⟩:=yX e;obtain⟨z',q'⟩:=h a o z q;rw[zZ z'];exact q'
theorem jE{T T' :Fp}(h:∀a,T a=0->T' a=0):Same (hide T H) (hide T' H):=zC fun a _ z q=>⟨h a z,q⟩
theorem z9{T T' :Fp}(h:∀a,T a=0↔T' a=0):hide T H=hide T' H:=by
 funext a;by_cases z:T a=0
 ·rw[zZ z,zZ ((h a).mp z)]
 ·rw[qWx z,qWx fun z' =>z ((h a).mpr z')]
theorem qK7{T:Fp}{p:aV}{o:HO}(h:T p≠0):hide T (upd H p o)=hide T H:=by
 funext a;by_cases z:T a=0
 ·rw[zZ z,zZ z,qL fun q=>h (by rw[←q];exact z)]
 ·rw[qWx z,qWx z]
noncomputable def Hb:HO->Prop
 |.tup _=>False
 |.frz _ _=>False
 |.tbl _=>False
 |.tab _ _ _=>False
 |.xd _=>False
 |_=>True
theorem xC{K:aQ}{a:aV}{xs:List V}(e:Same H H')(h:SqL K H a xs):SqL K H' a xs:=by
 rcases h with(h|⟨o,h⟩)|h
 ·exact .inl (.inl (e _ _ h))
 ·exact .inl (.inr ⟨o,e _ _ h⟩)
 ·exact .inr h
noncomputable def XdAt(F:Hp)(fs:List Str)(vs:List V):Option aV->Prop
 |none=>fs=[]
 |some dx=>F dx=some (.xd (fs.zip vs))
theorem zXy{F:Hp}(e:Same F F'){p:aV}{u:HO}(h:Rd F p u):Rd F' p u:=h.elim (fun x=>.inl (e _ _ x)) fun⟨o,x⟩=>.inr ⟨o,e _ _ x⟩
noncomputable def NdAt(K:aQ)(c:Nat->aV)(F:Hp)(p:aV):Kd->List V->Prop
 |.lst,vs=>SqL K F p vs
 |.tup,vs=>SqT K F p vs
 |.dct ks,vs=>ks.length=vs.length/\ks.Nodup/\Rd F p (.dK (ks.zip vs))
 |.dcT ks,vs=>ks.length=vs.length/\ks.Nodup/\F p=some (.dT (ks.zip vs))
 |.obj C fs,vs=>fs.length=vs.length/\∃dx,F p=some (.ins (c C) dx (fs.zip vs))
 |.exc C fs,vs=>fs.length=vs.length/\∃ox,F p=some (.ext (ExcD p (.ref (c C)) ox))/\XdAt F fs vs ox
noncomputable def OwAt(c:Nat->aV)(H:Hp)(p:aV):Kd->List V->Prop
 |.lst,vs=>H p=some (.lst vs)
 |.tup,_=>False
 |.dct ks,vs=>ks.length=vs.length/\ks.Nodup/\H p=some (.dK (ks.zip vs))
 |.dcT ks,vs=>ks.length=vs.length/\ks.Nodup/\H p=some (.dT (ks.zip vs))
 |.obj C fs,vs=>fs.length=vs.length/\∃dx,H p=some (.ins (c C) dx (fs.zip vs))
 |.exc _ _,_=>False
section
variable{K:aQ}{c:Nat->aV}{F F' H H' :Hp}{p:aV}{k:Kd}{vs:List V}
theorem NdAt.same(e:Same F F')(h:NdAt K c F p k vs):NdAt K c F' p k vs:=by
 cases k with
 |lst=>exact xC e h
 |tup=>exact e.tup h
 |dct ks=>exact⟨h.1,h.2.1,zXy e h.2.2⟩
 |dcT ks=>exact⟨h.1,h.2.1,e _ _ h.2.2⟩
 |obj C fs=>obtain⟨a,dx,b⟩:=h;exact⟨a,dx,e _ _ b⟩
 | exc C fs=>
   obtain⟨a,ox,b,d⟩:=h;refine⟨a,ox,e _ _ b,?_⟩;cases ox with
   |none=>exact d
   |some dx=>exact e _ _ d
theorem OwAt.nd(h:OwAt c H p k vs)(e:F p=H p):NdAt K c F p k vs:=by
 cases k with
 |lst=>exact SqL.of (e.trans h)
 |tup=>exact h.elim
 |dct ks=>exact⟨h.1,h.2.1,.inl (e.trans h.2.2)⟩
 |dcT ks=>exact⟨h.1,h.2.1,e.trans h.2.2⟩
 |obj C fs=>obtain⟨a,dx,b⟩:=h;exact⟨a,dx,e.trans b⟩
 |exc C fs=>exact h.elim
theorem OwAt.eq(h:OwAt c H p k vs)(e:H' p=H p):OwAt c H' p k vs:=by
 cases k with
 |lst=>exact e.trans h
 |tup=>exact h.elim
 |dct ks=>exact⟨h.1,h.2.1,e.trans h.2.2⟩
 |dcT ks=>exact⟨h.1,h.2.1,e.trans h.2.2⟩
 |obj C fs=>obtain⟨a,dx,b⟩:=h;exact⟨a,dx,e.trans b⟩
 |exc C fs=>exact h.elim
theorem OwAt.hb(h:OwAt c H p k vs):∃o,H p=some o/\Hb o:=by
 cases k with
 |lst=>exact⟨_,h,trivial⟩
 |tup=>exact h.elim
 |dct ks=>exact⟨_,h.2.2,trivial⟩
 |dcT ks=>exact⟨_,h.2.2,trivial⟩
 |obj C fs=>obtain⟨a,dx,b⟩:=h;exact⟨_,b,trivial⟩
 |exc C fs=>exact h.elim
end
inductive DAt(K:aQ)(c:Nat->aV)(F:Hp):V->D->Prop
 |non:DAt K c F .non .non
 |int (i:Int):DAt K c F (.int i) (.int i)
 |str (s:Str):DAt K c F (.str s) (.str s)
 |bl (b:Bool):DAt K c F (.bl b) (.bl b)
 |fn (j:Nat):DAt K c F (.ref (c j)) (.fn j)
 |nd {p:aV} {k:Kd} {vs:List V} {ds:List D} (h:NdAt K c F p k vs) (len:vs.length=ds.length) (r:∀(i:Nat) (v:V) (d:D),vs[i]?=some v->ds[i]?=some d->DAt K c F v d):DAt K c F (.ref p) (.nd k ds)
structure DsAt(K:aQ)(c:Nat->aV)(F:Hp)(vs:List V)(ds:List D):Prop where
 len:vs.length=ds.length
 r:∀(i:Nat) (v:V) (d:D),vs[i]?=some v->ds[i]?=some d->DAt K c F v d
section
variable{K:aQ}{c:Nat->aV}{F F' :Hp}
theorem DAt.un{k:Kd}{ds:List D}(h:DAt K c F v (.nd k ds)):∃p vs,v=.ref p/\NdAt K c F p k vs/\DsAt K c F vs ds:=by
 cases h with
 |nd h l r=>exact⟨_,_,rfl,h,l,r⟩
theorem DAt.of{p:aV}{k:Kd}{ds:List D}(h:NdAt K c F p k vs)(r:DsAt K c F vs ds):DAt K c F (.ref p) (.nd k ds):=.nd h r.len r.r
theorem DAt.same(e:Same F F'){d:D}(h:DAt K c F v d):DAt K c F' v d:=by
 induction h with
 |non=>exact .non
 |int i=>exact .int i
 |str i=>exact .str i
 |bl i=>exact .bl i
 |fn i=>exact .fn i
 |nd h l r ih=>exact .nd (h.same e) l ih
theorem DsAt.same(e:Same F F'){ds:List D}(h:DsAt K c F vs ds):DsAt K c F' vs ds:=⟨h.len,fun i v d a b=>(h.r i v d a b).same e⟩
theorem DsAt.nil:DsAt K c F [] []:=⟨rfl,fun i v d h _=>by simp at h⟩
theorem DsAt.cons{d:D}{ds:List D}(h:DAt K c F v d)(k:DsAt K c F vs ds):DsAt K c F (v::vs) (d::ds):=by
 refine⟨by rw[aW,aW,k.len],fun i u x a b=>?_⟩;cases i with
 |zero=>grind
 |succ i=>exact k.r i u x (by simpa using a) (by simpa using b)
theorem DsAt.un{d:D}{ds:List D}(h:DsAt K c F vs (d::ds)):∃v r,vs=v::r/\DAt K c F v d/\DsAt K c F r ds:=by
 cases vs with
 |nil=>cases h.len
 |cons v r=>exact⟨v,r,rfl,h.r 0 v d rfl rfl,Nat.succ.inj h.len,fun i u x a b=>h.r (i+1) u x (by simpa using a) (by simpa using b)⟩
theorem DsAt.un0(h:DsAt K c F vs []):vs=[]:=dI h.len
theorem DsAt.get{ds:List D}{d:D}(h:DsAt K c F vs ds)(e:ds[i]?=some d):∃v,vs[i]?=some v/\DAt K c F v d:=by
 have hi:i<vs.length:=by rw[h.len];exact(aU.mp e).1
 exact⟨vs[i],aI hi,h.r i _ d (aI hi) e⟩
theorem DsAt.append{ws:List V}{ds es:List D}(h:DsAt K c F vs ds)(k:DsAt K c F ws es):DsAt K c F (vs ++ ws) (ds ++ es):=by
 refine⟨by rw[aJ,aJ,h.len,k.len],fun i v d a b=>?_⟩;by_cases hi:i<vs.length
 ·rw [bT hi] at a;rw[bT (by rw[←h.len];exact hi)]at b;exact h.r i v d a b
 ·rw [cL (by omega)] at a;rw[cL (by rw[←h.len];omega),←h.len]at b;exact k.r _ v d a b
theorem DsAt.take{ds:List D}(n:Nat)(h:DsAt K c F vs ds):DsAt K c F (vs.take n) (ds.take n):=by
 refine⟨by rw[cT,cT,h.len],fun i v d a b=>?_⟩;rw[List.getElem?_take]at a b;split at a
 ·rename_i z;rw[if_pos z]at b;exact h.r i v d a b
 ·cases a
theorem DsAt.drop{ds:List D}(n:Nat)(h:DsAt K c F vs ds):DsAt K c F (vs.drop n) (ds.drop n):=by
 refine⟨by rw[cU,cU,h.len],fun i v d a b=>?_⟩;rw[List.getElem?_drop]at a b;exact h.r _ v d a b
end
mutual
noncomputable def OAt(K:aQ)(c:Nat->aV)(F H:Hp):O->V->Fp->Prop
 |.fz d,v,Z=>DAt K c F v d/\∀a,Z a=0
 |.ow k os,v,Z=>∃p vs Z',v=.ref p/\OwAt c H p k vs/\OsAt K c F H os vs Z' /\∀a,Z a=one p a+Z' a
noncomputable def OsAt(K:aQ)(c:Nat->aV)(F H:Hp):List O->List V->Fp->Prop
 |[],vs,Z=>vs=[]/\∀a,Z a=0
 |o::os,vs,Z=>∃v r Z1 Z2,vs=v::r/\OAt K c F H o v Z1/\OsAt K c F H os r Z2/\∀a,Z a=Z1 a+Z2 a
end
mutual
noncomputable def fzO:O->D
 |.fz d=>d
 |.ow k os=>.nd k (fzOs os)
noncomputable def fzOs:List O->List D
 |[]=> []
 |o::os=>fzO o::fzOs os
end
theorem qK8:∀os:List O,fzOs os=os.map fzO
 |[]=>by simp[fzOs]
 |o::os=>by rw[fzOs,bX,qK8 os]
section
variable{K:aQ}{c:Nat->aV}{F F' H H' :Hp}{v:V}{vs:List V}{Z Z' :Fp}{d:D}{k:Kd}{os:List O}{o:O}
theorem OAt.fz:OAt K c F H (.fz d) v Z↔DAt K c F v d/\∀a,Z a=0:=by rw[OAt]
theorem OAt.ow:OAt K c F H (.ow k os) v Z↔∃p vs Z',v=.ref p/\OwAt c H p k vs/\OsAt K c F H os vs Z' /\∀a,Z a=one p a+Z' a:=by rw[OAt]
theorem OsAt.nil:OsAt K c F H [] vs Z↔vs=[]/\∀a,Z a=0:=by rw[OsAt]
theorem OsAt.cons:OsAt K c F H (o::os) vs Z↔∃v r Z1 Z2,vs=v::r/\OAt K c F H o v Z1/\OsAt K c F H os r Z2/\∀a,Z a=Z1 a+Z2 a:=by rw[OsAt]
mutual
theorem OAt.keepM(e:∀v d,DAt K c F v d->DAt K c F' v d):∀{o:O} {v:V} {Z:Fp},(∀a,Z a≠0->H' a=H a)->OAt K c F H o v Z->OAt K c F' H' o v Z
 | .fz d,v,Z,_,h=>by
   rw[OAt.fz]at h⊢;exact⟨e _ _ h.1,h.2⟩
 | .ow k os,v,Z,q,h=>by
   rw[OAt.ow]at h⊢;obtain⟨p,vs,Z',a,b,c,d⟩:=h;exact⟨p,vs,Z',a,b.eq (q p (by rw[d,wZ];omega)),OsAt.keepM e (fun a z=>q a (by rw[d];omega)) c,d⟩
theorem OsAt.keepM(e:∀v d,DAt K c F v d->DAt K c F' v d):∀{os:List O} {vs:List V} {Z:Fp},(∀a,Z a≠0->H' a=H a)->OsAt K c F H os vs Z->OsAt K c F' H' os vs Z
 |[],vs,Z,_,h=>by rw[OsAt.nil]at h⊢;exact h
 | o::os,vs,Z,q,h=>by
   rw[OsAt.cons]at h⊢;obtain⟨v,r,Z1,Z2,a,b,c,d⟩:=h;exact⟨v,r,Z1,Z2,a,OAt.keepM e (fun a z=>q a (by rw[d];omega)) b,OsAt.keepM e (fun a z=>q a (by rw[d];omega)) c,d⟩
end
theorem OAt.keep(e:Same F F'){o:O}(q:∀a,Z a≠0->H' a=H a)(h:OAt K c F H o v Z):OAt K c F' H' o v Z:=OAt.keepM (fun _ _ h=>h.same e) q h
theorem OsAt.keep(e:Same F F'){os:List O}(q:∀a,Z a≠0->H' a=H a)(h:OsAt K c F H os vs Z):OsAt K c F' H' os vs Z:=OsAt.keepM (fun _ _ h=>h.same e) q h
mutual
theorem OAt.dat(e:Same F F'):∀{o:O} {v:V} {Z:Fp},(∀a,Z a≠0->F' a=H a)->OAt K c F H o v Z->DAt K c F' v (fzO o)
 | .fz d,v,Z,_,h=>by
   rw[OAt.fz]at h;rw[fzO];exact h.1.same e
 | .ow k os,v,Z,q,h=>by
   rw[OAt.ow]at h;obtain⟨p,vs,Z',rfl,b,c,d⟩:=h;rw[fzO];exact .of (b.nd (q p (by rw[d,wZ];omega))) (OsAt.dat e (fun a z=>q a (by rw[d];omega)) c)
theorem OsAt.dat(e:Same F F'):∀{os:List O} {vs:List V} {Z:Fp},(∀a,Z a≠0->F' a=H a)->OsAt K c F H os vs Z->DsAt K c F' vs (fzOs os)
 |[],vs,Z,_,h=>by rw[OsAt.nil]at h;rw[h.1,fzOs];exact .nil
 | o::os,vs,Z,q,h=>by
   rw[OsAt.cons]at h;obtain⟨v,r,Z1,Z2,rfl,b,c,d⟩:=h;rw[fzOs];exact .cons (OAt.dat e (fun a z=>q a (by rw[d];omega)) b) (OsAt.dat e (fun a z=>q a (by rw[d];omega)) c)
end
mutual
theorem OAt.hb:∀{o:O} {v:V} {Z:Fp} {a:aV},OAt K c F H o v Z->Z a≠0->∃u,H a=some u/\Hb u
 |.fz d,v,Z,a,h,q=>by rw[OAt.fz]at h;exact absurd (h.2 a) q
 | .ow k os,v,Z,a,h,q=>by
   rw[OAt.ow]at h;obtain⟨p,vs,Z',rfl,b,c,d⟩:=h;by_cases z:a=p
   ·subst z;exact b.hb
   ·exact OsAt.hb c (by rw[d,xQ z]at q;omega)
theorem OsAt.hb:∀{os:List O} {vs:List V} {Z:Fp} {a:aV},OsAt K c F H os vs Z->Z a≠0->∃u,H a=some u/\Hb u
 |[],vs,Z,a,h,q=>by rw[OsAt.nil]at h;exact absurd (h.2 a) q
 | o::os,vs,Z,a,h,q=>by
   rw[OsAt.cons]at h;obtain⟨v,r,Z1,Z2,rfl,b,c,d⟩:=h;by_cases z:Z1 a=0
   ·exact OsAt.hb c (by rw[d]at q;omega)
   ·exact OAt.hb b z
end
theorem OAt.cast(h:OAt K c F H o v Z)(e:∀a,Z' a=Z a):OAt K c F H o v Z' :=by rw[show Z' =Z from funext e];exact h
theorem OsAt.length:∀{os:List O} {vs:List V} {Z:Fp},OsAt K c F H os vs Z->vs.length=os.length
 |[],vs,Z,h=>by rw[OsAt.nil]at h;rw[h.1];rfl
 | o::os,vs,Z,h=>by
   obtain⟨v,r,Z1,Z2,rfl,b,c,d⟩:=h;rw[aW,aW,c.length]
theorem OsAt.fzs:∀{ds:List D} {vs:List V} {Z:Fp},OsAt K c F H (ds.map .fz) vs Z↔DsAt K c F vs ds/\∀a,Z a=0
 | [],vs,Z=>by
   rw[List.map_nil,OsAt.nil];exact⟨fun h=>⟨by rw[h.1];exact .nil,h.2⟩,fun h=>⟨h.1.un0,h.2⟩⟩
 | d::ds,vs,Z=>by
   rw[bX,OsAt.cons];constructor
   ·rintro⟨v,r,Z1,Z2,rfl,b,c,d⟩;rw[OAt.fz]at b;rw[OsAt.fzs]at c;exact⟨.cons b.1 c.1,fun a=>by rw[d,b.2,c.2]⟩
   ·rintro⟨h,z⟩;obtain⟨v,r,rfl,b,c⟩:=h.un;exact⟨v,r,fun _=>0,fun _=>0,rfl,OAt.fz.mpr ⟨b,fun _=>rfl⟩,OsAt.fzs.mpr ⟨c,fun _=>rfl⟩,fun a=>z a⟩
theorem OsAt.focus:∀{os:List O} {vs:List V} {Z:Fp} {j:Nat} {o:O},OsAt K c F H os vs Z->os[j]?=some o->∃(v:V) (Z1 R:Fp),vs[j]?=some v/\OAt K c F H o v Z1/\(∀a,Z a=Z1 a+R a)/\
  ∀F' H' o' v' Z1',Same F F' ->(∀a,R a≠0->H' a=H a)->OAt K c F' H' o' v' Z1' ->OsAt K c F' H' (os.set j o') (vs.set j v') (fun a=>Z1' a+R a)
 |[],vs,Z,j,o,h,e=>by simp at e
 | o1::os,vs,Z,0,o,h,e=>by
   rw[OsAt.cons]at h;obtain⟨v,r,Z1,Z2,rfl,b,c,d⟩:=h;cases e;refine⟨v,Z1,Z2,rfl,b,d,fun F' H' o' v' Z1' sm k q=>?_⟩;rw[List.set_cons_zero,List.set_cons_zero,OsAt.cons];exact⟨v',r,Z1',Z2,rfl,q,c.keep sm k,fun _=>rfl⟩
 | o1::os,vs,Z,j + 1,o,h,e=>by
   rw[OsAt.cons]at h;obtain⟨v,r,Z1,Z2,rfl,b,c,d⟩:=h;obtain⟨w,Y,R,h1,h2,h3,h4⟩:=OsAt.focus (j:=j) c (by simpa using e);refine⟨w,Y,fun a=>Z1 a+R a,by simpa using h1,h2,fun a=>by rw[d,h3];(try dsimp only at *);omega,fun F' H' o' v' Z1' sm k q=>?_⟩;rw[List.set_cons_succ,List.set_cons_succ,OsAt.cons];exact⟨v,r.set j v',Z1,_,rfl,b.keep sm fun a z=>k a (by(try dsimp only at *);omega),h4 F' H' o' v' Z1' sm (fun a z=>k a (by(try dsimp only at *);omega)) q,fun a=>by(try dsimp only at *);omega⟩
theorem OsAt.append:∀{os:List O} {vs:List V} {Z:Fp} {os' :List O} {vs' :List V} {Z' :Fp},OsAt K c F H os vs Z->OsAt K c F H os' vs' Z' ->OsAt K c F H (os ++ os') (vs ++ vs') (fun a=>Z a+Z' a)
 | [],vs,Z,os',vs',Z',h,k=>by
   rw[OsAt.nil]at h;simp_all
 | o::os,vs,Z,os',vs',Z',h,k=>by
   obtain⟨v,r,Z1,Z2,rfl,b,c,d⟩:=h;rw[cZ,cZ,OsAt.cons];exact⟨v,r ++ vs',Z1,_,rfl,b,c.append k,fun a=>by rw[d];(try dsimp only at *);omega⟩
theorem OsAt.one:OsAt K c F H [o] [v] Z↔OAt K c F H o v Z:=by
 constructor
 ·rintro⟨v',r,Z1,Z2,e,b,c,d⟩;cases e;exact b.cast fun a=>by rw[d,c.2];omega
 ·intro h;exact⟨v,[],Z,fun _=>0,rfl,h,OsAt.nil.mpr ⟨rfl,fun _=>rfl⟩,fun a=>by(try dsimp only at *);omega⟩
theorem OsAt.erase:∀{os:List O} {vs:List V} {Z:Fp} {j:Nat} {o:O},OsAt K c F H os vs Z->os[j]?=some o->∃(v:V) (Z1 R:Fp),vs[j]?=some v/\OAt K c F H o v Z1/\(∀a,Z a=Z1 a+R a)/\OsAt K c F H (os.eraseIdx j) (vs.eraseIdx j) R
 |[],vs,Z,j,o,h,e=>by simp at e
 | o1::os,vs,Z,0,o,h,e=>by
   rw[OsAt.cons]at h;obtain⟨v,r,Z1,Z2,rfl,b,c,d⟩:=h;cases e;exact⟨v,Z1,Z2,rfl,b,d,c⟩
 | o1::os,vs,Z,j + 1,o,h,e=>by
   rw[OsAt.cons]at h;obtain⟨v,r,Z1,Z2,rfl,b,c,d⟩:=h;obtain⟨w,Y,R,h1,h2,h3,h4⟩:=OsAt.erase (j:=j) c (by simpa using e);refine⟨w,Y,fun a=>Z1 a+R a,by simpa using h1,h2,fun a=>by rw[d,h3];(try dsimp only at *);omega,?_⟩;rw[List.eraseIdx_cons_succ,List.eraseIdx_cons_succ,OsAt.cons];exact⟨v,_,Z1,R,rfl,b,h4,fun _=>rfl⟩
end
noncomputable def getP:O->List Nat->Option O
 |o,[]=>some o
 | .ow _ os,j::π=>match os[j]? with
   |some o=>getP o π
   |none=>none
 |.fz _,_::_=>none
noncomputable def setP:O->List Nat->O->O
 |_,[],x=>x
 | .ow k os,j::π,x=> .ow k (match os[j]? with
   |some o=>os.set j (setP o π x)
   |none=>os)
 |.fz d,_::_,_=>.fz d
noncomputable def kids:HO->List V
 |.lst vs=>vs
 |.dK ws=>ws.map (·.2)
 |.dT ws=>ws.map (·.2)
 |.ins _ _ fs=>fs.map (·.2)
 |_=> []
noncomputable def walk(H:Hp):V->List Nat->Option V
 |v,[]=>some v
 | .ref p,j::π=>match H p with
   | some o=>match(kids o)[j]? with
     |some v=>walk H v π
     |none=>none
   |none=>none
 |_,_::_=>none
theorem qZj:∀{ks:List α} {vs:List β},ks.length=vs.length->(ks.zip vs).map (·.2)=vs
 |[],[],_=>rfl
 |k::ks,v::vs,h=>by rw[dQ,bX,qZj (Nat.succ.inj h)]
 |[],_::_,h=>by cases h
 |_::_,[],h=>by cases h
theorem OwAt.kids{p:aV}{k:Kd}(h:OwAt c H p k vs):∃o,H p=some o/\kids o=vs:=by
 cases k with
 |lst=>exact⟨_,h,rfl⟩
 |tup=>exact h.elim
 |dct ks=>exact⟨_,h.2.2,qZj h.1⟩
 |dcT ks=>exact⟨_,h.2.2,qZj h.1⟩
 |obj C fs=>obtain⟨a,dx,b⟩:=h;exact⟨_,b,qZj a⟩
 |exc C fs=>exact h.elim
theorem yS{l:List α}{x:α}(h:l[j]?=some x):l.set j x=l:=by
 apply List.ext_getElem?;intro i;rw[eZ];split
 ·rename_i e;subst e;have:=(aU.mp h).1;rw[if_pos this,h]
 ·rfl
theorem qXq{p:aV}{o:HO}(h:H p=some o)(e:(kids o)[j]?=some v):walk H (.ref p) (j::π)=walk H v π:=by
 simp only[walk,h,e]
section
variable{K:aQ}{c:Nat->aV}{F F' H H' :Hp}
theorem OAt.focus:∀{π:List Nat} {o o1:O} {v:V} {Z:Fp},OAt K c F H o v Z->getP o π=some o1->∃(v1:V) (Z1 R:Fp),walk H v π=some v1/\OAt K c F H o1 v1 Z1/\(∀a,Z a=Z1 a+R a)/\
  ∀F' H' o1' Z1',Same F F' ->(∀a,R a≠0->H' a=H a)->OAt K c F' H' o1' v1 Z1' ->OAt K c F' H' (setP o π o1') v (fun a=>Z1' a+R a)
 | [],o,o1,v,Z,h,e=>by
   cases e;refine⟨v,Z,fun _=>0,by cases v <;> rfl,h,fun a=>rfl,fun F' H' o1' Z1' sm k q=>?_⟩;exact q.cast fun _=>rfl
 |j::π,.fz d,o1,v,Z,h,e=>by cases e
 | j::π, .ow k os,o1,v,Z,h,e=>by
   simp only[getP]at e;cases e0:os[j]? with
   |none=>rw[e0]at e;cases e
   | some o=>
     rw[e0]at e;obtain⟨p,vs,Z',rfl,b,cc,d⟩:=h;obtain⟨w,Y,R,h1,h2,h3,h4⟩:=cc.focus e0;obtain⟨v1,Z1,R1,g1,g2,g3,g4⟩:=OAt.focus h2 e;obtain⟨ho,k1,k2⟩:=b.kids;refine⟨v1,Z1,fun a=>one p a+R a+R1 a,by rw[qXq k1 (by rw[k2];exact h1)];exact g1,g2,fun a=>by rw[d,h3,g3];(try dsimp only at *);omega,fun F' H' o1' Z1' sm k q=>?_⟩;have q2:=g4 F' H' o1' Z1' sm (fun a z=>k a (by(try dsimp only at *);omega)) q;have q3:=h4 F' H' _ w _ sm (fun a z=>k a (by(try dsimp only at *);omega)) q2;rw[yS h1]at q3;simp only[setP,e0];rw[OAt.ow];exact⟨p,vs,_,rfl,b.eq (k p (by dsimp only;rw[wZ];omega)),q3,fun a=>by(try dsimp only at *);omega⟩
end
inductive Slot where
 |un|s (io:Bool) (o:O)
noncomputable abbrev Ev:=List Slot
noncomputable def jO(K:aQ)(c:Nat->aV)(F H:Hp):Slot->Option V->Fp->Prop
 |.un,_,Z=>∀a,Z a=0
 |.s _ o,some v,Z=>OAt K c F H o v Z
 |.s _ _,none,_=>False
noncomputable def lamQ:Str:="next_out.<locals>.<lambda>"
noncomputable def TabF(c:Nat->aV)(F:Hp):Prop:=c 77≠0->F (c 77)=some (.tab (c 78) (c 79) lamQ)
theorem TabF.same{F:Hp}(h:TabF c F)(e:Same F F'):TabF c F' :=fun z=>e _ _ (h z)
noncomputable def SlAt(K:aQ)(c:Nat->aV)(F H:Hp):Ev->L2.St->Fp->Prop
 |[],σ,Z=>(σ=[]/\TabF c F)/\∀a,Z a=0
 |s::env,σ,Z=>∃x r Z1 Z2,σ=x::r/\jO K c F H s x Z1/\SlAt K c F H env r Z2/\∀a,Z a=Z1 a+Z2 a
section
variable{K:aQ}{c:Nat->aV}{F F' H H' :Hp}
theorem jO.keepM(e:∀v d,DAt K c F v d->DAt K c F' v d){s:Slot}{x:Option V}(q:∀a,Z a≠0->H' a=H a)(h:jO K c F H s x Z):jO K c F' H' s x Z:=by
 cases s with
 |un=>exact h
 | s io o=>
   cases x with
   |none=>exact h.elim
   |some v=>exact OAt.keepM e q h
theorem jO.keep(e:Same F F'){s:Slot}{x:Option V}(q:∀a,Z a≠0->H' a=H a)(h:jO K c F H s x Z):jO K c F' H' s x Z:=h.keepM (fun _ _ h=>h.same e) q
theorem SlAt.cast{Z':Fp}(h:SlAt K c F H env σ Z)(e:∀a,Z' a=Z a):SlAt K c F H env σ Z' :=by rw[show Z' =Z from funext e];exact h
theorem jO.hb{s:Slot}{x:Option V}{a:aV}(h:jO K c F H s x Z)(q:Z a≠0):∃u,H a=some u/\Hb u:=by
 cases s with
 |un=>exact absurd (h a) q
 | s io o=>
   cases x with
   |none=>exact h.elim
   |some v=>exact OAt.hb h q
theorem SlAt.keepM(e:∀v d,DAt K c F v d->DAt K c F' v d)(t:TabF c F->TabF c F'):∀{env:Ev} {σ:L2.St} {Z:Fp},(∀a,Z a≠0->H' a=H a)->SlAt K c F H env σ Z->SlAt K c F' H' env σ Z
 |[],_,_,_,h=>⟨⟨h.1.1,t h.1.2⟩,h.2⟩
 | s::env,σ,Z,q,h=>by
   obtain⟨x,r,Z1,Z2,a,b,cc,d⟩:=h;exact⟨x,r,Z1,Z2,a,b.keepM e fun a z=>q a (by rw[d];omega),cc.keepM e t fun a z=>q a (by rw[d];omega),d⟩
theorem SlAt.keep(e:Same F F')(q:∀a,Z a≠0->H' a=H a)(h:SlAt K c F H env σ Z):SlAt K c F' H' env σ Z:=h.keepM (fun _ _ h=>h.same e) (fun t=>t.same e) q
theorem SlAt.hb:∀{env:Ev} {σ:L2.St} {Z:Fp} {a:aV},SlAt K c F H env σ Z->Z a≠0->∃u,H a=some u/\Hb u
 |[],_,_,a,h,q=>absurd (h.2 a) q
 | s::env,σ,Z,a,h,q=>by
   obtain⟨x,r,Z1,Z2,_,b,cc,d⟩:=h;by_cases z:Z1 a=0
   ·exact SlAt.hb cc (by rw[d]at q;omega)
   ·exact b.hb z
theorem SlAt.tab:∀{env:Ev} {σ:L2.St} {Z:Fp},SlAt K c F H env σ Z->TabF c F
 |[],_,_,h=>h.1.2
 | _::_,_,_,h=>by
   obtain⟨_,_,_,_,_,_,cc,_⟩:=h;exact cc.tab
theorem SlAt.len:∀{env:Ev} {σ:L2.St} {Z:Fp},SlAt K c F H env σ Z->env.length=σ.length
 |[],_,_,h=>by rw[h.1.1];rfl
 | s::env,σ,Z,h=>by
   obtain⟨x,r,Z1,Z2,rfl,b,cc,d⟩:=h;rw[aW,aW,cc.len]
theorem SlAt.focus:∀{env:Ev} {σ:L2.St} {Z:Fp} {i:Nat} {s:Slot},SlAt K c F H env σ Z->env[i]?=some s->∃(x:Option V) (Z1 R:Fp),σ[i]?=some x/\jO K c F H s x Z1/\(∀a,Z a=Z1 a+R a)/\
  ∀(F' H' :Hp) (s' :Slot) (x' :Option V) (Z1' Y:Fp),Same F F' ->(∀a,R a≠0->H' a=H a)->jO K c F' H' s' x' Z1' ->(∀a,Y a=Z1' a+R a)->SlAt K c F' H' (env.set i s') (σ.set i x') Y
 |[],_,_,i,s,h,e=>by simp at e
 | s1::env,σ,Z,0,s,h,e=>by
   obtain⟨x,r,Z1,Z2,rfl,b,cc,d⟩:=h;cases e;exact⟨x,Z1,Z2,rfl,b,d,fun F' H' s' x' Z1' Y sm k q y=>⟨x',r,Z1',Z2,rfl,q,cc.keep sm k,y⟩⟩
 | s1::env,σ,Z,i + 1,s,h,e=>by
   obtain⟨x,r,Z1,Z2,rfl,b,cc,d⟩:=h;obtain⟨y,Y,R,h1,h2,h3,h4⟩:=SlAt.focus (i:=i) cc (by simpa using e);refine⟨y,Y,fun a=>Z1 a+R a,by simpa using h1,h2,fun a=>by rw[d,h3];dsimp only;omega,fun F' H' s' x' Z1' Y' sm k q y' =>?_⟩;dsimp only at k y';exact⟨x,r.set i x',Z1,fun a=>Z1' a+R a,rfl,b.keep sm fun a z=>k a (by omega),h4 F' H' s' x' Z1' _ sm (fun a z=>k a (by omega)) q (fun _=>rfl),fun a=>by rw[y'];dsimp only;omega⟩
end
noncomputable abbrev hd2(B W:Fp):Fp:=fun a=>B a+W a
structure Cf(K:aQ)(c:Nat->aV)(env:Ev)(σ:L2.St)(H:Hp)(B W:Fp):Prop where
 at_:SlAt K c (hide (hd2 B W) H) H env σ W
 nd:∀a,B a+W a<=1
 hb:∀a,B a≠0->∃o,H a=some o/\Hb o
noncomputable def pinF(f:Str):Bool:= !(decide (f="place") || decide (f="slots") || decide (f="terms") || decide (f="top") || decide (f="bottom"))
noncomputable def Pin(x y:Option HO):Prop:=match x with
 |some (.ins C dx fs)=>∃fs',y=some (.ins C dx fs')/\∀(j:Nat) f v,pinF f=true->fs[j]?=some (f,v)->fs'[j]?=some (f,v)
 |_=>True
theorem Pin.refl{x:Option HO}:Pin x x:=by
 unfold Pin;split
 ·exact⟨_,rfl,fun _ _ _ _ h=>h⟩
 ·trivial
theorem Pin.of{x:Option HO}(h:y=x):Pin x y:=by subst h;exact .refl
theorem Pin.trans{x z:Option HO}(a:Pin x y)(b:Pin y z):Pin x z:=by
 unfold Pin at a⊢;split
 ·obtain⟨fs1,rfl,h1⟩:=a;obtain⟨fs2,rfl,h2⟩:=b;exact⟨fs2,rfl,fun j f v p q=>h2 j f v p (h1 j f v p q)⟩
 ·trivial
theorem Pin.none:Pin none y:=trivial
structure Step(env:Ev)(σ:L2.St)(H:Hp)(B W:Fp)(env' :Ev)(σ' :L2.St)(H' :Hp)(V:Fp):Prop where
 same:Same (hide (hd2 B W) H) (hide (hd2 B V) H')
 by_:∀a,B a≠0->H' a=H a
 new:∀a,V a≠0->W a≠0\/H a=none
 dom:∀a,H' a=none->H a=none
 pin:∀a,W a≠0->V a≠0->Pin (H a) (H' a)
 io:∀(i:Nat) (o:O),env'[i]?=some (.s true o)->(∃o0,env[i]?=some (.s true o0))/\σ'[i]?=σ[i]?
 len:env'.length=env.length
section
variable{K:aQ}{c:Nat->aV}{env env' env2:Ev}{σ σ' σ2:L2.St}{H H' H2:Hp}{B W Y Y2 Z:Fp}
theorem Step.refl:Step env σ H B W env σ H W:=⟨Same.refl _,fun _ _=>rfl,fun _ h=>.inl h,fun _ h=>h,fun _ _ _=>.refl,fun _ o h=>⟨⟨o,h⟩,rfl⟩,rfl⟩
theorem Step.trans(a:Step env σ H B W env' σ' H' Y)(b:Step env' σ' H' B Y env2 σ2 H2 Y2):Step env σ H B W env2 σ2 H2 Y2:=by
 refine⟨a.same.trans b.same,fun z h=>(b.by_ z h).trans (a.by_ z h),fun z h=>?_,fun z h=>a.dom z (b.dom z h),fun z h1 h2=>?_,fun i o h=>?_,b.len.trans a.len⟩
 ·rcases b.new z h with q | q
  ·exact a.new z q
  ·exact .inr (a.dom z q)
 ·rcases b.new z h2 with q | q
  ·exact(a.pin z h1 q).trans (b.pin z q h2)
  ·rw[a.dom z q];exact .none
 ·obtain⟨⟨o1,h1⟩,e1⟩:=b.io i o h;obtain⟨q,e2⟩:=a.io i o1 h1;exact⟨q,e1.trans e2⟩
theorem Step.lift(b:Step env σ H B' W env' σ' H' Y)(h1:∀a,B' a=B a+Z a)(h2:∀a,W' a=W a+Z a)(h3:∀a,Y' a=Y a+Z a):Step env σ H B W' env' σ' H' Y' :=by
 refine⟨?_,fun a h=>b.by_ a (by rw[h1];omega),fun a h=>?_,b.dom,fun a p q=>?_,b.io,b.len⟩
 ·have e1:hide (hd2 B W') H=hide (hd2 B' W) H:=z9 fun a=>by dsimp only [hd2];rw [h1,h2];omega
  have e2:hide (hd2 B Y') H' =hide (hd2 B' Y) H' :=z9 fun a=>by dsimp only[hd2];rw[h1,h3];omega
  rw[e1,e2];exact b.same
 ·by_cases z:Y a=0
  ·exact .inl (by rw[h3]at h;rw[h2];omega)
  ·rcases b.new a z with q | q
   ·exact .inl (by rw[h2];omega)
   ·exact .inr q
 ·by_cases z:Z a=0
  ·exact b.pin a (by rw[h2]at p;omega) (by rw[h3]at q;omega)
  ·exact .of (b.by_ a (by rw[h1];omega))
theorem Step.cast(b:Step env σ H B W env' σ' H' Y)(h1:∀a,B' a=B a)(h2:∀a,W' a=W a)(h3:∀a,Y' a=Y a):Step env σ H B' W' env' σ' H' Y' :=by
 rw[show B' =B from funext h1,show W' =W from funext h2,show Y' =Y from funext h3];exact b
theorem Cf.cast(b:Cf K c env σ H B W)(h1:∀a,B' a=B a)(h2:∀a,W' a=W a):Cf K c env σ H B' W' :=by
 rw[show B' =B from funext h1,show W' =W from funext h2];exact b
theorem Cf.hbs(h:Cf K c env σ H B W){a:aV}(q:B a+W a≠0):∃o,H a=some o/\Hb o:=by
 by_cases z:B a=0
 ·exact h.at_.hb (by omega)
 ·exact h.hb a z
theorem Cf.fresh(h:Cf K c env σ H B W){a:aV}(q:H a=none):B a=0/\W a=0:=by
 have:B a+W a=0:=by
  by_cases z:B a+W a=0
  ·exact z
  ·obtain⟨o,e,_⟩:=h.hbs z;rw[q]at e;cases e
 omega
theorem Cf.grow(h:Cf K c env σ H B W)(e:Same H H'):Cf K c env σ H' B W:=by
 have st:∀a,B a+W a≠0->H' a=H a:=fun a z=>by obtain⟨o,q,_⟩:=h.hbs z;rw[q,e a o q]
 exact⟨h.at_.keep (zC fun a o z q=>⟨z,e a o q⟩) fun a z=>st a (by omega),h.nd,fun a z=>by rw[st a (by omega)];exact h.hb a z⟩
theorem Step.grow(h:Cf K c env σ H B W)(e:Same H H'):Step env σ H B W env σ H' W:=by
 have st:∀a,B a+W a≠0->H' a=H a:=fun a z=>by obtain⟨o,q,_⟩:=h.hbs z;rw[q,e a o q]
 refine⟨zC fun a o z q=>⟨z,e a o q⟩,fun a z=>st a (by omega),fun _ z=>.inl z,fun a z=>?_,fun a z _=>.of (st a (by omega)),fun _ o h=>⟨⟨o,h⟩,rfl⟩,rfl⟩;cases q:H a with
 |none=>rfl
 |some o=>rw[e a o q]at z;cases z
theorem Cf.focus(h:Cf K c env σ H B W){s:Slot}(e:env[i]?=some s):∃(x:Option V) (Z1 R:Fp),σ[i]?=some x/\jO K c (hide (hd2 B W) H) H s x Z1/\(∀a,W a=Z1 a+R a)/\
  ∀(H' :Hp) (B' W' :Fp) (s' :Slot) (x' :Option V) (Z1' :Fp),Same (hide (hd2 B W) H) (hide (hd2 B' W') H')->(∀a,W' a=Z1' a+R a)->(∀a,R a≠0->H' a=H a)->jO K c (hide (hd2 B' W') H') H' s' x' Z1' ->
   (∀a,B' a+W' a<=1)->(∀a,B' a≠0->∃o,H' a=some o/\Hb o)->Cf K c (env.set i s') (σ.set i x') H' B' W' :=by
 obtain⟨x,Z1,R,h1,h2,h3,h4⟩:=h.at_.focus e;exact⟨x,Z1,R,h1,h2,h3,fun H' B' W' s' x' Z1' sm hw k q nd hb=>⟨h4 _ H' s' x' Z1' W' sm k q hw,nd,hb⟩⟩
end
noncomputable def getE(env:Ev)(i:Nat)(π:List Nat):Option O:=match env[i]? with
 |some (.s _ o)=>getP o π
 |_=>none
noncomputable def setE(env:Ev)(i:Nat)(π:List Nat)(x:O):Ev:=match env[i]? with
 |some (.s io o)=>env.set i (.s io (setP o π x))
 |_=>env
noncomputable def vN(H:Hp)(σ:L2.St)(i:Nat)(π:List Nat):Option V:=match σ[i]? with
 |some (some v)=>walk H v π
 |_=>none
section
variable{K:aQ}{c:Nat->aV}{env env' env2:Ev}{σ σ' σ2:L2.St}{H H' H2:Hp}{B W Y Y2 Z:Fp}{i:Nat}{π:List Nat}{o1:O}
theorem qY2{x:O}{o:O}(h:(setE env i π x)[j]?=some (.s true o)):∃o0,env[j]?=some (.s true o0):=by
 unfold setE at h;split at h
 ·rename_i io o' e;by_cases z:i=j
  ·subst z;rw[dM (aU.mp e).1]at h;cases h;exact⟨_,e⟩
  ·rw [bZ z] at h;exact⟨o,h⟩
 ·exact⟨o,h⟩
theorem qW5{x:O}:(setE env i π x).length =env.length:=by
 unfold setE;split
 ·exact cW
 ·rfl
theorem Cf.place(h:Cf K c env σ H B W)(e:getE env i π=some o1):∃(v1:V) (Z1 R:Fp),vN H σ i π=some v1/\OAt K c (hide (hd2 B W) H) H o1 v1 Z1/\(∀a,W a=Z1 a+R a)/\
  ∀(H' :Hp) (B' W' :Fp) (o1' :O) (Z1' :Fp),Same (hide (hd2 B W) H) (hide (hd2 B' W') H')->(∀a,W' a=Z1' a+R a)->(∀a,R a≠0->H' a=H a)->OAt K c (hide (hd2 B' W') H') H' o1' v1 Z1' ->
   (∀a,B' a+W' a<=1)->(∀a,B' a≠0->∃o,H' a=some o/\Hb o)->Cf K c (setE env i π o1') σ H' B' W' :=by
 unfold getE at e;split at e
 ·rename_i io o e0;obtain⟨x,Z0,R0,h1,h2,h3,h4⟩:=h.focus e0;cases x with
  |none=>exact h2.elim
  | some v=>
    obtain⟨v1,Z1,R1,g1,g2,g3,g4⟩:=OAt.focus h2 e;refine⟨v1,Z1,fun a=>R1 a+R0 a,by unfold vN;rw[h1];exact g1,g2,fun a=>by rw[h3,g3];dsimp only;omega,fun H' B' W' o1' Z1' sm hw k q nd hb=>?_⟩;dsimp only at hw k;have q2:=g4 _ H' o1' Z1' sm (fun a z=>k a (by omega)) q;have q3:=h4 H' B' W' (.s io (setP o π o1')) (some v) _ sm (fun a=>by rw[hw];(try dsimp only);omega) (fun a z=>k a (by omega)) q2 nd hb;rw[yS h1]at q3;unfold setE;rw[e0];exact q3
 ·cases e
theorem Cf.freeze(h:Cf K c env σ H B W)(e:getE env i π=some o1):∃v1 W',vN H σ i π=some v1/\Cf K c (setE env i π (.fz (fzO o1))) σ H B W' /\DAt K c (hide (hd2 B W') H) v1 (fzO o1)/\Step env σ H B W (setE env i π (.fz (fzO o1))) σ H W' :=by
 obtain⟨v1,Z1,R,h1,h2,h3,h4⟩:=h.place e;have sm:Same (hide (hd2 B W) H) (hide (hd2 B R) H):=jE fun a z=>by dsimp only[hd2]at *;rw[h3]at z;omega
 have hd:DAt K c (hide (hd2 B R) H) v1 (fzO o1):=h2.dat sm fun a z=>zZ (by have:=h.nd a;rw[h3]at this;dsimp only[hd2];omega)
 refine⟨v1,R,h1,h4 H B R _ (fun _=>0) sm (fun a=>by(try dsimp only);omega) (fun _ _=>rfl) (OAt.fz.mpr ⟨hd,fun _=>rfl⟩) (fun a=>by have:=h.nd a;rw[h3]at this;omega) h.hb,hd,?_⟩;exact⟨sm,fun _ _=>rfl,fun a z=>.inl (by rw[h3];omega),fun _ z=>z,fun _ _ _=>.refl,fun j o q=>⟨qY2 q,rfl⟩,qW5⟩
theorem Cf.view(h:Cf K c env σ H B W)(e:getE env i π=some o1):∃v1,vN H σ i π=some v1/\DAt K c H v1 (fzO o1):=by
 obtain⟨v1,Z1,R,h1,h2,h3,h4⟩:=h.place e;exact⟨v1,h1,h2.dat vC fun _ _=>rfl⟩
theorem Cf.put{u:V}{o:O}(h:Cf K c env σ H B' W)(hB:∀a,B' a=B a+Z a)(ho:OAt K c (hide (hd2 B' W) H) H o u Z)(hi:i<env.length):∃W',Cf K c (env.set i (.s io o)) (σ.set i (some u)) H B W' /\Same (hide (hd2 B' W) H) (hide (hd2 B W') H)/\∀a,W' a≠0->Z a+W a≠0:=by
 obtain⟨x,Z1,R,h1,h2,h3,h4⟩:=h.focus (aI hi);have sm:Same (hide (hd2 B' W) H) (hide (hd2 B fun a=>Z a+R a) H):=jE fun a z=>by dsimp only[hd2]at *;rw[h3,hB]at z;omega
 refine⟨fun a=>Z a+R a,h4 H B _ (.s io o) (some u) Z sm (fun _=>rfl) (fun _ _=>rfl) (ho.keep sm fun _ _=>rfl) (fun a=>?_) (fun a z=>h.hb a (by rw[hB];omega)),sm,fun a z=>?_⟩
 ·have:=h.nd a;rw[h3,hB]at this;(try dsimp only);omega
 ·dsimp only at z;rw[h3];omega
end
inductive Res(α:Type) where
 |ok (a:α)|er (C:Nat) (fs:List (Str×D))|no
noncomputable def Res.bind{α β:Type}(x:Res α)(f:α->Res β):Res β:=match x with
 |.ok a=>f a
 |.er C fs=>.er C fs
 |.no =>.no
noncomputable def Res.wp{α:Type}(x:Res α)(Q:α->Prop)(E:Nat->List (Str×D)->Prop):Prop:=match x with
 |.ok a=>Q a
 |.er C fs=>E C fs
 |.no =>False
noncomputable def opt{α:Type}:Option α->Res α
 |some a=>.ok a
 |none=>.no
theorem qB{f:α->Res β}{Q:β->Prop}{E:Nat->List (Str×D)->Prop}:∀{x:Res α},(x.bind f).wp Q E↔x.wp (fun a=>(f a).wp Q E) E
 |.ok _=>Iff.rfl
 |.er _ _=>Iff.rfl
 |.no =>Iff.rfl
theorem wp_mono{Q Q' :α->Prop}{E E' :Nat->List (Str×D)->Prop}(hQ:∀a,Q a->Q' a)(hE:∀C fs,E C fs->E' C fs):∀{x:Res α},x.wp Q E->x.wp Q' E'
 |.ok a,h=>hQ a h
 |.er C fs,h=>hE C fs h
 |.no,h=>h.elim
theorem qN{f:α->Res β}{Q:β->Prop}{E:Nat->List (Str×D)->Prop}:∀{x:Option α},((opt x).bind f).wp Q E->∃a,x=some a/\(f a).wp Q E
 |some a,h=>⟨a,rfl,h⟩
 |none,h=>h.elim
theorem zV{b:Bool}{x:Res α}{Q:α->Prop}{E:Nat->List (Str×D)->Prop}(h:(cond b x .no).wp Q E):b=true/\x.wp Q E:=by
 cases b with
 |true=>grind
 |false=>exact h.elim
structure StepX(H:Hp)(B W:Fp)(H' :Hp)(Y:Fp):Prop where
 same:Same (hide (hd2 B W) H) (hide (hd2 B Y) H')
 by_:∀a,B a≠0->H' a=H a
 dom:∀a,H' a=none->H a=none
noncomputable def ErAt(K:aQ)(c:Nat->aV)(F H:Hp)(fs:List (Str×D)):Option aV->Prop
 |none=>fs=[]
 |some dx=>∃ws:List (Str×V),H dx=some (.xd ws)/\ws.map (·.1)=fs.map (·.1)/\DsAt K c F (ws.map (·.2)) (fs.map (·.2))
noncomputable def erP(K:aQ)(c:Nat->aV)(E:XK)(H:Hp)(B W:Fp):Nat->List (Str×D)->Prop:=fun C fs=>∀H' Y ox,StepX H B W H' Y->ErAt K c (hide (hd2 B Y) H') H' fs ox->E (.ref (c C)) ox H'
section
variable{K:aQ}{c:Nat->aV}{E:XK}{env env' :Ev}{σ σ' :L2.St}{H H' H2:Hp}{B W Y Y2 Z:Fp}{C:Nat}{fs:List (Str×D)}
theorem Step.x(a:Step env σ H B W env' σ' H' Y)(b:StepX H' B Y H2 Y2):StepX H B W H2 Y2:=⟨a.same.trans b.same,fun z h=>(b.by_ z h).trans (a.by_ z h),fun z h=>a.dom z (b.dom z h)⟩
theorem erP.back(a:Step env σ H B W env' σ' H' Y)(h:erP K c E H B W C fs):erP K c E H' B Y C fs:=fun H2 Y2 ox sx er=>h H2 Y2 ox (a.x sx) er
end
structure Got(K:aQ)(c:Nat->aV)(env:Ev)(σ:L2.St)(H:Hp)(B W:Fp)(env' :Ev)(H' :Hp)(W' Z:Fp)(o:O)(u:V):Prop where
 st:Step env σ H B W env' σ H' (hd2 W' Z)
 cf:Cf K c env' σ H' (hd2 B Z) W'
 at_:OAt K c (hide (hd2 (hd2 B Z) W') H') H' o u Z
structure GotD(K:aQ)(c:Nat->aV)(env:Ev)(σ:L2.St)(H:Hp)(B W:Fp)(env' :Ev)(H' :Hp)(W' :Fp)(x:D)(u:V):Prop where
 st:Step env σ H B W env' σ H' W'
 cf:Cf K c env' σ H' B W'
 at_:DAt K c (hide (hd2 B W') H') u x
noncomputable abbrev SE:=Ev->Res (O×Ev)
noncomputable abbrev SV:=Ev->Res (D×Ev)
noncomputable def tE(K:aQ)(c:Nat->aV)(E:XK)(s:SE):TE:=fun σ H Q=>∃env B W,Cf K c env σ H B W/\(s env).wp (fun r=>∀u H' W' Z,Got K c env σ H B W r.2 H' W' Z r.1 u->Q u H') (erP K c E H B W)
noncomputable def tV(K:aQ)(c:Nat->aV)(E:XK)(s:SV):TE:=fun σ H Q=>∃env B W,Cf K c env σ H B W/\(s env).wp (fun r=>∀u H' W',GotD K c env σ H B W r.2 H' W' r.1 u->Q u H') (erP K c E H B W)
structure ED(X:Cx)(c:Nat->aV)(E:XK)(e:Expr)(s:SE):Prop where
 h:PE X e (tE X.K c E s)
structure EV(X:Cx)(c:Nat->aV)(E:XK)(e:Expr)(s:SV):Prop where
 h:PE X e (tV X.K c E s)
theorem PE.imp{t t' :TE}(h:PE X e t)(k:∀σ H Q,t' σ H Q->t σ H Q):PE X e t' :=fun pins s σ H Q I q=>h pins s σ H Q I (k σ H Q q)
section
variable{K:aQ}{c:Nat->aV}{E:XK}{env env' env2:Ev}{σ σ' :L2.St}{H H' H2:Hp}{B W W' W2 Y Y2 Z:Fp}{o:O}{u:V}{x:D}
theorem Got.fz(g:Got K c env σ H B W env' H' W' Z o u):GotD K c env σ H B W env' H' W' (fzO o) u:=by
 have sm:Same (hide (hd2 (hd2 B Z) W') H') (hide (hd2 B W') H'):=jE fun a z=>by dsimp only[hd2]at *;omega
 have sm2:Same (hide (hd2 B (hd2 W' Z)) H') (hide (hd2 B W') H'):=jE fun a z=>by dsimp only[hd2]at *;omega
 refine⟨⟨g.st.same.trans sm2,g.st.by_,fun a h=>g.st.new a (by dsimp only[hd2];omega),g.st.dom,fun a h1 h2=>g.st.pin a h1 (by dsimp only[hd2];omega),g.st.io,g.st.len⟩,
  ⟨g.cf.at_.keep sm fun _ _=>rfl,fun a=>by have:=g.cf.nd a;dsimp only[hd2]at this;omega,fun a h=>g.cf.hb a (by dsimp only[hd2];omega)⟩,g.at_.dat sm fun a h=>zZ ?_⟩
 have:=g.cf.nd a;dsimp only[hd2]at *;omega
theorem GotD.own(g:GotD K c env σ H B W env' H' W' x u):Got K c env σ H B W env' H' W' (fun _=>0) (.fz x) u:=by
 refine⟨g.st.cast (fun _=>rfl) (fun _=>rfl) fun _=>rfl,g.cf.cast (fun _=>rfl) fun _=>rfl,OAt.fz.mpr ⟨?_,fun _=>rfl⟩⟩;exact g.at_
end
section
variable{X:Cx}{c:Nat->aV}{E:XK}{e:Expr}
noncomputable def fzS(s:SE):SV:=fun env=>(s env).bind fun r=>.ok (fzO r.1,r.2)
noncomputable def owS(s:SV):SE:=fun env=>(s env).bind fun r=>.ok (.fz r.1,r.2)
theorem ev_e{s:SE}(h:ED X c E e s):EV X c E e (fzS s):=by
 refine⟨PE.imp h.h fun σ H Q=>?_⟩;rintro⟨env,B,W,cf,w⟩;exact⟨env,B,W,cf,wp_mono (fun r q u H' W' Z g=>q u H' W' g.fz) (fun _ _ q=>q) (qB.mp w)⟩
theorem ed_v{s:SV}(h:EV X c E e s):ED X c E e (owS s):=by
 refine⟨PE.imp h.h fun σ H Q=>?_⟩;rintro⟨env,B,W,cf,w⟩;exact⟨env,B,W,cf,wp_mono (fun r q u H' W' g=>q u H' W' _ g.own) (fun _ _ q=>q) (qB.mp w)⟩
end
inductive Hn where
 |d (x:D)|p (i:Nat) (π:List Nat)
noncomputable abbrev SP:=Ev->Option Hn
noncomputable def HnAt(K:aQ)(c:Nat->aV)(F:Hp)(σ:L2.St)(H:Hp)(u:V):Hn->Prop
 |.d x=>DAt K c F u x
 |.p i π=>vN H σ i π=some u
noncomputable def tP(K:aQ)(c:Nat->aV)(s:SP):TE:=fun σ H Q=>∃env B W h,Cf K c env σ H B W/\s env=some h/\∀u,HnAt K c (hide (hd2 B W) H) σ H u h->Q u H
structure EP(X:Cx)(c:Nat->aV)(e:Expr)(s:SP):Prop where
 h:PE X e (tP X.K c s)
noncomputable def hnO(o:O)(i:Nat)(π:List Nat):Hn:=match o with
 |.fz d=>.d d
 |.ow _ _=>.p i π
noncomputable def hnV(env:Ev):Hn->Res (D×Ev)
 |.d x=>.ok (x,env)
 |.p i π=>(opt (getE env i π)).bind fun o=>.ok (fzO o,setE env i π (.fz (fzO o)))
noncomputable def pV(s:SP):SV:=fun env=>(opt (s env)).bind (hnV env)
theorem vXi{K:aQ}{u:V}{Q:D×Ev->Prop}{EE:Nat->List (Str×D)->Prop}(cf:Cf K c env σ H B W)(hu:HnAt K c (hide (hd2 B W) H) σ H u h)(w:(hnV env h).wp Q EE):
  ∃x env' W',GotD K c env σ H B W env' H W' x u/\Q (x,env'):=by
 cases h with
 |d x=>exact⟨x,env,W,⟨.refl,cf,hu⟩,w⟩
 | p i π=>
   obtain⟨o,e1,w1⟩:=qN w;obtain⟨v1,W',h1,h2,h3,h4⟩:=cf.freeze e1;have:vN H σ i π=some u:=hu;rw[this]at h1;cases h1;exact⟨_,_,W',⟨h4,h2,h3⟩,w1⟩
theorem ev_p{s:SP}(h:EP X c e s):EV X c E e (pV s):=by
 refine⟨PE.imp h.h fun σ H Q=>?_⟩;rintro⟨env,B,W,cf,w⟩;obtain⟨h1,e0,w1⟩:=qN w;refine⟨env,B,W,h1,cf,e0,fun u hu=>?_⟩;obtain⟨x,env',W',g,q⟩:=vXi cf hu w1;grind
noncomputable def rsv(env:Ev):Hn->Option D
 |.d x=>some x
 | .p i π=>match getE env i π with
   |some o=>some (fzO o)
   |none=>none
theorem jM{K:aQ}{u:V}{x:D}(cf:Cf K c env σ H B W)(hu:HnAt K c (hide (hd2 B W) H) σ H u h)(e:rsv env h=some x):DAt K c H u x:=by
 cases h with
 |d y=>cases e;exact DAt.same vC hu
 | p i π=>
   simp only[rsv]at e;cases e0:getE env i π with
   |none=>grind
   | some o=>
     rw[e0]at e;cases e;obtain⟨v1,h1,h2⟩:=cf.view e0;have:vN H σ i π=some u:=hu;grind
inductive Vw(K:aQ)(c:Nat->aV)(F H:Hp):V->D->Prop
 |d {u:V} {x:D} (h:DAt K c F u x):Vw K c F H u x
 |nd {p:aV} {k:Kd} {vs:List V} {ds:List D} (h:NdAt K c H p k vs) (r:DsAt K c F vs ds):Vw K c F H (.ref p) (.nd k ds)
section
variable{K:aQ}{c:Nat->aV}{F F' H H' :Hp}{u:V}{x:D}
theorem Vw.un{k:Kd}{ds:List D}(s:Same F H)(h:Vw K c F H u (.nd k ds)):∃p vs,u=.ref p/\NdAt K c H p k vs/\DsAt K c F vs ds:=by
 generalize e:D.nd k ds=y at h;cases h with
 | d h=>
   subst e;obtain⟨p,vs,a,b,cc⟩:=h.un;exact⟨p,vs,a,b.same s,cc⟩
 |nd h r=>cases e;exact⟨_,_,rfl,h,r⟩
theorem Vw.same(s:Same F F')(h:Vw K c F H u x):Vw K c F' H u x:=by
 cases h with
 |d h=>exact .d (h.same s)
 |nd h r=>exact .nd h (r.same s)
end
noncomputable def jWg:O->O
 |.fz d=>.fz d
 |.ow k os=>.ow k (os.map fun o=>.fz (fzO o))
noncomputable def rsvB(env:Ev):Hn->Res (D×Ev)
 |.d x=>.ok (x,env)
 |.p i π=>(opt (getE env i π)).bind fun o=>.ok (fzO o,setE env i π (jWg o))
theorem vKi{K:aQ}{u:V}{Q:D×Ev->Prop}{EE:Nat->List (Str×D)->Prop}(cf:Cf K c env σ H B W)(hu:HnAt K c (hide (hd2 B W) H) σ H u h)(w:(rsvB env h).wp Q EE):
  ∃x env' W',Step env σ H B W env' σ H W' /\Cf K c env' σ H B W' /\Vw K c (hide (hd2 B W') H) H u x/\Q (x,env'):=by
 cases h with
 |d x=>exact⟨x,env,W,.refl,cf,.d hu,w⟩
 | p i π=>
   obtain⟨o,e1,w1⟩:=qN w;obtain⟨v1,Z1,R,h1,h2,h3,h4⟩:=cf.place e1;have:vN H σ i π=some u:=hu;rw[this]at h1;cases h1;cases o with
   | fz d=>
     rw[OAt.fz]at h2;have q:=h4 H B W (.fz d) Z1 (Same.refl _) h3 (fun _ _=>rfl) (OAt.fz.mpr h2) cf.nd cf.hb;exact⟨d,_,W,⟨Same.refl _,fun _ _=>rfl,fun _ z=>.inl z,fun _ z=>z,fun _ _ _=>.refl,fun j o z=>⟨qY2 z,rfl⟩,qW5⟩,q,.d h2.1,w1⟩
   | ow k os=>
     rw[OAt.ow]at h2;obtain⟨p,vs,Z',rfl,b,cc,d⟩:=h2;have lo:∀a,Z' a≠0->B a+(one p a+R a)=0:=fun a z=>by have:=cf.nd a;rw[h3,d]at this;omega
     have sm:Same (hide (hd2 B W) H) (hide (hd2 B fun a=>one p a+R a) H):=jE fun a z=>by dsimp only[hd2]at *;rw[h3,d]at z;omega
     have kd:DsAt K c (hide (hd2 B fun a=>one p a+R a) H) vs (fzOs os):=cc.dat sm fun a z=>zZ (lo a z)
     have q:=h4 H B (fun a=>one p a+R a) (.ow k (os.map fun o=>.fz (fzO o))) (one p) sm (fun _=>rfl) (fun _ _=>rfl)
      (OAt.ow.mpr ⟨p,vs,fun _=>0,rfl,b,by rw[show(os.map fun o=>O.fz (fzO o))=(fzOs os).map .fz by rw[qK8,dY];rfl,OsAt.fzs];exact⟨kd,fun _=>rfl⟩,fun _=>rfl⟩) (fun a=>by have:=cf.nd a;rw[h3,d]at this;(try dsimp only);omega) cf.hb
     refine⟨_,_,_,⟨sm,fun _ _=>rfl,fun a z=>.inl ?_,fun _ z=>z,fun _ _ _=>.refl,fun j o z=>⟨qY2 z,rfl⟩,qW5⟩,q,?_,w1⟩
     ·(try dsimp only at z);rw[h3,d];omega
     ·rw[fzO];exact .nd (b.nd rfl) kd
inductive Oe where
 |p (s:SP)|v (s:SV)
noncomputable def Oe.isP:Oe->Bool
 |.p _=>true
 |.v _=>false
noncomputable def Hn.st:Hn->Bool
 |.d _=>true
 |.p _ π=>π.isEmpty
noncomputable def oV:Oe->SV
 |.p s=>pV s
 |.v s=>s
noncomputable def evO:Oe->Ev->Res (Hn×Ev)
 |.p s,env=>(opt (s env)).bind fun h=>.ok (h,env)
 |.v s,env=>(s env).bind fun r=>.ok (.d r.1,r.2)
noncomputable def tO(K:aQ)(c:Nat->aV)(E:XK):Oe->TE
 |.p s=>tP K c s
 |.v s=>tV K c E s
structure OD(X:Cx)(c:Nat->aV)(E:XK)(e:Expr)(o:Oe):Prop where
 h:PE X e (tO X.K c E o)
structure GotH(K:aQ)(c:Nat->aV)(env:Ev)(σ:L2.St)(H:Hp)(B W:Fp)(o:Oe)(env' :Ev)(H' :Hp)(W' :Fp)(h:Hn)(u:V):Prop where
 st:Step env σ H B W env' σ H' W'
 cf:Cf K c env' σ H' B W'
 at_:HnAt K c (hide (hd2 B W') H') σ H' u h
 pu:o.isP=true->H' =H/\W' =W/\env' =env
noncomputable def wH(K:aQ)(c:Nat->aV)(F:Hp)(σ:L2.St)(H:Hp):List V->List Hn->Prop
 |[],[]=>True
 |u::us,h::hs=>HnAt K c F σ H u h/\wH K c F σ H us hs
 |_,_=>False
section
variable{K:aQ}{c:Nat->aV}{E:XK}{env env' env2:Ev}{σ σ' :L2.St}{H H' H2:Hp}{B W W' W2 Y Y2 Z:Fp}{o:Oe}{h:Hn}{u:V}{x:D}{Q:VK}
theorem yU{w:Hn×Ev->Prop}(cf:Cf K c env σ H B W)(hw:(evO o env).wp w (erP K c E H B W))(k:∀r,w r->∀u H' W',GotH K c env σ H B W o r.2 H' W' r.1 u->Q u H'):tO K c E o σ H Q:=by
 cases o with
 | p s=>
   obtain⟨h1,e0,w1⟩:=qN hw;exact⟨env,B,W,h1,cf,e0,fun u hu=>k _ w1 u H W ⟨.refl,cf,hu,fun _=>⟨rfl,rfl,rfl⟩⟩⟩
 |v s=>exact⟨env,B,W,cf,wp_mono (fun r q u H' W' g=>k _ q u H' W' ⟨g.st,g.cf,g.at_,fun z=>by cases z⟩) (fun _ _ q=>q) (qB.mp hw)⟩
theorem HnAt.step(a:HnAt K c (hide (hd2 B W) H) σ H u h)(g:Same (hide (hd2 B W) H) (hide (hd2 B W') H'))(hs:h.st=true):HnAt K c (hide (hd2 B W') H') σ H' u h:=by
 cases h with
 |d x=>exact DAt.same g a
 | p i π=>
   cases π with
   | nil=>
     have a' :vN H σ i []=some u:=a;show vN H' σ i []=some u;unfold vN at a' ⊢;cases e:σ[i]? with
     |none=>rw[e]at a';cases a'
     | some v=>
       rw[e]at a';cases v with
       |none=>cases a'
       |some v=>simpa[walk] using a'
   |cons j π=>cases hs
theorem GotH.next{o2:Oe}{h2:Hn}{u2:V}(a:GotH K c env σ H B W o env' H' W' h u)(b:GotH K c env' σ H' B W' o2 env2 H2 W2 h2 u2)(hs:(h.st || o2.isP)=true):HnAt K c (hide (hd2 B W2) H2) σ H2 u h:=by
 cases e:h.st with
 |true=>exact a.at_.step b.st.same e
 | false=>
   rw[e]at hs;obtain⟨e1,e2,_⟩:=b.pu (by simpa using hs);subst e1 e2;exact a.at_
end
section
variable{X:Cx}{c:Nat->aV}{E:XK}{e a b:Expr}{o oa ob:Oe}
theorem od_v{s:SV}(h:EV X c E e s):OD X c E e (.v s):=⟨h.h⟩
theorem od_e{s:SE}(h:ED X c E e s):OD X c E e (.v (fzS s)):=⟨(ev_e h).h⟩
theorem OD.val(h:OD X c E e o):EV X c E e (oV o):=by
 cases o with
 |p s=>exact ev_p ⟨h.h⟩
 |v s=>exact⟨h.h⟩
theorem OD.ow(h:OD X c E e o):ED X c E e (owS (oV o)):=ed_v h.val
end
noncomputable def oC(d:D):Oe:=.p fun _=>some (.d d)
noncomputable def qZb(i:Nat):SP:=fun env=>match env[i]? with
 |some (.s _ o)=>some (hnO o i [])
 |_=>none
noncomputable def oN(i:Nat):Oe:=.p (qZb i)
section
variable{X:Cx}{c:Nat->aV}{E:XK}{e:Expr}{pos:Pos}
theorem od_c{d:D}(h:PE X e (tC v))(k:∀F,DAt X.K c F v d):OD X c E e (oC d):=by
 refine⟨PE.imp h fun σ H Q=>?_⟩;rintro⟨env,B,W,h1,cf,e0,q⟩;cases e0;exact q v (k _)
theorem qX{i:Int}:OD X c E (.Constant (.int i) j pos) (oC (.int i)):=od_c zZy fun _=>.int i
theorem qZ{x:Str}:OD X c E (.Constant (.str x) j pos) (oC (.str x)):=od_c vXd fun _=>.str x
theorem qZc{x:Bool}:OD X c E (.Constant (.bool x) j pos) (oC (.bl x)):=od_c jJ2 fun _=>.bl x
theorem qKi:OD X c E (.Constant .none j pos) (oC .non):=od_c jV2 fun _=>.non
theorem zJb{K:aQ}{F:Hp}{o:O}{u:V}(h:OAt K c F H o u Z)(w:vN H σ i π=some u):HnAt K c F σ H u (hnO o i π):=by
 cases o with
 |fz d=>rw[OAt.fz]at h;exact h.1
 |ow k os=>exact w
theorem qQ(h:PE X e (tVar i)):OD X c E e (oN i):=by
 refine⟨PE.imp h fun σ H Q=>?_⟩;rintro⟨env,B,W,h1,cf,e0,q⟩;simp only[qZb]at e0;cases e1:env[i]? with
 |none=>grind
 | some s=>
   rw[e1]at e0;cases s with
   |un=>cases e0
   | s io o=>
     cases e0;obtain⟨x,Z1,R,h1,h2,h3,h4⟩:=cf.focus e1;cases x with
     |none=>exact h2.elim
     |some v=>exact⟨v,h1,q v (zJb h2 (by unfold vN;rw[h1];simp[walk]))⟩
end
noncomputable def PrS1(K:aQ)(c:Nat->aV)(r:V->Hp->VK->Prop)(f:D->Option D):Prop:=∀(u:V) (H:Hp) (x z:D) (Q:VK),DAt K c H u x->f x=some z->(∀v,(∀F,DAt K c F v z)->Q v H)->r u H Q
noncomputable def PrS2(K:aQ)(c:Nat->aV)(r:R2)(f:D->D->Option D):Prop:=∀(u w:V) (H:Hp) (x y z:D) (Q:VK),DAt K c H u x->DAt K c H w y->f x y=some z->(∀v,(∀F,DAt K c F v z)->Q v H)->r u w H Q
noncomputable def sp1(f:D->Option D)(a:SP):SP:=fun env=>(a env).bind fun h=>(rsv env h).bind fun x=>(f x).bind fun z=>some (.d z)
noncomputable def sv1(f:D->Option D)(a:Oe):SV:=fun env=>(evO a env).bind fun r=>(opt (rsv r.2 r.1)).bind fun x=>(opt (f x)).bind fun z=>.ok (z,r.2)
noncomputable def o1(f:D->Option D):Oe->Oe
 |.p s=>.p (sp1 f s)
 |a=>.v (sv1 f a)
noncomputable def sp2(f:D->D->Option D)(a b:SP):SP:=fun env=>(a env).bind fun h=>(b env).bind fun h' =>(rsv env h).bind fun x=>(rsv env h').bind fun y=>(f x y).bind fun z=>some (.d z)
noncomputable def sv2(f:D->D->Option D)(a b:Oe):SV:=fun env=>(evO a env).bind fun r=>(evO b r.2).bind fun r' =>cond (r.1.st || b.isP) ((opt (rsv r'.2 r.1)).bind fun x=>(opt (rsv r'.2 r'.1)).bind fun y=>(opt (f x y)).bind fun z=>.ok (z,r'.2)) .no
noncomputable def o2(f:D->D->Option D)(a b:Oe):Oe:=match a,b with
 |.p s,.p t=>.p (sp2 f s t)
 |a,b=>.v (sv2 f a b)
section
variable{X:Cx}{K:aQ}{c:Nat->aV}{E:XK}{e a b:Expr}{pos:Pos}{oa ob:Oe}
theorem bnd{x:Option α}{f:α->Option β}{b:β}(h:x.bind f=some b):∃a,x=some a/\f a=some b:=Option.bind_eq_some_iff.mp h
theorem vJe{r:V->Hp->VK->Prop}{f:D->Option D}(hp:PrS1 K c r f)(h:tO K c E (o1 f oa) σ H Q):tUn r (tO K c E oa) σ H Q:=by
 cases oa with
 | p s=>
   obtain⟨env,B,W,h1,cf,e0,q⟩:=h;obtain⟨ha,e1,e2⟩:=bnd e0;obtain⟨x,e3,e4⟩:=bnd e2;obtain⟨z,e5,e6⟩:=bnd e4;cases e6;exact⟨env,B,W,ha,cf,e1,fun u hu=>hp u H x z Q (jM cf hu e3) e5 fun v hv=>q v (hv _)⟩
 | v s=>
   obtain⟨env,B,W,cf,w⟩:=h;refine yU (o:=.v s) cf (qB.mp w) fun r w1 u H' W' g=>?_
   obtain⟨x,e3,w2⟩:=qN w1;obtain⟨z,e5,w3⟩:=qN w2;exact hp u H' x z Q (jM g.cf g.at_ e3) e5 fun v hv=>w3 v H' W' ⟨g.st,g.cf,hv _⟩
theorem zZm{r:R2}{f:D->D->Option D}(hp:PrS2 K c r f)(h:tV K c E (sv2 f oa ob) σ H Q):tOp r (tO K c E oa) (tO K c E ob) σ H Q:=by
 obtain⟨env,B,W,cf,w⟩:=h;refine yU cf (qB.mp w) fun r1 w1 u H1 W1 g1=>?_
 refine yU g1.cf (wp_mono (fun _ q=>q) (fun C fs he=>he.back g1.st) (qB.mp w1)) fun r2 w2 v H2 W2 g2=>?_
 obtain⟨hs,w3⟩:=zV w2;obtain⟨x,e3,w4⟩:=qN w3;obtain⟨y,e4,w5⟩:=qN w4;obtain⟨z,e5,w6⟩:=qN w5;exact hp u v H2 x y z Q (jM g2.cf (g1.next g2 hs) e3) (jM g2.cf g2.at_ e4) e5 fun v hv=>w6 v H2 W2 ⟨g1.st.trans g2.st,g2.cf,hv _⟩
theorem zVx{r:R2}{f:D->D->Option D}(hp:PrS2 K c r f)(h:tO K c E (o2 f oa ob) σ H Q):tOp r (tO K c E oa) (tO K c E ob) σ H Q:=by
 cases oa with
 |v s=>exact zZm hp h
 | p s=>
   cases ob with
   |v t=>exact zZm hp h
   | p t=>
     obtain⟨env,B,W,h1,cf,e0,q⟩:=h;obtain⟨ha,e1,e2⟩:=bnd e0;obtain⟨hb,e3,e4⟩:=bnd e2;obtain⟨x,e5,e6⟩:=bnd e4;obtain⟨y,e7,e8⟩:=bnd e6;obtain⟨z,e9,e10⟩:=bnd e8;cases e10;exact⟨env,B,W,ha,cf,e1,fun u hu=>⟨env,B,W,hb,cf,e3,fun w hw=>hp u w H x y z Q (jM cf hu e5) (jM cf hw e7) e9 fun v hv=>q v (hv _)⟩⟩
theorem jJ6{op:UnaryOp}{r:V->Hp->VK->Prop}{f:D->Option D}(ho:UnR X (unaryOp op) r)(hp:PrS1 X.K c r f)(ha:OD X c E a oa):OD X c E (.UnaryOp op a pos) (o1 f oa):=
 ⟨PE.imp (jJz ho ha.h) fun _ _ _ h=>vJe hp h⟩
theorem qYg{r:R2}{f:D->D->Option D}(ho:OpR X (binaryOp op) r)(hp:PrS2 X.K c r f)(ha:OD X c E a oa)(hb:OD X c E b ob):OD X c E (.BinOp a op b pos) (o2 f oa ob):=
 ⟨PE.imp (jQf ho ha.h hb.h) fun _ _ _ h=>zVx hp h⟩
theorem qKj{op:CmpOp}{r:R2}{f:D->D->Option D}(ho:OpR X (bL op) r)(hp:PrS2 X.K c r f)(ha:OD X c E a oa)(hb:OD X c E b ob)(hm:behindInMarks op b=false):OD X c E (.Compare a [op] [b] pos) (o2 f oa ob):=
 ⟨PE.imp (zYq ho ha.h hb.h hm) fun _ _ _ h=>zVx hp h⟩
end
noncomputable abbrev ST:=Ev->Res (Bool×Ev)
noncomputable def tT(K:aQ)(c:Nat->aV)(E:XK)(s:ST):TT:=fun σ H Q=>∃env B W,Cf K c env σ H B W/\(s env).wp (fun r=>∀H' W',Step env σ H B W r.2 σ H' W' ->Cf K c r.2 σ H' B W' ->Q r.1 H') (erP K c E H B W)
structure TD(X:Cx)(c:Nat->aV)(E:XK)(e:Expr)(s:ST):Prop where
 h:PT X e (tT X.K c E s)
structure WD(X:Cx)(c:Nat->aV)(E:XK)(e:Expr)(s:ST):Prop where
 h:PW X e (tT X.K c E s)
theorem PT.imp{t:TT}(h:PT X e t)(k:∀σ H Q,t' σ H Q->t σ H Q):PT X e t' :=fun pins s σ H Q I q=>h pins s σ H Q I (k σ H Q q)
theorem PW.imp{t:TT}(h:PW X e t)(k:∀σ H Q,t' σ H Q->t σ H Q):PW X e t' :=fun wh pins s σ H Q I q=>h wh pins s σ H Q I (k σ H Q q)
noncomputable def blOf:D->Option Bool
 |.bl b=>some b
 |_=>none
theorem vK9{K:aQ}{F:Hp}{u:V}{x:D}{b:Bool}(h:DAt K c F u x)(e:blOf x=some b):u=.bl b:=by
 cases h <;> cases e
 rfl
noncomputable def asB(o:Oe):ST:=fun env=>(oV o env).bind fun r=>(opt (blOf r.1)).bind fun b=>.ok (b,r.2)
theorem vW7{K:aQ}{o:Oe}(h:tV K c E (oV o) σ H Q):tO K c E o σ H Q:=by
 cases o with
 |v s=>exact h
 | p s=>
   obtain⟨env,B,W,cf,w⟩:=h;obtain⟨h1,e0,w1⟩:=qN w;refine⟨env,B,W,h1,cf,e0,fun u hu=>?_⟩;obtain⟨x,env',W',g,q⟩:=vXi cf hu w1;grind
theorem vQ7{K:aQ}{o:Oe}{Q:Bool->Hp->Prop}(h:tT K c E (asB o) σ H Q):tO K c E o σ H fun x H1=>∃k,x=.bl k/\Q k H1:=by
 obtain⟨env,B,W,cf,w⟩:=h;refine vW7 ⟨env,B,W,cf,wp_mono (fun r1 h1 u H1 W1 g=>?_) (fun _ _ he=>he) (qB.mp w)⟩;obtain⟨b,e1,h2⟩:=qN h1;exact⟨b,vK9 g.at_ e1,h2 H1 W1 g.st g.cf⟩
section
variable{X:Cx}{c:Nat->aV}{E:XK}{e a b d:Expr}{rest:List Expr}{pos:Pos}{sa sb:ST}{oa ob oc:Oe}{o:Oe}
theorem zJ(h:OD X c E e o)(he:∀whole,isTrue e X.env whole=(do let v ←whole;standAt e.pos;holding [v] (truthy v)):=by intro _;rfl):TD X c E e (asB o):=
 ⟨PT.imp (jVk h.h he) fun _ _ _ h=>vQ7 h⟩
theorem qZf{op:CmpOp}{r:R2}{f:D->D->Option D}(ho:OpR X (bL op) r)(hp:PrS2 X.K c r f)(ha:OD X c E a oa)(hb:OD X c E b ob)(hm:behindInMarks op b=false):TD X c E (.Compare a [op] [b] pos) (asB (o2 f oa ob)):=
 ⟨PT.imp (zX4 ho ha.h hb.h hm) fun _ _ _ h=>zVx hp (vQ7 h)⟩
noncomputable def oCh(f f' :D->D->Option D)(oa ob oc:Oe):Oe:=.v fun env=>(evO oa env).bind fun r=>(evO ob r.2).bind fun r' =>cond (r.1.st || ob.isP) ((opt (rsv r'.2 r.1)).bind fun x=>(opt (rsv r'.2 r'.1)).bind fun y=>(opt (f x y)).bind fun z=>(opt (blOf z)).bind fun k=>cond k
 ((evO oc r'.2).bind fun r3=>cond (r'.1.st || oc.isP) ((opt (rsv r3.2 r'.1)).bind fun y=>(opt (rsv r3.2 r3.1)).bind fun w=>(opt (f' y w)).bind fun z=>.ok (z,r3.2)) .no) (.ok (.bl false,r'.2))) .no
theorem zZl{K:aQ}{r:R2}{f f' :D->D->Option D}(hp:PrS2 K c r f)(hp' :PrS2 K c r' f')(h:tO K c E (oCh f f' oa ob oc) σ H Q):vW8 r r' (tO K c E oa) (tO K c E ob) (tO K c E oc) σ H Q:=by
 obtain⟨env,B,W,cf,w⟩:=h;refine yU cf (qB.mp w) fun r1 w1 u H1 W1 g1=>?_
 refine yU g1.cf (wp_mono (fun _ q=>q) (fun C fs he=>he.back g1.st) (qB.mp w1)) fun r2 w2 v H2 W2 g2=>?_
 obtain⟨hs,w3⟩:=zV w2;obtain⟨x,e3,w4⟩:=qN w3;obtain⟨y,e4,w5⟩:=qN w4;obtain⟨z,e5,w6⟩:=qN w5;obtain⟨k,e6,w7⟩:=qN w6;refine hp u v H2 x y z _ (jM g2.cf (g1.next g2 hs) e3) (jM g2.cf g2.at_ e4) e5 fun t ht=>⟨k,vK9 (ht H2) e6,?_⟩
 have st:=g1.st.trans g2.st;cases k with
 |false=>exact w7 _ H2 W2 ⟨st,g2.cf,.bl false⟩
 | true=>
   refine yU g2.cf (wp_mono (fun _ q=>q) (fun C fs he=>he.back st) (qB.mp w7)) fun r3 w8 t H3 W3 g3=>?_
   obtain⟨hs',w9⟩:=zV w8;obtain⟨y',e7,w10⟩:=qN w9;obtain⟨w',e8,w11⟩:=qN w10;obtain⟨z',e9,w12⟩:=qN w11;exact hp' v t H3 y' w' z' Q (jM g3.cf (g2.next g3 hs') e7) (jM g3.cf g3.at_ e8) e9 fun v hv=>w12 v H3 W3 ⟨st.trans g3.st,g3.cf,hv _⟩
theorem qKy{op:CmpOp}{r:R2}{f f' :D->D->Option D}(ho:OpR X (bL op) r)(hp:PrS2 X.K c r f)(ho' :OpR X (bL op') r')(hp' :PrS2 X.K c r' f')(ha:OD X c E a oa)(hb:OD X c E b ob)(hc:OD X c E d oc)(hm:lastMarks [op,op'] [b,d]=false:=by with_unfolding_all rfl):OD X c E (.Compare a [op,op'] [b,d] pos) (oCh f f' oa ob oc):=
 ⟨PE.imp (zJ6 ho ho' ha.h hb.h hc.h hm) fun _ _ _ h=>zZl hp hp' h⟩
theorem qW4{op:CmpOp}{r:R2}{f f' :D->D->Option D}(ho:OpR X (bL op) r)(hp:PrS2 X.K c r f)(ho' :OpR X (bL op') r')(hp' :PrS2 X.K c r' f')(ha:OD X c E a oa)(hb:OD X c E b ob)(hc:OD X c E d oc)(hm:lastMarks [op,op'] [b,d]=false:=by with_unfolding_all rfl):TD X c E (.Compare a [op,op'] [b,d] pos) (asB (oCh f f' oa ob oc)):=
 ⟨PT.imp (zJ0 ho ho' ha.h hb.h hc.h hm) fun _ _ _ h=>zZl hp hp' (vQ7 h)⟩
noncomputable def bAnd(s t:ST):ST:=fun env=>(s env).bind fun r=>cond r.1 (t r.2) (.ok (false,r.2))
noncomputable def bOr(s t:ST):ST:=fun env=>(s env).bind fun r=>cond r.1 (.ok (true,r.2)) (t r.2)
noncomputable def bNot(s:ST):ST:=fun env=>(s env).bind fun r=>.ok (!r.1,r.2)
theorem td_w(h:WD X c E e sa):TD X c E e sa:=⟨PW.pt h.h⟩
theorem qYz(h:TD X c E a sa):WD X c E (.BoolOp .And [a] pos) sa:=⟨zX2 h.h⟩
theorem qQp(h:TD X c E a sa):WD X c E (.BoolOp .Or [a] pos) sa:=⟨jVi h.h⟩
theorem vY8{K:aQ}{s:ST}{Q:Bool->Hp->Prop}(st:Step env σ H B W env' σ' H' W')(cf:Cf K c env' σ' H' B W')(h:(s env').wp (fun r=>∀H2 W2,Step env σ H B W r.2 σ' H2 W2->Cf K c r.2 σ' H2 B W2->Q r.1 H2) (erP K c E H B W)):tT K c E s σ' H' Q:=
 ⟨env',B,W',cf,wp_mono (fun r q H2 W2 st2 cf2=>q H2 W2 (st.trans st2) cf2) (fun C fs he=>he.back st) h⟩
theorem qKe(ha:TD X c E a sa)(hb:WD X c E (.BoolOp .And (b::rest) pos) sb):WD X c E (.BoolOp .And (a::b::rest) pos) (bAnd sa sb):=by
 refine⟨PW.imp (jVj ha.h hb.h) fun σ H Q=>?_⟩;rintro⟨env,B,W,cf,w⟩;refine⟨env,B,W,cf,wp_mono (fun r1 h1 H1 W1 st1 cf1=>?_) (fun _ _ he=>he) (qB.mp w)⟩;obtain⟨k,e1⟩:=r1;cases k with
 |false=>exact h1 H1 W1 st1 cf1
 |true=>exact vY8 st1 cf1 h1
theorem qQz(ha:TD X c E a sa)(hb:WD X c E (.BoolOp .Or (b::rest) pos) sb):WD X c E (.BoolOp .Or (a::b::rest) pos) (bOr sa sb):=by
 refine⟨PW.imp (jJv ha.h hb.h) fun σ H Q=>?_⟩;rintro⟨env,B,W,cf,w⟩;refine⟨env,B,W,cf,wp_mono (fun r1 h1 H1 W1 st1 cf1=>?_) (fun _ _ he=>he) (qB.mp w)⟩;obtain⟨k,e1⟩:=r1;cases k with
 |true=>exact h1 H1 W1 st1 cf1
 |false=>exact vY8 st1 cf1 h1
theorem qVf(ha:TD X c E a sa):TD X c E (.UnaryOp .Not a pos) (bNot sa):=by
 refine⟨PT.imp (jVl ha.h) fun σ H Q=>?_⟩;rintro⟨env,B,W,cf,w⟩;exact⟨env,B,W,cf,wp_mono (fun r1 h1=>h1) (fun _ _ he=>he) (qB.mp w)⟩
end
section
variable{X:Cx}{c:Nat->aV}{E:XK}{e a b d:Expr}{rest:List Expr}{pos:Pos}{sa sb:ST}{oa ob oc:Oe}{o:Oe}
noncomputable def oAnd(s t:Oe):Oe:=.v fun env=>(asB s env).bind fun r=>cond r.1 (oV t r.2) (.ok (.bl false,r.2))
noncomputable def oOr(s t:Oe):Oe:=.v fun env=>(asB s env).bind fun r=>cond r.1 (.ok (.bl true,r.2)) (oV t r.2)
noncomputable def oNot(s:Oe):Oe:=.v fun env=>(asB s env).bind fun r=>.ok (.bl (!r.1),r.2)
theorem vY7{K:aQ}{s:SV}(st:Step env σ H B W env' σ H' W')(cf:Cf K c env' σ H' B W')(h:(s env').wp (fun r=>∀u H2 W2,GotD K c env σ H B W r.2 H2 W2 r.1 u->Q u H2) (erP K c E H B W)):tV K c E s σ H' Q:=
 ⟨env',B,W',cf,wp_mono (fun r q u H2 W2 g=>q u H2 W2 ⟨st.trans g.st,g.cf,g.at_⟩) (fun C fs he=>he.back st) h⟩
theorem qVj{op}(h:OD X c E a o):OD X c E (.BoolOp op [a] pos) o:=⟨jV0 h.h⟩
theorem yH(ha:OD X c E a oa)(hb:OD X c E (.BoolOp .And (b::rest) pos) ob):OD X c E (.BoolOp .And (a::b::rest) pos) (oAnd oa ob):=by
 refine⟨PE.imp (jV6 ha.h hb.h) fun σ H Q=>?_⟩;rintro⟨env,B,W,cf,w⟩;refine vQ7 (Q:=fun k H1=>if k=true then tO X.K c E ob σ H1 Q else Q (.bl false) H1) ⟨env,B,W,cf,wp_mono (fun r1 h1 H1 W1 st1 cf1=>?_) (fun _ _ he=>he) (qB.mp w)⟩;obtain⟨k,e1⟩:=r1;cases k with
 |false=>exact h1 _ H1 W1 ⟨st1,cf1,.bl false⟩
 |true=>exact vW7 (vY7 st1 cf1 h1)
theorem jJ7(ha:OD X c E a oa)(hb:OD X c E (.BoolOp .Or (b::rest) pos) ob):OD X c E (.BoolOp .Or (a::b::rest) pos) (oOr oa ob):=by
 refine⟨PE.imp (jJ0 ha.h hb.h) fun σ H Q=>?_⟩;rintro⟨env,B,W,cf,w⟩;refine vQ7 (Q:=fun k H1=>if k=true then Q (.bl true) H1 else tO X.K c E ob σ H1 Q) ⟨env,B,W,cf,wp_mono (fun r1 h1 H1 W1 st1 cf1=>?_) (fun _ _ he=>he) (qB.mp w)⟩;obtain⟨k,e1⟩:=r1;cases k with
 |true=>exact h1 _ H1 W1 ⟨st1,cf1,.bl true⟩
 |false=>exact vW7 (vY7 st1 cf1 h1)
theorem zZ0(ha:OD X c E a oa):OD X c E (.UnaryOp .Not a pos) (oNot oa):=by
 refine⟨PE.imp (jV1 ha.h) fun σ H Q=>?_⟩;rintro⟨env,B,W,cf,w⟩;exact vQ7 (Q:=fun k H1=>Q (.bl (!k)) H1) ⟨env,B,W,cf,wp_mono (fun r1 h1 H1 W1 st1 cf1=>h1 _ H1 W1 ⟨st1,cf1,.bl _⟩) (fun _ _ he=>he) (qB.mp w)⟩
theorem Got.back{K:aQ}{env2:Ev}{H2:Hp}{W2:Fp}{o:O}{u:V}(st:Step env σ H B W env' σ H' W')(g:Got K c env' σ H' B W' env2 H2 W2 Z o u):Got K c env σ H B W env2 H2 W2 Z o u:=⟨st.trans g.st,g.cf,g.at_⟩
end
noncomputable def fidx(f:Str):List Str->Option Nat
 |[]=>none
 |g::r=>if f=g then some 0 else(fidx f r).map (· + 1)
theorem qVn{f:Str}:∀{fs:List Str} {vs:List V} {j:Nat} {v:V},fidx f fs=some j->vs[j]?=some v->(fs.zip vs).lookup f=some v
 |[],vs,j,v,h,e=>by cases h
 |g::r,[],j,v,h,e=>by simp at e
 | g::r,w::vs,j,v,h,e=>by
   rw[dQ];simp only[fidx]at h;by_cases q:f=g
   ·rw [if_pos q] at h;cases h;cases e;rw[List.lookup,show(f == g)=true by rw[q];exact beq_self_eq_true _]
   ·rw [if_neg q] at h;obtain⟨i,h1,rfl⟩:=bP.mp h;rw[List.lookup,show(f == g)=false from beq_eq_false_iff_ne.mpr q];exact qVn h1 (by simpa using e)
noncomputable def kidx{κ:Type}[DecidableEq κ](k:κ):List κ->Option Nat
 |[]=>none
 |g::r=>if g=k then some 0 else(kidx k r).map (· + 1)
theorem qKq{k:Key}:∀{ks:List Key} {vs:List V},ks.length=vs.length->valV (ks.zip vs) k=(kidx k ks).bind fun j=>vs[j]?
 |[],[],_=>rfl
 | g::r,w::vs,h=>by
   rw[dQ];simp only[kidx];by_cases q:g=k
   ·rw[if_pos q,qKr q];rfl
   ·rw [if_neg q,qKs q,qKq (Nat.succ.inj h)];cases kidx k r with
    |none=>rfl
    |some i=>rfl
 |[],_::_,h=>by cases h
 |_::_,[],h=>by cases h
theorem vKp{κ:Type}[DecidableEq κ]{k:κ}:∀{ks:List κ} {j:Nat},kidx k ks=some j->j<ks.length/\ks[j]?=some k
 |[],j,h=>by cases h
 | g::r,j,h=>by
   simp only[kidx]at h;by_cases q:g=k
   ·rw[if_pos q]at h;cases h;exact⟨Nat.succ_pos _,by rw[q];rfl⟩
   ·rw [if_neg q] at h;obtain⟨i,h1,rfl⟩:=bP.mp h;obtain⟨h2,h3⟩:=vKp h1;exact⟨Nat.succ_lt_succ h2,by simpa using h3⟩
theorem vVc:∀{π:List Nat} {v u w:V} {j:Nat},walk H v π=some u->walk H u [j]=some w->walk H v (π ++ [j])=some w
 | [],v,u,w,j,h,k=>by
   have:v=u:=by cases v <;> simpa[walk] using h
   rw[this];exact k
 | i::π,v,u,w,j,h,k=>by
   cases v with
   | ref p=>
     rw[cZ];simp only[walk]at h⊢;cases e:H p with
     |none=>rw[e]at h;cases h
     | some o=>
       rw[e]at h;dsimp only at h⊢;cases e2:(kids o)[i]? with
       |none=>rw[e2]at h;cases h
       | some v=>
         rw[e2]at h;exact vVc h k
   |_=>cases h
theorem vXr{u w:V}(h:vN H σ i π=some u)(k:walk H u [j]=some w):vN H σ i (π ++ [j])=some w:=by
 unfold vN at h⊢;cases e:σ[i]? with
 |none=>rw[e]at h;cases h
 | some x=>
   rw[e]at h;cases x with
   |none=>cases h
   |some v=>exact vVc h k
theorem zZ7{K:aQ}{F:Hp}{k:Kd}{os:List O}{o:O}{p:aV}(w:vN H σ i π=some (.ref p))(b:OwAt c H p k vs)(r:OsAt K c F H os vs Z)(e:os[j]?=some o):
  ∃v,vs[j]?=some v/\HnAt K c F σ H v (hnO o i (π ++ [j])):=by
 obtain⟨v,Z1,R,h1,h2,h3,h4⟩:=r.focus e;obtain⟨ho,k1,k2⟩:=b.kids;refine⟨v,h1,zJb h2 (vXr w ?_)⟩;rw[qXq k1 (by rw[k2];exact h1)];simp[walk]
noncomputable def fldD(cs:List Nat)(f:Str):D->Option D
 |.nd (.obj C fs) ds=>cond (cs.contains C) ((fidx f fs).bind fun j=>ds[j]?) none
 |_=>none
noncomputable def jQv(env:Ev)(cs:List Nat)(f:Str):Hn->Option Hn
 |.d x=>(fldD cs f x).map .d
 | .p i π=>match getE env i π with
   |some (.ow (.obj C fs) os)=>cond (cs.contains C) ((fidx f fs).bind fun j=>(os[j]?).bind fun o=>some (hnO o i (π ++ [j]))) none
   |_=>none
noncomputable def oFld(cs:List Nat)(f:Str):Oe->Oe
 |.p s=>.p fun env=>(s env).bind (jQv env cs f)
 |.v s=>.v fun env=>(s env).bind fun r=>(opt (fldD cs f r.1)).bind fun x=>.ok (x,r.2)
noncomputable def qV8(K:aQ)(c:Nat->aV)(cs:List Nat)(f:Str):Prop:=∀C∈cs,Cls K (c C)/\yO K (c C) f
theorem zN{b:Bool}{x:Option α}{y:α}(h:cond b x none=some y):b=true/\x=some y:=by
 cases b with
 |true=>exact⟨rfl,h⟩
 |false=>cases h
theorem qY6{cs:List Nat}(h:cs.contains C=true):C∈cs:=List.contains_iff_mem.mp h
section
variable{X:Cx}{K:aQ}{c:Nat->aV}{E:XK}{e a b:Expr}{pos:Pos}{o oa ob:Oe}{f:Str}{cs:List Nat}
theorem vKx{F:Hp}{u:V}{x y:D}(ok:qV8 K c cs f)(h:DAt K c F u x)(e:fldD cs f x=some y):∃a C dx fs v,u=.ref a/\F a=some (.ins C dx fs)/\Cls K C/\yO K C f/\fs.lookup f=some v/\DAt K c F v y:=by
 unfold fldD at e;split at e
 ·rename_i C fs ds;obtain⟨q1,q2⟩:=zN e;obtain⟨j,e1,e2⟩:=bnd q2;obtain⟨p,vs,rfl,⟨h1,dx,h2⟩,h3⟩:=h.un;obtain⟨v,g1,g2⟩:=h3.get e2;obtain⟨k1,k2⟩:=ok C (qY6 q1);exact⟨p,_,dx,_,v,rfl,h2,k1,k2,qVn e1 g1,g2⟩
 ·cases e
theorem xV(ok:qV8 X.K c cs f)(h:OD X c E e o)(hb:attributeBase e f X.env (eval e X.env)=eval e X.env:=by rfl):OD X c E (.Attribute e f pos) (oFld cs f o):=by
 refine⟨PE.imp (jV4 h.h hb) fun σ H Q q=>?_⟩;cases o with
 | p s=>
   obtain⟨env,B,W,h1,cf,e0,q⟩:=q;obtain⟨h0,e1,e2⟩:=bnd e0;refine⟨env,B,W,h0,cf,e1,fun u hu=>?_⟩;cases h0 with
   | d x=>
     obtain⟨y,e3,rfl⟩:=bP.mp e2;obtain⟨a,C,dx,fs,v,rfl,r1,r2,r3,r4,r5⟩:=vKx ok hu e3;exact⟨a,C,dx,fs,v,rfl,vC _ _ r1,r2,r3,r4,q v r5⟩
   | p i π=>
     have hu' :vN H σ i π=some u:=hu;simp only[jQv]at e2;cases e3:getE env i π with
     |none=>rw[e3]at e2;cases e2
     | some o1=>
       rw[e3]at e2;cases o1 with
       |fz d=>cases e2
       | ow k os=>
         cases k with
         | obj C fs=>
           obtain⟨q1,q2⟩:=zN e2;obtain⟨j,e4,e5⟩:=bnd q2;obtain⟨o2,e6,e7⟩:=bnd e5;cases e7;obtain⟨v1,Z1,R,w1,w2,w3,w4⟩:=cf.place e3;rw[hu']at w1;cases w1;rw[OAt.ow]at w2;obtain⟨p,vs,Z',rfl,b,cc,d⟩:=w2;obtain⟨v,g1,g2⟩:=zZ7 hu' b cc e6;obtain⟨b1,dx,b2⟩:=b;obtain⟨k1,k2⟩:=ok C (qY6 q1);exact⟨p,_,dx,_,v,rfl,b2,k1,k2,qVn e4 g1,q v g2⟩
         |_=>cases e2
 | v s=>
   obtain⟨env,B,W,cf,w⟩:=q;refine⟨env,B,W,cf,wp_mono (fun r w1 u H1 W1 g=>?_) (fun _ _ he=>he) (qB.mp w)⟩;obtain⟨y,e3,w2⟩:=qN w1;obtain⟨a,C,dx,fs,v,rfl,r1,r2,r3,r4,r5⟩:=vKx ok g.at_ e3;exact⟨a,C,dx,fs,v,rfl,vC _ _ r1,r2,r3,r4,w2 v H1 W1 ⟨g.st,g.cf,r5⟩⟩
end
noncomputable def vYu:D->Option Key
 |.int i=>some (.inl i)
 |.str x=>some (.inr x)
 |_=>none
theorem qK5{K:aQ}{F:Hp}{u:V}{x:D}{k:Key}(h:DAt K c F u x)(e:vYu x=some k):u=kV k:=by
 cases h <;> cases e <;> rfl
noncomputable def qQ2:D->Option Int
 |.int i=>some i
 |_=>none
theorem jB{K:aQ}{F:Hp}{u:V}{x:D}{i:Int}(h:DAt K c F u x)(e:qQ2 x=some i):u=.int i:=by
 cases h <;> cases e <;> rfl
noncomputable def qKa:D->Option Str
 |.str i=>some i
 |_=>none
theorem yR{K:aQ}{F:Hp}{u:V}{x:D}{i:Str}(h:DAt K c F u x)(e:qKa x=some i):u=.str i:=by
 cases h <;> cases e <;> rfl
noncomputable def idxK(n:Nat)(y:D):Kd->Option Nat
 |.lst =>(qQ2 y).bind fun i=>ixN n i
 |.tup =>(qQ2 y).bind fun i=>ixN n i
 |.dct ks=>(vYu y).bind fun k=>kidx k ks
 |_=>none
noncomputable def ixD(x y:D):Option D:=match x with
 |.nd k ds=>(idxK ds.length y k).bind fun j=>ds[j]?
 |.str z=>(qQ2 y).bind fun i=>(atI z.cps.toList i).bind fun ch=>cond (decide (z.length<=aT)) (some (.str ⟨#[ch]⟩)) none
 |_=>none
noncomputable def hnIx(env:Ev)(y:D):Hn->Option Hn
 |.d x=>(ixD x y).map .d
 | .p i π=>match getE env i π with
   |some (.ow k os)=>(idxK os.length y k).bind fun j=>(os[j]?).bind fun o=>some (hnO o i (π ++ [j]))
   |_=>none
noncomputable def oIx(a b:Oe):Oe:=match a,b with
 |.p s,.p t=>.p fun env=>(s env).bind fun h=>(t env).bind fun h' =>(rsv env h').bind fun y=>hnIx env y h
 |a,b=>.v fun env=>(evO a env).bind fun r=>(evO b r.2).bind fun r' =>cond r.1.st ((opt (rsv r'.2 r'.1)).bind fun y=>(opt (hnIx r'.2 y r.1)).bind fun h=>hnV r'.2 h) .no
noncomputable def rDGet:R2:=fun x y H Q=>∃a v,x=.ref a/\DGet H a y (some v)/\Q v H
theorem zY8(hu:X.A.units+1<cLine):IxR X rDGet:=by
 intro value slice pins s σ H x y v u Q I rx ry h hs;obtain⟨a,z,rfl,g,q⟩:=h;cases rx;exact tail_any (vWz I g) PySem.F.slot_dict_getitem.lookup (zVk hu I g ry fun w' s3 I3 rw' =>⟨z,H,I3,rw',q⟩) hs
noncomputable def rIxA(K:aQ):R2:=fun x y H Q=>rIx K x y H Q\/rDGet x y H Q
theorem jZy(hu:X.A.units+1<cLine):IxR X (rIxA X.K):=jZx.or (zY8 hu)
section
variable{X:Cx}{K:aQ}{c:Nat->aV}{E:XK}{e a b:Expr}{pos:Pos}{o oa ob:Oe}
theorem zJg{xs:List α}{i:Int}{v:α}(h:ixN xs.length i=some j)(e:xs[j]?=some v):atI xs i=some v:=by
 unfold atI;rw[h];exact e
theorem zJe{a:aV}{kvs:List (Key×V)}{k:Key}(e:Rd H a (.dK kvs)):DGet H a (kV k) (valV kvs k):=.inl ⟨kvs,k,e,rfl,rfl⟩
theorem jQr{p:aV}{w:V}{k:Kd}{y:D}(h:NdAt K c H p k vs)(hn:vs.length=n)(hy:DAt K c H w y)(e:idxK n y k=some j)(ev:vs[j]?=some v)(q:Q v H):rIxA K (.ref p) w H Q:=by
 subst hn;cases k with
 | lst=>
   obtain⟨i,e1,e2⟩:=bnd e;exact .inl (.inl ⟨p,vs,i,v,rfl,jB hy e1,h,zJg e2 ev,q⟩)
 | tup=>
   obtain⟨i,e1,e2⟩:=bnd e;exact .inl (.inr (.inl ⟨p,vs,i,v,rfl,jB hy e1,h,zJg e2 ev,q⟩))
 | dct ks=>
   obtain⟨k,e1,e2⟩:=bnd e;refine .inr ⟨p,v,rfl,?_,q⟩;rw[qK5 hy e1];have:=zJe (k:=k) h.2.2;rw[qKq h.1,e2]at this;rw[←ev];exact this
 |_=>cases e
theorem jZz{F:Hp}{u w:V}{x y z:D}(s:Same F H)(h:DAt K c F u x)(hy:DAt K c H w y)(e:ixD x y=some z)(q:∀v,DAt K c F v z->Q v H):rIxA K u w H Q:=by
 unfold ixD at e;split at e
 ·obtain⟨j,e1,e2⟩:=bnd e;obtain⟨p,vs,rfl,h1,h2⟩:=h.un;obtain⟨v,g1,g2⟩:=h2.get e2;exact jQr (h1.same s) h2.len hy e1 g1 (q v g2)
 ·rename_i z';obtain⟨i,e1,e2⟩:=bnd e;obtain⟨ch,e3,e4⟩:=bnd e2;obtain⟨q1,q2⟩:=zN e4;cases q2;exact .inl (.inr (.inr ⟨z',i,ch,yR h rfl,jB hy e1,of_decide_eq_true q1,e3,q _ (.str _)⟩))
 ·cases e
theorem vKt{h':Hn}{u w:V}{y:D}(cf:Cf K c env σ H B W)(hu:HnAt K c (hide (hd2 B W) H) σ H u h)(hy:DAt K c H w y)(e:hnIx env y h=some h')(q:∀v,HnAt K c (hide (hd2 B W) H) σ H v h' ->Q v H):rIxA K u w H Q:=by
 cases h with
 | d x=>
   obtain⟨z,e1,rfl⟩:=bP.mp e;exact jZz vC hu hy e1 q
 | p i π=>
   have hu' :vN H σ i π=some u:=hu;simp only[hnIx]at e;cases e3:getE env i π with
   |none=>rw[e3]at e;cases e
   | some o1=>
     rw[e3]at e;cases o1 with
     |fz d=>cases e
     | ow k os=>
       obtain⟨j,e4,e5⟩:=bnd e;obtain⟨o2,e6,e7⟩:=bnd e5;cases e7;obtain⟨v1,Z1,R,w1,w2,w3,w4⟩:=cf.place e3;rw[hu']at w1;cases w1;rw[OAt.ow]at w2;obtain⟨p,vs,Z',rfl,b,cc,d⟩:=w2;obtain⟨v,g1,g2⟩:=zZ7 hu' b cc e6;exact jQr (b.nd rfl) cc.length hy e4 g1 (q v g2)
theorem vY9(h:tV K c E (fun env=>(evO oa env).bind fun r=>(evO ob r.2).bind fun r' =>cond r.1.st ((opt (rsv r'.2 r'.1)).bind fun y=>(opt (hnIx r'.2 y r.1)).bind fun h=>hnV r'.2 h) .no) σ H Q):tOp (rIxA K) (tO K c E oa) (tO K c E ob) σ H Q:=by
 obtain⟨env,B,W,cf,w⟩:=h;refine yU cf (qB.mp w) fun r1 w1 u H1 W1 g1=>?_
 refine yU g1.cf (wp_mono (fun _ q=>q) (fun C fs he=>he.back g1.st) (qB.mp w1)) fun r2 w2 v H2 W2 g2=>?_
 obtain⟨hs,w3⟩:=zV w2;obtain⟨y,e3,w4⟩:=qN w3;obtain⟨h',e4,w5⟩:=qN w4;refine vKt g2.cf (g1.next g2 (by rw[hs];rfl)) (jM g2.cf g2.at_ e3) e4 fun z hz=>?_
 obtain⟨x,env',W',g,q⟩:=vXi g2.cf hz w5;exact q z H2 W' ⟨(g1.st.trans g2.st).trans g.st,g.cf,g.at_⟩
theorem jJ8(hu:X.A.units+1<cLine)(ha:OD X c E a oa)(hb:OD X c E b ob)(hs:vZx b:=by exact fun _ _=>rfl):OD X c E (.Subscript a b pos) (oIx oa ob):=by
 refine⟨PE.imp (jJ1 (jZy hu) ha.h hb.h hs) fun σ H Q h=>?_⟩;cases oa with
 |v s=>exact vY9 h
 | p s=>
   cases ob with
   |v t=>exact vY9 h
   | p t=>
     obtain⟨env,B,W,h1,cf,e0,q⟩:=h;obtain⟨h0,e1,e2⟩:=bnd e0;obtain⟨h2,e3,e4⟩:=bnd e2;obtain⟨y,e5,e6⟩:=bnd e4;exact⟨env,B,W,h0,cf,e1,fun u hu=>⟨env,B,W,h2,cf,e3,fun w hw=>vKt cf hu (jM cf hw e5) e6 q⟩⟩
end
noncomputable def evOs:List Oe->Ev->Res (List Hn×Ev)
 |[],env=>.ok ([],env)
 |o::os,env=>(evO o env).bind fun r=>cond (r.1.st || os.all Oe.isP) ((evOs os r.2).bind fun r' =>.ok (r.1::r'.1,r'.2)) .no
noncomputable def tOs(K:aQ)(c:Nat->aV)(E:XK):List Oe->TA
 |[]=>tNil
 |o::os=>vQ6 (tO K c E o) (tOs K c E os)
structure OsD(X:Cx)(c:Nat->aV)(E:XK)(es:List Expr)(os:List Oe):Prop where
 h:PA X es (tOs X.K c E os)
theorem qK:OsD X c E [] []:=⟨qQr⟩
theorem qG{es:List Expr}{o:Oe}{os:List Oe}(ha:OD X c E e o)(hr:OsD X c E es os)(hs:aX (e::es) X.env=(false,eval e X.env)::aX es X.env:=by rfl):OsD X c E (e::es) (o::os):=⟨wX ha.h hr.h hs⟩
structure GotHs(K:aQ)(c:Nat->aV)(env:Ev)(σ:L2.St)(H:Hp)(B W:Fp)(os:List Oe)(env' :Ev)(H' :Hp)(W' :Fp)(hs:List Hn)(us:List V):Prop where
 st:Step env σ H B W env' σ H' W'
 cf:Cf K c env' σ H' B W'
 at_:wH K c (hide (hd2 B W') H') σ H' us hs
 pu:os.all Oe.isP=true->H' =H/\W' =W/\env' =env
section
variable{K:aQ}{c:Nat->aV}{E:XK}
theorem qZg:∀{os:List Oe} {env:Ev} {σ:L2.St} {H:Hp} {B W:Fp} {Q:List V->Hp->Prop} {w:List Hn×Ev->Prop},Cf K c env σ H B W->(evOs os env).wp w (erP K c E H B W)->(∀r,w r->∀us H' W',GotHs K c env σ H B W os r.2 H' W' r.1 us->Q us H')->tOs K c E os σ H Q
 |[],env,σ,H,B,W,Q,w,cf,hw,k=>k _ hw [] H W ⟨.refl,cf,trivial,fun _=>⟨rfl,rfl,rfl⟩⟩
 | o::os,env,σ,H,B,W,Q,w,cf,hw,k=>by
   refine yU cf (qB.mp hw) fun r w1 u H1 W1 g1=>?_
   obtain⟨hs,w2⟩:=zV w1;refine qZg g1.cf (wp_mono (fun _ q=>q) (fun C fs he=>he.back g1.st) (qB.mp w2)) fun r' w3 us H2 W2 g2=>?_
   refine k _ w3 (u::us) H2 W2 ⟨g1.st.trans g2.st,g2.cf,⟨?_,g2.at_⟩,fun z=>?_⟩
   ·cases e:r.1.st with
    |true=>exact g1.at_.step g2.st.same e
    | false=>
      rw[e]at hs;obtain⟨e1,e2,_⟩:=g2.pu (by simpa using hs);rw[e1,e2];exact g1.at_
   ·rw [List.all_cons,aF] at z;obtain⟨a1,a2,a3⟩:=g1.pu z.1;obtain⟨b1,b2,b3⟩:=g2.pu z.2;grind
noncomputable def rsvs(env:Ev):List Hn->Option (List D)
 |[]=>some []
 |h::hs=>(rsv env h).bind fun x=>(rsvs env hs).bind fun xs=>some (x::xs)
theorem vKh(cf:Cf K c env σ H B W):∀{hs:List Hn} {us:List V} {xs:List D},wH K c (hide (hd2 B W) H) σ H us hs->rsvs env hs=some xs->DsAt K c H us xs
 |[],[],xs,_,e=>by cases e;exact .nil
 | h::hs,u::us,xs,a,e=>by
   obtain⟨x,e1,e2⟩:=bnd e;obtain⟨ys,e3,e4⟩:=bnd e2;cases e4;exact .cons (jM cf a.1 e1) (vKh cf a.2 e3)
 |[],_::_,_,a,_=>a.elim
 |_::_,[],_,a,_=>a.elim
noncomputable def qWm:List Hn->Ev->Res (List D×Ev)
 |[],env=>.ok ([],env)
 |h::hs,env=>(rsvB env h).bind fun r=>(qWm hs r.2).bind fun r' =>.ok (r.1::r'.1,r'.2)
noncomputable def Vws(K:aQ)(c:Nat->aV)(F H:Hp):List V->List D->Prop
 |[],[]=>True
 |u::us,x::xs=>Vw K c F H u x/\Vws K c F H us xs
 |_,_=>False
theorem HnAt.mono{F:Hp}{u:V}(a:HnAt K c F σ H u h)(s:Same F F'):HnAt K c F' σ H u h:=by
 cases h with
 |d x=>exact DAt.same s a
 |p i π=>exact a
theorem wH.mono{F:Hp}(s:Same F F'):∀{us:List V} {hs:List Hn},wH K c F σ H us hs->wH K c F' σ H us hs
 |[],[],_=>trivial
 |u::us,h::hs,a=>⟨a.1.mono s,wH.mono s a.2⟩
 |[],_::_,a=>a.elim
 |_::_,[],a=>a.elim
theorem rsvBs_wp{EE:Nat->List (Str×D)->Prop}:∀{hs:List Hn} {us:List V} {env:Ev} {σ:L2.St} {H:Hp} {B W:Fp} {Q:List D×Ev->Prop},Cf K c env σ H B W->wH K c (hide (hd2 B W) H) σ H us hs->(qWm hs env).wp Q EE->
  ∃xs env' W',Step env σ H B W env' σ H W' /\Cf K c env' σ H B W' /\Vws K c (hide (hd2 B W') H) H us xs/\Q (xs,env')
 |[],[],env,σ,H,B,W,Q,cf,_,w=>⟨[],env,W,.refl,cf,trivial,w⟩
 | h::hs,u::us,env,σ,H,B,W,Q,cf,a,w=>by
   obtain⟨x,env1,W1,st1,cf1,v1,w1⟩:=vKi cf a.1 (qB.mp w);obtain⟨xs,env2,W2,st2,cf2,v2,w2⟩:=rsvBs_wp cf1 (wH.mono st1.same a.2) (qB.mp w1);exact⟨x::xs,env2,W2,st1.trans st2,cf2,⟨v1.same st2.same,v2⟩,w2⟩
 |[],_::_,_,_,_,_,_,_,_,a,_=>a.elim
 |_::_,[],_,_,_,_,_,_,_,a,_=>a.elim
end
noncomputable def PrSN(K:aQ)(c:Nat->aV)(r:List V->Hp->VK->Prop)(f:List D->Option D):Prop:=∀(us:List V) (H:Hp) (xs:List D) (z:D) (Q:VK),DsAt K c H us xs->f xs=some z->(∀v,(∀F,DAt K c F v z)->Q v H)->r us H Q
noncomputable def svN(f:List D->Option D)(os:List Oe):SV:=fun env=>(evOs os env).bind fun r=>(opt (rsvs r.2 r.1)).bind fun xs=>(opt (f xs)).bind fun z=>.ok (z,r.2)
noncomputable def oL(f:List D->Option D)(os:List Oe):Oe:=match os with
 |[.p s]=>.p fun env=>(s env).bind fun h=>(rsv env h).bind fun x=>(f [x]).bind fun z=>some (.d z)
 |os=>.v (svN f os)
section
variable{X:Cx}{K:aQ}{c:Nat->aV}{E:XK}{e:Expr}{es:List Expr}{pos p:Pos}{x:Str}{id T:String}{r:List V->Hp->VK->Prop}{os:List Oe}
theorem jQ6{f:List D->Option D}(hp:PrSN K c r f)(h:tV K c E (svN f os) σ H Q):tCB r (tOs K c E os) σ H Q:=by
 obtain⟨env,B,W,cf,w⟩:=h;refine qZg cf (qB.mp w) fun r1 w1 us H1 W1 g=>?_
 obtain⟨xs,e1,w2⟩:=qN w1;obtain⟨z,e2,w3⟩:=qN w2;exact hp us H1 xs z Q (vKh g.cf g.at_ e1) e2 fun v hv=>w3 v H1 W1 ⟨g.st,g.cf,hv _⟩
theorem zVu{f:List D->Option D}(hp:PrSN K c r f)(h:tO K c E (oL f os) σ H Q):tCB r (tOs K c E os) σ H Q:=by
 unfold oL at h;split at h
 ·obtain⟨env,B,W,h1,cf,e0,q⟩:=h;obtain⟨h0,e1,e2⟩:=bnd e0;obtain⟨x,e3,e4⟩:=bnd e2;obtain⟨z,e5,e6⟩:=bnd e4;cases e6;exact⟨env,B,W,h0,cf,e1,fun u hu=>hp [u] H [x] z Q (.cons (jM cf hu e3) .nil) e5 fun v hv=>q v (hv _)⟩
 ·exact jQ6 hp h
theorem qKz{f:List D->Option D}(hc:jW X (.builtin id) r)(hp:PrSN X.K c r f)(hg:Gl X x)(hm:X.mg x=none)(hv:cM x=some (.builtin id))(ha:OsD X c E (e::es) os)(hn:x≠"__name__":=by decide)(hdb:(x == ("__debug__":Str))=false:=by decide)(he:aX (e::es) X.env=(false,eval e X.env)::aX es X.env:=by rfl)(hpl:(cX pos (aX es X.env)).any (·.1)=false:=by rfl):OD X c E (.Call (.Name x p) (e::es) [] pos) (oL f os):=
 ⟨PE.imp (qW7 hc hg hm hv ha.h hn hdb he hpl) fun _ _ _ h=>zVu hp h⟩
theorem vVn{f:List D->Option D}(hc:jW X (.type T) r)(hp:PrSN X.K c r f)(hg:Gl X x)(hm:X.mg x=none)(hv:cM x=some (.type T))(ha:OsD X c E (e::es) os)(hn:x≠"__name__":=by decide)(hdb:(x == ("__debug__":Str))=false:=by decide)(he:aX (e::es) X.env=(false,eval e X.env)::aX es X.env:=by rfl)(hpl:(cX pos (aX es X.env)).any (·.1)=false:=by rfl):OD X c E (.Call (.Name x p) (e::es) [] pos) (oL f os):=
 ⟨PE.imp (qJi hc hg hm hv ha.h hn hdb he hpl) fun _ _ _ h=>zVu hp h⟩
end
section
variable{K:aQ}{c:Nat->aV}{E:XK}{env env' :Ev}{σ:L2.St}{H H' :Hp}{B W W' :Fp}{p:aV}{o:O}{k:Kd}
theorem Got.lay(cf:Cf K c env σ H B W)(hn:H p=none)(sm:Same H H'){ds:List D}(ha:OwAt c H' p k vs)(hd:DsAt K c (hide (hd2 (hd2 B W) (one p)) H') vs ds):Got K c env σ H B W env H' W (one p) (.ow k (ds.map .fz)) (.ref p):=by
 obtain⟨z1,z2⟩:=cf.fresh hn;have st:∀a,B a+W a≠0->H' a=H a:=fun a z=>by obtain⟨o,q,_⟩:=cf.hbs z;rw[q,sm a o q]
 have np:∀a o,H a=some o->a≠p:=fun a o q z=>by rw[z,hn]at q;cases q
 have s1:Same (hide (hd2 B W) H) (hide (hd2 (hd2 B (one p)) W) H'):=zC fun a o z q=>⟨by have:=xQ (np a o q);dsimp only[hd2]at *;omega,sm a o q⟩
 have s2:hide (hd2 B (hd2 W (one p))) H' =hide (hd2 (hd2 B (one p)) W) H' :=z9 fun a=>by dsimp only[hd2];omega
 have s3:hide (hd2 (hd2 B W) (one p)) H' =hide (hd2 (hd2 B (one p)) W) H' :=z9 fun a=>by dsimp only[hd2];omega
 refine⟨⟨by rw[s2];exact s1,fun a z=>st a (by omega),fun a z=>?_,fun a z=>?_,fun a z1 _=>.of (st a (by omega)),fun _ o h=>⟨⟨o,h⟩,rfl⟩,rfl⟩,⟨cf.at_.keep s1 fun a z=>st a (by omega),fun a=>?_,fun a z=>?_⟩,OAt.ow.mpr ⟨p,vs,fun _=>0,rfl,ha,OsAt.fzs.mpr ⟨by rw[←s3];exact hd,fun _=>rfl⟩,fun _=>rfl⟩⟩
 ·by_cases q:a=p
  ·exact .inr (by rw[q];exact hn)
  ·exact .inl (by have:=xQ q;dsimp only[hd2]at z;omega)
 ·cases q:H a with
  |none=>rfl
  |some o=>rw[sm a o q]at z;cases z
 ·have:=cf.nd a;by_cases q:a=p
  ·subst q;rw[show hd2 B (one a) a=B a+one a a from rfl,wZ];omega
  ·rw[show hd2 B (one p) a=B a+one p a from rfl,xQ q];omega
 ·by_cases q:a=p
  ·subst q;exact ha.hb
  ·rw [show hd2 B (one p) a=B a + one p a from rfl,xQ q] at z;obtain⟨o,h1,h2⟩:=cf.hb a (by omega);exact⟨o,sm a o h1,h2⟩
theorem qK2(cf:Cf K c env σ H B W)(hn:H p=none)(sm:Same H H'):Same (hide (hd2 B W) H) (hide (hd2 (hd2 B W) (one p)) H'):=zC fun a o z q=>⟨by
 have np:a≠p:=fun z=>by rw[z,hn]at q;cases q
 have:=xQ np;dsimp only[hd2]at *;omega,sm a o q⟩
end
noncomputable def PrF(K:aQ)(c:Nat->aV)(r:List V->Hp->VK->Prop)(f:List D->Option (List D)):Prop:=∀(us:List V) (H:Hp) (T:Fp) (xs ds:List D) (Q:VK),(∀a,T a≠0->∃o,H a=some o/\Hb o)->Vws K c (hide T H) H us xs->f xs=some ds->
 (∀p ws H',H p=none->Same H H' ->H' p=some (.lst ws)->DsAt K c (hide (hd2 T (one p)) H') ws ds->Q (.ref p) H')->r us H Q
noncomputable def PrA(K:aQ)(c:Nat->aV)(r:List V->Hp->VK->Prop)(f:List D->Option D):Prop:=∀(us:List V) (H:Hp) (T:Fp) (xs:List D) (z:D) (Q:VK),(∀a,T a≠0->∃o,H a=some o/\Hb o)->Vws K c (hide T H) H us xs->f xs=some z->
 (∀v H',Same H H' ->DAt K c (hide T H') v z->Q v H')->r us H Q
noncomputable def eF(f:List D->Option (List D))(os:List Oe):SE:=fun env=>(evOs os env).bind fun r=>(qWm r.1 r.2).bind fun q=>(opt (f q.1)).bind fun ds=>.ok (.ow .lst (ds.map .fz),q.2)
noncomputable def svA(f:List D->Option D)(os:List Oe):SV:=fun env=>(evOs os env).bind fun r=>(qWm r.1 r.2).bind fun q=>(opt (f q.1)).bind fun z=>.ok (z,q.2)
section
variable{X:Cx}{K:aQ}{c:Nat->aV}{E:XK}{e:Expr}{es:List Expr}{pos p:Pos}{x:Str}{id T:String}{r:List V->Hp->VK->Prop}{os:List Oe}
theorem jJq{f:List D->Option (List D)}(hp:PrF K c r f)(h:tE K c E (eF f os) σ H Q):tCB r (tOs K c E os) σ H Q:=by
 obtain⟨env,B,W,cf,w⟩:=h;refine qZg cf (qB.mp w) fun r1 w1 us H1 W1 g=>?_
 obtain⟨xs,env2,W2,st2,cf2,v2,w2⟩:=rsvBs_wp g.cf g.at_ (qB.mp w1);obtain⟨ds,e2,w3⟩:=qN w2;refine hp us H1 (hd2 B W2) xs ds Q (fun a z=>cf2.hbs z) v2 e2 fun p ws H' hn sm hq dz=>?_
 exact w3 _ H' W2 _ ((Got.lay cf2 hn sm (k:=.lst) hq dz).back (g.st.trans st2))
theorem zK9{f:List D->Option D}(hp:PrA K c r f)(h:tV K c E (svA f os) σ H Q):tCB r (tOs K c E os) σ H Q:=by
 obtain⟨env,B,W,cf,w⟩:=h;refine qZg cf (qB.mp w) fun r1 w1 us H1 W1 g=>?_
 obtain⟨xs,env2,W2,st2,cf2,v2,w2⟩:=rsvBs_wp g.cf g.at_ (qB.mp w1);obtain⟨z,e2,w3⟩:=qN w2;refine hp us H1 (hd2 B W2) xs z Q (fun a z=>cf2.hbs z) v2 e2 fun v H' sm dz=>?_
 exact w3 v H' W2 ⟨(g.st.trans st2).trans (.grow cf2 sm),cf2.grow sm,dz⟩
theorem zVf{f:List D->Option (List D)}(hc:jW X (.type T) r)(hp:PrF X.K c r f)(hg:Gl X x)(hm:X.mg x=none)(hv:cM x=some (.type T))(ha:OsD X c E (e::es) os)(hn:x≠"__name__":=by decide)(hdb:(x == ("__debug__":Str))=false:=by decide)(he:aX (e::es) X.env=(false,eval e X.env)::aX es X.env:=by rfl)(hpl:(cX pos (aX es X.env)).any (·.1)=false:=by rfl):ED X c E (.Call (.Name x p) (e::es) [] pos) (eF f os):=
 ⟨PE.imp (qJi hc hg hm hv ha.h hn hdb he hpl) fun _ _ _ h=>jJq hp h⟩
theorem zVe{f:List D->Option D}(hc:jW X (.type T) r)(hp:PrA X.K c r f)(hg:Gl X x)(hm:X.mg x=none)(hv:cM x=some (.type T))(ha:OsD X c E (e::es) os)(hn:x≠"__name__":=by decide)(hdb:(x == ("__debug__":Str))=false:=by decide)(he:aX (e::es) X.env=(false,eval e X.env)::aX es X.env:=by rfl)(hpl:(cX pos (aX es X.env)).any (·.1)=false:=by rfl):EV X c E (.Call (.Name x p) (e::es) [] pos) (svA f os):=
 ⟨PE.imp (qJi hc hg hm hv ha.h hn hdb he hpl) fun _ _ _ h=>zK9 hp h⟩
end
noncomputable def evVs:List SV->Ev->Res (List D×Ev)
 |[],env=>.ok ([],env)
 |s::ss,env=>(s env).bind fun r=>(evVs ss r.2).bind fun r' =>.ok (r.1::r'.1,r'.2)
noncomputable def tVs(K:aQ)(c:Nat->aV)(E:XK):List SV->TA
 |[]=>tNil
 |s::ss=>vQ6 (tV K c E s) (tVs K c E ss)
structure VsD(X:Cx)(c:Nat->aV)(E:XK)(es:List Expr)(ss:List SV):Prop where
 h:PA X es (tVs X.K c E ss)
theorem qC:VsD X c E [] []:=⟨qQr⟩
theorem qO{es:List Expr}{s:SV}{ss:List SV}(ha:EV X c E e s)(hr:VsD X c E es ss)(hs:aX (e::es) X.env=(false,eval e X.env)::aX es X.env:=by rfl):VsD X c E (e::es) (s::ss):=⟨wX ha.h hr.h hs⟩
structure GotDs(K:aQ)(c:Nat->aV)(env:Ev)(σ:L2.St)(H:Hp)(B W:Fp)(env' :Ev)(H' :Hp)(W' :Fp)(xs:List D)(us:List V):Prop where
 st:Step env σ H B W env' σ H' W'
 cf:Cf K c env' σ H' B W'
 at_:DsAt K c (hide (hd2 B W') H') us xs
theorem qXj{K:aQ}:∀{ss:List SV} {env:Ev} {σ:L2.St} {H:Hp} {B W:Fp} {Q:List V->Hp->Prop} {w:List D×Ev->Prop},Cf K c env σ H B W->(evVs ss env).wp w (erP K c E H B W)->(∀r,w r->∀us H' W',GotDs K c env σ H B W r.2 H' W' r.1 us->Q us H')->tVs K c E ss σ H Q
 |[],env,σ,H,B,W,Q,w,cf,hw,k=>k _ hw [] H W ⟨.refl,cf,.nil⟩
 | s::ss,env,σ,H,B,W,Q,w,cf,hw,k=>by
   refine⟨env,B,W,cf,wp_mono (fun r w1 u H1 W1 g1=>?_) (fun _ _ he=>he) (qB.mp hw)⟩;refine qXj g1.cf (wp_mono (fun _ q=>q) (fun C fs he=>he.back g1.st) (qB.mp w1)) fun r' w3 us H2 W2 g2=>?_
   exact k _ w3 (u::us) H2 W2 ⟨g1.st.trans g2.st,g2.cf,.cons (g1.at_.same g2.st.same) g2.at_⟩
noncomputable def svTup(ss:List SV):SV:=fun env=>(evVs ss env).bind fun r=>cond (decide (r.1.length<=1000)) (.ok (.tup r.1,r.2)) .no
noncomputable def eLst(ss:List SV):SE:=fun env=>(evVs ss env).bind fun r=>cond (decide (r.1.length<=1000)) (.ok (.ow .lst (r.1.map .fz),r.2)) .no
theorem zZ6(h:n<=1000):n<=aT:=Nat.le_of_lt (zQk h)
section
variable{X:Cx}{c:Nat->aV}{E:XK}{es:List Expr}{pos:Pos}{ss:List SV}
theorem qH{x1}(h:VsD X c E es ss):EV X c E (.Tuple es x1 pos) (svTup ss):=by
 refine⟨PE.imp (jVz h.h) fun σ H Q=>?_⟩;rintro⟨env,B,W,cf,w⟩;refine qXj cf (qB.mp w) fun r w1 us H1 W1 g=>?_
 obtain⟨hl,w2⟩:=zV w1;refine⟨zZ6 (by rw[g.at_.len];exact of_decide_eq_true hl),fun p hp=>?_⟩;have sm:Same H1 (upd H1 p (.tup us)):=.upd hp;obtain⟨z1,z2⟩:=g.cf.fresh hp;refine w2 (.ref p) _ W1 ⟨g.st.trans (.grow g.cf sm),g.cf.grow sm,.of (k:=.tup) (SqT.of ?_) (g.at_.same (zC fun a o z q=>⟨z,sm a o q⟩))⟩;rw[zZ (by dsimp only[hd2];omega),upd_same]
theorem wY(h:VsD X c E es ss):ED X c E (.List es pos) (eLst ss):=by
 refine⟨PE.imp (jV3 h.h) fun σ H Q=>?_⟩;rintro⟨env,B,W,cf,w⟩;refine qXj cf (qB.mp w) fun r w1 us H1 W1 g=>?_
 obtain⟨hl,w2⟩:=zV w1;refine⟨zZ6 (by rw[g.at_.len];exact of_decide_eq_true hl),fun p hp=>?_⟩;have sm:Same H1 (upd H1 p (.lst us)):=.upd hp;exact w2 (.ref p) _ W1 _ ((Got.lay g.cf hp sm (k:=.lst) upd_same (g.at_.same (qK2 g.cf hp sm))).back g.st)
end
inductive Out where
 |nx (env:Ev)|rt (o:O) (env:Ev)|bk (env:Ev)|ct (env:Ev)
noncomputable abbrev SS:=Ev->Res Out
structure GotR(K:aQ)(c:Nat->aV)(env:Ev)(σ:L2.St)(H:Hp)(B W:Fp)(env' :Ev)(σ' :L2.St)(H' :Hp)(W' Z:Fp)(o:O)(u:V):Prop where
 st:Step env σ H B W env' σ' H' (hd2 W' Z)
 cf:Cf K c env' σ' H' (hd2 B Z) W'
 at_:OAt K c (hide (hd2 (hd2 B Z) W') H') H' o u Z
noncomputable def OutP(K:aQ)(c:Nat->aV)(env:Ev)(σ:L2.St)(H:Hp)(B W:Fp)(D:Ends):Out->Prop
 |.nx e=>∀σ' H' W',Step env σ H B W e σ' H' W' ->Cf K c e σ' H' B W' ->D.nx σ' H'
 |.bk e=>∀σ' H' W',Step env σ H B W e σ' H' W' ->Cf K c e σ' H' B W' ->D.bk σ' H'
 |.ct e=>∀σ' H' W',Step env σ H B W e σ' H' W' ->Cf K c e σ' H' B W' ->D.ct σ' H'
 |.rt o e=>∀v σ' H' W' Z,GotR K c env σ H B W e σ' H' W' Z o v->D.rt v H'
noncomputable def tS(K:aQ)(c:Nat->aV)(E:XK)(s:SS):TS:=fun D σ H=>∃env B W,Cf K c env σ H B W/\(s env).wp (OutP K c env σ H B W D) (erP K c E H B W)
structure SD(X:Cx)(c:Nat->aV)(E:XK)(st:Stmt)(s:SS):Prop where
 h:PS X st (tS X.K c E s)
structure SDs(X:Cx)(c:Nat->aV)(E:XK)(st:List Stmt)(s:SS):Prop where
 h:PSs X st (tS X.K c E s)
theorem PS.imp{st:Stmt}{t t' :TS}(h:PS X st t)(k:∀D σ H,t' D σ H->t D σ H):PS X st t' :=fun pins s σ H D I q=>h pins s σ H D I (k D σ H q)
theorem PSs.imp{st:List Stmt}{t t' :TS}(h:PSs X st t)(k:∀D σ H,t' D σ H->t D σ H):PSs X st t' :=fun pins s σ H D I q=>h pins s σ H D I (k D σ H q)
theorem PS.len{st:Stmt}{t:TS}(h:PS X st (fun D σ H=>σ.length=X.N.length/\t D σ H)):PS X st t:=fun pins s σ H D I q=>h pins s σ H D I ⟨I.len,q⟩
section
variable{K:aQ}{c:Nat->aV}{E:XK}{env env' :Ev}{σ σ' :L2.St}{H H' :Hp}{B W W' :Fp}{D:Ends}{o:Out}{s:SS}
theorem OutP.back(st:Step env σ H B W env' σ' H' W')(h:OutP K c env σ H B W D o):OutP K c env' σ' H' B W' D o:=by
 cases o with
 |nx e=>exact fun σ2 H2 W2 s2 cf=>h σ2 H2 W2 (st.trans s2) cf
 |bk e=>exact fun σ2 H2 W2 s2 cf=>h σ2 H2 W2 (st.trans s2) cf
 |ct e=>exact fun σ2 H2 W2 s2 cf=>h σ2 H2 W2 (st.trans s2) cf
 |rt r e=>exact fun v σ2 H2 W2 Z g=>h v σ2 H2 W2 Z ⟨st.trans g.st,g.cf,g.at_⟩
theorem vZg(st:Step env σ H B W env' σ' H' W')(cf:Cf K c env' σ' H' B W')(h:(s env').wp (OutP K c env σ H B W D) (erP K c E H B W)):tS K c E s D σ' H' :=
 ⟨env',B,W',cf,wp_mono (fun _ q=>q.back st) (fun _ _ he=>he.back st) h⟩
end
noncomputable def sSeq(s t:SS):SS:=fun env=>(s env).bind fun o=>match o with
 |.nx e=>t e
 |o=>.ok o
noncomputable def sNil:SS:=fun env=>.ok (.nx env)
section
variable{X:Cx}{c:Nat->aV}{E:XK}{st:Stmt}{sts:List Stmt}{s t u:SS}{pos:Pos}
theorem qF:SDs X c E [] sNil:=by
 refine⟨PSs.imp vKm fun D σ H=>?_⟩;rintro⟨env,B,W,cf,w⟩;exact w σ H W .refl cf
theorem qJ(h:SD X c E st s):SDs X c E [st] s:=⟨zX5 h.h⟩
theorem qV(h:SD X c E st s)(k:SDs X c E sts t):SDs X c E (st::sts) (sSeq s t):=by
 refine⟨PSs.imp (vJ8 h.h k.h) fun D σ H=>?_⟩;rintro⟨env,B,W,cf,w⟩;refine⟨env,B,W,cf,wp_mono (fun o ho=>?_) (fun _ _ he=>he) (qB.mp w)⟩;cases o with
 |nx e=>exact fun σ' H' W' st' cf' =>vZg st' cf' ho
 |bk e=>exact ho
 |ct e=>exact ho
 |rt r e=>exact ho
noncomputable def sIf(b:ST)(s t:SS):SS:=fun env=>(b env).bind fun r=>cond r.1 (s r.2) (t r.2)
theorem vJ{x y:List Stmt}{sc:ST}(hc:TD X c E e sc)(ha:SDs X c E x s)(hb:SDs X c E y t):SD X c E (.If e x y pos) (sIf sc s t):=by
 refine⟨PS.imp (jJw hc.h ha.h hb.h) fun D σ H=>?_⟩;rintro⟨env,B,W,cf,w⟩;refine⟨env,B,W,cf,wp_mono (fun r1 h1 H1 W1 st1 cf1=>?_) (fun _ _ he=>he) (qB.mp w)⟩;obtain⟨k,e1⟩:=r1;cases k with
 |true=>exact vZg st1 cf1 h1
 |false=>exact vZg st1 cf1 h1
noncomputable def sRet(s:SE):SS:=fun env=>(s env).bind fun r=>.ok (.rt r.1 r.2)
theorem qD{s:SE}(h:ED X c E e s):SD X c E (.Return (some e) pos) (sRet s):=by
 refine⟨PS.imp (jVn h.h) fun D σ H=>?_⟩;rintro⟨env,B,W,cf,w⟩;exact⟨env,B,W,cf,wp_mono (fun r1 h1 u H1 W1 Z g=>h1 u σ H1 W1 Z ⟨g.st,g.cf,g.at_⟩) (fun _ _ he=>he) (qB.mp w)⟩
noncomputable def eMv(i:Nat):SE:=fun env=>match env[i]? with
 |some (.s false o)=>.ok (o,env.set i .un)
 |_=>.no
theorem qJ5{s:Slot}{o:O}(hs:∀o,s≠ .s true o)(h:(env.set i s)[j]?=some (.s true o)):j≠i/\env[j]?=some (.s true o):=by
 have hj:j≠i:=fun z=>by
  subst z;rw[eZ]at h;simp only[if_true]at h;split at h
  ·exact hs o (Option.some.inj h)
  ·cases h
 rw[bZ (Ne.symm hj)]at h;exact⟨hj,h⟩
theorem xB(h:PE X e (tVar i)):ED X c E e (eMv i):=by
 refine⟨PE.imp h fun σ H Q=>?_⟩;rintro⟨env,B,W,cf,w⟩;unfold eMv at w;split at w
 ·rename_i o e0;obtain⟨x,Z1,R,h1,h2,h3,h4⟩:=cf.focus e0;cases x with
  |none=>exact h2.elim
  | some v=>
    have eq:hide (hd2 (hd2 B Z1) R) H=hide (hd2 B W) H:=z9 fun a=>by dsimp only[hd2];rw[h3];omega
    have eq2:hide (hd2 B (hd2 R Z1)) H=hide (hd2 B W) H:=z9 fun a=>by dsimp only[hd2];rw[h3];omega
    have cf' :=h4 H (hd2 B Z1) R .un (some v) (fun _=>0) (by rw[eq];exact Same.refl _) (fun a=>by omega) (fun _ _=>rfl) (fun _=>rfl) (fun a=>by have:=cf.nd a;rw[h3]at this;dsimp only[hd2];omega) (fun a z=>by
     by_cases q:B a=0
     ·exact jO.hb (x:=some v) h2 (by dsimp only[hd2]at z;omega)
     ·exact cf.hb a q)
    rw[yS h1]at cf';refine⟨v,h1,w v H R Z1 ⟨⟨by rw[eq2];exact Same.refl _,fun _ _=>rfl,fun a z=>.inl (by dsimp only[hd2]at z;rw[h3];omega),fun _ z=>z,fun _ _ _=>.refl,fun j o' q=>?_,cW⟩,cf',by rw[eq];exact h2⟩⟩;obtain⟨_,q2⟩:=qJ5 (fun _ z=>by cases z) q;exact⟨⟨o',q2⟩,rfl⟩
 ·exact w.elim
noncomputable def sExpr(s:SE):SS:=fun env=>(s env).bind fun r=>.ok (.nx r.2)
theorem v4{s:SE}(h:ED X c E e s)(hs:swapsWith e none pos.line X.env=pure false:=by rfl):SD X c E (.Expr e pos) (sExpr s):=by
 refine⟨PS.imp (zX8 h.h hs) fun D σ H=>?_⟩;rintro⟨env,B,W,cf,w⟩;exact⟨env,B,W,cf,wp_mono (fun r1 h1 u H1 W1 Z g=>h1 σ H1 W1 g.fz.st g.fz.cf) (fun _ _ he=>he) (qB.mp w)⟩
end
section
variable{K:aQ}{c:Nat->aV}{env env' :Ev}{σ σ' :L2.St}{H H' :Hp}{B W W' Z:Fp}{i:Nat}{o:O}{u:V}
theorem GotR.put(g:GotR K c env σ H B W env' σ' H' W' Z o u)(hi:i<env'.length):∃W2,Step env σ H B W (env'.set i (.s false o)) (σ'.set i (some u)) H' W2/\Cf K c (env'.set i (.s false o)) (σ'.set i (some u)) H' B W2:=by
 obtain⟨W2,cf2,sm,nw⟩:=g.cf.put (B:=B) (io:=false) (fun _=>rfl) g.at_ hi;refine⟨W2,g.st.trans ⟨?_,fun _ _=>rfl,fun a z=>.inl ?_,fun _ z=>z,fun _ _ _=>.refl,fun j o' q=>?_,cW⟩,cf2⟩
 ·rw [show hide (hd2 B (hd2 W' Z)) H' =hide (hd2 (hd2 B Z) W') H' from z9 fun a=>by dsimp only [hd2];omega];exact sm
 ·have:=nw a z;dsimp only[hd2];omega
 ·obtain⟨q1,q2⟩:=qJ5 (fun _ z=>by cases z) q;exact⟨⟨o',q2⟩,bZ (Ne.symm q1)⟩
theorem Got.r(g:Got K c env σ H B W env' H' W' Z o u):GotR K c env σ H B W env' σ H' W' Z o u:=⟨g.st,g.cf,g.at_⟩
end
noncomputable def sSet(i:Nat)(s:SE):SS:=fun env=>(s env).bind fun r=>.ok (.nx (r.2.set i (.s false r.1)))
section
variable{X:Cx}{c:Nat->aV}{E:XK}{pos pos' :Pos}{i:Nat}{x:Str}{e:Expr}
theorem Cf.len{K:aQ}(h:Cf K c env σ H B W):env.length=σ.length:=h.at_.len
theorem qY1{K:aQ}(cf:Cf K c env σ H B W)(hl:σ.length=N.length)(hi:N[i]?=some x):i<env.length:=by
 rw[cf.len,hl];exact(aU.mp hi).1
theorem jVc{s:SE}(hN:X.N.Nodup)(hi:X.N[i]?=some x)(hx:Loc X.env.scope x)(he:ED X c E e s)(hs:swapsWith e (some (.Name x pos')) pos.line X.env=pure false:=by rfl)(hf:X.fn x=true\/X.env.scope.names.lookup x=some .local :=by first|exact .inl rfl|exact .inr rfl|assumption):
  SD X c E (.Assign [.Name x pos'] e pos) (sSet i s):=by
 refine⟨PS.len (PS.imp (jVm hN hi hx he.h hs hf) fun D σ H=>?_)⟩;rintro⟨hl,env,B,W,cf,w⟩;refine⟨env,B,W,cf,wp_mono (fun r1 h1 u H1 W1 Z g=>?_) (fun _ _ he=>he) (qB.mp w)⟩;obtain⟨W2,s2,c2⟩:=g.r.put (qY1 g.cf hl hi);exact h1 _ H1 W2 s2 c2
end
noncomputable abbrev SG:=D->Ev->Option Ev
noncomputable def tG(K:aQ)(c:Nat->aV)(T:List Nat)(g:SG):TG:=fun v σ H Q=>∃env B W d e,Cf K c env σ H B W/\DAt K c (hide (hd2 B W) H) v d/\g d env=some e/\∀σ' W',Step env σ H B W e σ' H W' ->Cf K c e σ' H B W' ->(∀i,i∉T->σ'[i]?=σ[i]?)->Q σ' H
structure GD(X:Cx)(c:Nat->aV)(e:Expr)(T:List Nat)(g:SG):Prop where
 h:PG X e (tG X.K c T g)
noncomputable abbrev SGs:=List D->Ev->Option Ev
noncomputable def tGs(K:aQ)(c:Nat->aV)(T:List Nat)(g:SGs):TGs:=fun vs σ H Q=>∃env B W ds e,Cf K c env σ H B W/\DsAt K c (hide (hd2 B W) H) vs ds/\g ds env=some e/\∀σ' W',Step env σ H B W e σ' H W' ->Cf K c e σ' H B W' ->(∀i,i∉T->σ'[i]?=σ[i]?)->Q σ' H
structure GDs(X:Cx)(c:Nat->aV)(es:List Expr)(T:List Nat)(g:SGs):Prop where
 h:PGs X es (tGs X.K c T g)
theorem PG.imp{t t' :TG}(h:PG X e t)(k:∀v σ H Q,t' v σ H Q->t v σ H Q):PG X e t' :=fun pins s σ H v u Q I r q=>h pins s σ H v u Q I r (k v σ H Q q)
theorem PGs.imp{e:List Expr}{t t' :TGs}(h:PGs X e t)(k:∀v σ H Q,t' v σ H Q->t v σ H Q):PGs X e t' :=fun pins s σ H v u Q I r q=>h pins s σ H v u Q I r (k v σ H Q q)
theorem PG.len{t:TG}(h:PG X e (fun v σ H Q=>σ.length=X.N.length/\t v σ H Q)):PG X e t:=fun pins s σ H v u Q I r q=>h pins s σ H v u Q I r ⟨I.len,q⟩
noncomputable def gN(i:Nat):SG:=fun d env=>some (env.set i (.s false (.fz d)))
noncomputable def gNl:SGs:=fun ds env=>match ds with
 |[]=>some env
 |_=>none
noncomputable def gCn(g:SG)(gs:SGs):SGs:=fun ds env=>match ds with
 |d::r=>(g d env).bind fun e=>gs r e
 |[]=>none
noncomputable def gT(n:Nat)(gs:SGs):SG:=fun d env=>match d with
 |.nd .tup ds=>if ds.length=n then gs ds env else none
 |_=>none
section
variable{X:Cx}{c:Nat->aV}{pos:Pos}{x:Str}{i n:Nat}{e:Expr}{es:List Expr}{g:SG}{gs:SGs}{T T' :List Nat}
theorem jZ(hN:X.N.Nodup)(hi:X.N[i]?=some x)(hx:Loc X.env.scope x)(hf:X.fn x=true\/X.env.scope.names.lookup x=some .local :=by first|exact .inl rfl|exact .inr rfl|assumption):GD X c (.Name x pos) [i] (gN i):=by
 refine⟨PG.len (PG.imp (zYm hN hi hx hf) fun v σ H Q=>?_)⟩;rintro⟨hl,env,B,W,d,e,cf,hd,h1,h2⟩;cases h1;have g:GotD X.K c env σ H B W env H W d v:=⟨.refl,cf,hd⟩
 obtain⟨W2,s2,c2⟩:=g.own.r.put (qY1 cf hl hi);exact h2 _ W2 s2 c2 fun j hj=>bZ fun z=>hj (by rw[z];exact aA)
theorem vZp:GDs X c [] [] gNl:=by
 refine⟨PGs.imp zYl fun v σ H Q=>?_⟩;rintro⟨env,B,W,ds,e,cf,hd,h1,h2⟩;cases ds with
 | nil=>
   have:=hd.un0;cases h1;exact⟨this,h2 _ W .refl cf fun _ _=>rfl⟩
 |cons d r=>cases h1
theorem qVa(h:GD X c e T g)(k:GDs X c es T' gs)(hs:(assignEach (e::es) X.env).map (·.2)=assign e X.env::(assignEach es X.env).map (·.2):=by rfl):GDs X c (e::es) (T ++ T') (gCn g gs):=by
 refine⟨PGs.imp (zJ4 h.h k.h hs) fun v σ H Q=>?_⟩;rintro⟨env,B,W,ds,e,cf,hd,h1,h2⟩;cases ds with
 |nil=>cases h1
 | cons d r=>
   obtain⟨u,us,rfl,a,b⟩:=hd.un;obtain⟨e2,e1,h1⟩:=bnd h1;exact⟨u,us,rfl,env,B,W,d,e2,cf,a,e1,fun σ' W' st' cf' k1=>⟨e2,B,W',r,e,cf',b.same st'.same,h1,fun σ2 W2 st2 cf2 k2=>h2 σ2 W2 (st'.trans st2) cf2 fun i hi=>(k2 i fun z=>hi (bF _ z)).trans (k1 i fun z=>hi (List.mem_append_left _ z))⟩⟩
theorem vXj{k:Nat}(hc:X.calm=true)(h:GDs X c es T gs)(hn:(assignEach es X.env).length =n:=by rfl)(hst:(assignEach es X.env).findIdx? (·.1)=none:=by rfl):GD X c (.Tuple es k pos) T (gT n gs):=by
 refine⟨PG.imp (jVx hc h.h hn hst) fun v σ H Q=>?_⟩;rintro⟨env,B,W,d,e,cf,hd,h1,h2⟩;unfold gT at h1;split at h1
 ·rename_i ds;split at h1
  ·rename_i hl;obtain⟨p,vs,q1,q2,q3⟩:=hd.un;exact⟨p,vs,q1,vC.tup q2,by rw[q3.len];exact hl,env,B,W,ds,e,cf,q3,h1,h2⟩
  ·cases h1
 ·cases h1
end
noncomputable def ItD(K:aQ)(c:Nat->aV)(F:Hp)(J:It)(ds:List D):Prop:=∀(i:Nat) (H:Hp) (T:Fp),Same F (hide T H)->(∀a,T a≠0->∃o,H a=some o/\Hb o)->
 (∀d,ds[i]?=some d->J.go i H/\∀x H',J.yld i H x H' ->Same H H' /\DAt K c (hide T H') x d)/\(i=ds.length->J.stop i H)
noncomputable abbrev SI:=Ev->Res (List D×Ev)
noncomputable def tIt(K:aQ)(c:Nat->aV)(E:XK)(s:SI):TI:=fun σ H R=>∃env B W,Cf K c env σ H B W/\(s env).wp (fun r=>∀J H' W',Step env σ H B W r.2 σ H' W' ->Cf K c r.2 σ H' B W' ->ItD K c (hide (hd2 B W') H') J r.1->R J H') (erP K c E H B W)
structure ID'(X:Cx)(c:Nat->aV)(E:XK)(tg e:Expr)(s:SI):Prop where
 h:PI X tg e (tIt X.K c E s)
theorem PI.imp{tg:Expr}{t t' :TI}(h:PI X tg e t)(k:∀σ H R,t' σ H R->t σ H R):PI X tg e t' :=fun pins s σ H R I q=>h pins s σ H R I (k σ H R q)
noncomputable def forS(g:SG)(body:SS):List D->SS
 |[],env=>.ok (.nx env)
 |d::ds,env=>(opt (g d env)).bind fun e1=>(body e1).bind fun o=>match o with
    |.nx e2=>forS g body ds e2
    |.ct e2=>forS g body ds e2
    |.bk e2=>.ok (.nx e2)
    |.rt r e2=>.ok (.rt r e2)
noncomputable def sFor(it:SI)(g:SG)(body:SS):SS:=fun env=>(it env).bind fun r=>forS g body r.1 r.2
theorem zWy{K:aQ}{T:List Nat}{D:Ends}{J:It}{H1:Hp}{W1:Fp}{ds:List DX.D}{e1:Ev}(cf1:Cf K c e1 σ H1 B W1)(iter:ItD K c (hide (hd2 B W1) H1) J ds)(h1:(forS g body ds e1).wp (OutP K c e1 σ H1 B W1 D) (erP K c E H1 B W1)):∃W:Nat->Nat->L2.St->Hp->Prop,(∃m,W 0 m σ H1)/\∀i m σ H,W i m σ H->
   (J.stop i H/\D.nx σ H)\/(J.go i H/\∃N:L2.St->Hp->Prop,(∀σ' H',N σ' H' ->∃m',m'<m/\W (i+1) m' σ' H')/\∀x H',J.yld i H x H' ->tG K c T g x σ H' fun σ2 H2=>tS K c E body {D with nx:=N,ct:=N,bk:=D.nx} σ2 H2):=by
 refine⟨fun i m σ' H' =>m=ds.length - i/\i<=ds.length/\∃env' W',Same (hide (hd2 B W1) H1) (hide (hd2 B W') H')/\Cf K c env' σ' H' B W' /\(forS g body (ds.drop i) env').wp (OutP K c env' σ' H' B W' D) (erP K c E H' B W'),
  ⟨ds.length,by simp,dW _,e1,W1,Same.refl _,cf1,h1⟩,?_⟩
 rintro i m σ' H' ⟨rfl,hi,env',W',sm,cf',w'⟩;obtain⟨it1,it2⟩:=iter i H' (hd2 B W') sm (fun a z=>cf'.hbs z);by_cases hlt:i<ds.length
 ·obtain⟨go,yl⟩:=it1 ds[i] (aI hlt);refine .inr ⟨go,fun σ2 H2=>ds.length - (i+1)<ds.length - i/\(ds.length - (i+1)=ds.length - (i+1)/\i+1<=ds.length/\∃env2 W2,Same (hide (hd2 B W1) H1) (hide (hd2 B W2) H2)/\Cf K c env2 σ2 H2 B W2/\(forS g body (ds.drop (i+1)) env2).wp (OutP K c env2 σ2 H2 B W2 D) (erP K c E H2 B W2)),fun σ2 H2 q=>⟨_,q.1,q.2⟩,fun x H2 y=>?_⟩;obtain⟨sm2,hx⟩:=yl x H2 y;rw[cB hlt]at w';obtain⟨e3,e2,w'⟩:=qN w';refine⟨env',B,W',ds[i],e3,cf'.grow sm2,hx,e2,fun σ3 W3 st3 cf3 _=>?_⟩;have stA:Step env' σ' H' B W' e3 σ3 H2 W3:=(Step.grow cf' sm2).trans st3
  have next:∀e4,(forS g body (ds.drop (i+1)) e4).wp (OutP K c env' σ' H' B W' D) (erP K c E H' B W')->∀σ4 H4 W4,Step e3 σ3 H2 B W3 e4 σ4 H4 W4->Cf K c e4 σ4 H4 B W4->
    ds.length - (i+1)<ds.length - i/\(ds.length - (i+1)=ds.length - (i+1)/\i+1<=ds.length/\∃env2 W2,Same (hide (hd2 B W1) H1) (hide (hd2 B W2) H4)/\Cf K c env2 σ4 H4 B W2/\(forS g body (ds.drop (i+1)) env2).wp (OutP K c env2 σ4 H4 B W2 D) (erP K c E H4 B W2)):=fun e4 q σ4 H4 W4 st4 cf4=>by
   have stB:=stA.trans st4;exact⟨by omega,rfl,hlt,e4,W4,sm.trans stB.same,cf4,wp_mono (fun o q=>q.back stB) (fun _ _ he=>he.back stB) q⟩
  refine⟨e3,B,W3,cf3,wp_mono (fun o q=>?_) (fun _ _ he=>he.back stA) (qB.mp w')⟩;cases o with
  |nx e4=>exact next e4 q
  |ct e4=>exact next e4 q
  |bk e4=>exact fun σ4 H4 W4 st4 cf4=>q σ4 H4 W4 (stA.trans st4) cf4
  |rt r e4=>exact fun v σ4 H4 W4 Z g=>q v σ4 H4 W4 Z ⟨stA.trans g.st,g.cf,g.at_⟩
 ·have hi2:i=ds.length:=by omega
  subst hi2;rw[List.drop_length]at w';exact .inl ⟨it2 rfl,w' σ' H' W' .refl cf'⟩
theorem zXn{K:aQ}{T:List Nat}{D:Ends}(h:tS K c E (sFor it g body) D σ H):tFor (tIt K c E it) (tG K c T g) (tS K c E body) D σ H:=by
 obtain⟨env,B,W,cf,w⟩:=h;refine⟨env,B,W,cf,wp_mono (fun r1 h1 J H1 W1 st1 cf1 iter=>?_) (fun _ _ he=>he) (qB.mp w)⟩;exact zWy cf1 iter (wp_mono (fun o q=>q.back st1) (fun _ _ he=>he.back st1) h1)
theorem qJz{tg iter:Expr}{body:List Stmt}{T:List Nat}{s:SS}(hp:PassesOwn (model X.prog X.w) X.A X.env X.xe)(hc:X.calm=true)(hi:ID' X c E tg iter it)(hg:GD X c tg T g)(hb:SDs X c E body s)(hs:∀x,foldedSetIterable iter X.env x=pure x:=by intro _;rfl):SD X c E (.For tg iter body [] pos) (sFor it g s):=
 ⟨PS.imp (jVo hp hc hi.h hg.h hb.h hs) fun _ _ _ h=>zXn h⟩
noncomputable def v5(b:ST)(body:SS):Nat->SS
 | 0,_=>.no
 | n + 1,env=>(b env).bind fun r=>cond r.1 ((body r.2).bind fun o=>match o with
     |.nx e2=>v5 b body n e2
     |.ct e2=>v5 b body n e2
     |.bk e2=>.ok (.nx e2)
     |.rt r e2=>.ok (.rt r e2)) (.ok (.nx r.2))
theorem zQi{K:aQ}{t:ST}{D:Ends}(h:tS K c E (v5 t body n) D σ H):zZk (tT K c E t) (tS K c E body) D σ H:=by
 obtain⟨env,B,W,cf,w⟩:=h;refine⟨fun m σ' H' =>∃env' B' W',Cf K c env' σ' H' B' W' /\(v5 t body m env').wp (OutP K c env' σ' H' B' W' D) (erP K c E H' B' W'),⟨n,env,B,W,cf,w⟩,?_⟩;rintro m σ' H' ⟨env',B',W',cf',w'⟩;cases m with
 |zero=>exact w'.elim
 | succ m=>
   refine⟨env',B',W',cf',wp_mono (fun r q H1 W1 st1 cf1=>?_) (fun _ _ he=>he) (qB.mp w')⟩;obtain⟨k,e1⟩:=r;cases k with
   |false=>exact q σ' H1 W1 st1 cf1
   | true=>
     refine⟨fun σ2 H2=>∃env' B' W',Cf K c env' σ2 H2 B' W' /\(v5 t body m env').wp (OutP K c env' σ2 H2 B' W' D) (erP K c E H2 B' W'),fun σ2 H2 q=>⟨m,Nat.lt_succ_self m,q⟩,e1,B',W1,cf1,wp_mono (fun o q=>?_) (fun _ _ he=>he.back st1) (qB.mp q)⟩;have go:∀e4,(v5 t body m e4).wp (OutP K c env' σ' H' B' W' D) (erP K c E H' B' W')->∀σ4 H4 W4,Step e1 σ' H1 B' W1 e4 σ4 H4 W4->Cf K c e4 σ4 H4 B' W4->∃env' B' W',Cf K c env' σ4 H4 B' W' /\(v5 t body m env').wp (OutP K c env' σ4 H4 B' W' D) (erP K c E H4 B' W'):=fun e4 q σ4 H4 W4 st4 cf4=>
      ⟨e4,B',W4,cf4,wp_mono (fun o q=>q.back (st1.trans st4)) (fun _ _ he=>he.back (st1.trans st4)) q⟩
     cases o with
     |nx e4=>exact go e4 q
     |ct e4=>exact go e4 q
     |bk e4=>exact fun σ4 H4 W4 st4 cf4=>q σ4 H4 W4 (st1.trans st4) cf4
     |rt r e4=>exact fun v σ4 H4 W4 Z g=>q v σ4 H4 W4 Z ⟨st1.trans g.st,g.cf,g.at_⟩
theorem qQ8{body:List Stmt}{t:ST}{s:SS}(n:Nat)(hp:PassesOwn (model X.prog X.w) X.A X.env X.xe)(hc:TD X c E e t)(hb:SDs X c E body s):SD X c E (.While e body [] pos) (v5 t s n):=
 ⟨PS.imp (zJ1 hp hc.h hb.h) fun _ _ _ h=>zQi h⟩
noncomputable abbrev Fn:=Ev->Res (O×Ev)
noncomputable def vZa:Slot->Slot
 |.s true o=>.s true o
 |_=>.un
noncomputable def outs:Nat->Ev->Ev
 | 0,_=> []
 |_+1,[]=> []
 |n+1,s::e=>vZa s::outs n e
noncomputable def fnS(n m:Nat)(body:SS):Fn:=fun args=>(body (args ++ List.replicate m .un)).bind fun o=>match o with
 |.nx e=>.ok (.fz .non,outs n e)
 |.rt r e=>.ok (r,outs n e)
 |_=>.no
noncomputable def spD(K:aQ)(c:Nat->aV)(n:Nat)(F:Fn):Sp:=fun vs H Q E=>∃args B W,args.length=n/\Cf K c args (vs.map some) H B W/\
 (F args).wp (fun r=>∀v H' W' Z,GotR K c args (vs.map some) H B W r.2 (vs.map some) H' W' Z r.1 v->Q v H') (erP K c E H B W)
section
variable{K:aQ}{c:Nat->aV}{F H H' :Hp}
theorem SlAt.uns(t:TabF c F):∀m:Nat,SlAt K c F H (List.replicate m .un) (List.replicate m none) (fun _=>0)
 | 0=>⟨⟨rfl,t⟩,fun _=>rfl⟩
 |m+1=>⟨none,List.replicate m none,fun _=>0,fun _=>0,rfl,fun _=>rfl,SlAt.uns t m,fun _=>rfl⟩
theorem SlAt.append:∀{env env' :Ev} {σ σ' :L2.St} {Z Z' :Fp},SlAt K c F H env σ Z->SlAt K c F H env' σ' Z' ->SlAt K c F H (env ++ env') (σ ++ σ') (fun a=>Z a+Z' a)
 | [],env',σ,σ',Z,Z',h,k=>by
   rw[h.1.1];exact k.cast fun a=>by rw[h.2];(try dsimp only);omega
 | s::env,env',σ,σ',Z,Z',h,k=>by
   obtain⟨x,r,Z1,Z2,rfl,b,cc,d⟩:=h;exact⟨x,r ++ σ',Z1,_,rfl,b,cc.append k,fun a=>by dsimp only;rw[d];omega⟩
theorem Cf.ext{m:Nat}(h:Cf K c args τ H B W):Cf K c (args ++ List.replicate m .un) (τ ++ List.replicate m none) H B W:=
 ⟨(h.at_.append (SlAt.uns h.at_.tab m)).cast fun a=>by(try dsimp only);omega,h.nd,h.hb⟩
theorem SlAt.outs:∀{n:Nat} {e:Ev} {σ τ:L2.St} {Z:Fp},SlAt K c F H e σ Z->n<=e.length->τ.length=n->(∀(i:Nat) o,i<n->e[i]?=some (.s true o)->σ[i]?=τ[i]?)->∃Z',SlAt K c F H (outs n e) τ Z' /\∀a,Z' a<=Z a
 | 0,e,σ,τ,Z,h,hl,ht,k=>⟨fun _=>0,⟨⟨dI ht,h.tab⟩,fun _=>rfl⟩,fun _=>dW _⟩
 |n+1,[],σ,τ,Z,h,hl,ht,k=>by simp at hl
 |n+1,s::e,σ,[],Z,h,hl,ht,k=>by simp at ht
 | n + 1,s::e,σ,t::τ,Z,h,hl,ht,k=>by
   obtain⟨x,r,Z1,Z2,rfl,b,cc,d⟩:=h;obtain⟨Z',h1,h2⟩:=SlAt.outs (n:=n) (τ:=τ) cc (by simpa using hl) (by simpa using ht) fun i o hi e=>by
    have:=k (i+1) o (by omega) (by simpa using e);simpa using this
   have un:∃Y:Fp,SlAt K c F H (.un ::DX.outs n e) (t::τ) Y/\∀a,Y a<=Z a:=⟨Z',⟨t,τ,fun _=>0,Z',rfl,fun _=>rfl,h1,fun a=>by dsimp only;omega⟩,fun a=>by have:=h2 a;rw[d];omega⟩
   cases s with
   |un=>exact un
   | s io o=>
     cases io with
     |false=>exact un
     | true=>
       have e0:=k 0 o (by omega) rfl;simp only[dF,Option.some.injEq]at e0;subst e0;exact⟨fun a=>Z1 a+Z' a,⟨x,τ,Z1,Z',rfl,b,h1,fun _=>rfl⟩,fun a=>by have:=h2 a;rw[d];dsimp only;omega⟩
theorem vWe:∀{n i:Nat} {e:Ev} {o:O},(outs n e)[i]?=some (.s true o)->i<n/\e[i]?=some (.s true o)
 | 0,i,e,o,h=>by simp[outs]at h
 |n+1,i,[],o,h=>by simp[outs]at h
 | n + 1,0,s::e,o,h=>by
   simp only[outs,dF,Option.some.injEq]at h;refine⟨Nat.succ_pos _,?_⟩;cases s with
   |un=>cases h
   |s io o' =>cases io <;> cases h;rfl
 | n + 1,i + 1,s::e,o,h=>by
   simp only[outs,List.getElem?_cons_succ]at h⊢;obtain⟨h1,h2⟩:=vWe h;exact⟨by omega,h2⟩
theorem vWd:∀{n:Nat} {e:Ev},n<=e.length->(outs n e).length =n
 | 0,e,_=>by simp[outs]
 |n+1,[],h=>by simp at h
 |n+1,s::e,h=>by rw[outs,aW,vWd (by simpa using h)]
theorem jZ8{m:Nat}{o:O}(h:(args ++ List.replicate m .un)[i]?=some (.s true o)):i<args.length/\args[i]?=some (.s true o):=by
 by_cases hi:i<args.length
 ·rw[bT hi]at h;exact⟨hi,h⟩
 ·rw [cL (by omega),List.getElem?_replicate] at h;split at h <;> cases h
theorem GotR.out{e:Ev}{m:Nat}{r:O}(hn:args.length=n)(cf:Cf K c args τ H B W)(g:GotR K c (args ++ List.replicate m .un) (τ ++ List.replicate m none) H B W e σ' H' W' Z r v):
  ∃W2,GotR K c args τ H B W (outs n e) τ H' W2 Z r v:=by
 have hle:n<=e.length:=by rw[g.st.len,aJ];omega
 have hτ:τ.length=n:=by rw[←cf.len];exact hn
 have back:∀(i:Nat) (o:O),i<n->e[i]?=some (.s true o)->(∃o0,args[i]?=some (.s true o0))/\σ'[i]?=τ[i]?:=fun i o hi h=>by
  obtain⟨⟨o0,h3⟩,h5⟩:=g.st.io i o h;rw[bT (by omega)]at h5;exact⟨⟨o0,(jZ8 h3).2⟩,h5⟩
 obtain⟨W2,h1,h2⟩:=g.cf.at_.outs hle hτ fun i o hi h=>(back i o hi h).2
 have sm:Same (hide (hd2 (hd2 B Z) W') H') (hide (hd2 (hd2 B Z) W2) H'):=jE fun a z=>by have:=h2 a;dsimp only[hd2]at *;omega
 have sm2:Same (hide (hd2 B (hd2 W' Z)) H') (hide (hd2 B (hd2 W2 Z)) H'):=jE fun a z=>by have:=h2 a;dsimp only[hd2]at *;omega
 refine⟨W2,⟨g.st.same.trans sm2,g.st.by_,fun a z=>g.st.new a (by have:=h2 a;dsimp only[hd2]at *;omega),g.st.dom,fun a z1 z2=>g.st.pin a z1 (by have:=h2 a;dsimp only[hd2]at *;omega),fun i o h=>?_,by rw[vWd hle,hn]⟩,
  ⟨h1.keep sm fun _ _=>rfl,fun a=>by have:=h2 a;have:=g.cf.nd a;dsimp only[hd2]at *;omega,g.cf.hb⟩,g.at_.keep sm fun _ _=>rfl⟩
 obtain⟨hi,h3⟩:=vWe h;exact⟨(back i o hi h3).1,rfl⟩
end
theorem fnD{K:aQ}{x:Str}{st:Stmt}{f:aV}{k:Nat}(F:Fun K x qual st f fd)(S:FnScope N ps (qY st))(hb:∀(cdv:Value) (A:cC) (outer:List Env) (s:aY) (H:Hp) (E:XK),Room k (A.deeper (envOfC qual (qY st) s.heap.objs.size f cdv))->SDs (cxOf (CXd P w) P w K mg base N qual (qY st) f cdv A outer s H E) c E (jQ st) body):
  FnOk P w K mg base (CXd P w) (k+1) f fd ps (spD K c ps.length (fnS ps.length (N.length - ps.length) body)):=by
 refine F.okD S (fun vs H Q E h=>?_) (fun cdv Ar outer s H vs Q E hr h=>?_)
 ·obtain⟨args,B,W,hl,cf,_⟩:=h;have:=cf.len;rw[aP]at this;omega
 ·obtain⟨args,B,W,hl,cf,wp0⟩:=h;have hvl:vs.length=ps.length:=by
   have:=cf.len;rw[aP]at this;omega
  refine⟨_,(hb cdv Ar outer s H E hr).h,?_⟩;have hst:L2.qZa N vs=vs.map some ++ List.replicate (N.length - ps.length) none:=by unfold L2.qZa;rw[hvl]
  show tS K c E body _ (L2.qZa N vs) H;rw[hst];unfold fnS at wp0;refine⟨args ++ List.replicate (N.length - ps.length) .un,B,W,cf.ext,wp_mono (fun o ho=>?_) (fun _ _ he=>he) (qB.mp wp0)⟩;cases o with
  | nx e=>
    intro σ' H' W' st' cf';have g:GotR K c (args ++ List.replicate (N.length - ps.length) .un) (vs.map some ++ List.replicate (N.length - ps.length) none) H B W e σ' H' W' (fun _=>0) (.fz .non) .non :=⟨st'.cast (fun _=>rfl) (fun _=>rfl) fun _=>rfl,cf'.cast (fun _=>rfl) fun _=>rfl,OAt.fz.mpr ⟨.non,fun _=>rfl⟩⟩
    obtain⟨W2,g2⟩:=g.out hl cf;exact ho .non H' W2 _ g2
  | rt r e=>
    intro v σ' H' W' Z g;obtain⟨W2,g2⟩:=g.out hl cf;exact ho v H' W2 Z g2
  |bk e=>exact ho.elim
  |ct e=>exact ho.elim
mutual
noncomputable def qJs:D->Bool
 |.nd .tup ds=>flatDs ds
 |.nd _ _=>false
 |_=>true
noncomputable def flatDs:List D->Bool
 |[]=>true
 |d::ds=>qJs d && flatDs ds
end
mutual
noncomputable def vJm:O->Bool
 |.fz d=>qJs d
 |.ow _ os=>flatOs os
noncomputable def flatOs:List O->Bool
 |[]=>true
 |o::os=>vJm o && flatOs os
end
theorem vQo:∀{ds:List D} {i:Nat} {d:D},flatDs ds=true->ds[i]?=some d->qJs d=true
 |[],i,d,h,e=>by simp at e
 | x::ds,0,d,h,e=>by
   rw[flatDs,aF]at h;cases e;exact h.1
 | x::ds,i + 1,d,h,e=>by
   rw[flatDs,aF]at h;exact vQo h.2 (by simpa using e)
section
variable{K:aQ}{c:Nat->aV}{F F' H H' :Hp}
theorem zJn(k:∀a o,F a=some o->¬Hb o->F' a=some o){p:aV}(h:SqT K F p vs):SqT K F' p vs:=by
 rcases h with(h|⟨o,h⟩)|h
 ·exact .inl (.inl (k _ _ h fun z=>z))
 ·exact .inl (.inr ⟨o,k _ _ h fun z=>z⟩)
 ·exact .inr h
theorem DAt.flat(k:∀a o,F a=some o->¬Hb o->F' a=some o){d:D}(h:DAt K c F v d)(hf:qJs d=true):DAt K c F' v d:=by
 induction h with
 |non=>exact .non
 |int i=>exact .int i
 |str i=>exact .str i
 |bl i=>exact .bl i
 |fn i=>exact .fn i
 | @nd p kd vs ds h l r ih=>
   cases kd with
   | tup=>
     rw[qJs]at hf;exact .nd (zJn k h) l fun i v d a b=>ih i v d a b (vQo hf b)
   |lst=>simp[qJs]at hf
   |dct ks=>simp[qJs]at hf
   |dcT ks=>simp[qJs]at hf
   |obj C fs=>simp[qJs]at hf
   |exc C fs=>simp[qJs]at hf
mutual
theorem OAt.flat(k:∀a o,F a=some o->¬Hb o->F' a=some o):∀{o:O} {v:V} {Z:Fp},vJm o=true->OAt K c F H o v Z->OAt K c F' H o v Z
 | .fz d,v,Z,hf,h=>by
   rw[OAt.fz]at h⊢;rw[vJm]at hf;exact⟨h.1.flat k hf,h.2⟩
 | .ow kd os,v,Z,hf,h=>by
   rw[OAt.ow]at h⊢;rw[vJm]at hf;obtain⟨p,vs,Z',a,b,c,d⟩:=h;exact⟨p,vs,Z',a,b,OsAt.flat k hf c,d⟩
theorem OsAt.flat(k:∀a o,F a=some o->¬Hb o->F' a=some o):∀{os:List O} {vs:List V} {Z:Fp},flatOs os=true->OsAt K c F H os vs Z->OsAt K c F' H os vs Z
 |[],vs,Z,hf,h=>by rw[OsAt.nil]at h⊢;exact h
 | o::os,vs,Z,hf,h=>by
   rw[OsAt.cons]at h⊢;rw[flatOs,aF]at hf;obtain⟨v,r,Z1,Z2,a,b,c,d⟩:=h;exact⟨v,r,Z1,Z2,a,OAt.flat k hf.1 b,OsAt.flat k hf.2 c,d⟩
end
end
mutual
noncomputable def ndD:D->Bool
 |.nd (.dct _) _=>false
 |.nd (.dcT _) _=>false
 |.nd _ ds=>ndDs ds
 |_=>true
noncomputable def ndDs:List D->Bool
 |[]=>true
 |d::ds=>ndD d && ndDs ds
end
mutual
noncomputable def ndO:O->Bool
 |.fz d=>ndD d
 |.ow _ os=>ndOs os
noncomputable def ndOs:List O->Bool
 |[]=>true
 |o::os=>ndO o && ndOs os
end
theorem vWf:∀{ds:List D} {i:Nat} {d:D},ndDs ds=true->ds[i]?=some d->ndD d=true
 |[],i,d,h,e=>by simp at e
 | x::ds,0,d,h,e=>by
   rw[ndDs,aF]at h;cases e;exact h.1
 | x::ds,i + 1,d,h,e=>by
   rw[ndDs,aF]at h;exact vWf h.2 (by simpa using e)
noncomputable def isDK:HO->Prop
 |.dK _=>True
 |.dT _=>True
 |_=>False
section
variable{K:aQ}{c:Nat->aV}{F F' H H' :Hp}
theorem NdAt.nd'(k:∀a o,F a=some o->¬isDK o->F' a=some o){p:aV}(h:NdAt K c F p kd vs)(hk:∀ks,kd≠ .dct ks)(hk' :∀ks,kd≠ .dcT ks):NdAt K c F' p kd vs:=by
 cases kd with
 | lst=>
   rcases h with(h|⟨o,h⟩)|h
   ·exact .inl (.inl (k _ _ h fun z=>z))
   ·exact .inl (.inr ⟨o,k _ _ h fun z=>z⟩)
   ·exact .inr h
 | tup=>
   rcases h with(h|⟨o,h⟩)|h
   ·exact .inl (.inl (k _ _ h fun z=>z))
   ·exact .inl (.inr ⟨o,k _ _ h fun z=>z⟩)
   ·exact .inr h
 |dct ks=>grind
 |dcT ks=>grind
 |obj C fs=>obtain⟨a,dx,b⟩:=h;exact⟨a,dx,k _ _ b fun z=>z⟩
 | exc C fs=>
   obtain⟨a,ox,b,d⟩:=h;refine⟨a,ox,k _ _ b fun z=>z,?_⟩;cases ox with
   |none=>exact d
   |some dx=>exact k _ _ d fun z=>z
theorem DAt.nd'(k:∀a o,F a=some o->¬isDK o->F' a=some o){d:D}(h:DAt K c F v d)(hf:ndD d=true):DAt K c F' v d:=by
 induction h with
 |non=>exact .non
 |int i=>exact .int i
 |str i=>exact .str i
 |bl i=>exact .bl i
 |fn i=>exact .fn i
 | @nd p kd vs ds h l r ih=>
   have hk:(∀ks,kd≠ .dct ks)/\(∀ks,kd≠ .dcT ks)/\ndDs ds=true:=by
    cases kd with
    |lst=>rw[ndD]at hf <;> simp_all
    |tup=>rw[ndD]at hf <;> simp_all
    |dct ks=>simp[ndD]at hf
    |dcT ks=>simp[ndD]at hf
    |obj C fs=>rw[ndD]at hf <;> simp_all
    |exc C fs=>rw[ndD]at hf <;> simp_all
   exact .nd (h.nd' k hk.1 hk.2.1) l fun i v d a b=>ih i v d a b (vWf hk.2.2 b)
mutual
theorem OAt.nd'(k:∀a o,F a=some o->¬isDK o->F' a=some o):∀{o:O} {v:V} {Z:Fp},ndO o=true->OAt K c F H o v Z->OAt K c F' H o v Z
 | .fz d,v,Z,hf,h=>by
   rw[OAt.fz]at h⊢;rw[ndO]at hf;exact⟨h.1.nd' k hf,h.2⟩
 | .ow kd os,v,Z,hf,h=>by
   rw[OAt.ow]at h⊢;rw[ndO]at hf;obtain⟨p,vs,Z',a,b,c,d⟩:=h;exact⟨p,vs,Z',a,b,OsAt.nd' k hf c,d⟩
theorem OsAt.nd'(k:∀a o,F a=some o->¬isDK o->F' a=some o):∀{os:List O} {vs:List V} {Z:Fp},ndOs os=true->OsAt K c F H os vs Z->OsAt K c F' H os vs Z
 |[],vs,Z,hf,h=>by rw[OsAt.nil]at h⊢;exact h
 | o::os,vs,Z,hf,h=>by
   rw[OsAt.cons]at h⊢;rw[ndOs,aF]at hf;obtain⟨v,r,Z1,Z2,a,b,c,d⟩:=h;exact⟨v,r,Z1,Z2,a,OAt.nd' k hf.1 b,OsAt.nd' k hf.2 c,d⟩
end
end
noncomputable def dcFz:O->Bool
 | .ow (.dct _) os=>os.all fun o=>match o with
   |.fz _=>true
   |_=>false
 |_=>false
theorem zKx{K:aQ}{F:Hp}{o:O}(h:OAt K c F H o v Z)(e:dcFz o=true):∀a,Z a≠0->∃ho,H a=some ho/\isDK ho:=by
 unfold dcFz at e;split at e
 ·rename_i ks os;obtain⟨p,vs,Z',rfl,b,cc,d⟩:=h;have key:∀{os:List O} {vs:List V} {Z:Fp},(os.all fun o=>match o with|.fz _=>true|_=>false)=true->OsAt K c F H os vs Z->∀a,Z a=0:=fun {os}=>by
   induction os with
   |nil=>intro vs Z _ h;exact h.2
   | cons o os ih=>
     intro vs Z hf h;rw[List.all_cons,aF]at hf;obtain⟨v,r,Z1,Z2,_,b,cc,d⟩:=h;cases o with
     |ow _ _=>cases hf.1
     |fz x=>rw[OAt.fz]at b;intro a;rw[d,b.2,ih hf.2 cc]
  intro a z;have z0:=key e cc a;by_cases y:a=p
  ·subst y;exact⟨_,b.2.2,trivial⟩
  ·rw[d,xQ y,z0]at z;exact absurd rfl z
 ·cases e
inductive Am where
 |v (s:SV)|b (s:SP)|io (i:Nat)
noncomputable def pIo(i:Nat):SP:=fun env=>match env[i]? with
 |some (.s _ _)=>some (.p i [])
 |_=>none
noncomputable def Am.o:Am->Oe
 |.v s=>.v s
 |.b s=>.p s
 |.io i=>.p (pIo i)
noncomputable def wC:List Am->List Hn->List Nat
 |.io _::as,.p j _::hs=>j::wC as hs
 |_::as,_::hs=>wC as hs
 |_,_=> []
noncomputable def yP:List Nat->Ev->Option (List O×Ev)
 |[],env=>some ([],env)
 | j::js,env=>match env[j]? with
   |some (.s _ o)=>(yP js (env.set j .un)).bind fun q=>some (o::q.1,q.2)
   |_=>none
noncomputable def flag(env:Ev)(j:Nat):Bool:=match env[j]? with
 |some (.s io _)=>io
 |_=>false
noncomputable def putS(e1:Ev):List Nat->List O->Ev->Ev
 |j::js,o::os,env=>putS e1 js os (env.set j (.s (flag e1 j) o))
 |_,_,env=>env
noncomputable def getL:List Nat->List O->Nat->Option O
 |j::js,o::os,i=>if j=i then some o else getL js os i
 |_,_,_=>none
noncomputable def jN(ls:List Nat)(lo:List O):List Am->List Hn->List O->Option Ev
 |[],[],_=>some []
 |.v _::as,.d x::hs,os=>(jN ls lo as hs os).bind fun r=>some (.s false (.fz x)::r)
 |.b _::as,.d x::hs,os=>(jN ls lo as hs os).bind fun r=>some (.s false (.fz x)::r)
 |.b _::as,.p i π::hs,os=>(getL ls lo i).bind fun o0=>(getP o0 π).bind fun o=>(jN ls lo as hs os).bind fun r=>some (.s false (.fz (fzO o))::r)
 |.io _::as,.p _ []::hs,o::os=>(jN ls lo as hs os).bind fun r=>some (.s true o::r)
 |_,_,_=>none
noncomputable def zI:List Am->List Hn->List Nat
 |.b _::as,.p i _::hs=>cond ((zI as hs).contains i) (zI as hs) (i::zI as hs)
 |_::as,_::hs=>zI as hs
 |_,_=> []
noncomputable def qV5:List Am->Ev->Option (List O)
 |[],[]=>some []
 |.io _::as,.s true o::e=>(qV5 as e).bind fun r=>some (o::r)
 |.io _::_,_::_=>none
 |_::as,_::e=>qV5 as e
 |_,_=>none
noncomputable def yM:List Am->List V->List V
 |.io _::as,u::us=>u::yM as us
 |_::as,_::us=>yM as us
 |_,_=> []
section
variable{K:aQ}{c:Nat->aV}{F F' H H' :Hp}
theorem qKt:∀{js:List Nat} {env envR:Ev} {os:List O} {σ:L2.St} {W:Fp},SlAt K c F H env σ W->yP js env=some (os,envR)->∃vs Wc R,js.map (fun j=>σ[j]?)=vs.map (fun v=>some (some v))/\OsAt K c F H os vs Wc/\SlAt K c F H envR σ R/\(∀a,W a=Wc a+R a)/\
  js.Nodup/\(∀j∈js,envR[j]?=some .un)/\(∀j,j∉js->envR[j]?=env[j]?)/\envR.length=env.length
 | [],env,envR,os,σ,W,h,e=>by
   cases e;exact⟨[],fun _=>0,W,rfl,OsAt.nil.mpr ⟨rfl,fun _=>rfl⟩,h,fun a=>by(try dsimp only);omega,List.nodup_nil,fun _ z=>by simp at z,fun _ _=>rfl,rfl⟩
 | j::js,env,envR,os,σ,W,h,e=>by
   simp only[yP]at e;cases e0:env[j]? with
   |none=>rw[e0]at e;cases e
   | some s=>
     rw[e0]at e;cases s with
     |un=>cases e
     | s io o=>
       obtain⟨q,e1,e2⟩:=bnd e;cases e2;obtain⟨x,Z1,R1,h1,h2,h3,h4⟩:=h.focus e0;cases x with
       |none=>exact h2.elim
       | some v=>
         have h5:=h4 F H .un (some v) (fun _=>0) R1 (Same.refl _) (fun _ _=>rfl) (fun _=>rfl) fun a=>by(try dsimp only);omega
         rw[yS h1]at h5;obtain⟨vs,Wc,R,a1,a2,a3,a4,a5,a6,a7,a8⟩:=qKt h5 e1;have hj:j<env.length:=(aU.mp e0).1;have nj:j∉js:=fun z=>by
          have key:∀{js:List Nat} {env:Ev} {q:List O×Ev},env[j]?=some .un ->j∈js->yP js env=some q->False:=by
           intro js;induction js with
           |nil=>intro env q _ z;simp at z
           | cons i is ih=>
             intro env q hu z ht;simp only[yP]at ht;by_cases hi:i=j
             ·subst hi;rw[hu]at ht;cases ht
             ·rcases bV.mp z with z | z
              ·exact hi z.symm
              ·cases e3:env[i]? with
               |none=>rw[e3]at ht;cases ht
               | some s=>
                 rw[e3]at ht;cases s with
                 |un=>cases ht
                 | s io o=>
                   obtain⟨q',e4,_⟩:=bnd ht;exact ih (by rw[bZ hi];exact hu) z e4
          exact key (dM hj) z e1
         refine⟨v::vs,fun a=>Z1 a+Wc a,R,by rw[bX,bX,h1,a1],OsAt.cons.mpr ⟨v,vs,Z1,Wc,rfl,h2,a2,fun _=>rfl⟩,a3,fun a=>by rw[h3,a4];(try dsimp only);omega,dR.mpr ⟨nj,a5⟩,fun i hi=>?_,fun i hi=>?_,by rw[a8,cW]⟩
         ·rcases bV.mp hi with rfl | hi
          ·rw[a7 i nj,dM hj]
          ·exact a6 i hi
         ·rw[a7 i fun z=>hi (aB _ z),bZ fun z=>hi (by rw[z];exact aA)]
theorem vZk{e1:Ev}:∀{js:List Nat} {os:List O} {vs:List V} {env:Ev} {σ:L2.St} {R Wc Y:Fp},SlAt K c F H env σ R->js.Nodup->(∀j∈js,env[j]?=some .un)->js.map (fun j=>σ[j]?)=vs.map (fun v=>some (some v))->OsAt K c F H os vs Wc->(∀a,Y a=R a+Wc a)->SlAt K c F H (putS e1 js os env) σ Y
 | [],os,vs,env,σ,R,Wc,Y,h,_,_,e,k,y=>by
   cases vs with
   |cons v vs=>cases e
   | nil=>
     cases os with
     |cons o os=>rw[OsAt.cons]at k;obtain⟨_,_,_,_,z,_⟩:=k;cases z
     | nil=>
       exact h.cast fun a=>by rw[y,k.2];omega
 | j::js,os,vs,env,σ,R,Wc,Y,h,hn,hu,e,k,y=>by
   cases vs with
   |nil=>cases e
   | cons v vs=>
     rw[bX,bX,List.cons.injEq]at e;cases os with
     |nil=>rw[OsAt.nil]at k;cases k.1
     | cons o os=>
       obtain⟨v',r,Z1,Z2,z,k1,k2,k3⟩:=k;cases z;rw[dR]at hn;obtain⟨x,Z0,R0,h1,h2,h3,h4⟩:=h.focus (hu j aA);have z0:∀a,Z0 a=0:=h2;have hx:x=some v:=by rw[e.1]at h1;exact(Option.some.inj h1).symm
       subst hx;have h5:=h4 F H (.s (flag e1 j) o) (some v) Z1 (fun a=>Z1 a+R a) (Same.refl _) (fun _ _=>rfl) k1 fun a=>by rw[h3,z0];omega
       rw[yS h1]at h5;simp only[putS];exact vZk h5 hn.2 (fun i hi=>by rw[bZ fun z=>hn.1 (by rw[z];exact hi)];exact hu i (aB _ hi)) e.2 k2 fun a=>by rw[y,k3];omega
theorem qKx{e1:Ev}:∀{js:List Nat} {os:List O} {env:Ev} {i:Nat} {o:O},(putS e1 js os env)[i]?=some (.s true o)->(i∈js/\flag e1 i=true)\/env[i]?=some (.s true o)
 |[],os,env,i,o,h=>.inr (by simpa[putS] using h)
 |j::js,[],env,i,o,h=>.inr (by simpa[putS] using h)
 | j::js,o' ::os,env,i,o,h=>by
   simp only[putS]at h;rcases qKx h with⟨h1,h2⟩|h1
   ·exact .inl ⟨aB _ h1,h2⟩
   ·by_cases z:j=i
    ·subst z;rw[eZ]at h1;simp only[if_true]at h1;split at h1
     ·have:=Option.some.inj h1;rw[Slot.s.injEq]at this;exact .inl ⟨aA,this.1⟩
     ·cases h1
    ·rw [bZ z] at h1;exact .inr h1
theorem qKw{e1:Ev}:∀{js:List Nat} {os:List O} {env:Ev},(putS e1 js os env).length =env.length
 |[],os,env=>by simp[putS]
 |j::js,[],env=>by simp[putS]
 |j::js,o' ::os,env=>by simp only[putS];rw[qKw,cW]
theorem qY0{u:V}{x:D}(h:DAt K c F u x):jO K c F H (.s io (.fz x)) (some u) (fun _=>0):=by
 show OAt K c F H (.fz x) u (fun _=>0);rw[OAt.fz];grind
theorem vKu:∀{ls:List Nat} {lo:List O} {vs:List V} {L:Fp} {i:Nat} {o:O},OsAt K c F H lo vs L->ls.map (fun j=>σ[j]?)=vs.map (fun v=>some (some v))->getL ls lo i=some o->∃(v:V) (Z R:Fp),σ[i]?=some (some v)/\OAt K c F H o v Z/\∀a,L a=Z a+R a
 |[],lo,vs,L,i,o,h,e,g=>by cases lo <;> simp[getL]at g
 |j::js,[],vs,L,i,o,h,e,g=>by simp[getL]at g
 |j::js,o0::lo,[],L,i,o,h,e,g=>by cases e
 | j::js,o0::lo,v::vs,L,i,o,h,e,g=>by
   rw[bX,bX,List.cons.injEq]at e;obtain⟨v',r,Z1,Z2,z,b,cc,d⟩:=h;cases z;simp only[getL]at g;by_cases q:j=i
   ·rw [if_pos q] at g;cases g;exact⟨v,Z1,Z2,by rw[←q];exact e.1,b,d⟩
   ·rw [if_neg q] at g;obtain⟨w,Z,R,h1,h2,h3⟩:=vKu cc e.2 g;exact⟨w,Z,fun a=>Z1 a+R a,h1,h2,fun a=>by rw[d,h3];(try dsimp only);omega⟩
theorem mkArgs_at{lo:List O}{lv:List V}{L:Fp}{Fc:Hp}(ol:OsAt K c F H lo lv L)(el:ls.map (fun j=>σ[j]?)=lv.map (fun v=>some (some v)))(tb:TabF c Fc)(lk:∀a,L a≠0->Fc a=H a)(sm:Same F Fc):∀{as:List Am} {hs:List Hn} {us:List V} {os:List O} {args:Ev} {Wc:Fp},wH K c F σ H us hs->OsAt K c F H os (yM as us) Wc->jN ls lo as hs os=some args->
  SlAt K c Fc H args (us.map some) Wc/\args.length=as.length
 | [],[],us,os,args,Wc,hh,ho,e=>by
   cases e;cases us with
   |cons u us=>exact hh.elim
   | nil=>
     cases os with
     |cons o os=>rw[OsAt.cons]at ho;obtain⟨_,_,_,_,z,_⟩:=ho;cases z
     |nil=>rw[OsAt.nil]at ho;exact⟨⟨⟨rfl,tb⟩,ho.2⟩,rfl⟩
 | .v s::as, .d x::hs,us,os,args,Wc,hh,ho,e=>by
   cases us with
   |nil=>exact hh.elim
   | cons u us=>
     obtain⟨r,e1,e2⟩:=bnd e;cases e2;obtain⟨h1,h2⟩:=mkArgs_at ol el tb lk sm (as:=as) (hs:=hs) hh.2 ho e1;exact⟨⟨some u,us.map some,fun _=>0,Wc,rfl,qY0 (DAt.same sm hh.1),h1,fun a=>by(try dsimp only);omega⟩,by rw[aW,aW,h2]⟩
 | .b s::as, .d x::hs,us,os,args,Wc,hh,ho,e=>by
   cases us with
   |nil=>exact hh.elim
   | cons u us=>
     obtain⟨r,e1,e2⟩:=bnd e;cases e2;obtain⟨h1,h2⟩:=mkArgs_at ol el tb lk sm (as:=as) (hs:=hs) hh.2 ho e1;exact⟨⟨some u,us.map some,fun _=>0,Wc,rfl,qY0 (DAt.same sm hh.1),h1,fun a=>by(try dsimp only);omega⟩,by rw[aW,aW,h2]⟩
 | .b s::as, .p i π::hs,us,os,args,Wc,hh,ho,e=>by
   cases us with
   |nil=>exact hh.elim
   | cons u us=>
     obtain⟨o0,e0,e⟩:=bnd e;obtain⟨o,e5,e⟩:=bnd e;obtain⟨r,e1,e2⟩:=bnd e;cases e2;obtain⟨h1,h2⟩:=mkArgs_at ol el tb lk sm (as:=as) (hs:=hs) hh.2 ho e1;have hw:vN H σ i π=some u:=hh.1;have dd:DAt K c Fc u (fzO o):=by
      obtain⟨v,Z,R,g1,g2,g3⟩:=vKu ol el e0;obtain⟨v1,Z1,R1,k1,k2,k3,k4⟩:=OAt.focus g2 e5;have:v1=u:=by
       unfold vN at hw;rw[g1]at hw;exact Option.some.inj (k1.symm.trans hw)
      subst this;exact k2.dat sm fun a z=>lk a (by rw[g3,k3];omega)
     exact⟨⟨some u,us.map some,fun _=>0,Wc,rfl,qY0 dd,h1,fun a=>by(try dsimp only);omega⟩,by rw[aW,aW,h2]⟩
 | .io i::as, .p j []::hs,us,os,args,Wc,hh,ho,e=>by
   cases us with
   |nil=>exact hh.elim
   | cons u us=>
     cases os with
     |nil=>cases e
     | cons o os=>
       obtain⟨r,e1,e2⟩:=bnd e;cases e2;rw[show yM (.io i::as) (u::us)=u::yM as us from rfl,OsAt.cons]at ho;obtain⟨v,r',Z1,Z2,z,k1,k2,k3⟩:=ho;cases z;obtain⟨h1,h2⟩:=mkArgs_at ol el tb lk sm (as:=as) (hs:=hs) hh.2 k2 e1;exact⟨⟨some u,us.map some,Z1,Z2,rfl,k1.keep sm fun _ _=>rfl,h1,k3⟩,by rw[aW,aW,h2]⟩
 |.v _::_,.p _ _::_,_,_,_,_,_,_,e=>by cases e
 |.io _::_,.d _::_,_,_,_,_,_,_,e=>by cases e
 |.io _::_,.p _ (_::_)::_,_,_,_,_,_,_,e=>by cases e
 |[],_::_,_,_,_,_,_,_,e=>by cases e
 |.v _::_,[],_,_,_,_,_,_,e=>by cases e
 |.b _::_,[],_,_,_,_,_,_,e=>by cases e
 |.io _::_,[],_,_,_,_,_,_,e=>by cases e
theorem outOs_at:∀{as:List Am} {e:Ev} {us:List V} {os:List O} {W:Fp},SlAt K c F H e (us.map some) W->qV5 as e=some os->∃W',OsAt K c F H os (yM as us) W' /\∀a,W' a<=W a
 | [],[],us,os,W,h,e=>by
   cases e;have:us=[]:=by simpa using h.1.1
   exact⟨fun _=>0,OsAt.nil.mpr ⟨rfl,fun _=>rfl⟩,fun _=>dW _⟩
 | .io i::as, .s true o::e,us,os,W,h,eq=>by
   obtain⟨r,e1,e2⟩:=bnd eq;cases e2;obtain⟨x,t,Z1,Z2,z,b,cc,d⟩:=h;cases us with
   |nil=>cases z
   | cons u us=>
     rw[bX,List.cons.injEq]at z;obtain⟨z1,z2⟩:=z;subst z1 z2;obtain⟨W',h1,h2⟩:=outOs_at cc e1;exact⟨fun a=>Z1 a+W' a,OsAt.cons.mpr ⟨u,_,Z1,W',rfl,b,h1,fun _=>rfl⟩,fun a=>by have:=h2 a;rw[d];(try dsimp only);omega⟩
 | .v _::as,s::e,us,os,W,h,eq=>by
   obtain⟨x,t,Z1,Z2,z,b,cc,d⟩:=h;cases us with
   |nil=>cases z
   | cons u us=>
     rw[bX,List.cons.injEq]at z;obtain⟨z1,z2⟩:=z;subst z2;obtain⟨W',h1,h2⟩:=outOs_at (as:=as) cc (by simpa[qV5] using eq);exact⟨W',h1,fun a=>by have:=h2 a;rw[d];omega⟩
 | .b _::as,s::e,us,os,W,h,eq=>by
   obtain⟨x,t,Z1,Z2,z,b,cc,d⟩:=h;cases us with
   |nil=>cases z
   | cons u us=>
     rw[bX,List.cons.injEq]at z;obtain⟨z1,z2⟩:=z;subst z2;obtain⟨W',h1,h2⟩:=outOs_at (as:=as) cc (by simpa[qV5] using eq);exact⟨W',h1,fun a=>by have:=h2 a;rw[d];omega⟩
 |.io _::_,.un ::_,_,_,_,_,eq=>by cases eq
 |.io _::_,.s false _::_,_,_,_,_,eq=>by cases eq
 |[],_::_,_,_,_,_,eq=>by cases eq
 |.v _::_,[],_,_,_,_,eq=>by cases eq
 |.b _::_,[],_,_,_,_,eq=>by cases eq
 |.io _::_,[],_,_,_,_,eq=>by cases eq
theorem yT{lo:List O}:∀{as:List Am} {hs:List Hn} {us:List V} {os:List O} {args:Ev},wH K c F σ H us hs->jN ls lo as hs os=some args->(wC as hs).map (fun j=>σ[j]?)=(yM as us).map (fun v=>some (some v))
 |[],[],us,os,args,hh,_=>by cases us <;> rfl
 | .io i::as, .p j []::hs,us,os,args,hh,e=>by
   cases us with
   |nil=>exact hh.elim
   | cons u us=>
     cases os with
     |nil=>cases e
     | cons o os=>
       obtain⟨r,e1,_⟩:=bnd e;have w:vN H σ j []=some u:=hh.1;have w2:σ[j]?=some (some u):=by
        unfold vN at w;cases e:σ[j]? with
        |none=>grind
        | some y=>
          rw[e]at w;cases y with
          |none=>cases w
          | some v=>have:v=u:=by cases v <;> simpa [walk] using w
                    rw[this]
       simp only[wC,yM,bX];rw[w2,yT hh.2 e1]
 | .v s::as, .d x::hs,us,os,args,hh,e=>by
   cases us with
   |nil=>exact hh.elim
   | cons u us=>
     obtain⟨r,e1,_⟩:=bnd e;simp only[wC];exact yT hh.2 e1
 | .b s::as, .d x::hs,us,os,args,hh,e=>by
   cases us with
   |nil=>exact hh.elim
   | cons u us=>
     obtain⟨r,e1,_⟩:=bnd e;simp only[wC];exact yT hh.2 e1
 | .b s::as, .p i π::hs,us,os,args,hh,e=>by
   cases us with
   |nil=>exact hh.elim
   | cons u us=>
     obtain⟨o0,_,e⟩:=bnd e;obtain⟨o,_,e⟩:=bnd e;obtain⟨r,e1,_⟩:=bnd e;simp only[wC];exact yT hh.2 e1
 |.v _::_,.p _ _::_,_,_,_,_,e=>by cases e
 |.io _::_,.d _::_,_,_,_,_,e=>by cases e
 |.io _::_,.p _ (_::_)::_,_,_,_,_,e=>by cases e
 |[],_::_,_,_,_,_,e=>by cases e
 |.v _::_,[],_,_,_,_,e=>by cases e
 |.b _::_,[],_,_,_,_,e=>by cases e
 |.io _::_,[],_,_,_,_,e=>by cases e
end
noncomputable def vV8(lo:List O)(r:O)(os:List O):Bool:=lo.isEmpty || (vJm r && flatOs os) || (lo.all dcFz && ndO r && ndOs os)
noncomputable def qV7(F:Fn)(as:List Am)(hs:List Hn)(env:Ev):Res (O×Ev):=(opt (yP (zI as hs) env)).bind fun t0=>(opt (yP (wC as hs) t0.2)).bind fun t=>(opt (jN (zI as hs) t0.1 as hs t.1)).bind fun args=>(F args).bind fun q=>(opt (qV5 as q.2)).bind fun os=>
 cond (vV8 t0.1 q.1 os) (.ok (q.1,putS env (zI as hs) t0.1 (putS env (wC as hs) os t.2))) .no
noncomputable def qP(F:Fn)(as:List Am):SE:=fun env=>(evOs (as.map Am.o) env).bind fun r=>qV7 F as r.1 r.2
theorem vKk{e1:Ev}:∀{js:List Nat} {os:List O} {env:Ev} {i:Nat},i∉js->(putS e1 js os env)[i]?=env[i]?
 |[],os,env,i,_=>by cases os <;> rfl
 |j::js,[],env,i,_=>rfl
 | j::js,o::os,env,i,h=>by
   simp only[putS];rw[vKk fun z=>h (aB _ z),bZ fun z=>h (by rw[z];exact aA)]
theorem qJm{K:aQ}{hs:List Hn}{F:Fn}(cf:Cf K c env σ H B W)(hh:wH K c (hide (hd2 B W) H) σ H us hs)(hw:(qV7 F as hs env).wp (fun r=>∀u H' W' Z,Got K c env σ H B W r.2 H' W' Z r.1 u->Q u H') (erP K c E H B W)):spD K c as.length F us H Q E:=by
 obtain⟨t0,e0,w0⟩:=qN hw
 obtain⟨t,e1,w1⟩:=qN w0
 obtain⟨args,e2,w2⟩:=qN w1
 obtain⟨lo,eL⟩:=t0
 obtain⟨os,eR⟩:=t
 obtain⟨lv,L,R1,l1,l2,l3,l4,l5,l6,l7,l8⟩:=qKt cf.at_ e0
 obtain⟨vs,Wc,R,a1,a2,a3,a4',a5,a6,a7,a8⟩:=qKt l3 e1
 have a4:∀a,W a=L a+(Wc a+R a):=fun a=>by rw[l4,a4']
 have hv:=yT hh e2
 have hvs:vs=yM as us:=by
  have e:vs.map (fun v=>some (some v))=(yM as us).map (fun v=>some (some v)):=a1.symm.trans hv
  exact List.map_inj_right (f:=fun v:V=>some (some v)) (fun x y h=>Option.some.inj (Option.some.inj h)) |>.mp e
 subst hvs
 have nd:∀a,B a+(L a+(Wc a+R a))<=1:=fun a=>by have:=cf.nd a;rw[a4]at this;exact this
 let Bc:Fp:=fun a=>B a+R a
 have bc:∀a,Bc a=B a+R a:=fun _=>rfl
 have smc:Same (hide (hd2 B W) H) (hide (hd2 Bc Wc) H):=jE fun a z=>by have:=a4 a;have:=bc a;dsimp only[hd2]at *;omega
 have Lv:∀a,L a≠0->hide (hd2 Bc Wc) H a=H a:=fun a q=>zZ (by have:=nd a;have:=bc a;dsimp only[hd2];omega)
 obtain⟨sA,la⟩:=mkArgs_at l2 l1 (cf.at_.tab.same smc) Lv smc (as:=as) (hs:=hs) hh a2 e2
 have hbR:∀a,B a+(L a+R a)≠0->∃o,H a=some o/\Hb o:=fun a z=>cf.hbs (by rw[a4];omega)
 have cfc:Cf K c args (us.map some) H Bc Wc:=⟨sA,fun a=>by have:=nd a;rw[bc];omega,fun a z=>hbR a (by rw[bc]at z;omega)⟩
 refine⟨args,Bc,Wc,la,cfc,wp_mono (fun q w3 v H' W' Z g=>?_) (fun C fs he H2 Y ox sx er=>?_) (qB.mp w2)⟩
 rotate_left
 · -- an error:what lies aside stays
   have eq:hide (hd2 B fun a=>Y a+R a) H2=hide (hd2 Bc Y) H2:=z9 fun a=>by have:=bc a;dsimp only[hd2];omega
   exact he H2 (fun a=>Y a+R a) ox ⟨by rw[eq];exact smc.trans sx.same,fun a z=>sx.by_ a (by rw[bc];omega),sx.dom⟩ (by rw[eq];exact er)
 obtain⟨os',e3,w4⟩:=qN w3
 obtain⟨hf,w5⟩:=zV w4
 have cellR:∀a,R a≠0->H' a=H a:=fun a z=>g.st.by_ a (by rw[bc];omega)
 have cellL:∀a,L a≠0->H' a=H a:=fun a z=>by
  obtain⟨o,h1,_⟩:=hbR a (by omega)
  have h2:=g.st.same a o (by rw[Lv a z];exact h1)
  rw[(yX h2).2,h1]
 have cellB:∀a,B a≠0->H' a=H a:=fun a z=>g.st.by_ a (by rw[bc];omega)
 obtain⟨W2,b1,b2⟩:=outOs_at g.cf.at_ e3
 have newL:∀a,L a≠0->W' a+Z a=0:=fun a z=>by
  by_cases q0:W' a+Z a=0
  ·exact q0
  ·rcases g.st.new a (by dsimp only [hd2];omega) with q1 | q1
   ·have:=nd a;omega
   ·obtain⟨o,h1,_⟩:=hbR a (by omega);rw[q1]at h1;cases h1
 have nd4:∀a,B a+Z a+(L a+(R a+W2 a))<=1:=fun a=>by
  have n1:=g.cf.nd a
  have n2:=b2 a
  have n3:=nd a
  have n4:=bc a
  dsimp only[hd2]at n1
  by_cases z:L a=0
  ·omega
  ·have:=newL a z;omega
 have sm4:Same (hide (hd2 B W) H) (hide (hd2 (hd2 B Z) (fun a=>L a+(R a+W2 a))) H'):=fun a o h=>by
  obtain⟨z1,z2⟩:=yX h
  obtain⟨z3,z4⟩:=yX (g.st.same a o (smc a o h))
  rw[zZ]
  ·exact z4
  ·have:=a4 a;have:=b2 a
   dsimp only[hd2]at *
   omega
 have kF:∀(P:HO->Prop),(∀a,L a≠0->∃o,H a=some o/\P o)->∀a o,hide (hd2 (hd2 Bc Z) W') H' a=some o->¬P o->hide (hd2 (hd2 B Z) (fun a=>L a+(R a+W2 a))) H' a=some o:=fun P hP a o q1 q2=>by
  obtain⟨z1,z2⟩:=yX q1
  rw[zZ]
  ·exact z2
  ·have:=b2 a;have:=bc a
   by_cases z:L a=0
   ·dsimp only[hd2]at *;omega
   ·obtain⟨o2,h1,h2⟩:=hP a z
    rw[cellL a z,h1]at z2
    cases z2
    exact absurd h2 q2
 have fin:OAt K c (hide (hd2 (hd2 B Z) (fun a=>L a+(R a+W2 a))) H') H' q.1 v Z/\OsAt K c (hide (hd2 (hd2 B Z) (fun a=>L a+(R a+W2 a))) H') H' os' (yM as us) W2:=by
  unfold vV8 at hf
  rw[Bool.or_eq_true,Bool.or_eq_true]at hf
  rcases hf with(hf|hf)|hf
  ·have hl0:lo=[]:=List.isEmpty_iff.mp hf
   subst hl0
   rw[OsAt.nil]at l2
   have sm:Same (hide (hd2 (hd2 Bc Z) W') H') (hide (hd2 (hd2 B Z) (fun a=>L a+(R a+W2 a))) H'):=jE fun a z=>by have:=b2 a;have:=l2.2 a;have:=bc a;dsimp only[hd2]at *;omega
   exact⟨g.at_.keep sm fun _ _=>rfl,b1.keep sm fun _ _=>rfl⟩
  ·rw [aF] at hf
   have k:=kF Hb fun a z=>by obtain⟨o,h1,h2⟩:=hbR a (by omega);exact⟨o,h1,h2⟩
   exact⟨g.at_.flat k hf.1,b1.flat k hf.2⟩
  ·rw [aF,aF] at hf
   have hP:∀{lo:List O} {lv:List V} {L:Fp},lo.all dcFz=true->OsAt K c (hide (hd2 B W) H) H lo lv L->∀a,L a≠0->∃o,H a=some o/\isDK o:=fun {lo}=>by
    induction lo with
    |nil=>intro lv L _ h a z;rw[OsAt.nil]at h;exact absurd (h.2 a) z
    | cons o lo ih=>
      intro lv L hl h a z
      rw[List.all_cons,aF]at hl
      rw[OsAt.cons]at h
      obtain⟨v,r,Z1,Z2,_,p1,p2,p3⟩:=h
      by_cases y:Z1 a=0
      ·exact ih hl.2 p2 a (by rw[p3]at z;omega)
      ·exact zKx p1 hl.1 a y
   have k:=kF isDK (hP hf.1.1 l2)
   exact⟨g.at_.nd' k hf.1.2,b1.nd' k hf.2⟩
 have sl3:=vZk (e1:=env) (a3.keep sm4 cellR) a5 a6 a1 fin.2 (Y:=fun a=>R a+W2 a) fun _=>rfl
 have sl4:=vZk (e1:=env) sl3 l5 (fun j hj=>by
  by_cases z:j∈wC as hs
  · -- taken twice:not so
    exfalso
    have:eL[j]?=some .un :=l6 j hj
    have key:∀{js:List Nat} {env:Ev} {q:List O×Ev},env[j]?=some .un ->j∈js->yP js env=some q->False:=by
     intro js
     induction js with
     |nil=>intro env q _ z;simp at z
     | cons i is ih=>
       intro env q hu z ht
       simp only[yP]at ht
       by_cases hi:i=j
       ·subst hi;rw[hu]at ht;cases ht
       ·rcases bV.mp z with z | z
        ·exact hi z.symm
        ·cases e3:env[i]? with
         |none=>rw[e3]at ht;cases ht
         | some s=>
           rw[e3]at ht
           cases s with
           |un=>cases ht
           | s io o=>
             obtain⟨q',e4,_⟩:=bnd ht
             exact ih (by rw[bZ hi];exact hu) z e4
    exact key this z e1
  ·rw[vKk z,a7 j z];exact l6 j hj) l1 (l2.keep sm4 cellL) (Y:=fun a=>L a+(R a+W2 a)) fun a=>by(try dsimp only);omega
 refine w5 v H' (fun a=>L a+(R a+W2 a)) Z ⟨⟨?_,cellB,fun a z=>?_,g.st.dom,fun a z1 z2=>?_,fun i o h=>?_,by rw[qKw,qKw,a8,l8]⟩,⟨sl4,fun a=>nd4 a,fun a z=>?_⟩,fin.1⟩
 ·rw [show hide (hd2 B (hd2 (fun a=>L a + (R a + W2 a)) Z)) H' =hide (hd2 (hd2 B Z) (fun a=>L a + (R a + W2 a))) H' from z9 fun a=>by dsimp only [hd2];omega]
  exact sm4
 ·by_cases q0:L a + R a=0
  ·rcases g.st.new a (by have:=b2 a;dsimp only [hd2] at *;omega) with q1 | q1
   ·exact .inl (by rw[a4];omega)
   ·exact .inr q1
  ·exact .inl (by rw[a4];omega)
 ·by_cases q1:L a=0
  ·by_cases q0:R a=0
   ·exact g.st.pin a (by rw[a4]at z1;omega) (by have:=b2 a;dsimp only[hd2]at *;omega)
   ·exact .of (cellR a q0)
  ·exact .of (cellL a q1)
 ·refine⟨?_,rfl⟩
  have fl:flag env i=true->∃o0,env[i]?=some (.s true o0):=fun h2=>by
   unfold flag at h2
   split at h2
   ·rename_i io o' e
    rw[h2]at e
    exact⟨o',e⟩
   ·cases h2
  rcases qKx h with⟨h1,h2⟩|h1
  ·exact fl h2
  ·rcases qKx h1 with⟨h1,h2⟩ | h1
   ·exact fl h2
   ·by_cases z:i∈wC as hs
    ·rw[a6 i z]at h1;cases h1
    ·rw [a7 i z] at h1
     by_cases y:i∈zI as hs
     ·rw[l6 i y]at h1;cases h1
     ·rw[l7 i y]at h1;exact⟨o,h1⟩
 ·by_cases q0:B a=0
  ·exact g.cf.hb a (by have:=bc a;dsimp only[hd2]at *;omega)
  ·rw[cellB a q0];exact cf.hb a q0
theorem vJ0{K:aQ}{F:Fn}(h:tE K c E (qP F as) σ H Q):zVw (spD K c as.length F) [] E (tOs K c E (as.map Am.o)) σ H Q:=by
 obtain⟨env,B,W,cf,w⟩:=h;refine qZg cf (qB.mp w) fun r1 w1 us H1 W1 g=>?_
 rw[bG];exact qJm g.cf g.at_ (wp_mono (fun r q v H' W' Z g2=>q v H' W' Z (g2.back g.st)) (fun _ _ he=>he.back g.st) w1)
section
variable{X:Cx}{c:Nat->aV}{E:XK}{k:Nat}{f:aV}{fd:aH}{ps:List Str}{x:Str}{p pos:Pos}{e:Expr}{es:List Expr}{F:Fn}{as:List Am}
theorem vZs(G:FnOk X.prog X.w X.K X.mg X.base (CXd X.prog X.w) k f fd ps (spD X.K c as.length F))(hr:Room k X.A)(hg:Gl X x)(hm:X.mg x=some (.ref f))(hk:cV X.K (.ref f)=true)(hb:wV X.K fd ps [])(hx:jR (CXd X.prog X.w) X E)(ha:OsD X c E (e::es) (as.map Am.o))(hdb:(x == ("__debug__":Str))=false:=by decide)(he:aX (e::es) X.env=(false,eval e X.env)::aX es X.env:=by rfl)(hpl:(cX pos (aX es X.env)).any (·.1)=false:=by rfl):
  ED X c E (.Call (.Name x p) (e::es) [] pos) (qP F as):=
 ⟨PE.imp (zYr G hr hg hm hk hb .nil hx ha.h hdb he hpl) fun _ _ _ h=>vJ0 h⟩
theorem vV(h:PE X e (tVar i)):OD X c E e (Am.io i).o :=by
 refine⟨PE.imp h fun σ H Q=>?_⟩;rintro⟨env,B,W,h1,cf,e0,q⟩;simp only[pIo]at e0;cases e1:env[i]? with
 |none=>grind
 | some s=>
   rw[e1]at e0;cases s with
   |un=>cases e0
   | s io o=>
     cases e0;obtain⟨x,Z1,R,h1,h2,h3,h4⟩:=cf.focus e1;cases x with
     |none=>exact h2.elim
     |some v=>exact⟨v,h1,q v (by show vN H σ i []=some v;unfold vN;rw[h1];simp[walk])⟩
end
noncomputable def hasF(m:Str)(fs:List Str):Bool:=fs.any fun g=>decide (m=g)
noncomputable def jQt(env:Ev)(h:Hn)(C:Nat)(m:Str):Bool:=match rsv env h with
 |some (.nd (.obj C' fs) _)=>C' == C &&!hasF m fs
 |_=>false
noncomputable def vF(C:Nat)(m:Str)(F:Fn)(a0:Am)(as:List Am):SE:=fun env=>(evO a0.o env).bind fun r0=>cond (jQt r0.2 r0.1 C m && (r0.1.st || (as.map Am.o).all Oe.isP)) ((evOs (as.map Am.o) r0.2).bind fun r=>qV7 F (a0::as) (r0.1::r.1) r.2) .no
theorem vVq{m:Str}:∀{fs:List Str} {vs:List V},hasF m fs=false->(fs.zip vs).lookup m=none
 |[],vs,_=>by simp
 |g::r,[],_=>by simp
 | g::r,v::vs,h=>by
   unfold hasF at h;rw[List.any_cons,Bool.or_eq_false_iff]at h;rw[dQ,List.lookup,show(m == g)=false from beq_eq_false_iff_ne.mpr (of_decide_eq_false h.1)];exact vVq h.2
section
variable{K:aQ}{c:Nat->aV}{E:XK}
theorem vJy{m:Str}{F:Fn}{a0:Am}(h:tE K c E (vF C m F a0 as) σ H Q):zVv (c C) m (spD K c (a0::as).length F) [] E (tO K c E a0.o) (tOs K c E (as.map Am.o)) σ H Q:=by
 obtain⟨env,B,W,cf,w⟩:=h;refine yU cf (qB.mp w) fun r0 w1 u H1 W1 g1=>?_
 obtain⟨hs,w2⟩:=zV w1;rw[aF]at hs;obtain⟨ho,hst⟩:=hs;have obj:∃a dx fs,u=.ref a/\H1 a=some (.ins (c C) dx fs)/\fs.lookup m=none:=by
  unfold jQt at ho;split at ho
  ·rename_i C' fs ds e;rw[aF,Bool.not_eq_true']at ho;obtain⟨p,vs,rfl,⟨h1,dx,h2⟩,h3⟩:=(jM g1.cf g1.at_ e).un;have:C' =C:=by simpa using ho.1
   subst this;exact⟨p,dx,_,rfl,h2,vVq ho.2⟩
  ·cases ho
 obtain⟨a,dx,fs,rfl,h2,h3⟩:=obj;refine⟨a,dx,fs,rfl,h2,h3,?_⟩;refine qZg g1.cf (wp_mono (fun _ q=>q) (fun _ _ he=>he.back g1.st) (qB.mp w2)) fun r w3 us H2 W2 g2=>?_
 rw[bG];have hh:wH K c (hide (hd2 B W2) H2) σ H2 (.ref a::us) (r0.1::r.1):=by
  refine⟨?_,g2.at_⟩;cases e:r0.1.st with
  |true=>exact g1.at_.step g2.st.same e
  | false=>
    rw[e]at hst;obtain⟨e1,e2,_⟩:=g2.pu (by simpa using hst);rw[e1,e2];exact g1.at_
 exact qJm g2.cf hh (wp_mono (fun r q v H' W' Z g=>q v H' W' Z (g.back (g1.st.trans g2.st))) (fun _ _ he=>he.back (g1.st.trans g2.st)) w3)
end
section
variable{X:Cx}{c:Nat->aV}{E:XK}{k:Nat}{f:aV}{fd:aH}{ps:List Str}{x m:Str}{p pos apos:Pos}{e o:Expr}{es:List Expr}{F:Fn}{a0:Am}{as:List Am}{C:Nat}
theorem zKt(ho:OD X c E o a0.o)(hc:Cls X.K (c C))(hm:Meth X.K (c C) m f)(G:FnOk X.prog X.w X.K X.mg X.base (CXd X.prog X.w) k f fd ps (spD X.K c (a0::as).length F))(hr:Room k X.A)(hb:wV X.K fd ps [])(hx:jR (CXd X.prog X.w) X E)(ha:OsD X c E (e::es) (as.map Am.o))(hst:aX (e::es) X.env=(false,eval e X.env)::aX es X.env:=by rfl)(hpl:(cX pos (aX es X.env)).any (·.1)=false:=by rfl)(ht:eval (.Call (.Attribute o m apos) (e::es) [] pos) X.env=(do
   let ov ←eval o X.env;standAt apos.atName;let (f,first) ←holding [ov] (getMethod ov m pl);callWith pos f first (cX pos (aX (e::es) X.env)) (backToKw pos (keywordEach [] X.env))):=by rfl):
  ED X c E (.Call (.Attribute o m apos) (e::es) [] pos) (vF C m F a0 as):=
 ⟨PE.imp (zYn ho.h hc hm G hr hb .nil hx ha.h hst hpl ht) fun _ _ _ h=>vJy h⟩
theorem zXa(ho:OD X c E o a0.o)(hc:Cls X.K (c C))(hm:Meth X.K (c C) m f)(G:FnOk X.prog X.w X.K X.mg X.base (CXd X.prog X.w) k f fd ps (spD X.K c 1 F))(hr:Room k X.A)(hb:wV X.K fd ps [])(hx:jR (CXd X.prog X.w) X E)(ht:eval (.Call (.Attribute o m apos) [] [] pos) X.env=(do
   let ov ←eval o X.env;standAt apos.atName;let (f,first) ←holding [ov] (getMethod ov m pl);callWith pos f first (cX pos (aX [] X.env)) (backToKw pos (keywordEach [] X.env))):=by rfl):
  ED X c E (.Call (.Attribute o m apos) [] [] pos) (vF C m F a0 []):=
 ⟨PE.imp (zJ5 ho.h hc hm G hr hb .nil hx ht) fun _ _ _ h=>vJy (as:=[]) h⟩
end
noncomputable def popL(env:Ev)(n:Nat):Option (O×Ev):=match env[n]? with
 |some (.s _ o)=>some (o,env.take n)
 |_=>none
noncomputable def vYs(C:Nat)(F:Fn)(as:List Am):SE:=fun env=>(evOs (as.map Am.o) env).bind fun r=>(qV7 F (.io r.2.length::as) (.p r.2.length []::r.1) (r.2 ++ [.s false (.ow (.obj C []) [])])).bind fun q=>match q.1 with
 |.fz .non =>opt (popL q.2 r.2.length)
 |_=>.no
section
variable{K:aQ}{c:Nat->aV}{E:XK}
theorem vVd(sm:Same H H'):∀{π:List Nat} {v u:V},walk H v π=some u->walk H' v π=some u
 |[],v,u,h=>by cases v <;> simpa[walk] using h
 | j::π,v,u,h=>by
   cases v with
   | ref p=>
     simp only[walk]at h⊢;cases e:H p with
     |none=>grind
     | some o=>
       rw[e]at h;rw[sm p o e];dsimp only at h⊢;cases e2:(kids o)[j]? with
       |none=>grind
       |some v=>rw[e2]at h;exact vVd sm h
   |_=>cases h
theorem wH.push{F:Hp}{y:L2.St}(sF:Same F F')(sm:Same H H'):∀{us:List V} {hs:List Hn},wH K c F σ H us hs->wH K c F' (σ ++ y) H' us hs
 |[],[],_=>trivial
 | u::us,h::hs,a=>by
   refine⟨?_,wH.push sF sm a.2⟩;cases h with
   |d x=>exact DAt.same sF a.1
   | p i π=>
     have w:vN H σ i π=some u:=a.1;show vN H' (σ ++ y) i π=some u;unfold vN at w⊢;cases e:σ[i]? with
     |none=>grind
     | some x=>
       rw[e]at w;rw[bT (aU.mp e).1,e];cases x with
       |none=>cases w
       |some v=>exact vVd sm w
 |[],_::_,a=>a.elim
 |_::_,[],a=>a.elim
theorem SlAt.pop{F:Hp}:∀{env:Ev} {σ:L2.St} {s:Slot} {x:Option V} {Z:Fp} {n:Nat},SlAt K c F H env (σ ++ [x]) Z->env[n]?=some s->n=σ.length->∃Z1 R,jO K c F H s x Z1/\SlAt K c F H (env.take n) σ R/\∀a,Z a=Z1 a+R a
 |[],σ,s,x,Z,n,h,e,hn=>by simp at e
 | s0::env,[],s,x,Z,n,h,e,hn=>by
   subst hn;obtain⟨y,r,Z1,Z2,e1,b,cc,d⟩:=h;cases e1;cases e;have:env=[]:=by
    cases env with
    |nil=>rfl
    |cons s1 env=>obtain⟨_,_,_,_,z,_⟩:=cc;cases z
   subst this;exact⟨Z1,Z2,b,⟨⟨rfl,cc.1.2⟩,cc.2⟩,d⟩
 | s0::env,y::σ,s,x,Z,n,h,e,hn=>by
   subst hn;obtain⟨y',r,Z1,Z2,e1,b,cc,d⟩:=h;cases e1;obtain⟨Z3,R,h1,h2,h3⟩:=SlAt.pop (σ:=σ) cc (by simpa using e) rfl;exact⟨Z3,fun a=>Z1 a+R a,h1,⟨_,_,Z1,R,rfl,b,h2,fun _=>rfl⟩,fun a=>by rw[d,h3];(try dsimp only);omega⟩
theorem zJm{F:Fn}(h:tE K c E (vYs C F as) σ H Q):zK8 (c C) (spD K c (as.length+1) F) [] E (tOs K c E (as.map Am.o)) σ H Q:=by
 obtain⟨env,B,W,cf,w⟩:=h;refine qZg cf (qB.mp w) fun r w1 us H1 W1 g=>?_
 intro x dx hx hdx hne;show spD K c (as.length+1) F (.ref x::(us ++ [])) _ _ E;rw[bG];have sm1:Same H1 (upd H1 dx (.own x)):=.upd hdx;have hx1:upd H1 dx (.own x) x=none:=by rw[qL fun z=>hne z.symm];exact hx
 have sm2:Same (upd H1 dx (.own x)) (upd (upd H1 dx (.own x)) x (.ins (c C) dx [])):=.upd hx1;have cf1:=g.cf.grow sm1;have gl:Got K c r.2 σ (upd H1 dx (.own x)) B W1 r.2 (upd (upd H1 dx (.own x)) x (.ins (c C) dx [])) W1 (one x) (.ow (.obj C []) ([].map .fz)) (.ref x):=Got.lay cf1 hx1 sm2 (k:=.obj C []) (vs:=[]) (ds:=[]) ⟨rfl,dx,upd_same⟩ .nil;generalize hH:upd (upd H1 dx (.own x)) x (.ins (c C) dx [])=H2 at *;have stG:Step r.2 σ H1 B W1 r.2 σ H2 (hd2 W1 (one x)):=(Step.grow g.cf sm1).trans gl.st;have lenσ:σ.length=r.2.length:=g.cf.len.symm;have hid:hide (hd2 (hd2 B (one x)) W1) H2=hide (hd2 B (hd2 W1 (one x))) H2:=z9 fun a=>by dsimp only[hd2];omega
 have cfP:Cf K c (r.2 ++ [.s false (.ow (.obj C []) [])]) (σ ++ [some (.ref x)]) H2 B (hd2 W1 (one x)):=by
  refine⟨?_,fun a=>by have:=gl.cf.nd a;dsimp only[hd2]at *;omega,fun a z=>gl.cf.hb a (by dsimp only[hd2];omega)⟩;rw[←hid];refine(gl.cf.at_.append (env' :=[.s false (.ow (.obj C []) [])]) (σ' :=[some (.ref x)]) (Z' :=one x) ⟨some (.ref x),[],one x,fun _=>0,rfl,gl.at_,⟨⟨rfl,gl.cf.at_.tab⟩,fun _=>rfl⟩,fun a=>by(try dsimp only);omega⟩)
 have hh:wH K c (hide (hd2 B (hd2 W1 (one x))) H2) (σ ++ [some (.ref x)]) H2 (.ref x::us) (.p r.2.length []::r.1):=by
  refine⟨?_,wH.push stG.same (sm1.trans sm2) g.at_⟩;show vN H2 (σ ++ [some (.ref x)]) r.2.length []=some (.ref x);unfold vN;rw[cL (by omega),show r.2.length - σ.length=0 by omega];rfl
 refine qJm (as:=.io r.2.length::as) cfP hh (wp_mono (fun q w2 v H' W' Z gq=>?_) (fun C fs he=>?_) (qB.mp w1));rotate_left
 ·exact(he.back g.st).back stG
 obtain⟨q1,q2⟩:=q;cases q1 with
 |ow k os=>exact w2.elim
 | fz d=>
   cases d with
   | non=>
     have ev:=gq.at_;rw[OAt.fz]at ev;have hv:v=.non :=by cases ev.1;rfl
     refine⟨hv,?_⟩;obtain⟨p,e1,w3⟩:∃p,popL q2 r.2.length=some p/\∀u H' W' Z,Got K c env σ H B W p.2 H' W' Z p.1 u->Q u H' :=by
      cases e:popL q2 r.2.length with
      |none=>dsimp only at w2;rw[e]at w2;exact w2.elim
      |some p=>dsimp only at w2;rw[e]at w2;exact⟨p,rfl,w2⟩
     unfold popL at e1;split at e1
     ·rename_i io o e2;cases e1;obtain⟨Z1,R,h1,h2,h3⟩:=SlAt.pop gq.cf.at_ e2 lenσ.symm;have zz:∀a,Z a=0:=ev.2;have hd1:hide (hd2 (hd2 B Z) W') H' =hide (hd2 (hd2 B Z1) R) H' :=z9 fun a=>by dsimp only[hd2];rw[h3,zz];omega
      have hd3:hide (hd2 B (hd2 R Z1)) H' =hide (hd2 B (hd2 W' Z)) H' :=z9 fun a=>by dsimp only[hd2];rw[h3,zz];omega
      have all:=(g.st.trans stG).same;refine w3 (.ref x) H' R Z1 ⟨(g.st.trans stG).trans ⟨by rw[hd3];exact gq.st.same,gq.st.by_,fun a z=>gq.st.new a (by dsimp only[hd2]at *;rw[h3];omega),gq.st.dom,fun a z1 z2=>gq.st.pin a z1 (by dsimp only[hd2]at *;rw[h3];omega),fun i o' h=>?_,?_⟩,⟨by rw[←hd1];exact h2,fun a=>by have:=gq.cf.nd a;dsimp only[hd2]at *;rw[h3,zz]at this;omega,fun a z=>?_⟩,by rw[←hd1];exact h1⟩
      ·have hi:i<r.2.length:=by
        have:=(aU.mp h).1;rw[cT]at this;omega
       rw[List.getElem?_take_of_lt hi]at h;obtain⟨⟨o0,k1⟩,k2⟩:=gq.st.io i o' h;rw[bT hi]at k1;exact⟨⟨o0,k1⟩,rfl⟩
      ·have:=gq.st.len;rw[aJ]at this;rw[cT,this];simp
      ·by_cases q0:B a=0
       ·exact h1.hb (by dsimp only[hd2]at z;omega)
       ·exact gq.cf.hb a (by dsimp only[hd2];omega)
     ·cases e1
   |_=>exact w2.elim
end
section
variable{X:Cx}{c:Nat->aV}{E:XK}{k:Nat}{f:aV}{fd:aH}{ps:List Str}{x:Str}{p pos:Pos}{e:Expr}{es:List Expr}{F:Fn}{as:List Am}{C:Nat}
theorem zKu(M:Mk X.K (c C) f)(G:FnOk X.prog X.w X.K X.mg X.base (CXd X.prog X.w) k f fd ps (spD X.K c (as.length+1) F))(hr:Room (k+1) X.A)(hg:Gl X x)(hm:X.mg x=some (.ref (c C)))(hb:wV X.K fd ps [])(hx:jR (CXd X.prog X.w) X E)(ha:OsD X c E (e::es) (as.map Am.o))(hdb:(x == ("__debug__":Str))=false:=by decide)(he:aX (e::es) X.env=(false,eval e X.env)::aX es X.env:=by rfl)(hpl:(cX pos (aX es X.env)).any (·.1)=false:=by rfl):
  ED X c E (.Call (.Name x p) (e::es) [] pos) (vYs C F as):=
 ⟨PE.imp (zYo M G hr hg hm hb .nil hx ha.h hdb he hpl) fun _ _ _ h=>zJm h⟩
end
noncomputable abbrev lim:Nat:=1000000
theorem vXh(h:n<=lim):n<aT:=Nat.lt_of_le_of_lt h (by decide)
section
variable{K:aQ}{c:Nat->aV}{env env' :Ev}{σ:L2.St}{H H' :Hp}{B W Z:Fp}{i:Nat}{π:List Nat}{k:Kd}{os:List O}
theorem Cf.mut(cf:Cf K c env σ H (hd2 B Z) W)(e:getE env i π=some (.ow k os)):∃p vs Zk,vN H σ i π=some (.ref p)/\OwAt c H p k vs/\OsAt K c (hide (hd2 (hd2 B Z) W) H) H os vs Zk/\
  ∀k' os' vs' Zk' Z2 ho,OsAt K c (hide (hd2 (hd2 B Z) W) H) H os' vs' Zk' ->(∀a,Zk' a+Z2 a<=Zk a+Z a)->OwAt c (upd H p ho) p k' vs' ->Hb ho->Pin (H p) (some ho)->
   ∃W',Cf K c (setE env i π (.ow k' os')) σ (upd H p ho) (hd2 B Z2) W' /\Step env σ H B (hd2 W Z) (setE env i π (.ow k' os')) σ (upd H p ho) (hd2 W' Z2)/\
    ∀o v,OAt K c (hide (hd2 (hd2 B Z) W) H) H o v Z2->OAt K c (hide (hd2 (hd2 B Z2) W') (upd H p ho)) (upd H p ho) o v Z2:=by
 obtain⟨v1,Z1,R,h1,h2,h3,h4⟩:=cf.place e;rw[OAt.ow]at h2;obtain⟨p,vs,Zk,rfl,b,cc,d⟩:=h2;refine⟨p,vs,Zk,h1,b,cc,fun k' os' vs' Zk' Z2 ho hk hz hp hb pn=>?_⟩;have nd:∀a,B a+Z a+(one p a+Zk a+R a)<=1:=fun a=>by have:=cf.nd a;rw[h3,d]at this;dsimp only[hd2]at this;omega
 have np:B p=0/\Z p=0/\Zk p=0/\R p=0:=by have:=nd p;rw[wZ]at this;omega
 have nz:Zk' p=0/\Z2 p=0:=by have:=hz p;omega
 have hid:∀a,(hd2 (hd2 B Z) W) a=B a+Z a+(one p a+Zk a+R a):=fun a=>by dsimp only[hd2];rw[h3,d]
 have sm:Same (hide (hd2 (hd2 B Z) W) H) (hide (hd2 (hd2 B Z2) (fun a=>(one p a+Zk' a)+R a)) (upd H p ho)):=zC fun a o z q=>by
  rw[hid]at z;have:=hz a;have ne:a≠p:=fun y=>by rw[y,wZ]at z;omega
  exact⟨by dsimp only[hd2];omega,by rw[qL ne];exact q⟩
 have cell:∀a,a≠p->upd H p ho a=H a:=fun a z=>qL z
 refine⟨fun a=>(one p a+Zk' a)+R a,h4 (upd H p ho) (hd2 B Z2) _ (.ow k' os') (fun a=>one p a+Zk' a) sm (fun _=>rfl) (fun a z=>cell a fun y=>by rw[y]at z;omega) (OAt.ow.mpr ⟨p,vs',Zk',rfl,hp,hk.keep sm fun a z=>cell a fun y=>by rw[y]at z;omega,fun _=>rfl⟩) (fun a=>?_) (fun a z=>?_),⟨?_,fun a z=>cell a fun y=>by rw[y]at z;omega,fun a z=>.inl ?_,fun a z=>?_,fun a z1 z2=>?_,fun j o q=>⟨qY2 q,rfl⟩,qW5⟩,fun o v h=>h.keep sm fun a z=>cell a fun y=>by rw[y]at z;omega⟩
 ·have:=nd a;have:=hz a;dsimp only[hd2];omega
 ·by_cases y:a=p
  ·subst y;exact⟨ho,upd_same,hb⟩
  ·rw [cell a y];by_cases q:B a=0
   ·exact cf.hbs (by have h5:=hid a;have h6:=hz a;dsimp only[hd2]at h5 z⊢;omega)
   ·exact cf.hb a (by dsimp only[hd2];omega)
 ·rw [show hide (hd2 B (hd2 W Z)) H=hide (hd2 (hd2 B Z) W) H from z9 fun a=>by dsimp only [hd2];omega,show hide (hd2 B (hd2 (fun a=>(one p a + Zk' a) + R a) Z2)) (upd H p ho)=hide (hd2 (hd2 B Z2) (fun a=>(one p a + Zk' a) + R a)) (upd H p ho) from z9 fun a=>by dsimp only [hd2];omega];exact sm
 ·have:=hz a;dsimp only[hd2]at *;rw[h3,d];omega
 ·by_cases y:a=p
  ·subst y;rw[upd_same]at z;cases z
  ·rw[cell a y]at z;exact z
 ·by_cases y:a=p
  ·subst y;rw[upd_same];exact pn
  ·exact .of (cell a y)
noncomputable def stab(env env1:Ev)(i:Nat):List Nat->Bool
 |[]=>true
 | [j]=>match env[i]?,env1[i]? with
   | some (.s _ (.ow (.obj _ fs) _)),some (.s _ (.ow _ _))=>match fs[j]? with
     |some f=>pinF f
     |none=>false
   |_,_=>false
 |_=>false
theorem vJ1{K:aQ}{F:Hp}{os:List O}{x:Option V}{Z1:Fp}(h:jO K c F H (.s io (.ow kd os)) x Z1):∃p vs,x=some (.ref p)/\OwAt c H p kd vs/\Z1 p≠0:=by
 cases x with
 |none=>exact h.elim
 | some v=>
   have h' :OAt K c F H (.ow kd os) v Z1:=h;obtain⟨p,vs,Z',rfl,b,_,d⟩:=h';exact⟨p,vs,rfl,b,by rw[d,wZ];omega⟩
theorem vVi{Y:Fp}{u:V}(cf:Cf K c env σ H B W)(st:Step env σ H B W env' σ H' Y)(cf' :Cf K c env' σ H' B' W')(hY:∀a,W' a≠0->Y a≠0)(hs:stab env env' i π=true)(h:vN H σ i π=some u):vN H' σ i π=some u:=by
 cases π with
 | nil=>
   unfold vN at h⊢;cases e:σ[i]? with
   |none=>rw[e]at h;cases h
   | some x=>
     rw[e]at h;cases x with
     |none=>cases h
     |some v=>simpa[walk] using h
 | cons j π=>
   cases π with
   |cons _ _=>simp[stab]at hs
   | nil=>
     simp only[stab]at hs;split at hs
     ·rename_i io C fs os io' k' os' e1 e2;split at hs
      ·rename_i f ef;obtain⟨x,Z1,R,h1,h2,h3,_⟩:=cf.focus e1;obtain⟨x',Z1',R',h1',h2',h3',_⟩:=cf'.focus e2;obtain⟨p,vs,rfl,⟨b1,dx,b2⟩,zp⟩:=vJ1 h2;obtain⟨p',vs',rfl,_,zp'⟩:=vJ1 h2';rw[h1]at h1';cases h1';have pn:=st.pin p (by rw[h3];omega) (hY p (by rw[h3'];omega));rw[b2]at pn;obtain⟨fs',e3,q⟩:=pn;unfold vN at h⊢;rw[h1]at h⊢;simp only[walk,b2,kids,qZj b1]at h;cases ev:vs[j]? with
       |none=>rw[ev]at h;cases h
       | some v=>
         rw[ev]at h;have hv:v=u:=by cases v <;> simpa[walk] using h
         subst hv;have hz:(fs.zip vs)[j]?=some (f,v):=by rw[List.getElem?_zip_eq_some];exact⟨ef,ev⟩
         have h5:=q j f v hs hz;have h6:(kids (.ins (c C) dx fs'))[j]?=some v:=by
          show(fs'.map (·.2))[j]?=some v;rw[cJ,h5];rfl
         show walk H' (.ref p) [j]=some v;rw[qXq e3 h6];simp[walk]
      ·cases hs
     ·cases hs
end
noncomputable def qZd(env:Ev)(i:Nat)(π:List Nat):Option (List O):=match getE env i π with
 |some (.ow .lst os)=>some os
 |_=>none
theorem qX1{os:List O}(h:qZd env i π=some os):getE env i π=some (.ow .lst os):=by
 unfold qZd at h;split at h
 ·rename_i e;cases h;exact e
 ·cases h
noncomputable def eMu1(s:SP)(a:SE)(f:List O->O->Option (O×List O)):SE:=fun env=>(opt (s env)).bind fun h=>match h with
 |.p i π=>(opt (qZd env i π)).bind fun _=>(a env).bind fun r=>(opt (qZd r.2 i π)).bind fun os=>cond (stab env r.2 i π) ((opt (f os r.1)).bind fun z=>.ok (z.1,setE r.2 i π (.ow .lst z.2))) .no
 |_=>.no
noncomputable def apF(os:List O)(x:O):Option (O×List O):=cond (decide (os.length<=lim)) (some (.fz .non,os ++ [x])) none
noncomputable def PrM(K:aQ)(c:Nat->aV)(r:V->List V->Hp->VK->Prop)(f:List O->O->Option (O×List O)):Prop:=∀(p:aV) (vs:List V) (u:V) (F H:Hp) (os os' :List O) (x o:O) (Zk Z:Fp) (Q:VK),H p=some (.lst vs)->OsAt K c F H os vs Zk->OAt K c F H x u Z->f os x=some (o,os')->
 (∀v vs' Zk',o=.fz .non ->v=.non ->OsAt K c F H os' vs' Zk' ->(∀a,Zk' a<=Zk a+Z a)->Q v (upd H p (.lst vs')))->r (.ref p) [u] H Q
section
variable{K:aQ}{c:Nat->aV}{E:XK}
theorem zQs:PrM K c rAppend apF:=fun p vs u F H os os' x o Zk Z Q h1 h2 h3 e q=>by
 obtain⟨q1,q2⟩:=zN e;cases q2;exact⟨p,vs,u,rfl,rfl,h1,by rw[h2.length];exact vXh (of_decide_eq_true q1),q .non _ _ rfl rfl (h2.append (OsAt.one.mpr h3)) fun a=>aD _⟩
theorem zXm{r:V->List V->Hp->VK->Prop}{f:List O->O->Option (O×List O)}(hp:PrM K c r f){s:SP}{a:SE}(h:tE K c E (eMu1 s a f) σ H Q):tBM K "list" r (tP K c s) (vQ6 (tE K c E a) tNil) σ H Q:=by
 obtain⟨env,B,W,cf,w⟩:=h;obtain⟨h1,e0,w1⟩:=qN w;refine⟨env,B,W,h1,cf,e0,fun u hu=>?_⟩;cases h1 with
 |d x=>exact w1.elim
 | p i π=>
   obtain⟨os0,e1,w2⟩:=qN w1;have hu' :vN H σ i π=some u:=hu;obtain⟨v1,Z1,R,g1,g2,g3,g4⟩:=cf.place (qX1 e1);rw[hu']at g1;cases g1;obtain⟨p,vs0,Z0,rfl,b,_,_⟩:=g2;refine⟨.inl ⟨rfl,vs0,SqL.of b⟩,env,B,W,cf,wp_mono (fun r1 w3 x H1 W1 Z g=>?_) (fun _ _ he=>he) (qB.mp w2)⟩;obtain⟨os,e2,w4⟩:=qN w3;obtain⟨hs,w5⟩:=zV w4;obtain⟨z,e3,w6⟩:=qN w5;have hw:=vVi cf g.st g.cf (fun a z=>by dsimp only[hd2];omega) hs hu';obtain⟨p',vs,Zk,k1,k2,k3,k4⟩:=g.cf.mut (qX1 e2);rw[hw]at k1;cases k1;refine hp p vs x _ H1 os z.2 r1.1 z.1 Zk Z Q k2 k3 g.at_ e3 fun v vs' Zk' ho hv hk hz=>?_
   subst hv;obtain⟨W',c1,c2,c3⟩:=k4 .lst z.2 vs' Zk' (fun _=>0) (.lst vs') hk (fun a=>by have:=hz a;omega) upd_same trivial (by have k2' :H1 p=some (.lst vs):=k2;rw[k2'];trivial);refine w6 .non _ W' (fun _=>0) ⟨g.st.trans c2,c1,by rw[ho,OAt.fz];exact⟨.non,fun _=>rfl⟩⟩
end
section
variable{X:Cx}{c:Nat->aV}{E:XK}{o e:Expr}{apos cpos:Pos}{s:SP}{a:SE}
theorem zVg(ho:OD X c E o (.p s))(ha:ED X c E e a)(hbase:attributeBase o "append" X.env (eval o X.env)=eval o X.env:=by rfl)(hfew:((cX cpos (aX [e] X.env)).all (fun x=>!x.1) && (backToKw cpos (keywordEach [] X.env)).all (fun x=>x.1.isSome) && decide (([e]:List Expr).length+([]:List Keyword).length+(if([]:List Keyword).isEmpty then 0 else 1)<30))=true:=by rfl)(hline:(apos.endLine == cpos.line)=true:=by rfl)(hs:aX [e] X.env=(false,eval e X.env)::aX [] X.env:=by rfl)(hplain:(cX cpos (aX [] X.env)).any (·.1)=false:=by rfl):
  ED X c E (.Call (.Attribute o "append" apos) [e] [] cpos) (eMu1 s a apF):=
 ⟨PE.imp (vYq PySem.F.plainAttrs_list PySem.F.slot_list_append PySem.F.type_list_append vVo ho.h (wX ha.h qQr hs) hbase hfew hline hs hplain) fun _ _ _ h=>zXm zQs h⟩
noncomputable def ePop(s:SP):SE:=fun env=>(opt (s env)).bind fun h=>match h with
 |.p i π=>(opt (qZd env i π)).bind fun os=>(opt (os[os.length - 1]?)).bind fun o=>.ok (o,setE env i π (.ow .lst (os.eraseIdx (os.length - 1))))
 |_=>.no
theorem vQw(xs:List α):xs.dropLast=xs.eraseIdx (xs.length - 1):=by
 rw[List.dropLast_eq_take,List.eraseIdx_eq_take_drop_succ];cases xs with
 |nil=>rfl
 |cons x xs=>simp
theorem jJc(ho:OD X c E o (.p s))(hbase:attributeBase o "pop" X.env (eval o X.env)=eval o X.env:=by rfl)(hline:(apos.endLine == cpos.line)=true:=by rfl):ED X c E (.Call (.Attribute o "pop" apos) [] [] cpos) (ePop s):=by
 refine⟨PE.imp (jV5 PySem.F.plainAttrs_list PySem.F.slot_list_pop PySem.F.type_list_pop jZl ho.h hbase hline) fun σ H Q h=>?_⟩;obtain⟨env,B,W,cf,w⟩:=h;obtain⟨h1,e0,w1⟩:=qN w;refine⟨env,B,W,h1,cf,e0,fun u hu=>?_⟩;cases h1 with
 |d x=>exact w1.elim
 | p i π=>
   obtain⟨os,e1,w2⟩:=qN w1;obtain⟨oo,e2,w3⟩:=qN w2;have hu' :vN H σ i π=some u:=hu;have cf0:Cf X.K c env σ H (hd2 B fun _=>0) W:=cf.cast (fun _=>rfl) fun _=>rfl
   obtain⟨p,vs,Zk,k1,k2,k3,k4⟩:=cf0.mut (qX1 e1);rw[hu']at k1;cases k1;obtain⟨v,Y1,R,g1,g2,g3,g4⟩:=k3.erase e2;have hl:=k3.length;refine⟨.inl ⟨rfl,vs,SqL.of k2⟩,p,vs,v,rfl,rfl,k2,by rw[hl];exact g1,?_⟩;rw[vQw,hl];obtain⟨W',c1,c2,c3⟩:=k4 .lst _ _ R Y1 (.lst (vs.eraseIdx (os.length - 1))) g4 (fun a=>by rw[g3];omega) upd_same trivial (by have k2' :H p=some (.lst vs):=k2;rw[k2'];trivial);exact w3 v _ W' Y1 ⟨c2.cast (fun _=>rfl) (fun _=>rfl) fun _=>rfl,c1,c3 _ _ g2⟩
end
section
variable{κ α:Type}[DecidableEq κ]
theorem vJs{k:κ}{v:α}:∀{ks:List κ} {vs:List α},ks.length=vs.length->(ks ++ [k]).zip (vs ++ [v])=ks.zip vs ++ [(k,v)]
 |[],[],_=>rfl
 | g::r,w::vs,h=>by
   rw[cZ,cZ,dQ,vJs (Nat.succ.inj h)];rfl
 |[],_::_,h=>by cases h
 |_::_,[],h=>by cases h
end
theorem OsAt.put{K:aQ}{F:Hp}{os:List O}{Zk:Fp}{o:O}{u:V}(h:OsAt K c F H os vs Zk)(hj:j<os.length)(ho:OAt K c F H o u Z):∃Y,OsAt K c F H (os.set j o) (vs.set j u) Y/\∀a,Y a<=Zk a+Z a:=by
 obtain⟨v,Z1,R,h1,h2,h3,h4⟩:=h.focus (aI hj);exact⟨_,h4 F H o u Z (Same.refl _) (fun _ _=>rfl) ho,fun a=>by rw[h3];(try dsimp only);omega⟩
theorem vJ7{f:Str}:∀{fs:List Str} {vs:List V},fs.length=vs.length->putF f v (fs.zip vs)=match fidx f fs with
  |some j=>fs.zip (vs.set j v)
  |none=>(fs ++ [f]).zip (vs ++ [v])
 |[],[],_=>rfl
 | g::r,w::vs,h=>by
   rw[dQ];simp only[putF,fidx];by_cases q:f=g
   ·simp_all
   ·rw [if_neg q,if_neg fun z=>q z.symm,vJ7 (Nat.succ.inj h)];cases fidx f r <;> rfl
 |[],_::_,h=>by cases h
 |_::_,[],h=>by cases h
theorem qK9{f:Str}:∀{fs:List Str} {j:Nat},fidx f fs=some j->fs[j]?=some f
 |[],j,h=>by cases h
 | g::r,j,h=>by
   simp only[fidx]at h;by_cases q:f=g
   ·rw[if_pos q]at h;cases h;rw[q];rfl
   ·rw [if_neg q] at h;obtain⟨i,h1,rfl⟩:=bP.mp h;simpa using qK9 h1
noncomputable def vYp(C:Nat)(fs:List Str)(os:List O)(f:Str)(o:O):Option O:=match fidx f fs with
 |some j=>cond (!pinF f) (some (.ow (.obj C fs) (os.set j o))) none
 |none=>cond (decide (os.length<1000)) (some (.ow (.obj C (fs ++ [f])) (os ++ [o]))) none
noncomputable def vQ9(env:Ev)(i:Nat)(π:List Nat):Option (Nat×List Str×List O):=match getE env i π with
 |some (.ow (.obj C fs) os)=>some (C,fs,os)
 |_=>none
theorem qXy(h:vQ9 env i π=some q):getE env i π=some (.ow (.obj q.1 q.2.1) q.2.2):=by
 unfold vQ9 at h;split at h
 ·rename_i e;cases h;exact e
 ·cases h
section
variable{K:aQ}{c:Nat->aV}{env:Ev}{σ:L2.St}{H:Hp}{B W Z:Fp}{i:Nat}{π:List Nat}
theorem Cf.fld{f:Str}{o o' :O}{u:V}{p:aV}(cf:Cf K c env σ H (hd2 B Z) W)(e:vQ9 env i π=some q)(hw:vN H σ i π=some (.ref p))(ho:OAt K c (hide (hd2 (hd2 B Z) W) H) H o u Z)(e2:vYp q.1 q.2.1 q.2.2 f o=some o')(hl:q.2.2.length<=999):
  ∃dx fs W',H p=some (.ins (c q.1) dx fs)/\fs.length<1000/\Cf K c (setE env i π o') σ (upd H p (.ins (c q.1) dx (putF f u fs))) B W' /\Step env σ H B (hd2 W Z) (setE env i π o') σ (upd H p (.ins (c q.1) dx (putF f u fs))) W' :=by
 obtain⟨p',vs,Zk,k1,⟨k2,dx,k4⟩,k5,k6⟩:=cf.mut (qXy e);rw[hw]at k1;cases k1;refine⟨dx,q.2.1.zip vs,?_⟩;have hlen:(q.2.1.zip vs).length<1000:=by rw[List.length_zip,k5.length];have:=Nat.min_le_right q.2.1.length q.2.2.length;omega
 rw[vJ7 k2];unfold vYp at e2;cases e6:fidx f q.2.1 with
 | some j=>
   rw[e6]at e2;obtain⟨pn,e3⟩:=zN e2;cases e3;have hj:j<q.2.2.length:=by
    have:=(aU.mp (qK9 e6)).1;rw[←k5.length,←k2];exact this
   obtain⟨Y,y1,y2⟩:=k5.put hj ho;obtain⟨W',c1,c2,_⟩:=k6 (.obj q.1 q.2.1) _ _ Y (fun _=>0) (.ins (c q.1) dx (q.2.1.zip (vs.set j u))) y1 (fun a=>by have:=y2 a;omega) ⟨by rw[cW];exact k2,dx,upd_same⟩ trivial (by
    rw[k4];refine⟨_,rfl,fun j' f' v' hp hz=>?_⟩;rw[List.getElem?_zip_eq_some]at hz⊢;refine⟨hz.1,?_⟩;rw[bZ fun y=>?_]
    ·exact hz.2
    ·subst y;rw[qK9 e6]at hz;cases hz.1;rw[hp]at pn;cases pn)
   exact⟨W',k4,hlen,c1.cast (fun _=>rfl) fun _=>rfl,c2.cast (fun _=>rfl) (fun _=>rfl) fun _=>rfl⟩
 | none=>
   rw[e6]at e2;obtain⟨pn,e3⟩:=zN e2;cases e3;obtain⟨W',c1,c2,_⟩:=k6 (.obj q.1 (q.2.1 ++ [f])) _ _ _ (fun _=>0) (.ins (c q.1) dx ((q.2.1 ++ [f]).zip (vs ++ [u]))) (k5.append (OsAt.one.mpr ho)) (fun a=>by(try dsimp only);omega) ⟨by rw[aJ,aJ,k2];rfl,dx,upd_same⟩ trivial (by
    rw[k4];refine⟨_,rfl,fun j' f' v' hp hz=>?_⟩;rw[vJs k2,bT (aU.mp hz).1];exact hz)
   exact⟨W',k4,hlen,c1.cast (fun _=>rfl) fun _=>rfl,c2.cast (fun _=>rfl) (fun _=>rfl) fun _=>rfl⟩
end
noncomputable def vJg(cs:List Nat)(f:Str)(s:SP)(a:SE):SS:=fun env=>(a env).bind fun r=>(opt (s r.2)).bind fun h=>match h with
 |.p i π=>(opt (vQ9 r.2 i π)).bind fun q=>cond (cs.contains q.1 && decide (q.2.2.length<=999)) ((opt (vYp q.1 q.2.1 q.2.2 f r.1)).bind fun o=>.ok (.nx (setE r.2 i π o))) .no
 |.d _=>.no
noncomputable def vYo(cs:List Nat)(f:Str)(g:D->D->Option D)(s:SP)(a:SV):SS:=fun env=>(opt (s env)).bind fun h=>match h with
 | .p i π=>(opt (vQ9 env i π)).bind fun q=>(opt (fidx f q.2.1)).bind fun j=>(opt (q.2.2[j]?)).bind fun o0=>match o0 with
   |.fz x=>cond (cs.contains q.1) ((a env).bind fun r=>cond (stab env r.2 i π) ((opt (g x r.1)).bind fun z=>(opt (vQ9 r.2 i π)).bind fun q' =>cond (decide (q'.1=q.1) && decide (q'.2.2.length<=999)) ((opt (vYp q'.1 q'.2.1 q'.2.2 f (.fz z))).bind fun o=>.ok (.nx (setE r.2 i π o))) .no) .no) .no
   |.ow _ _=>.no
 |.d _=>.no
section
variable{X:Cx}{c:Nat->aV}{E:XK}{o e:Expr}{f:Str}{pos pos' :Pos}{s:SP}{a:SE}{cs:List Nat}
theorem zXt(ok:qV8 X.K c cs f)(ho:OD X c E o (.p s))(hv:ED X c E e a)(hs:swapsWith e (some (.Attribute o f pos')) pos.line X.env=pure false:=by rfl):SD X c E (.Assign [.Attribute o f pos'] e pos) (vJg cs f s a):=by
 refine⟨PS.imp (jVp ho.h hv.h hs) fun D σ H=>?_⟩;rintro⟨env,B,W,cf,w⟩;refine⟨env,B,W,cf,wp_mono (fun r w1 u H1 W1 Z g=>?_) (fun _ _ he=>he) (qB.mp w)⟩;obtain⟨h,e1,w2⟩:=qN w1;refine⟨r.2,_,W1,h,g.cf,e1,fun x hx=>?_⟩;cases h with
 |d x=>exact w2.elim
 | p i π=>
   obtain⟨q,e5,w6⟩:=qN w2;obtain⟨hc,w7⟩:=zV w6;obtain⟨o',e6,w8⟩:=qN w7;rw[aF]at hc;have hx' :vN H1 σ i π=some x:=hx;obtain⟨p,_,_,k1,_⟩:=g.cf.mut (qXy e5);rw[hx']at k1;cases k1;obtain⟨dx,fs,W',m1,m2,m3,m4⟩:=g.cf.fld e5 hx' g.at_ e6 (of_decide_eq_true hc.2);obtain⟨c1,c2⟩:=ok q.1 (qY6 hc.1);exact⟨p,_,dx,fs,rfl,m1,c1,c2,m2,w8 σ _ W' (g.st.trans m4) m3⟩
theorem zXu{rd:V->V->Hp->VK->Prop}{g:D->D->Option D}{t:SV}(ok:qV8 X.K c cs f)(ho:OD X c E o (.p s))(hv:EV X c E e t)(hop:InOp X op rd)(hp:PrS2 X.K c rd g):SD X c E (.AugAssign (.Attribute o f pos') op e pos) (vYo cs f g s t):=by
 refine⟨PS.imp (zQr ho.h hv.h hop) fun D σ H=>?_⟩;rintro⟨env,B,W,cf,w⟩;obtain⟨h,e1,w2⟩:=qN w;refine⟨env,B,W,h,cf,e1,fun x hx=>?_⟩;cases h with
 |d x=>exact w2.elim
 | p i π=>
   obtain⟨q,e2,w3⟩:=qN w2;obtain⟨j,e3,w4⟩:=qN w3;obtain⟨o0,e4,w5⟩:=qN w4;cases o0 with
   |ow _ _=>exact w5.elim
   | fz y=>
     have hx' :vN H σ i π=some x:=hx;have cf0:Cf X.K c env σ H (hd2 B fun _=>0) W:=cf.cast (fun _=>rfl) fun _=>rfl
     obtain⟨p,vs,Zk,k1,⟨k2,dx,k4⟩,k5,k6⟩:=cf0.mut (qXy e2);rw[hx']at k1;cases k1;obtain⟨v,Z1,R,g1,g2,g3,_⟩:=k5.focus e4;have hd:DAt X.K c (hide (hd2 B W) H) v y:=g2.1;obtain⟨hcs,w5⟩:=zV w5;obtain⟨c1,c2⟩:=ok q.1 (qY6 hcs);refine⟨p,_,dx,_,v,rfl,k4,c1,c2,qVn e3 g1,env,B,W,cf,wp_mono (fun r w6 u H1 W1 gd=>?_) (fun _ _ he=>he) (qB.mp w5)⟩;obtain⟨hc,w7⟩:=zV w6;obtain⟨z,e5,w8⟩:=qN w7;obtain⟨q',e6,w9⟩:=qN w8;obtain⟨hc',w10⟩:=zV w9;obtain⟨o',e7,w11⟩:=qN w10;rw[aF]at hc';have hw:=vVi cf gd.st gd.cf (fun a z=>z) hc hx';refine hp v u H1 y r.1 z _ ((hd.same gd.st.same).same vC) (gd.at_.same vC) e5 fun v3 hv3=>?_
     have cf1:Cf X.K c r.2 σ H1 (hd2 B fun _=>0) W1:=gd.cf.cast (fun _=>rfl) fun _=>rfl
     obtain⟨dx',fs',W',m1,m2,m3,m4⟩:=cf1.fld e6 hw (Z:=fun _=>0) (u:=v3) (by rw[OAt.fz];exact⟨hv3 _,fun _=>rfl⟩) e7 (of_decide_eq_true hc'.2);have hq:q'.1=q.1:=of_decide_eq_true hc'.1;rw[hq]at m1 m3 m4;exact⟨dx',fs',m1,m2,w11 σ _ W' (gd.st.trans (m4.cast (fun _=>rfl) (fun _=>rfl) fun _=>rfl)) m3⟩
end
noncomputable def sAug(i:Nat)(f:D->D->Option D)(s:SV):SS:=fun env=>match env[i]? with
 |some (.s _ (.fz x))=>(s env).bind fun r=>(opt (f x r.1)).bind fun z=>.ok (.nx (r.2.set i (.s false (.fz z))))
 |_=>.no
theorem vXa{pos':Pos}{x:Str}{ti:TIp}{f:D->D->Option D}{s:SV}(hN:X.N.Nodup)(hi:X.N[i]?=some x)(hx:Loc X.env.scope x)(he:EV X c E e s)(ho:PIp X op ti)(hp:PrS2 X.K c ti f)(hf:X.fn x=true\/X.env.scope.names.lookup x=some .local :=by first|exact .inl rfl|exact .inr rfl|assumption):SD X c E (.AugAssign (.Name x pos') op e pos) (sAug i f s):=by
 refine⟨PS.len (PS.imp (jVq hN hi hx he.h ho hf) fun D σ H=>?_)⟩;rintro⟨hl,env,B,W,cf,w⟩;unfold sAug at w;split at w
 ·rename_i io d e0;obtain⟨x,Z1,R,h1,h2,h3,h4⟩:=cf.focus e0;cases x with
  |none=>exact h2.elim
  | some v=>
    have h2' :OAt X.K c (hide (hd2 B W) H) H (.fz d) v Z1:=h2;refine⟨v,h1,env,B,W,cf,wp_mono (fun r1 w1 u H1 W1 g=>?_) (fun _ _ he=>he) (qB.mp w)⟩;obtain⟨z,e1,w2⟩:=qN w1;refine hp v u H1 d r1.1 z _ ((h2'.1.same g.st.same).same vC) (g.at_.same vC) e1 fun v3 hv3=>?_
    have g3:GotD X.K c env σ H B W r1.2 H1 W1 z v3:=⟨g.st,g.cf,hv3 _⟩
    obtain⟨W2,s2,c2⟩:=g3.own.r.put (qY1 g.cf hl hi);exact w2 _ H1 W2 s2 c2
 ·exact w.elim
instance decMul(i j:Int):Decidable (IntMulOk i j):=by unfold IntMulOk;infer_instance
instance decDivP(i j:Int):Decidable (qJt i j):=by unfold qJt;infer_instance
instance decPow(i j:Int):Decidable (CPow i j):=by unfold CPow;infer_instance
instance decMulS(x:Str)(n:Int):Decidable (MulOk x n):=by unfold MulOk;infer_instance
noncomputable def i2(g:Int->Int->Int)(x y:D):Option D:=(qQ2 x).bind fun i=>(qQ2 y).bind fun j=>some (.int (g i j))
noncomputable def i2g(C:Int->Int->Prop)[∀i j,Decidable (C i j)](g:Int->Int->Int)(x y:D):Option D:=(qQ2 x).bind fun i=>(qQ2 y).bind fun j=>if C i j then some (.int (g i j)) else none
noncomputable def c2(g:Int->Int->Bool)(x y:D):Option D:=(qQ2 x).bind fun i=>(qQ2 y).bind fun j=>some (.bl (g i j))
theorem vZo{P:Prop}[Decidable P]{x y:α}(h:(if P then some x else none)=some y):P/\x=y:=by
 grind
section
variable{K:aQ}{c:Nat->aV}
theorem zV1(g:Int->Int->Int):PrS2 K c (rI0 fun i j=>.int (g i j)) (i2 g):=fun u w H x y z Q hx hy e q=>by
 obtain⟨i,e1,e2⟩:=bnd e;obtain⟨j,e3,e4⟩:=bnd e2;cases e4;exact⟨i,j,jB hx e1,jB hy e3,q _ fun _=>.int _⟩
theorem vV6(C:Int->Int->Prop)[∀i j,Decidable (C i j)](g:Int->Int->Int):PrS2 K c (rI C fun i j=>.int (g i j)) (i2g C g):=fun u w H x y z Q hx hy e q=>by
 obtain⟨i,e1,e2⟩:=bnd e;obtain⟨j,e3,e4⟩:=bnd e2;obtain⟨p,rfl⟩:=vZo e4;exact⟨i,j,jB hx e1,jB hy e3,p,q _ fun _=>.int _⟩
theorem qYe(g:Int->Int->Bool):PrS2 K c (rI0 fun i j=>.bl (g i j)) (c2 g):=fun u w H x y z Q hx hy e q=>by
 obtain⟨i,e1,e2⟩:=bnd e;obtain⟨j,e3,e4⟩:=bnd e2;cases e4;exact⟨i,j,jB hx e1,jB hy e3,q _ fun _=>.bl _⟩
theorem qKg(g:Int->Int->Int):PrS2 K c (ipI g) (i2 g):=fun u w H x y z Q hx hy e q=>by
 obtain⟨i,j,e1,e2,r⟩:=zV1 g u w H x y z Q hx hy e q;exact⟨i,j,e1,e2,r⟩
noncomputable def addS(x y:D):Option D:=(qKa x).bind fun i=>(qKa y).bind fun j=>if i.length+j.length<=aT then some (.str (i ++ j)) else none
theorem zYg:PrS2 K c (fun x y H Q=>∃i j,x=.str i/\y=.str j/\i.length+j.length<=aT/\Q (.str (i ++ j)) H) addS:=fun u w H x y z Q hx hy e q=>by
 obtain⟨i,e1,e2⟩:=bnd e;obtain⟨j,e3,e4⟩:=bnd e2;obtain⟨p,rfl⟩:=vZo e4;exact⟨i,j,yR hx e1,yR hy e3,p,q _ fun _=>.str _⟩
noncomputable def leS(x y:D):Option D:=(qKa x).bind fun i=>(qKa y).bind fun j=>some (.bl (!decide (j.cps.toList<i.cps.toList)))
theorem qQq:PrS2 K c rLeS leS:=fun u w H x y z Q hx hy e q=>by
 obtain⟨i,e1,e2⟩:=bnd e;obtain⟨j,e3,e4⟩:=bnd e2;cases e4;exact⟨i,j,yR hx e1,yR hy e3,q _ fun _=>.bl _⟩
noncomputable def mulS(x y:D):Option D:=(qKa x).bind fun i=>(qQ2 y).bind fun j=>if MulOk i j then some (.str (Txt.mul i j)) else none
theorem zYb:PrS2 K c (fun x y H Q=>∃z n,x=.str z/\y=.int n/\MulOk z n/\Q (.str (Txt.mul z n)) H) mulS:=fun u w H x y z Q hx hy e q=>by
 obtain⟨i,e1,e2⟩:=bnd e;obtain⟨j,e3,e4⟩:=bnd e2;obtain⟨p,rfl⟩:=vZo e4;exact⟨i,j,yR hx e1,jB hy e3,p,q _ fun _=>.str _⟩
end
section
variable{K:aQ}{c:Nat->aV}
noncomputable def vYw:D->Bool
 |.non =>true
 |_=>false
noncomputable def isN(x y:D):Option D:=match y with
 |.non =>some (.bl (vYw x))
 |_=>none
noncomputable def notN(x y:D):Option D:=match y with
 |.non =>some (.bl (!vYw x))
 |_=>none
theorem vWi{F:Hp}{u:V}{x:D}(h:DAt K c F u x):decide (u=.non)=vYw x:=by
 cases h <;> simp[vYw]
theorem jVt:PrS2 K c (fun x y H Q=>y=.non /\Q (.bl (decide (x=.non))) H) isN:=fun u w H x y z Q hx hy e q=>by
 unfold isN at e;split at e
 ·cases e;cases hy;exact⟨rfl,by rw[vWi hx];exact q _ fun _=>.bl _⟩
 ·cases e
theorem zYa:PrS2 K c (fun x y H Q=>y=.non /\Q (.bl (!decide (x=.non))) H) notN:=fun u w H x y z Q hx hy e q=>by
 unfold notN at e;split at e
 ·cases e;cases hy;exact⟨rfl,by rw[vWi hx];exact q _ fun _=>.bl _⟩
 ·cases e
noncomputable def toV:D->Option V
 |.non =>some .non
 |.int i=>some (.int i)
 |.str x=>some (.str x)
 |.bl b=>some (.bl b)
 |_=>none
noncomputable def allV:List D->Option (List V)
 |[]=>some []
 |d::r=>(toV d).bind fun v=>(allV r).bind fun vs=>some (v::vs)
theorem vW6{F:Hp}{u:V}{d:D}(h:DAt K c F u d)(e:toV d=some v):u=v/\qJr v=true:=by
 cases h <;> cases e <;> exact⟨rfl,rfl⟩
theorem vZw{F:Hp}:∀{us:List V} {ds:List D} {vs:List V},DsAt K c F us ds->allV ds=some vs->us=vs/\vs.all qJr=true
 |us,[],vs,h,e=>by cases e;exact⟨h.un0,rfl⟩
 | us,d::ds,vs,h,e=>by
   obtain⟨u,r,rfl,a,b⟩:=h.un;obtain⟨v,e1,e2⟩:=bnd e;obtain⟨ws,e3,e4⟩:=bnd e2;cases e4;obtain⟨h1,h2⟩:=vW6 a e1;obtain⟨h3,h4⟩:=vZw b e3;grind
noncomputable def inB(x y:D):Option Bool:=match y with
 |.nd (.dct ks) _=>(vYu x).bind fun k=>some (kidx k ks).isSome
 |.nd .lst ds=>(toV x).bind fun v=>(allV ds).bind fun vs=>some (inV v vs)
 |.nd .tup ds=>(toV x).bind fun v=>(allV ds).bind fun vs=>some (inV v vs)
 |_=>none
noncomputable def inD(x y:D):Option D:=(inB x y).map .bl
noncomputable def niD(x y:D):Option D:=(inB x y).map fun b=>.bl (!b)
noncomputable def rInA(K:aQ)(neg:Bool):R2:=fun x y H Q=>rIn K neg x y H Q\/∃a o,y=.ref a/\DGet H a x o/\Q (.bl (if neg then !o.isSome else o.isSome)) H
theorem jZc(hu:X.A.units+1<cLine):OpR X (bL .In) (rInA X.K false):=zQx.or (jZb hu)
theorem zQw(hu:X.A.units+1<cLine):OpR X (bL .NotIn) (rInA X.K true):=vZ3.or (zQv hu)
theorem zJa{neg:Bool}{u w:V}{x y:D}{b:Bool}(hx:DAt K c H u x)(hy:DAt K c H w y)(e:inB x y=some b)(q:Q (.bl (if neg then !b else b)) H):rInA K neg u w H Q:=by
 unfold inB at e;split at e
 ·obtain⟨k,e1,e2⟩:=bnd e;cases e2;obtain⟨p,vs,rfl,⟨h1,h2,h3⟩,h4⟩:=hy.un;rw[qK5 hx e1];refine .inr ⟨p,_,rfl,zJe h3,?_⟩;rw[qKq h1];rename_i ks ds;have:((kidx k ks).bind fun j=>vs[j]?).isSome =(kidx k ks).isSome :=by
   cases e5:kidx k ks with
   |none=>rfl
   | some j=>
     have:=(vKp e5).1;rw[h1]at this;show(vs[j]?).isSome =true;rw[aI this];rfl
  rw[this];exact q
 ·obtain⟨v,e1,e2⟩:=bnd e;obtain⟨vs',e3,e4⟩:=bnd e2;cases e4;obtain⟨p,vs,rfl,h1,h2⟩:=hy.un;obtain⟨g1,g2⟩:=vW6 hx e1;obtain⟨g3,g4⟩:=vZw h2 e3;subst g1 g3;exact .inl ⟨p,vs,rfl,.inl h1,g2,g4,q⟩
 ·obtain⟨v,e1,e2⟩:=bnd e;obtain⟨vs',e3,e4⟩:=bnd e2;cases e4;obtain⟨p,vs,rfl,h1,h2⟩:=hy.un;obtain⟨g1,g2⟩:=vW6 hx e1;obtain⟨g3,g4⟩:=vZw h2 e3;subst g1 g3;exact .inl ⟨p,vs,rfl,.inr h1,g2,g4,q⟩
 ·cases e
theorem jJx:PrS2 K c (rInA K false) inD:=fun u w H x y z Q hx hy e q=>by
 obtain⟨b,e1,rfl⟩:=bP.mp e;exact zJa (neg:=false) hx hy e1 (q _ fun _=>.bl _)
theorem zJ3:PrS2 K c (rInA K true) niD:=fun u w H x y z Q hx hy e q=>by
 obtain⟨b,e1,rfl⟩:=bP.mp e;exact zJa (neg:=true) hx hy e1 (q _ fun _=>.bl _)
noncomputable def negD(x:D):Option D:=(qQ2 x).bind fun i=>some (.int (-i))
end
noncomputable abbrev oAdd:=o2 (i2 fun i j=>i+j)
noncomputable abbrev oSub:=o2 (i2 fun i j=>i - j)
noncomputable abbrev oMul:=o2 (i2g IntMulOk fun i j=>i * j)
noncomputable abbrev oDiv:=o2 (i2g qJt fun i j=>i / j)
noncomputable abbrev oMod:=o2 (i2g (fun _ j=>0<j) fun i j=>i % j)
noncomputable abbrev oPow:=o2 (i2g CPow fun i j=>i ^ j.toNat)
noncomputable abbrev oLt:=o2 (c2 fun i j=>decide (i<j))
noncomputable abbrev oLe:=o2 (c2 fun i j=>decide (i<=j))
noncomputable abbrev oGt:=o2 (c2 fun i j=>decide (j<i))
section
variable{X:Cx}{c:Nat->aV}{E:XK}{a b d e:Expr}{oa ob oc:Oe}{pos:Pos}{k:Nat}
theorem qKb(ha:OD X c E a oa)(hb:OD X c E b ob):OD X c E (.BinOp a .Add b pos) (oAdd oa ob):=qYg jZe (zV1 _) ha hb
theorem zV3(ha:OD X c E a oa)(hb:OD X c E b ob):OD X c E (.BinOp a .Sub b pos) (oSub oa ob):=qYg jV7 (zV1 _) ha hb
theorem zV5(ha:OD X c E a oa)(hb:OD X c E b ob):OD X c E (.BinOp a .Mult b pos) (oMul oa ob):=qYg zYu (vV6 _ _) ha hb
theorem vYr(ha:OD X c E a oa)(hb:OD X c E b ob):OD X c E (.BinOp a .FloorDiv b pos) (oDiv oa ob):=qYg zWa (vV6 _ _) ha hb
theorem wG(ha:OD X c E a oa)(hb:OD X c E b ob):OD X c E (.BinOp a .Mod b pos) (oMod oa ob):=qYg jV9 (vV6 _ _) ha hb
theorem zV4(ha:OD X c E a oa)(hb:OD X c E b ob):OD X c E (.BinOp a .Pow b pos) (oPow oa ob):=qYg jV8 (vV6 _ _) ha hb
theorem vT(ha:OD X c E a oa)(hb:OD X c E b ob):OD X c E (.BinOp a .Add b pos) (o2 addS oa ob):=qYg vX5 zYg ha hb
theorem jZf(ha:OD X c E a oa)(hb:OD X c E b ob):OD X c E (.BinOp a .Mult b pos) (o2 mulS oa ob):=qYg vX4 zYb ha hb
theorem o_le(ha:OD X c E a oa)(hb:OD X c E b ob):OD X c E (.Compare a [.LtE] [b] pos) (oLe oa ob):=qKj vJi (qYe _) ha hb (yI _)
theorem o_gt(ha:OD X c E a oa)(hb:OD X c E b ob):OD X c E (.Compare a [.Gt] [b] pos) (oGt oa ob):=qKj jQj (qYe _) ha hb (yI _)
theorem zYx(hr:Room k X.A)(ha:OD X c E a oa)(hb:OD X c E b ob)(hm:behindInMarks .NotIn b=false:=by rfl):OD X c E (.Compare a [.NotIn] [b] pos) (o2 niD oa ob):=qKj (zQw (zZa hr)) zJ3 ha hb hm
theorem t_lt(ha:OD X c E a oa)(hb:OD X c E b ob):TD X c E (.Compare a [.Lt] [b] pos) (asB (oLt oa ob)):=qZf jJ5 (qYe _) ha hb (yI _)
theorem t_gt(ha:OD X c E a oa)(hb:OD X c E b ob):TD X c E (.Compare a [.Gt] [b] pos) (asB (oGt oa ob)):=qZf jQj (qYe _) ha hb (yI _)
theorem t_in(hr:Room k X.A)(ha:OD X c E a oa)(hb:OD X c E b ob)(hm:behindInMarks .In b=false:=by rfl):TD X c E (.Compare a [.In] [b] pos) (asB (o2 inD oa ob)):=qZf (jZc (zZa hr)) jJx ha hb hm
theorem jJl(ha:OD X c E a oa)(hb:OD X c E b ob):TD X c E (.Compare a [.Is] [b] pos) (asB (o2 isN oa ob)):=qZf jZa jVt ha hb (yI _)
theorem jQ5(ha:OD X c E a oa)(hb:OD X c E b ob):TD X c E (.Compare a [.IsNot] [b] pos) (asB (o2 notN oa ob)):=qZf zYt zYa ha hb (yI _)
theorem jJ9(ha:OD X c E a oa):OD X c E (.UnaryOp .USub a pos) (o1 negD oa):=jJ6 jQ3 (fun u H x z Q hx e q=>by
 obtain⟨i,e1,e2⟩:=bnd e;cases e2;exact⟨i,jB hx e1,q _ fun _=>.int _⟩) ha
theorem o_ix(hr:Room k X.A)(ha:OD X c E a oa)(hb:OD X c E b ob)(hs:vZx b:=by exact fun _ _=>rfl):OD X c E (.Subscript a b pos) (oIx oa ob):=jJ8 (zZa hr) ha hb hs
end
noncomputable def iSeq(K:aQ)(tl:TE):TI:=fun σ H R=>tl σ H fun x H1=>∃a,x=.ref a/\(((∃xs,SqL K H1 a xs)/\R (Itl K a) H1)\/((∃xs,SqT K H1 a xs)/\R (Itt K a) H1))
theorem jVw{tg l:Expr}{tl:TE}(hl:PE X l tl):PI X tg l (iSeq X.K tl):=by
 intro pins s σ H R I h;refine thn (hl pins s σ H _ I h) fun v s1 ⟨x,H1,I1,r1,q1⟩=>?_
 obtain⟨a,e,q1⟩:=q1;subst e;cases r1;rcases q1 with⟨⟨xs,hq⟩,q⟩|⟨⟨xs,hq⟩,q⟩
 ·obtain⟨its,rv,p,hz⟩:=I1.list hq;refine wpAny_pyIter_list p.isList ?_
  refine⟨s1.heap.objs.size,[s1.heap.objs.size],_,_,H1,rfl,I1.kept (t' :=s1.toks) fun b o e=>aK _ e,zQg a _,⟨_,aN _ rfl,rfl,rfl⟩,fun b hb=>?_,q⟩;have e:b=s1.heap.objs.size:=by simpa using hb
  subst e;exact I1.fpOk (aD _) (I1.hok.fresh (aD _))
 ·obtain⟨its,rv,p,hz⟩:=I1.tuple hq;refine wpAny_pyIter_tuple (show s1.heap.IsTuple a its.toArray from p) ?_
  refine⟨s1.heap.objs.size,[s1.heap.objs.size],_,_,H1,rfl,I1.kept (t' :=s1.toks) fun b o e=>aK _ e,vXs a _,⟨_,aN _ rfl,rfl,rfl⟩,fun b hb=>?_,q⟩;have e:b=s1.heap.objs.size:=by simpa using hb
  subst e;exact I1.fpOk (aD _) (I1.hok.fresh (aD _))
section
variable{K:aQ}{c:Nat->aV}{F:Hp}{a b:aV}{xs ys:List V}{ds es:List D}
theorem zWr(h:SqL K F a xs)(k:DsAt K c F xs ds):ItD K c F (Itl K a) ds:=by
 intro i H T sm hb;have h' :SqL K H a xs:=xC vC (xC sm h);refine⟨fun d hd=>?_,fun hi=>⟨xs,h',by rw[k.len];omega⟩⟩;obtain⟨v,h1,h2⟩:=k.get hd;refine⟨⟨xs,v,h',h1⟩,fun x H' y=>?_⟩;obtain⟨rfl,y2⟩:=y;have:=y2 xs h';rw[h1]at this;cases this;exact⟨Same.refl _,h2.same sm⟩
theorem zKb(h:SqT K F a xs)(k:DsAt K c F xs ds):ItD K c F (Itt K a) ds:=by
 intro i H T sm hb;have h' :SqT K H a xs:=vC.tup (sm.tup h);refine⟨fun d hd=>?_,fun hi=>⟨xs,h',by rw[k.len];omega⟩⟩;obtain⟨v,h1,h2⟩:=k.get hd;refine⟨⟨xs,v,h',h1⟩,fun x H' y=>?_⟩;obtain⟨rfl,y2⟩:=y;have:=y2 xs h';rw[h1]at this;cases this;exact⟨Same.refl _,h2.same sm⟩
noncomputable def rngD(lo:Int)(n:Nat):List D:=(List.range n).map fun(j:Nat)=>D.int (lo+(j:Int))
theorem zKd{lo:Int}:ItD K c F (Itr lo n) (rngD lo n):=by
 intro i H T sm hb;unfold rngD;refine⟨fun d hd=>?_,fun hi=>by rw[aP,List.length_range]at hi;exact Nat.le_of_eq hi.symm⟩;rw[cJ]at hd;cases q:(List.range n)[i]? with
 |none=>rw[q]at hd;cases hd
 | some j=>
   rw[q]at hd;cases hd;obtain⟨hl,e⟩:=aU.mp q;rw[List.getElem_range]at e;subst e;rw[List.length_range]at hl;refine⟨hl,fun x H' y=>?_⟩;obtain⟨rfl,rfl⟩:=y;exact⟨Same.refl _,.int _⟩
noncomputable def zipD:List D->List D->List D
 |d::ds,e::es=>D.tup [d,e]::zipD ds es
 |_,_=> []
theorem qYj:∀(ds es:List D),(zipD ds es).length =min ds.length es.length
 |[],es=>by simp[zipD]
 |d::ds,[]=>by simp[zipD]
 |d::ds,e::es=>by simp only[zipD,aW,qYj ds es];omega
theorem zipD_get:∀{ds es:List D} {i:Nat} {z:D},(zipD ds es)[i]?=some z->∃d e,ds[i]?=some d/\es[i]?=some e/\z=D.tup [d,e]
 |[],es,i,z,h=>by simp[zipD]at h
 |d::ds,[],i,z,h=>by simp[zipD]at h
 |d::ds,e::es,0,z,h=>by simp only[zipD,dF,Option.some.injEq]at h;exact⟨d,e,rfl,rfl,h.symm⟩
 | d::ds,e::es,i + 1,z,h=>by
   obtain⟨d',e',h1,h2,h3⟩:=zipD_get (ds:=ds) (es:=es) (i:=i) (z:=z) (by simpa[zipD] using h);exact⟨d',e',by simpa using h1,by simpa using h2,h3⟩
theorem vWc{T:Fp}{x y:V}{d e:D}{p:aV}(hn:H p=none)(hb:∀a,T a≠0->∃o,H a=some o/\Hb o)(hx:DAt K c (hide T H) x d)(hy:DAt K c (hide T H) y e):Same H (upd H p (.tup [x,y]))/\DAt K c (hide T (upd H p (.tup [x,y]))) (.ref p) (D.tup [d,e]):=by
 have sm:Same H (upd H p (.tup [x,y])):=.upd hn;have hp:T p=0:=by
  grind
 have ss:Same (hide T H) (hide T (upd H p (.tup [x,y]))):=zC fun a o z q=>⟨z,sm a o q⟩
 exact⟨sm,.of (k:=.tup) (SqT.of (by rw[zZ hp,upd_same])) (.cons (hx.same ss) (.cons (hy.same ss) .nil))⟩
noncomputable def qQ3:Nat->List D->List D
 |_,[]=> []
 |n,d::ds=>D.tup [.int (n:Int),d]::qQ3 (n+1) ds
theorem qXf:∀(n:Nat) (ds:List D),(qQ3 n ds).length =ds.length
 |_,[]=>rfl
 |n,d::ds=>by simp only[qQ3,aW,qXf (n+1) ds]
theorem enumD_get:∀{n:Nat} {ds:List D} {i:Nat} {z:D},(qQ3 n ds)[i]?=some z->∃d,ds[i]?=some d/\z=D.tup [.int ((n+i:Nat):Int),d]
 |n,[],i,z,h=>by simp[qQ3]at h
 |n,d::ds,0,z,h=>by simp only[qQ3,dF,Option.some.injEq]at h;exact⟨d,rfl,h.symm⟩
 | n,d::ds,i + 1,z,h=>by
   obtain⟨d',h1,h2⟩:=enumD_get (n:=n+1) (ds:=ds) (i:=i) (z:=z) (by simpa[qQ3] using h);exact⟨d',by simpa using h1,by rw[h2,show n+1+i=n+(i+1) by omega]⟩
theorem zWs(h:SqL K F a xs)(k:DsAt K c F xs ds):ItD K c F (Ite K a) (qQ3 0 ds):=by
 intro i H T sm hb;have g1:SqL K H a xs:=xC vC (xC sm h);refine⟨fun z hz=>?_,fun hi=>⟨xs,g1,by rw[qXf,←k.len]at hi;omega⟩⟩;obtain⟨d,e1,rfl⟩:=enumD_get hz;obtain⟨v,v1,v2⟩:=k.get e1;refine⟨⟨xs,v,g1,v1⟩,fun x H' y=>?_⟩;obtain⟨p,rfl,hn,y2⟩:=y;rw[y2 xs v g1 v1,Nat.zero_add];exact vWc hn hb (.int _) (v2.same sm)
end
noncomputable def qYd:D->Option (List D)
 |.nd .lst ds=>some ds
 |.nd .tup ds=>some ds
 |_=>none
noncomputable def qV6:D->Option (List D)
 |.nd .lst ds=>some ds
 |_=>none
noncomputable def vQ5:D->Option (List D)
 |.nd .tup ds=>some ds
 |_=>none
section
variable{K:aQ}{c:Nat->aV}{F:Hp}{u:V}{d:D}{ds:List D}
theorem vWg(h:DAt K c F u d)(e:qV6 d=some ds):∃p vs,u=.ref p/\SqL K F p vs/\DsAt K c F vs ds:=by
 unfold qV6 at e;split at e
 ·cases e;exact h.un
 ·cases e
theorem zJk(h:DAt K c F u d)(e:vQ5 d=some ds):∃p vs,u=.ref p/\SqT K F p vs/\DsAt K c F vs ds:=by
 unfold vQ5 at e;split at e
 ·cases e;exact h.un
 ·cases e
theorem zJs(h:DAt K c F u d)(e:qYd d=some ds):∃p vs,u=.ref p/\(SqL K F p vs\/SqT K F p vs)/\DsAt K c F vs ds:=by
 unfold qYd at e;split at e
 ·cases e;obtain⟨p,vs,a,b,r⟩:=h.un;exact⟨p,vs,a,.inl b,r⟩
 ·cases e;obtain⟨p,vs,a,b,r⟩:=h.un;exact⟨p,vs,a,.inr b,r⟩
 ·cases e
end
noncomputable def iV(s:SV):SI:=fun env=>(s env).bind fun r=>(opt (qYd r.1)).bind fun ds=>.ok (ds,r.2)
noncomputable def iL(f:List D->Option (List D))(ss:List SV):SI:=fun env=>(evVs ss env).bind fun r=>(opt (f r.1)).bind fun ds=>.ok (ds,r.2)
noncomputable def in62(j:Int):Bool:=decide (-(2 ^ 62)<=j) && decide (j<2 ^ 62)
theorem vKs{j:Int}(h:in62 j=true): -(2 ^ 62)<=j/\j<2 ^ 62:=by
 unfold in62 at h;rw[aF]at h;exact⟨of_decide_eq_true h.1,of_decide_eq_true h.2⟩
noncomputable def rg1:List D->Option (List D)
 |[.int j]=>cond (in62 j) (some (rngD 0 j.toNat)) none
 |_=>none
noncomputable def zpL:List D->Option (List D)
 |[x,y]=>(qV6 x).bind fun ds=>(qV6 y).bind fun es=>some (zipD ds es)
 |_=>none
noncomputable def zpT:List D->Option (List D)
 |[x,y]=>(vQ5 x).bind fun ds=>(vQ5 y).bind fun es=>some (zipD ds es)
 |_=>none
noncomputable def zpM:List D->Option (List D)
 |[x,y]=>(vQ5 x).bind fun ds=>(qV6 y).bind fun es=>some (zipD ds es)
 |_=>none
noncomputable def enL:List D->Option (List D)
 |[x]=>(qV6 x).bind fun ds=>some (qQ3 0 ds)
 |_=>none
section
variable{X:Cx}{c:Nat->aV}{E:XK}{tg e e1 e2:Expr}{s:SV}{ss:List SV}{p pos tpos:Pos}{elts:List Expr}{kk:Nat}
theorem qJ3(h:EV X c E e s):ID' X c E tg e (iV s):=by
 refine⟨PI.imp (jVw h.h) fun σ H R=>?_⟩;rintro⟨env,B,W,cf,w⟩;refine⟨env,B,W,cf,wp_mono (fun r w1 u H1 W1 g=>?_) (fun _ _ he=>he) (qB.mp w)⟩;obtain⟨ds,e1,w2⟩:=qN w1;obtain⟨q,vs,rfl,b1,b2⟩:=zJs g.at_ e1;rcases b1 with b1|b1
 ·exact⟨q,rfl,.inl ⟨⟨vs,xC vC b1⟩,w2 _ H1 W1 g.st g.cf (zWr b1 b2)⟩⟩
 ·exact⟨q,rfl,.inr ⟨⟨vs,vC.tup b1⟩,w2 _ H1 W1 g.st g.cf (zKb b1 b2)⟩⟩
theorem ds1{K:aQ}{F:Hp}{x:D}(h:DsAt K c F us [x]):∃u,us=[u]/\DAt K c F u x:=by
 obtain⟨u,r,rfl,a,b⟩:=h.un;rw[b.un0];exact⟨u,rfl,a⟩
theorem ds2{K:aQ}{F:Hp}{x y:D}(h:DsAt K c F us [x,y]):∃u w,us=[u,w]/\DAt K c F u x/\DAt K c F w y:=by
 obtain⟨u,r,rfl,a,b⟩:=h.un;obtain⟨w,rfl,b2⟩:=ds1 b;exact⟨u,w,rfl,a,b2⟩
theorem qX3(hg:Gl X "range")(hm:X.mg "range"=none)(ha:VsD X c E [e] ss)(hs:aX [e] X.env=[(false,eval e X.env)]:=by rfl):ID' X c E tg (.Call (.Name "range" p) [e] [] pos) (iL rg1 ss):=by
 refine⟨PI.imp (zQu hg hm ha.h hs) fun σ H R=>?_⟩;rintro⟨env,B,W,cf,w⟩;refine qXj cf (qB.mp w) fun r w1 us H1 W1 g=>?_
 obtain⟨ds,e1,w2⟩:=qN w1;have ga:=g.at_;unfold rg1 at e1;split at e1
 ·rename_i j e2;rw[e2]at ga;obtain⟨u,rfl,a⟩:=ds1 ga;obtain⟨q1,q2⟩:=zN e1;cases q2;cases a;exact⟨j,rfl,(vKs q1).1,(vKs q1).2,w2 _ H1 W1 g.st g.cf zKd⟩
 ·cases e1
theorem zKg(hg:Gl X "enumerate")(hm:X.mg "enumerate"=none)(ha:VsD X c E [e] ss)(hs:aX [e] X.env=[(false,eval e X.env)]:=by rfl)(hs2:aX [] X.env=[]:=by rfl):ID' X c E (.Tuple elts kk tpos) (.Call (.Name "enumerate" p) [e] [] pos) (iL enL ss):=by
 refine⟨PI.imp (zYk hg hm ha.h hs hs2) fun σ H R=>?_⟩;rintro⟨env,B,W,cf,w⟩;refine qXj cf (qB.mp w) fun r w1 us H1 W1 g=>?_
 obtain⟨ds,e1,w2⟩:=qN w1;have ga:=g.at_;unfold enL at e1;split at e1
 ·rename_i x e2;rw[e2]at ga;obtain⟨u,rfl,a⟩:=ds1 ga;obtain⟨xs,q1,e3⟩:=bnd e1;cases e3;obtain⟨q,vs,rfl,c1,c2⟩:=vWg a q1;exact⟨q,rfl,⟨_,xC vC c1⟩,w2 _ H1 W1 g.st g.cf (zWs c1 c2)⟩
 ·cases e1
end
noncomputable def Res.ne{α:Type}:Res α->Res α
 |.ok a=>.ok a
 |_=>.no
theorem zK6{Q:α->Prop}{E E' :Nat->List (Str×D)->Prop}:∀{x:Res α},x.ne.wp Q E->x.wp Q E'
 |.ok _,h=>h
 |.er _ _,h=>h.elim
 |.no,h=>h.elim
noncomputable def qQ4(g:SG)(t:ST)(el:SV):List D->Ev->Res (List D×Ev)
 |[],env=>.ok ([],env)
 |d::ds,env=>(opt (g d env)).bind fun e1=>(t e1).ne.bind fun r=>cond r.1 ((el r.2).ne.bind fun v=>(qQ4 g t el ds v.2).bind fun q=>.ok (v.1::q.1,q.2)) (qQ4 g t el ds r.2)
noncomputable def capO(cs:List (Nat×Nat))(i:Nat):Option Nat:=match cs with
 |[]=>none
 |c::r=>if c.1=i then some c.2 else capO r i
theorem qW8:∀{cs:List (Nat×Nat)} {i j:Nat},capO cs i=some j->(i,j)∈cs
 |[],i,j,h=>by cases h
 | c::r,i,j,h=>by
   simp only[capO]at h;split at h
   ·grind
   ·exact aB _ (qW8 h)
theorem vKd:∀{cs:List (Nat×Nat)} {i i' j:Nat},(cs.map (·.2)).Nodup ->(i,j)∈cs->(i',j)∈cs->i=i'
 | c::r,i,i',j,hn,h1,h2=>by
   rw[bX,dR]at hn;rcases bV.mp h1 with a1|a1
   ·grind
   ·rcases bV.mp h2 with a2 | a2
    ·grind
    ·exact vKd hn.2 a1 a2
noncomputable def capS{α:Type}(cs:List (Nat×Nat))(u:α)(l:List α):Nat->Nat->List α
 |_,0=> []
 | i,n + 1=>(match capO cs i with
   |some j=>l.getD j u
   |none=>u)::capS cs u l (i+1) n
theorem vQa{cs:List (Nat×Nat)}{u:α}{l:List α}:∀(n i:Nat),(capS cs u l i n).length =n
 | 0,i=>rfl
 |n+1,i=>by rw[capS,aW,vQa n]
theorem vQb{cs:List (Nat×Nat)}{u:α}{l:List α}:∀(n i k:Nat),k<n->(capS cs u l i n)[k]?=some (match capO cs (i+k) with
  |some j=>l.getD j u
  |none=>u)
 | 0,i,k,h=>by omega
 |n+1,i,0,h=>by rw[capS];rfl
 | n + 1,i,k + 1,h=>by
   rw[capS,List.getElem?_cons_succ,vQb n (i+1) k (by omega),show i+1+k=i+(k+1) by omega]
noncomputable def qQ0(cs:List (Nat×Nat)):Nat->Nat->Ev->Ev
 |_,0,env=>env
 | i,n + 1,env=>qQ0 cs (i + 1) n (match capO cs i with
   |some j=>env.set j .un
   |none=>env)
noncomputable def putI(cs:List (Nat×Nat)):Nat->Ev->Ev->Ev
 |_,[],env=>env
 | i,s::inn,env=>putI cs (i + 1) inn (match capO cs i with
   |some j=>env.set j s
   |none=>env)
noncomputable def vJp(cs:List (Nat×Nat))(T:List Nat)(n m:Nat):Bool:=decide ((cs.map (·.1)).Nodup /\(cs.map (·.2)).Nodup /\∀c∈cs,c.1<n/\c.2<m/\c.1∉T)
theorem qXr{cs:List (Nat×Nat)}:∀{n i:Nat} {env:Ev},(qQ0 cs i n env).length =env.length
 | 0,i,env=>rfl
 | n + 1,i,env=>by
   rw[qQ0,qXr];grind
theorem vJ6{cs:List (Nat×Nat)}:∀{inn:Ev} {i:Nat} {env:Ev},(putI cs i inn env).length =env.length
 |[],i,env=>rfl
 | s::inn,i,env=>by
   rw[putI,vJ6];grind
theorem vJx{cs:List (Nat×Nat)}{k:Nat}{o:O}:∀{n i:Nat} {env:Ev},(qQ0 cs i n env)[k]?=some (.s true o)->env[k]?=some (.s true o)
 | 0,i,env,h=>h
 | n + 1,i,env,h=>by
   rw[qQ0]at h;have:=vJx h;cases e:capO cs i with
   |none=>rw[e]at this;exact this
   |some j=>rw[e]at this;exact(qJ5 (fun _ z=>by cases z) this).2
theorem vKl{cs:List (Nat×Nat)}{k:Nat}{o:O}:∀{inn:Ev} {i:Nat} {env:Ev},(putI cs i inn env)[k]?=some (.s true o)->env[k]?=some (.s true o)\/∃i',capO cs i' =some k/\i<=i' /\inn[i' - i]?=some (.s true o)
 |[],i,env,h=>.inl h
 | s::inn,i,env,h=>by
   rw[putI]at h;rcases vKl h with h|⟨i',h1,h2,h3⟩
   ·cases e:capO cs i with
    |none=>rw[e]at h;exact .inl h
    | some j=>
      rw[e]at h;by_cases z:j=k
      ·subst z;dsimp only at h;rw[eZ]at h;simp only[if_true]at h;split at h
       ·exact .inr ⟨i,e,aD _,by rw[Nat.sub_self];exact h⟩
       ·cases h
      ·dsimp only at h;rw[bZ z]at h;exact .inl h
   ·exact .inr ⟨i',h1,by omega,by rw[show i' - i=(i' - (i+1))+1 by omega,List.getElem?_cons_succ];exact h3⟩
section
variable{K:aQ}{c:Nat->aV}{F H:Hp}{cs:List (Nat×Nat)}
theorem cap_in{env0:Ev}(h2:(cs.map (·.2)).Nodup)(h3:∀e∈cs,e.2<env0.length):∀{n i:Nat} {env:Ev} {W:Fp},SlAt K c F H env σ W->(∀i' j,i<=i' ->capO cs i' =some j->env[j]?=env0[j]?)->
  ∃Wi R,SlAt K c F H (capS cs .un env0 i n) (capS cs none σ i n) Wi/\SlAt K c F H (qQ0 cs i n env) σ R/\∀a,W a=Wi a+R a
 | 0,i,env,W,h,q=>⟨fun _=>0,W,⟨⟨rfl,h.tab⟩,fun _=>rfl⟩,h,fun a=>by(try dsimp only);omega⟩
 | n + 1,i,env,W,h,q=>by
   cases e:capO cs i with
   | none=>
     obtain⟨Wi,R,a1,a2,a3⟩:=cap_in h2 h3 (n:=n) (i:=i+1) h fun i' j hi he=>q i' j (by omega) he
     refine⟨Wi,R,?_,?_,a3⟩
     ·rw [capS,capS,e];exact⟨none,_,fun _=>0,Wi,rfl,fun _=>rfl,a1,fun a=>by(try dsimp only);omega⟩
     ·rw[qQ0,e];exact a2
   | some j=>
     have hm:=qW8 e;have hj:j<env0.length:=h3 _ hm;have e1:env[j]?=some env0[j]:=by rw[q i j (aD _) e];exact aI hj
     obtain⟨x,Z1,R1,k1,k2,k3,k4⟩:=h.focus e1;have k5:=k4 F H .un x (fun _=>0) R1 (Same.refl _) (fun _ _=>rfl) (fun _=>rfl) fun a=>by(try dsimp only);omega
     rw[yS k1]at k5;obtain⟨Wi,R,a1,a2,a3⟩:=cap_in h2 h3 (n:=n) (i:=i+1) k5 fun i' j' hi he=>by
      have nj:j≠j' :=fun z=>by
       subst z;have:=vKd h2 hm (qW8 he);omega
      rw[bZ nj];exact q i' j' (by omega) he
     refine⟨fun a=>Z1 a+Wi a,R,?_,?_,fun a=>by rw[k3,a3];(try dsimp only);omega⟩
     ·rw [capS,capS,e];refine⟨x,_,Z1,Wi,?_,?_,a1,fun _=>rfl⟩
      ·dsimp only;rw[bI,k1];rfl
      ·dsimp only;rw[bI,aI hj];exact k2
     ·rw[qQ0,e];exact a2
theorem cap_out:∀{inn:Ev} {σ2:L2.St} {i:Nat} {env:Ev} {R Wi:Fp},SlAt K c F H inn σ2 Wi->SlAt K c F H env σ R->(∀(k j:Nat),capO cs (i+k)=some j->k<inn.length->j<env.length/\σ2[k]?=σ[j]?)->(∀a,Wi a+R a<=1)->∃W,SlAt K c F H (putI cs i inn env) σ W/\∀a,W a<=Wi a+R a
 |[],σ2,i,env,R,Wi,h,k,q,_=>⟨R,k,fun a=>by omega⟩
 | s::inn,σ2,i,env,R,Wi,h,k,q,nd=>by
   obtain⟨x,r,Z1,Z2,rfl,b,cc,d⟩:=h;cases e:capO cs i with
   | none=>
     obtain⟨W,h1,h2⟩:=cap_out (i:=i+1) cc k (fun m j he hm=>by
      obtain⟨q1,q2⟩:=q (m+1) j (by rw[show i+(m+1)=i+1+m by omega];exact he) (by rw[aW];omega);exact⟨q1,by simpa using q2⟩) (fun a=>by have:=nd a;rw[d]at this;omega)
     refine⟨W,?_,fun a=>by have:=h2 a;rw[d];omega⟩;rw[putI,e];exact h1
   | some j=>
     obtain⟨q1,q2⟩:=q 0 j (by rw[Nat.add_zero];exact e) (by rw[aW];omega);rw[dF]at q2;obtain⟨y,Y1,R1,k1,k2,k3,k4⟩:=k.focus (aI q1);rw[←q2]at k1;cases k1;have k5:=k4 F H s x Z1 (fun a=>Z1 a+R1 a) (Same.refl _) (fun _ _=>rfl) b fun _=>rfl
     rw[yS q2.symm]at k5;obtain⟨W,h1,h2⟩:=cap_out (i:=i+1) cc k5 (fun m j' he hm=>by
      obtain⟨g1,g2⟩:=q (m+1) j' (by rw[show i+(m+1)=i+1+m by omega];exact he) (by rw[aW];omega);exact⟨by rw[cW];exact g1,by simpa using g2⟩) (fun a=>by have:=nd a;rw[d,k3]at this;(try dsimp only);omega)
     refine⟨W,?_,fun a=>by have:=h2 a;(try dsimp only at this);rw[d,k3];omega⟩;rw[putI,e];exact h1
theorem Cf.write{p:aV}{ho:HO}(cf:Cf K c env σ H B W)(hp:B p≠0)(hb:Hb ho):Cf K c env σ (upd H p ho) B W:=by
 have hh:(hd2 B W) p≠0:=by dsimp only[hd2];omega
 have np:∀a,W a≠0->a≠p:=fun a z y=>by have:=cf.nd a;rw[y]at z this;omega
 refine⟨by rw[qK7 hh];exact cf.at_.keep (Same.refl _) fun a z=>qL (np a z),cf.nd,fun a z=>?_⟩;by_cases y:a=p
 ·subst y;exact⟨ho,upd_same,hb⟩
 ·rw[qL y];exact cf.hb a z
end
noncomputable def compS(n:Nat)(cs:List (Nat×Nat))(T:List Nat)(it:SI)(g:SG)(t:ST)(el:SV):SE:=fun env=>(it env).bind fun r=>cond (vJp cs T n r.2.length && decide (r.1.length<=lim))
 ((qQ4 g t el r.1 (capS cs .un r.2 0 n)).bind fun q=>.ok (.ow .lst (q.1.map .fz),putI cs 0 q.2 (qQ0 cs 0 n r.2))) .no
structure TDs(X:Cx)(c:Nat->aV)(E:XK)(ifs:List Expr)(t:ST):Prop where
 h:PTs X ifs (tT X.K c E t)
noncomputable def bTrue:ST:=fun env=>.ok (true,env)
theorem PTs.imp{e:List Expr}{t:TT}(h:PTs X e t)(k:∀σ H Q,t' σ H Q->t σ H Q):PTs X e t' :=fun pins s σ H Q I q=>h pins s σ H Q I (k σ H Q q)
theorem qJa:TDs X c E [] bTrue:=by
 refine⟨PTs.imp zX3 fun σ H Q=>?_⟩;rintro⟨env,B,W,cf,w⟩;exact w H W .refl cf
noncomputable abbrev EN' :XK:=fun _ _ _=>False
set_option maxHeartbeats 1000000 in
theorem vJz{K:aQ}{cs:List (Nat×Nat)}{T:List Nat}{t:ST}{el:SV}(h:tE K c E (compS n cs T it g t el) σ H Q):
  tComp (tIt K c E it) (tG K c T g) (tT K c EN' t) (tV K c EN' el) (fun σ=>capS cs none σ 0 n) σ H Q:=by
 obtain⟨env,B,W,cf,w⟩:=h;refine⟨env,B,W,cf,wp_mono (fun r1 h1 J H1 W1 st1 cf1 iter p hp=>?_) (fun _ _ he=>he) (qB.mp w)⟩;obtain⟨ds,e1⟩:=r1;obtain⟨hck,h1⟩:=zV h1;rw[aF]at hck;obtain⟨n1,n2,n3⟩:=(of_decide_eq_true hck.1:(cs.map (·.1)).Nodup /\(cs.map (·.2)).Nodup /\∀c∈cs,c.1<n/\c.2<e1.length/\c.1∉T)
 have hlim:ds.length<=lim:=of_decide_eq_true hck.2;obtain⟨Wi,R,i1,i2,i3⟩:=cap_in n2 (fun e he=>(n3 e he).2.1) (n:=n) (i:=0) cf1.at_ (fun _ _ _ _=>rfl);have nd1:∀a,B a+(Wi a+R a)<=1:=fun a=>by have:=cf1.nd a;rw[i3]at this;exact this
 obtain⟨pB,pW⟩:=cf1.fresh hp;have pWi:Wi p=0/\R p=0:=by have:=i3 p;omega
 have smp:Same H1 (upd H1 p (.lst [])):=.upd hp;have cellp:∀a,a≠p->upd H1 p (.lst []) a=H1 a:=fun a z=>qL z
 let B0:Fp:=fun a=>B a+R a
 have hB0:∀a,B0 a=B a+R a:=fun _=>rfl
 have sm0:Same (hide (hd2 B W1) H1) (hide (hd2 (hd2 B0 (one p)) Wi) (upd H1 p (.lst []))):=zC fun a o z q=>by
  have ne:a≠p:=fun y=>by rw[y,hp]at q;cases q
  have:=xQ ne;have:=i3 a;have:=hB0 a;dsimp only[hd2]at *;exact⟨by omega,by rw[cellp a ne];exact q⟩
 have cfI:Cf K c (capS cs .un e1 0 n) (capS cs none σ 0 n) (upd H1 p (.lst [])) (hd2 B0 (one p)) Wi:=by
  refine⟨i1.keep sm0 fun a z=>cellp a fun y=>by rw[y]at z;omega,fun a=>?_,fun a z=>?_⟩
  ·have:=nd1 a;have:=hB0 a;by_cases y:a=p
   ·subst y;dsimp only[hd2];rw[wZ];omega
   ·dsimp only[hd2];rw[xQ y];omega
  ·by_cases y:a=p
   ·subst y;exact⟨_,upd_same,trivial⟩
   ·rw [cellp a y];exact cf1.hbs (by have:=i3 a;have:=hB0 a;dsimp only[hd2]at z;rw[xQ y]at z;omega)
 generalize hPost:(fun r:List D×Ev=>∀u H' W' Z,Got K c env σ H B W (putI cs 0 r.2 (qQ0 cs 0 n e1)) H' W' Z (.ow .lst (r.1.map .fz)) u->Q u H')=Post
 let Inv:Nat->Nat->L2.St->List V->Hp->Prop:=fun i m σ2 ys H2=>m=ds.length - i/\i<=ds.length/\∃inn W2 out,Step (capS cs .un e1 0 n) (capS cs none σ 0 n) (upd H1 p (.lst [])) B0 (hd2 Wi (one p)) inn σ2 H2 (hd2 W2 (one p))/\Cf K c inn σ2 H2 (hd2 B0 (one p)) W2/\
  H2 p=some (.lst ys)/\DsAt K c (hide (hd2 (hd2 B0 (one p)) W2) H2) ys out/\ys.length<=i/\(∀e∈cs,σ2[e.1]?=(capS cs none σ 0 n)[e.1]?)/\(qQ4 g t el (ds.drop i) inn).wp (fun q=>Post (out ++ q.1,q.2)) (fun _ _=>True)
 refine⟨Inv,⟨ds.length,by simp,dW _,_,Wi,[],.refl,cfI,upd_same,.nil,aD _,fun _ _=>rfl,?_⟩,?_⟩
 ·refine wp_mono (fun q hq=>?_) (fun _ _ _=>trivial) (qB.mp h1);subst hPost;exact hq
 rintro i m σ2 ys H2 ⟨rfl,hi,inn,W2,out,st2,cf2,at2,dsO,hly,hσ,w2⟩;refine⟨at2,vXh (by omega),?_⟩;have eqI:hide (hd2 (hd2 B0 (one p)) Wi) (upd H1 p (.lst []))=hide (hd2 B0 (hd2 Wi (one p))) (upd H1 p (.lst [])):=z9 fun a=>by dsimp only[hd2];omega
 have eq2:hide (hd2 (hd2 B0 (one p)) W2) H2=hide (hd2 B0 (hd2 W2 (one p))) H2:=z9 fun a=>by dsimp only[hd2];omega
 have smI:Same (hide (hd2 B W1) H1) (hide (hd2 (hd2 B0 (one p)) W2) H2):=sm0.trans (by rw[eqI,eq2];exact st2.same);have p0:B0 p=0:=by rw[hB0];omega
 have pBp:(hd2 B0 (one p)) p≠0:=by dsimp only[hd2];rw[wZ];omega
 obtain⟨it1,it2⟩:=iter i H2 (hd2 (hd2 B0 (one p)) W2) smI (fun a z=>cf2.hbs z);by_cases hlt:i<ds.length
 ·obtain⟨go,yl⟩:=it1 ds[i] (aI hlt);refine .inr ⟨go,fun x H3 y=>?_⟩;obtain⟨sm3,hx⟩:=yl x H3 y;rw[cB hlt]at w2;obtain⟨e3,e2,w3⟩:=qN w2;refine⟨inn,_,W2,ds[i],e3,cf2.grow sm3,hx,e2,fun σ4 W4 st4 cf4 kσ=>⟨e3,_,W4,cf4,wp_mono (fun r q H5 W5 st5 cf5=>?_) (fun _ _ he=>he) (zK6 (E' :=erP K c EN' H3 (hd2 B0 (one p)) W4) (qB.mp w3))⟩⟩;obtain⟨b,e5⟩:=r;have st25:=((Step.grow cf2 sm3).trans st4).trans st5;have at5:H5 p=some (.lst ys):=by rw[st25.by_ p pBp];exact at2
  have hσ4:∀e∈cs,σ4[e.1]?=(capS cs none σ 0 n)[e.1]?:=fun e he=>(kσ e.1 (n3 e he).2.2).trans (hσ e he)
  cases b with
  | false=>
    have l25:=st25.lift (B:=B0) (Z:=one p) (W' :=hd2 W2 (one p)) (Y' :=hd2 W5 (one p)) (fun _=>rfl) (fun _=>rfl) (fun _=>rfl);exact⟨ds.length - (i+1),by omega,rfl,hlt,e5,W5,out,st2.trans l25,cf5,at5,dsO.same st25.same,by omega,hσ4,q⟩
  | true=>
    refine⟨e5,_,W5,cf5,wp_mono (fun r q u H6 W6 g6=>?_) (fun _ _ he=>he) (zK6 (E' :=erP K c EN' H5 (hd2 B0 (one p)) W5) (qB.mp q))⟩;obtain⟨v,e6⟩:=r;have st26:=st25.trans g6.st;have at6:H6 p=some (.lst ys):=by rw[st26.by_ p pBp];exact at2
    have l26:=st26.lift (B:=B0) (Z:=one p) (W' :=hd2 W2 (one p)) (Y' :=hd2 W6 (one p)) (fun _=>rfl) (fun _=>rfl) (fun _=>rfl);have hh6:(hd2 (hd2 B0 (one p)) W6) p≠0:=by dsimp only[hd2]at *;omega
    have hh7:(hd2 B0 (hd2 W6 (one p))) p≠0:=by dsimp only[hd2];rw[wZ];omega
    have wr:Step e6 σ4 H6 B0 (hd2 W6 (one p)) e6 σ4 (upd H6 p (.lst (ys ++ [u]))) (hd2 W6 (one p)):=by
     refine⟨by rw[qK7 hh7];exact Same.refl _,fun a z=>qL fun y=>by rw[y]at z;exact z p0,fun a z=>.inl z,fun a z=>?_,fun a _ _=>?_,fun _ o h=>⟨⟨o,h⟩,rfl⟩,rfl⟩
     ·by_cases y:a=p
      ·subst y;rw[upd_same]at z;cases z
      ·rw[qL y]at z;exact z
     ·by_cases y:a=p
      ·subst y;rw[at6];trivial
      ·exact .of (qL y)
    refine⟨at6,ds.length - (i+1),by omega,rfl,hlt,e6,W6,out ++ [v],(st2.trans l26).trans wr,g6.cf.write pBp trivial,upd_same,?_,by rw[aJ,List.length_singleton];omega,hσ4,?_⟩
    ·rw [qK7 hh6];exact(dsO.same st26.same).append (.cons g6.at_ .nil)
    ·exact wp_mono (fun q hq=>by rw[bU];exact hq) (fun _ _ _=>trivial) (qB.mp q)
 ·have hi2:i=ds.length:=by omega
  subst hi2;refine .inl ⟨it2 rfl,?_⟩;rw[List.drop_length]at w2;have w3:Post (out ++ [],inn):=w2;rw[bG,←hPost]at w3;have nd2:∀a,B a+R a+one p a+W2 a<=1:=fun a=>by have:=cf2.nd a;have:=hB0 a;dsimp only[hd2]at *;omega
  have cellR:∀a,R a≠0->H2 a=H1 a:=fun a z=>by
   rw[st2.by_ a (by rw[hB0];omega)];exact cellp a fun y=>by rw[y]at z;omega
  have linn:inn.length=n:=by rw[st2.len,vQa]
  obtain⟨W3,o1,o2⟩:=cap_out (cs:=cs) (i:=0) cf2.at_ (i2.keep smI cellR) (fun k j he hk=>by
   rw[Nat.zero_add]at he;have hm:=qW8 he;obtain⟨m1,m2,_⟩:=n3 _ hm;refine⟨by rw[qXr];exact m2,?_⟩;rw[hσ _ hm];show(capS cs none σ 0 n)[k]?=σ[j]?;have hj:j < σ.length:=by rw[←cf1.len];exact m2
   rw[vQb n 0 k m1,Nat.zero_add,he];dsimp only;rw[bI,aI hj];rfl) (fun a=>by have:=nd2 a;omega)
  have smE:Same (hide (hd2 (hd2 B0 (one p)) W2) H2) (hide (hd2 (hd2 B (one p)) W3) H2):=jE fun a z=>by have:=o2 a;have:=hB0 a;dsimp only[hd2]at *;omega
  have eqE:hide (hd2 (hd2 B (one p)) W3) H2=hide (hd2 B (hd2 W3 (one p))) H2:=z9 fun a=>by dsimp only[hd2];omega
  refine w3 (.ref p) H2 W3 (one p) ⟨st1.trans ⟨by rw[←eqE];exact smI.trans smE,fun a z=>?_,fun a z=>?_,fun a z=>?_,fun a z1 z2=>?_,fun k o h=>⟨?_,rfl⟩,by rw[vJ6,qXr]⟩,⟨o1.keep smE fun _ _=>rfl,fun a=>?_,fun a z=>?_⟩,OAt.ow.mpr ⟨p,ys,fun _=>0,rfl,at2,OsAt.fzs.mpr ⟨dsO.same smE,fun _=>rfl⟩,fun _=>rfl⟩⟩
  ·rw [st2.by_ a (by rw [hB0];omega)];exact cellp a fun y=>by rw[y]at z;omega
  ·by_cases y:a=p
   ·exact .inr (by rw[y];exact hp)
   ·have y1:=xQ y;have:=o2 a;by_cases q:R a=0
    ·rcases st2.new a (by dsimp only [hd2] at *;omega) with q1 | q1
     ·exact .inl (by rw[i3];dsimp only[hd2]at q1;omega)
     ·exact .inr (by rw[cellp a y]at q1;exact q1)
    ·exact .inl (by rw[i3];omega)
  ·have:=st2.dom a z;by_cases y:a=p
   ·subst y;rw[upd_same]at this;cases this
   ·rw[cellp a y]at this;exact this
  ·have y:a≠p:=fun y=>by rw [y] at z1;exact z1 pW
   have y1:=xQ y;by_cases q:R a=0
   ·have:=st2.pin a (by have:=i3 a;dsimp only [hd2];omega) (by have:=o2 a;dsimp only [hd2] at *;omega);rw[cellp a y]at this;exact this
   ·exact .of (cellR a q)
  ·rcases vKl h with h | ⟨i',k1,_,k3⟩
   ·exact⟨o,vJx h⟩
   ·rw [Nat.sub_zero] at k3;obtain⟨⟨o0,k4⟩,_⟩:=st2.io i' o k3;have hi' :i'<n:=by rw[←linn];exact(aU.mp k3).1
    rw[vQb n 0 i' hi',Nat.zero_add,k1]at k4;have k5:=Option.some.inj k4;dsimp only at k5;rw[bI]at k5;cases e:e1[k]? with
    |none=>rw[e]at k5;cases k5
    |some s=>rw[e]at k5;exact⟨o0,by rw[←k5];rfl⟩
  ·have:=nd2 a;have:=o2 a;dsimp only[hd2];omega
  ·exact cf2.hb a (by have:=hB0 a;dsimp only[hd2]at *;omega)
theorem qXo{scope:Scope}{Nc:List Str}(hk:scope.kind=.function)(hfree:∀x∈scope.names,x.2≠ .free)(hcell:∀x∈scope.names,x.2≠ .cell)(hnames:∀y∈scope.names,y.2=.local ->scope.names.lookup y.1=some .local):
  Caps X scope [] Nc (fun σ=>capS [] none σ 0 Nc.length):=by
 have e:(fun σ:L2.St=>capS [] none σ 0 Nc.length)=(fun _=>List.replicate Nc.length none):=by
  funext σ;have:∀n i,capS [] (none:Option V) σ i n=List.replicate n none:=fun n=>by
   induction n with
   |zero=>intro i;rfl
   |succ n ih=>intro i;rw[capS,ih,List.replicate_succ];rfl
  grind
 rw[e];exact jWs hk hfree hcell hnames
section
variable{X:Cx}{c:Nat->aV}{E:XK}{tg iter elt:Expr}{ifs:List Expr}{scope:Scope}{cl:List (Str×aV)}{Nc:List Str}{cs:List (Nat×Nat)}{T:List Nat}{pos:Pos}{it:SI}{g:SG}{t:ST}{el:SV}
theorem qY7(hc:X.calm=true)(cp:Caps X scope cl Nc (fun σ=>capS cs none σ 0 Nc.length))(hi:ID' X c E tg iter it)(hg:∀C s H fp,GD (cCx X scope cl C Nc s H fp) c tg T g)(ht:∀C s H fp,TDs (cCx X scope cl C Nc s H fp) c EN' ifs t)(he:∀C s H fp,EV (cCx X scope cl C Nc s H fp) c EN' elt el)(hs:∀x,foldedSetIterable iter X.env x=pure x:=by intro _;rfl):ED X c E (.ListComp elt [⟨tg,iter,ifs,0⟩] scope pos) (compS Nc.length cs T it g t el):=
 ⟨PE.imp (zYp hc cp hi.h (fun C s H fp=>(hg C s H fp).h) (fun C s H fp=>(ht C s H fp).h) (fun C s H fp=>(he C s H fp).h) hs) fun _ _ _ h=>vJz h⟩
theorem jVa{K:aQ}{s:SE}{D:Ends}{x:Str}(hi:N[i]?=some x)(hl:σ.length=N.length)(h:tS K c E (sSet i s) D σ H):tE K c E s σ H fun x H1=>vY0 i x σ H1 D.nx:=by
 obtain⟨env,B,W,cf,w⟩:=h;refine⟨env,B,W,cf,wp_mono (fun r1 h1 u H1 W1 Z g=>?_) (fun _ _ he=>he) (qB.mp w)⟩;obtain⟨W2,s2,c2⟩:=g.r.put (qY1 g.cf hl hi);exact h1 _ H1 W2 s2 c2
theorem vKf{y:Str}{py spos:Pos}(hc:X.calm=true)(hN:X.N.Nodup)(hiy:X.N[i]?=some y)(hy:Loc X.env.scope y)(cp:Caps X scope cl Nc (fun σ=>capS cs none σ 0 Nc.length))(hi:ID' X c E tg iter it)(hg:∀C s H fp,GD (cCx X scope cl C Nc s H fp) c tg T g)(ht:∀C s H fp,TDs (cCx X scope cl C Nc s H fp) c EN' ifs t)(he:∀C s H fp,EV (cCx X scope cl C Nc s H fp) c EN' elt el)(hsw:swapsWith (.ListComp elt [⟨tg,iter,ifs,0⟩] scope pos) (some (.Name y py)) spos.line X.env=pure true:=by rfl)(hs:∀x,foldedSetIterable iter X.env x=pure x:=by intro _;rfl)(hf:X.fn y=true\/X.env.scope.names.lookup y=some .local :=by first|exact .inl rfl|exact .inr rfl|assumption):
  SD X c E (.Assign [.Name y py] (.ListComp elt [⟨tg,iter,ifs,0⟩] scope pos) spos) (sSet i (compS Nc.length cs T it g t el)):=
 ⟨PS.len (PS.imp (zX9 hc hN hiy hy cp hi.h (fun C s H fp=>(hg C s H fp).h) (fun C s H fp=>(ht C s H fp).h) (fun C s H fp=>(he C s H fp).h) hsw hs hf) fun D σ H h=>vJz (n:=Nc.length) (cs:=cs) (T:=T) (it:=it) (g:=g) (t:=t) (el:=el) (jVa hiy h.1 h.2))⟩
end
noncomputable def evI:Option SV->Ev->Res (Option Int×Ev)
 |none,env=>.ok (none,env)
 |some s,env=>(s env).bind fun r=>(opt (qQ2 r.1)).bind fun i=>.ok (some i,r.2)
noncomputable def tI(K:aQ)(c:Nat->aV)(E:XK)(s:Option SV):TO:=fun σ H Q=>∃env B W,Cf K c env σ H B W/\(evI s env).wp (fun r=>∀H' W',Step env σ H B W r.2 σ H' W' ->Cf K c r.2 σ H' B W' ->Q r.1 H') (erP K c E H B W)
structure PD(X:Cx)(c:Nat->aV)(E:XK)(e:Option Expr)(s:Option SV):Prop where
 h:PO X e (tI X.K c E s)
theorem PO.imp{e:Option Expr}{t t' :TO}(h:PO X e t)(k:∀σ H Q,t' σ H Q->t σ H Q):PO X e t' :=fun pins s σ H Q I q=>h pins s σ H Q I (k σ H Q q)
theorem zYs:PD X c E none none:=by
 refine⟨PO.imp zYi fun σ H Q=>?_⟩;rintro⟨env,B,W,cf,w⟩;exact w H W .refl cf
theorem qWw{s:SV}(h:EV X c E e s):PD X c E (some e) (some s):=by
 refine⟨PO.imp (zYh h.h) fun σ H Q=>?_⟩;rintro⟨env,B,W,cf,w⟩;refine⟨env,B,W,cf,wp_mono (fun r1 h1 u H1 W1 g=>?_) (fun _ _ he=>he) (qB.mp w)⟩;obtain⟨i,e1,h2⟩:=qN h1;exact⟨i,jB g.at_ e1,h2 H1 W1 g.st g.cf⟩
noncomputable def cutL{α:Type}(xs:List α)(lo hi:Option Int):List α:=(xs.drop (HT.sIx xs.length 0 lo)).take (HT.sIx xs.length xs.length hi - HT.sIx xs.length 0 lo)
theorem jJe{K:aQ}{F:Hp}{ds:List D}{lo hi:Option Int}(h:DsAt K c F vs ds):DsAt K c F (cutV vs lo hi) (cutL ds lo hi):=by
 unfold cutV cutL;rw[h.len];exact(h.drop _).take _
noncomputable def eSlL(o:Oe)(lo hi:Option SV):SE:=fun env=>(evO o env).bind fun r=>(evI lo r.2).bind fun r1=>(evI hi r1.2).bind fun r2=>cond r.1.st ((rsvB r2.2 r.1).bind fun x=>(opt (qV6 x.1)).bind fun ds=>.ok (.ow .lst ((cutL ds r1.1 r2.1).map .fz),x.2)) .no
section
variable{X:Cx}{c:Nat->aV}{E:XK}{e:Expr}{lo hi:Option Expr}{pos p2:Pos}{o:Oe}{sl sh:Option SV}
theorem Vw.lst{K:aQ}{F:Hp}{u:V}{x:D}{ds:List D}(s:Same F H)(h:Vw K c F H u x)(e:qV6 x=some ds):∃p vs,u=.ref p/\SqL K H p vs/\DsAt K c F vs ds:=by
 unfold qV6 at e;split at e
 ·cases e;exact h.un s
 ·cases e
theorem zW9(he:OD X c E e o)(hl:PD X c E lo sl)(hu:PD X c E hi sh):ED X c E (.Subscript e (.Slice lo hi none p2) pos) (eSlL o sl sh):=by
 refine⟨PE.imp (vJ9 zXr he.h hl.h hu.h) fun σ H Q=>?_⟩;rintro⟨env,B,W,cf,w⟩;refine yU cf (qB.mp w) fun r w1 u H1 W1 g=>?_
 refine⟨r.2,B,W1,g.cf,wp_mono (fun r2 h2 H2 W2 st2 cf2=>?_) (fun _ _ he=>he.back g.st) (qB.mp w1)⟩;refine⟨r2.2,B,W2,cf2,wp_mono (fun r3 h3 H3 W3 st3 cf3=>?_) (fun _ _ he=>he.back (g.st.trans st2)) (qB.mp h2)⟩;obtain⟨hs,w4⟩:=zV h3;have ha:=(g.at_.step st2.same hs).step st3.same hs;obtain⟨x,env4,W4,st4,cf4,vw,w5⟩:=vKi cf3 ha (qB.mp w4);obtain⟨ds,e1,w6⟩:=qN w5;obtain⟨p,vs,rfl,b1,b2⟩:=vw.lst vC e1;refine⟨p,vs,rfl,b1,fun q hq=>?_⟩;have sm:Same H3 (upd H3 q (.lst (cutV vs r2.1 r3.1))):=.upd hq;exact w6 (.ref q) _ W4 _ ((Got.lay cf4 hq sm (k:=.lst) upd_same ((jJe b2).same (qK2 cf4 hq sm))).back (((g.st.trans st2).trans st3).trans st4))
end
section
variable{K:aQ}{c:Nat->aV}
noncomputable def lenD:List D->Option D
 |[.nd .lst ds]=>some (.int ds.length)
 |[.nd .tup ds]=>some (.int ds.length)
 |[.nd (.dct ks) _]=>some (.int ks.length)
 |[.str z]=>cond (decide (z.length<=aT)) (some (.int z.length)) none
 |_=>none
noncomputable def rLen(K:aQ):List V->Hp->VK->Prop:=fun xs H Q=>(∃p ys,xs=[.ref p]/\(SqL K H p ys\/SqT K H p ys)/\Q (.int ys.length) H)\/(∃z,xs=[.str z]/\z.length<=aT/\Q (.int z.length) H)\/(∃p ws,xs=[.ref p]/\Rd H p (.dK ws)/\Q (.int (ws.length:Nat)) H)
theorem zVn:jW X (.builtin "len") (fun xs H Q=>∃p ws,xs=[.ref p]/\Rd H p (.dK ws)/\Q (.int (ws.length:Nat)) H):=by
 intro pins s σ H xs us Q I r h;obtain⟨p,ws,rfl,hp,q⟩:=h;obtain⟨u,rfl,ru⟩:=xS r;cases ru;exact jWp I hp fun t s' I' =>⟨.int ws.length,H,I',⟨_,rfl⟩,q⟩
theorem zVo:jW X (.builtin "len") (rLen X.K):=vJb.or (vJa.or zVn)
theorem jVs:PrSN K c (rLen K) lenD:=fun us H xs z Q hv e q=>by
 unfold lenD at e;split at e
 ·cases e;obtain⟨u,rfl,a⟩:=ds1 hv;obtain⟨p,vs,rfl,h1,h2⟩:=a.un;exact .inl ⟨p,vs,rfl,.inl h1,by rw[h2.len];exact q _ fun _=>.int _⟩
 ·cases e;obtain⟨u,rfl,a⟩:=ds1 hv;obtain⟨p,vs,rfl,h1,h2⟩:=a.un;exact .inl ⟨p,vs,rfl,.inr h1,by rw[h2.len];exact q _ fun _=>.int _⟩
 ·cases e;obtain⟨u,rfl,a⟩:=ds1 hv;obtain⟨p,vs,rfl,⟨h1,h2,h3⟩,h4⟩:=a.un;refine .inr (.inr ⟨p,_,rfl,h3,?_⟩);rw[List.length_zip,←h1,Nat.min_self];exact q _ fun _=>.int _
 ·rename_i z';obtain⟨q1,q2⟩:=zN e;cases q2;obtain⟨u,rfl,a⟩:=ds1 hv;cases a;exact .inr (.inl ⟨z',rfl,of_decide_eq_true q1,q _ fun _=>.int _⟩)
 ·cases e
noncomputable def strD:List D->Option D
 |[.int i]=>cond (decide (i.natAbs.log2<1920)) (some (.str (toString i))) none
 |_=>none
theorem jVr:PrSN K c (fun xs H Q=>∃i,xs=[.int i]/\i.natAbs.log2<1920/\Q (.str (toString i)) H) strD:=fun us H xs z Q hv e q=>by
 unfold strD at e;split at e
 ·obtain⟨q1,q2⟩:=zN e;cases q2;obtain⟨u,rfl,a⟩:=ds1 hv;cases a;exact⟨_,rfl,of_decide_eq_true q1,q _ fun _=>.str _⟩
 ·cases e
noncomputable def max2D:List D->Option D
 |[.int i,.int j]=>some (.int (if j > i then j else i))
 |_=>none
theorem zYc:PrSN K c (fun xs H Q=>∃i j,xs=[.int i,.int j]/\Q (.int (if j > i then j else i)) H) max2D:=fun us H xs z Q hv e q=>by
 unfold max2D at e;split at e
 ·cases e;obtain⟨u,w,rfl,a,b⟩:=ds2 hv;cases a;cases b;exact⟨_,_,rfl,q _ fun _=>.int _⟩
 ·cases e
noncomputable def listD:List D->Option (List D)
 |[d]=>qYd d
 |_=>none
theorem vws1{F:Hp}{x:D}(h:Vws K c F H us [x]):∃u,us=[u]/\Vw K c F H u x:=by
 cases us with
 |nil=>exact h.elim
 | cons u us=>
   cases us with
   |nil=>exact⟨u,rfl,h.1⟩
   |cons _ _=>exact h.2.elim
theorem Vw.seq{F:Hp}{u:V}{d:D}{ds:List D}(s:Same F H)(h:Vw K c F H u d)(e:qYd d=some ds):∃p vs,u=.ref p/\(SqL K H p vs\/SqT K H p vs)/\DsAt K c F vs ds:=by
 unfold qYd at e;split at e
 ·cases e;obtain⟨p,vs,a,b,r⟩:=h.un s;exact⟨p,vs,a,.inl b,r⟩
 ·cases e;obtain⟨p,vs,a,b,r⟩:=h.un s;exact⟨p,vs,a,.inr b,r⟩
 ·cases e
theorem zQ3{T:Fp}{p:aV}(hn:H p=none)(sm:Same H H'):Same (hide T H) (hide (hd2 T (one p)) H'):=zC fun a o z q=>⟨by
 have np:a≠p:=fun z=>by rw[z,hn]at q;cases q
 have:=xQ np;dsimp only[hd2];omega,sm a o q⟩
theorem zYd:PrF K c (fun xs H Q=>∃p ys,xs=[.ref p]/\(SqL K H p ys\/SqT K H p ys)/\∀l,H l=none->Q (.ref l) (upd H l (.lst ys))) listD:=fun us H T xs ds Q hb hv e q=>by
 unfold listD at e;split at e
 ·obtain⟨u,rfl,v⟩:=vws1 hv;obtain⟨p,vs,rfl,h1,h2⟩:=v.seq vC e;exact⟨p,vs,rfl,h1,fun l hl=>q l vs _ hl (.upd hl) upd_same (h2.same (zQ3 hl (.upd hl)))⟩
 ·cases e
noncomputable def tupleD:List D->Option D
 |[.nd .lst ds]=>some (.tup ds)
 |_=>none
theorem zJ2:PrA K c (fun xs H Q=>∃p ys,xs=[.ref p]/\((SqL K H p ys/\∀l,H l=none->Q (.ref l) (upd H l (.tup ys)))\/(SqT K H p ys/\Q (.ref p) H))) tupleD:=fun us H T xs z Q hb hv e q=>by
 unfold tupleD at e;split at e
 ·cases e;obtain⟨u,rfl,v⟩:=vws1 hv;obtain⟨p,vs,rfl,h1,h2⟩:=v.un vC;refine⟨p,vs,rfl,.inl ⟨h1,fun l hl=>?_⟩⟩;have sm:Same H (upd H l (.tup vs)):=.upd hl;have hp:T l=0:=by
   grind
  exact q _ _ sm (.of (k:=.tup) (SqT.of (by rw[zZ hp,upd_same])) (h2.same (zC fun a o z y=>⟨z,sm a o y⟩)))
 ·cases e
end
noncomputable def jJu(K:aQ):R2:=fun x y H Q=>∃l b xs zs,x=.ref l/\y=.ref b/\SqL K H l xs/\SqL K H b zs/\xs.length+zs.length<=aT/\∀p,H p=none->Q (.ref p) (upd H p (.lst (xs ++ zs)))
theorem zYv:OpR X (binaryOp .Add) (jJu X.K):=by
 intro pins s σ H x y v u Q I rx ry h;obtain⟨l,b,xs,zs,rfl,rfl,hH,hB,hz,q⟩:=h;cases rx;cases ry;obtain⟨its,r,pl,_⟩:=I.list hH;obtain⟨its2,r2,pl2,_⟩:=I.list hB;obtain⟨⟨cls,dd,data,sl⟩,n,ho,hc,_,hd⟩:=pl;obtain⟨⟨cls2,dd2,data2,sl2⟩,n2,ho2,hc2,_,hd2⟩:=pl2;subst hc hd hc2 hd2;have hl:=r.length;have hl2:=r2.length;refine concat_meets ⟨_,ho,rfl⟩ ⟨_,ho2,rfl⟩ noFill_list_add seq_list_add PySem.F.slot_list_add PySem.F.entry_list_add (PySem.F.args_list_add_2 _ _) (list_addW l b its.toArray its2.toArray n n2 dd dd2 sl sl2 (by simp only[bJ];omega)) ⟨ho,ho2,?_⟩;have ea:its.toArray ++ its2.toArray=(its ++ its2).toArray :=by simp
 rw[ea];exact⟨.ref _,_,I.lnew (t' :=s.toks) (r.append r2) (by rw[aJ];omega),rfl,q _ I.fresh⟩
noncomputable def eCat(a b:Oe):SE:=fun env=>(evO a env).bind fun r1=>(evO b r1.2).bind fun r2=>cond (r1.1.st || b.isP) ((qWm [r1.1,r2.1] r2.2).bind fun q=>match q.1 with
 |[x,y]=>(opt (qV6 x)).bind fun ds=>(opt (qV6 y)).bind fun es=>cond (decide (ds.length+es.length<=lim)) (.ok (.ow .lst ((ds ++ es).map .fz),q.2)) .no
 |_=>.no) .no
theorem qKo{a b:Expr}{oa ob:Oe}(ha:OD X c E a oa)(hb:OD X c E b ob):ED X c E (.BinOp a .Add b pos) (eCat oa ob):=by
 refine⟨PE.imp (jQf zYv ha.h hb.h) fun σ H Q=>?_⟩;rintro⟨env,B,W,cf,w⟩;refine yU cf (qB.mp w) fun r1 w1 u H1 W1 g1=>?_
 refine yU g1.cf (wp_mono (fun _ q=>q) (fun C fs he=>he.back g1.st) (qB.mp w1)) fun r2 w2 v H2 W2 g2=>?_
 obtain⟨hs,w3⟩:=zV w2;obtain⟨xs,env4,W4,st4,cf4,vw,w4⟩:=rsvBs_wp (hs:=[r1.1,r2.1]) (us:=[u,v]) g2.cf ⟨g1.next g2 hs,g2.at_,trivial⟩ (qB.mp w3);obtain⟨x,xs,rfl⟩:∃x r,xs=x::r:=by cases xs with
  |nil=>exact vw.elim
  |cons x r=>grind
 obtain⟨y,rfl,v2⟩:∃y,xs=[y]/\Vw X.K c (hide (hd2 B W4) H2) H2 v y:=by
  cases xs with
  |nil=>exact vw.2.elim
  | cons y r=>cases r with
    |nil=>exact⟨y,rfl,vw.2.1⟩
    |cons _ _=>exact vw.2.2.elim
 obtain⟨ds,e1,w5⟩:=qN w4;obtain⟨es,e2,w6⟩:=qN w5;obtain⟨hl,w7⟩:=zV w6;obtain⟨p,vs,rfl,b1,b2⟩:=vw.1.lst vC e1;obtain⟨q,ws,rfl,d1,d2⟩:=v2.lst vC e2;refine⟨p,q,vs,ws,rfl,rfl,b1,d1,by have:=vXh (of_decide_eq_true hl);rw[b2.len,d2.len];omega,fun l hq=>?_⟩;have sm:Same H2 (upd H2 l (.lst (vs ++ ws))):=.upd hq;exact w7 (.ref l) _ W4 _ ((Got.lay cf4 hq sm (k:=.lst) upd_same ((b2.append d2).same (qK2 cf4 hq sm))).back ((g1.st.trans g2.st).trans st4))
noncomputable def tyN:D->String
 |.non =>"NoneType"
 |.int _=>"int"
 |.str _=>"str"
 |.bl _=>"bool"
 |.nd .lst _=>"list"
 |.nd .tup _=>"tuple"
 |.nd (.dct _) _=>"dict"
 |_=>""
noncomputable def isiB(t n:String):Bool:=(t == n) || (t == "bool" && n == "int")
theorem zY4{K:aQ}{t n:String}{b:Bool}(h:PySem.W.kitMeta n=true)(e:(fastBuiltinMro t).map (·.contains (.type n))=some b)(hne:(Value.type t == Value.type n)=false):bW K (.type t) (.type n)=some b:=by
 unfold bW;rw[hne];show(if PySem.W.kitMeta n=true then PySem.W.subIn K (.type t) (.type n) else none)=some b;rw[if_pos h];exact e
theorem zWn{K:aQ}{t:String}:bW K (.type t) (.type t)=some true:=by
 unfold bW;grind
noncomputable abbrev tys:List String:=["NoneType","int","str","tuple","bool","list","dict"]
theorem zY5{K:aQ}:∀t∈tys,∀n∈(["int","str","tuple","bool","list","dict"]:List String),bW K (.type t) (.type n)=some (isiB t n):=by
 have go:∀t∈tys,∀n∈(["int","str","tuple","bool","list","dict"]:List String),t=n\/(PySem.W.kitMeta n=true/\(fastBuiltinMro t).map (·.contains (.type n))=some (isiB t n)/\(Value.type t == Value.type n)=false):=by
  decide +kernel
 intro t ht n hn;rcases go t ht n hn with rfl|⟨h1,h2,h3⟩
 ·rw[zWn,show isiB t t=true by simp[isiB]]
 ·exact zY4 h1 h2 h3
theorem zVq:jW X (.builtin "isinstance") (fun xs H Q=>∃a vs n b,xs=[.ref a,.ty n]/\SqL X.K H a vs/\bW X.K (.type "list") (.type n)=some b/\Q (.bl b) H):=by
 intro pins s σ H xs us Q I r h;obtain⟨a,vs,n,b,rfl,ht,e,q⟩:=h;obtain⟨u,w',rfl,r1,r2⟩:=vJd r;cases(show u=Value.ref a from r1);cases(show w' =Value.type n from r2);obtain⟨its,_,⟨o,n',h1,h2,_⟩,_⟩:=I.list ht;exact bO PySem.W.kitx_list I.kIn ⟨o,h1,h2⟩ e (fun z=>nomatch z) fun tk=>⟨.bl b,H,I.tok tk,rfl,q⟩
noncomputable def zV0(K:aQ):List V->Hp->VK->Prop:=fun xs H Q=>rIsi K xs H Q\/(∃a vs n b,xs=[.ref a,.ty n]/\SqT K H a vs/\bW K (.type "tuple") (.type n)=some b/\Q (.bl b) H)\/(∃a vs n b,xs=[.ref a,.ty n]/\SqL K H a vs/\bW K (.type "list") (.type n)=some b/\Q (.bl b) H)
theorem vW4:jW X (.builtin "isinstance") (zV0 X.K):=zXc.or (zVp.or zVq)
noncomputable def isiD(n:String)(d:D):Option D:=cond (tyN d != "") (some (.bl (isiB (tyN d) n))) none
theorem jZ0{K:aQ}{u:V}{d z:D}{n:String}(hn:n∈(["int","str","tuple","bool","list","dict"]:List String))(h:DAt K c H u d)(e:isiD n d=some z)(q:∀v,(∀F,DAt K c F v z)->Q v H):zV0 K [u,.ty n] H Q:=by
 obtain⟨q1,q2⟩:=zN e;cases q2;have fin:Q (.bl (isiB (tyN d) n)) H:=q _ fun _=>.bl _
 have k:tyN d∈tys->bW K (.type (tyN d)) (.type n)=some (isiB (tyN d) n):=fun hm=>zY5 (tyN d) hm n hn
 cases h with
 |non=>exact .inl ⟨_,_,_,_,rfl,.non,k (by simp[tyN]),fin⟩
 |int i=>exact .inl ⟨_,_,_,_,rfl,.int i,k (by simp[tyN]),fin⟩
 |str i=>exact .inl ⟨_,_,_,_,rfl,.str i,k (by simp[tyN]),fin⟩
 |bl i=>exact .inl ⟨_,_,_,_,rfl,.bl i,k (by simp[tyN]),fin⟩
 |fn j=>simp[tyN]at q1
 | @nd p kd vs ds h l r=>
   cases kd with
   |lst=>exact .inr (.inr ⟨p,vs,n,_,rfl,h,k (by simp[tyN]),fin⟩)
   |tup=>exact .inr (.inl ⟨p,vs,n,_,rfl,h,k (by simp[tyN]),fin⟩)
   | dct ks=>
     rcases h.2.2 with e|⟨o,e⟩
     ·exact .inl ⟨_,_,_,_,rfl,.dK e,k (by simp[tyN]),fin⟩
     ·exact .inl ⟨_,_,_,_,rfl,.dZ e,k (by simp[tyN]),fin⟩
   |dcT ks=>simp[tyN]at q1
   |obj C fs=>simp[tyN]at q1
   |exc C fs=>simp[tyN]at q1
theorem yG{n:String}{x y:Str}{p q:Pos}{o:Oe}(hn:n∈(["int","str","tuple","bool","list","dict"]:List String))(hg:Gl X x)(hm:X.mg x=none)(hv:cM x=some (.builtin "isinstance"))(hg2:Gl X y)(hm2:X.mg y=none)(hv2:cM y=some (.type n))(ha:OD X c E e o)(hx:x≠"__name__":=by decide)(hdb:(x == ("__debug__":Str))=false:=by decide)(hy:y≠"__name__":=by decide)(hdy:(y == ("__debug__":Str))=false:=by decide)(he:aX [e, .Name y q] X.env=(false,eval e X.env)::aX [.Name y q] X.env:=by rfl)(hs2:aX [.Name y q] X.env=(false,eval (.Name y q) X.env)::aX [] X.env:=by rfl)(hpl:(cX pos (aX [.Name y q] X.env)).any (·.1)=false:=by rfl):
  OD X c E (.Call (.Name x p) [e, .Name y q] [] pos) (o1 (isiD n) o):=by
 refine⟨PE.imp (qW7 vW4 hg hm hv (wX ha.h (wX (vKn hg2 hm2 hv2 (v:=.ty n) rfl hy hdy) qQr hs2) he) hx hdb he hpl) fun σ H Q h=>?_⟩;exact vJe (K:=X.K) (r:=fun u H Q=>zV0 X.K [u,.ty n] H Q) (fun u H x z Q hx e q=>jZ0 hn hx e q) h
section
variable{X:Cx}{c:Nat->aV}{E:XK}{e e2:Expr}{pos p:Pos}{o oa:Oe}
theorem wB(hg:Gl X "len")(hm:X.mg "len"=none)(ha:OD X c E e o)(he:aX [e] X.env=[(false,eval e X.env)]:=by rfl)(h0:aX [] X.env=[]:=by rfl):OD X c E (.Call (.Name "len" p) [e] [] pos) (oL lenD [o]):=
 qKz zVo jVs hg hm Boot.«len» (qG ha qK (by rw[he,h0])) (by decide) (by decide) (by rw[he,h0]) (by rw[h0];rfl)
theorem vJk(hg:Gl X "str")(hm:X.mg "str"=none)(ha:OD X c E e o)(he:aX [e] X.env=[(false,eval e X.env)]:=by rfl)(h0:aX [] X.env=[]:=by rfl):OD X c E (.Call (.Name "str" p) [e] [] pos) (oL strD [o]):=
 vVn vZ8 jVr hg hm Boot.«str» (qG ha qK (by rw[he,h0])) (by decide) (by decide) (by rw[he,h0]) (by rw[h0];rfl)
theorem zZ1(hc:X.calm=true)(hg:Gl X "max")(hm:X.mg "max"=none)(ha:OD X c E e o)(hb:OD X c E e2 oa)(he:aX [e,e2] X.env=(false,eval e X.env)::aX [e2] X.env:=by rfl)(he2:aX [e2] X.env=(false,eval e2 X.env)::aX [] X.env:=by rfl)(h0:aX [] X.env=[]:=by rfl):OD X c E (.Call (.Name "max" p) [e,e2] [] pos) (oL max2D [o,oa]):=
 qKz (zVm hc) zYc hg hm Boot.«max» (qG ha (qG hb qK he2) he) (by decide) (by decide) he (by rw[he2,h0];rfl)
theorem zXk(hg:Gl X "tuple")(hm:X.mg "tuple"=none)(ha:OD X c E e o)(he:aX [e] X.env=[(false,eval e X.env)]:=by rfl)(h0:aX [] X.env=[]:=by rfl):EV X c E (.Call (.Name "tuple" p) [e] [] pos) (svA tupleD [o]):=
 zVe vQ4 zJ2 hg hm Boot.«tuple» (qG ha qK (by rw[he,h0])) (by decide) (by decide) (by rw[he,h0]) (by rw[h0];rfl)
theorem jJd(hg:Gl X "list")(hm:X.mg "list"=none)(ha:OD X c E e o)(he:aX [e] X.env=[(false,eval e X.env)]:=by rfl)(h0:aX [] X.env=[]:=by rfl):ED X c E (.Call (.Name "list" p) [e] [] pos) (eF listD [o]):=
 zVf vZ9 zYd hg hm Boot.«list» (qG ha qK (by rw[he,h0])) (by decide) (by decide) (by rw[he,h0]) (by rw[h0];rfl)
end
structure MethAt(K:aQ)(x qual:Str)(st:Stmt)(ps:List Str)(f:aV)(fd:aH):Prop where
 F:Fun K x qual st f fd
 b:wV K fd ps []
noncomputable def pOf:Oe->SP
 |.p s=>s
 |.v _=>fun _=>none
theorem fnNo{K:aQ}{k:Nat}{f:aV}:FnOk P w K mg base CX k f fd ps (spD K c n fun _=>.no):=
 ⟨fun vs H Q E z=>(by obtain⟨_,_,_,_,_,z⟩:=z;exact z.elim),fun _ _ _ _ _ _ _ _ _ _ _ _ _ z=>(by obtain⟨_,_,_,_,_,z⟩:=z;exact z.elim)⟩
theorem FnOk.lv{K:aQ}{k:Nat}{f:aV}{sp:Sp}(e:j=k)(h:FnOk P w K mg base CX j f fd ps sp):FnOk P w K mg base CX k f fd ps sp:=by grind
section
variable{X:Cx}{c:Nat->aV}{E:XK}{o k e:Expr}{pos pos' apos cpos:Pos}{oo ok:Oe}{a:SE}{cs:List Nat}{f:Str}
theorem qYh(h:OD X c E e oo)(hp:oo.isP=true:=by rfl):OD X c E e (Am.b (pOf oo)).o :=by
 cases oo with
 |p s=>exact h
 |v s=>cases hp
theorem xE(ho:OD X c E o oo)(ha:ED X c E e a)(hp:oo.isP=true:=by rfl)(hbase:attributeBase o "append" X.env (eval o X.env)=eval o X.env:=by rfl)(hfew:((cX cpos (aX [e] X.env)).all (fun x=>!x.1) && (backToKw cpos (keywordEach [] X.env)).all (fun x=>x.1.isSome) && decide (([e]:List Expr).length+([]:List Keyword).length+(if([]:List Keyword).isEmpty then 0 else 1)<30))=true:=by rfl)(hline:(apos.endLine == cpos.line)=true:=by rfl)(hs:aX [e] X.env=(false,eval e X.env)::aX [] X.env:=by rfl)(hplain:(cX cpos (aX [] X.env)).any (·.1)=false:=by rfl):
  ED X c E (.Call (.Attribute o "append" apos) [e] [] cpos) (eMu1 (pOf oo) a apF):=by
 cases oo with
 |p s=>exact zVg ho ha hbase hfew hline hs hplain
 |v s=>cases hp
theorem jWo(ho:OD X c E o oo)(hp:oo.isP=true:=by rfl)(hbase:attributeBase o "pop" X.env (eval o X.env)=eval o X.env:=by rfl)(hline:(apos.endLine == cpos.line)=true:=by rfl):ED X c E (.Call (.Attribute o "pop" apos) [] [] cpos) (ePop (pOf oo)):=by
 cases oo with
 |p s=>exact jJc ho hbase hline
 |v s=>cases hp
theorem vXb(okF:qV8 X.K c cs f)(ho:OD X c E o oo)(hv:ED X c E e a)(hp:oo.isP=true:=by rfl)(hs:swapsWith e (some (.Attribute o f pos')) pos.line X.env=pure false:=by rfl):SD X c E (.Assign [.Attribute o f pos'] e pos) (vJg cs f (pOf oo) a):=by
 cases oo with
 |v s=>cases hp
 |p s=>exact zXt okF ho hv hs
theorem zZs{rd:TIp}{g:D->D->Option D}{t:SV}(okF:qV8 X.K c cs f)(ho:OD X c E o oo)(hv:EV X c E e t)(hop:PIp X op rd)(hpr:PrS2 X.K c rd g)(hp:oo.isP=true:=by rfl):SD X c E (.AugAssign (.Attribute o f pos') op e pos) (vYo cs f g (pOf oo) t):=by
 cases oo with
 |v s=>cases hp
 |p s=>exact zXu okF ho hv hop hpr
end
noncomputable def zpA(xs:List D):Option (List D):=match zpL xs with
 |some r=>some r
 | none=>match zpT xs with
   |some r=>some r
   |none=>zpM xs
noncomputable def vYn(C:aV)(f:Str):Sp:=fun vs H Q _=>∃ea t v,vs=[.ref ea,v]/\H ea=some (.ext (ExcR ea (.ref C) t none))/\∀dx,H dx=none->Q .non (upd (upd H ea (.ext (ExcR ea (.ref C) t (some dx)))) dx (.xd [(f,v)]))
theorem iniD{K:aQ}{x:Str}{st:Stmt}{C:aV}{a b f:Str}{s0:Stmt}(F:Fun K x qual st fI fd)(S:FnScope [a,b] [a,b] (qY st))(hn:bN K (.ref C) f=some none)(hb:∀(cdv:Value) (A:cC) (outer:List Env) (s:aY) (H:Hp) (E:XK),PS (cxOf (CXd P w) P w K mg base [a,b] qual (qY st) fI cdv A outer s H E) s0 (sXF K C (tVar 0) (tVar 1) f))(hst:jQ st=[s0]):
  FnOk P w K mg base (CXd P w) 1 fI fd [a,b] (vYn C f):=by
 refine F.okD S (fun vs H Q E h=>?_) (fun cdv Ar outer s H vs Q E hr h=>?_)
 ·obtain⟨ea,t,v,rfl,_⟩:=h;rfl
 ·obtain⟨ea,t,v,rfl,he,q⟩:=h;refine⟨_,by rw[hst];exact vJ8 (hb cdv Ar outer s H E) vKm,?_⟩;exact⟨v,rfl,.ref ea,rfl,ea,t,rfl,he,hn,fun dx hd=>q dx hd⟩
noncomputable def zS(C:Nat)(f:Str)(s:SV):SS:=fun env=>(s env).bind fun r=>.er C [(f,r.1)]
theorem zQl{x f:Str}{k:Nat}{s:SV}{np cpos:Pos}(ce:IniCls X.K (c C) fI)(F:FnOk X.prog X.w X.K X.mg X.base (CXd X.prog X.w) k fI fd ps (vYn (c C) f))(hr:Room (k+1) X.A)(hb:wV X.K fd ps [])(hg:Gl X x)(hm:X.mg x=some (.ref (c C)))(hcalm:X.calm=true)(hex:X.ex=[])(he:EV X c E e s)(ht:qY9 X (c C) (fun ea dx H1=>E (.ref (c C)) (some dx) (but1 H1 ea)))(hs:aX [e] X.env=[(false,eval e X.env)]:=by rfl)(hdb:(x == ("__debug__":Str))=false:=by decide):SD X c E (.Raise (some (.Call (.Name x np) [e] [] cpos)) none pos) (zS C f s):=by
 refine⟨PS.imp (zQq ce F hr hb hg hm hcalm hex he.h ht hs hdb) fun D σ H=>?_⟩;rintro⟨env,B,W,cf,w⟩;refine⟨env,B,W,cf,wp_mono (fun r w1 u H1 W1 g=>⟨rfl,fun ea t hn=>?_⟩) (fun _ _ he=>he) (qB.mp w)⟩;refine⟨ea,t,u,rfl,upd_same,fun dx hd=>⟨rfl,dx,?_⟩⟩;have ne:ea≠dx:=vE upd_same hd;have hd1:H1 dx=none:=by rw[qL ne.symm]at hd;exact hd
 refine⟨by rw[qL ne,upd_same],?_⟩;have eq:but1 (upd (upd (upd H1 ea (.ext (ExcR ea (.ref (c C)) t none))) ea (.ext (ExcR ea (.ref (c C)) t (some dx)))) dx (.xd [(f,u)])) ea=upd H1 dx (.xd [(f,u)]):=by
  funext b;by_cases z:b=ea
  ·subst z;rw[qX6,qL ne,hn]
  ·rw [qY8 z];by_cases y:b=dx
   ·subst y;rw[upd_same,upd_same]
   ·rw[qL y,qL y,qL z,qL z]
 dsimp only;rw[eq];have nw:hd2 B W1 dx=0:=by
  by_cases z:hd2 B W1 dx=0
  ·exact z
  ·obtain⟨o,e1,_⟩:=g.cf.hbs z;grind
 have sm:Same (hide (hd2 B W1) H1) (hide (hd2 B W1) (upd H1 dx (.xd [(f,u)]))):=zC fun a o z q=>⟨z,by rw[qL (vE q hd1)];exact q⟩
 refine w1 _ W1 (some dx) ⟨g.st.same.trans sm,fun a z=>?_,fun a z=>?_⟩ ⟨[(f,u)],upd_same,rfl,.cons (g.at_.same sm) .nil⟩
 ·rw [qL]
  ·exact g.st.by_ a z
  ·grind
 ·by_cases y:a=dx
  ·subst y;rw[upd_same]at z;cases z
  ·rw[qL y]at z;exact g.st.dom a z
section
variable{X:Cx}{c:Nat->aV}{E:XK}{e:Expr}{es:List Expr}{s:SV}{ss:List SV}{a:SE}{K:aQ}
theorem jQa{F:Hp}(t:TabF c F):∀{us:List V} {xs:List D},DsAt K c F us xs->SlAt K c F H (xs.map fun d=>Slot.s false (.fz d)) (us.map some) fun _=>0
 |us,[],h=>by rw[h.un0];exact⟨⟨rfl,t⟩,fun _=>rfl⟩
 | us,x::xs,h=>by
   obtain⟨u,r,rfl,a,b⟩:=h.un;exact⟨some u,r.map some,fun _=>0,fun _=>0,rfl,(show OAt K c F H (.fz x) u (fun _=>0) from OAt.fz.mpr ⟨a,fun _=>rfl⟩),jQa t b,fun _=>rfl⟩
end
theorem qXz{K:aQ}{x:Str}{st:Stmt}{f:aV}{oc:Value}{od an:Option aV}{osl:Array (Option Value)}{kV doc pm cdv ct:Value}(l:K.lookup f=some ⟨oc,od,.func (cY x qual (jI st) (jQ st) (qY st) .none kV doc pm an cdv ct),osl⟩)(c:PySem.W.codeIn K cdv qual=true)(k:cV K (.ref f)=true)(b:∀(kV doc pm:Value) (an:Option aV) (cdv ct:Value) (us:List Value),us.length=ps.length->bindArgs (cY x qual (jI st) (jQ st) (qY st) .none kV doc pm an cdv ct) ⟨us,[]⟩=pure (ps.zip us)):
  MethAt K x qual st ps f (cY x qual (jI st) (jQ st) (qY st) .none kV doc pm an cdv ct):=⟨vZd l c k,(vZd l c k).binds b⟩
theorem zKn{K:aQ}{f:Str}:qV8 K c [] f:=fun _ h=>nomatch h
theorem zW1{K:aQ}{cs:List Nat}{f:Str}(h:Cls K (c C))(n:yO K (c C) f)(r:qV8 K c cs f):qV8 K c (C::cs) f:=fun D hD=>by
 rcases bV.mp hD with rfl|hD
 ·exact⟨h,n⟩
 ·exact r D hD
theorem vK2{K:aQ}{F:Hp}:∀ns:List Int,DsAt K c F (ns.map V.int) (ns.map D.int)
 |[]=>.nil
 |n::ns=>.cons (.int n) (vK2 ns)
noncomputable def jQu(K:aQ)(C:aV):Bool:=
 match K.lookup C with
 | some ⟨.type "type",_, .cls kd,zs⟩=>(match zs.toList,kd.mro with
   |[_,_,_,_,some (.builtin m),_],.ref B::rs=>PySem.W.tailIn K vErr rs && (!kd.hasDel && (m == "ValueError.__new__" && B == C))
   |_,_=>false)
 |_=>false
theorem jZ2{K:aQ}{C:aV}(q:jQu K C=true):∃nm q N bs bm hdct sn sub ab col dd k0 k1 k2 k3 k5,K.lookup C=some (excClassObj nm q C N bs bm hdct sn sub ab col dd k0 k1 k2 k3 k5 "ValueError.__new__")/\PySem.W.tailIn K vErr bm=true:=by
 unfold jQu at q;split at q
 ·rename_i dd cd sl ho;split at q
  ·rename_i k0 k1 k2 k3 n k5 B bm hs hm;simp only[aF,beq_iff_eq,Bool.not_eq_true']at q;obtain⟨ht,hdel,rfl,rfl⟩:=q;obtain⟨nm,bs,mro,ns,qn,hd,sn,sub,ab,col,del⟩:=cd;dsimp only at hm hdel;subst hm hdel;have hsl:sl=#[k0,k1,k2,k3,some (.builtin "ValueError.__new__"),k5]:=by
    obtain⟨l⟩:=sl;simp only at hs;rw[hs]
   subst hsl;exact⟨nm,qn,ns,bs,bm,hd,sn,sub,ab,col,dd,k0,k1,k2,k3,k5,ho,ht⟩
  ·cases q
 ·cases q
theorem jJh{l:PySem.W.OpenLaw}{q:bQ}{loose:List Str}{XP:(Str->Option Value)->Heap->Prop}{YP:bK->Heap->Prop}{d:DefRec}{K:Params->aQ}{F:Fn}{k:Nat}{x:Str}(hn:l.most=some 63)(hdf:d.params.defaults=[])(hr:Room k callerA)(hY:∀(w:bK) (h:Heap),YP w h->(K w.params).In h)(law:∀ns:List Int,ns.length<=63->∃e,F [.s false (.fz (.nd .lst (ns.map D.int)))]=.ok (.fz (.bl true),e))(hF:∀(w:bK) (mg:Str->Option Value) (fa:aV) (h:Heap),(K w.params).In h->h.Ns cE mg->mg d.name=some (.ref fa)->
   ∃(c:Nat->aV) (fd:aH),c 77=0/\(∀(s:aY) (u:Value),BindsTo s fd ⟨[u],[]⟩ [(x,u)])/\
    ∀base:Heap,(K w.params).In base->base.Ns cE mg->FnOk l.prog w (K w.params) mg base (CXd l.prog w) k fa fd [x] (spD (K w.params) c 1 F)):
  PySem.W.WalkO q loose XP YP l.row.toRowW d [] (fun f vs=>PySem.call f vs):=by
 refine zXj (CX:=fun w=>CXd l.prog w) (sp:=fun w vs H Q E=>∀c:Nat->aV,c 77=0->spD (K w.params) c 1 F vs H Q E) (x:=x) hn (by decide) hdf hr hY (fun w mg fa h hk hN hm=>?_) (fun w H a ns hl hO hS c h77=>?_) fun w H s e s' h=>?_
 ·obtain⟨c,fd,h77,hb,h2⟩:=hF w mg fa h hk hN hm;exact⟨fd,hb,fun base b1 b2=>FnOk.imp (h2 base b1 b2) fun vs H Q E z=>z c h77⟩
 ·obtain⟨e,he⟩:=law ns hl;have h0:hide (hd2 (fun _=>0) fun _=>0) H=H:=by funext a;unfold hide;rw[if_pos (by rfl)]
  have at_:DAt (K w.params) c (hide (hd2 (fun _=>0) fun _=>0) H) (.ref a) (.nd .lst (ns.map D.int)):=by
   exact .nd (k:=.lst) (vs:=ns.map V.int) hS (by rw[aP,aP]) (vK2 ns).r
  refine⟨[.s false (.fz (.nd .lst (ns.map D.int)))],fun _=>0,fun _=>0,rfl,⟨jQa (fun z=>absurd h77 z) (us:=[.ref a]) (xs:=[.nd .lst (ns.map D.int)]) (.cons at_ .nil),fun a=>by show 0+0<=1;omega,fun a z=>absurd rfl z⟩,?_⟩;rw[he];intro v H' W' Z g;have:=(OAt.fz.mp g.at_).1;cases this;rfl
 ·obtain⟨_,_,_,_,_,_,_,_,_,_,_,_,_,_,_,_,h⟩:=h;exact h
end DX
namespace L2
open PySem PySem.Spec PySem.W PyProof.Rows
theorem vKa{ws:List Str}:∀{its:List Value},Vals (ws.map V.str) its->∃l:List (Str×Tok),its=strValues l/\l.map (·.1)=ws:=by
 induction ws with
 | nil=>
   intro its r;cases r;exact⟨[],rfl,rfl⟩
 | cons w ws ih=>
   intro its r;cases r with
   | cons h t=>
     obtain⟨tk,rfl⟩:=h;obtain⟨l,rfl,e⟩:=ih t;exact⟨(w,tk)::l,rfl,by rw[bX,e]⟩
theorem zY1{X:Cx}:MtR X "str.join" (fun x vs H Q=>∃sep a ws,x=.str sep/\vs=[.ref a]/\SqL X.K H a (ws.map V.str)/\Builtin.Str.tooLong (ws.toArray.foldl (· + ·.length+sep.length) 0)=false/\(Str.join sep ws).length <=aT/\Q (.str (Str.join sep ws)) H):=by
 intro pins s σ H x xs v us Q I rx rs h;obtain⟨sep,a,ws,rfl,rfl,ha,hl,hz,q⟩:=h;obtain⟨t,rfl⟩:=rx;obtain⟨u,rfl,ru⟩:=xS rs;cases(show u=Value.ref a from ru);obtain⟨its,r1,p1,_⟩:=I.list ha;obtain⟨l,rfl,e⟩:=vKa r1;refine call_meets PySem.F.slot_str_join (dA _ _ _) PySem.F.entry_str_join (PySem.F.args_str_join_2 _ _) (meets_str_join_list sep t a l (by rw[e];exact hl)) ⟨p1.isList,?_⟩;match l,e with
 | [p],e=>
   have:ws=[p.1]:=by rw[←e];rfl
   subst this;exact⟨.str p.1,H,I,⟨p.2,rfl⟩,q⟩
 | [],e=>
   have:ws=[]:=by rw[←e];rfl
   subst this;have g:=dG sep [];refine⟨?_,.str (Builtin.Str.glued sep []),H,I.tok _,⟨_,rfl⟩,?_⟩
   ·grind
   ·grind
 | p::p2::r,e=>
   have g:=dG sep ((p::p2::r).map (·.1));rw[e]at g;refine⟨?_,.str (Builtin.Str.glued sep ((p::p2::r).map (·.1))),H,I.tok _,⟨_,rfl⟩,?_⟩
   ·grind
   ·grind
end L2
namespace DX
open PySem L2 PyProof.Rows
variable{sep:Str}{j:Nat}{pos apos cpos:Pos}{e:Expr}{oe:Oe}{K:aQ}
section
variable{X:Cx}{c:Nat->aV}{E:XK}
theorem o_sm{name:Str}{id:String}{r:List V->Hp->VK->Prop}{f:List D->Option D}(slot:PySem.Slot "str" name id)(hty:typeOf (.builtin id)=pure (.type "method_descriptor"))(hm:MtR X id fun x vs H Q=>x=.str sep/\r vs H Q)(hp:PrSN X.K c r f)(he:OD X c E e oe)(m:M1 X (.Constant (.str sep) j pos) name apos e cpos)(hs:aX [e] X.env=(false,eval e X.env)::aX [] X.env:=by rfl):OD X c E (.Call (.Attribute (.Constant (.str sep) j pos) name apos) [e] [] cpos) (oL f [oe]):=by
 refine⟨PE.imp (vYq F.plainAttrs_str slot hty hm vXd (wX he.h qQr hs) m.base m.few m.line hs) fun σ H Q h=>?_⟩;exact⟨rfl,zVu (os:=[oe]) (f:=f) (r:=fun vs H Q=>V.str sep=.str sep/\r vs H Q) (fun us H xs z Q hx e q=>⟨rfl,hp us H xs z Q hx e q⟩) h⟩
noncomputable def qJ4:List D->Option (List Str)
 |[]=>some []
 |d::r=>(qKa d).bind fun i=>(qJ4 r).bind fun xs=>some (i::xs)
theorem vQr:∀xs:List Str,qJ4 (xs.map D.str)=some xs
 |[]=>rfl
 |x::xs=>by rw[bX,qJ4,vQr xs];rfl
theorem qX8{F:Hp}:∀{vs:List V} {ds:List D} {ns:List Str},DsAt K c F vs ds->qJ4 ds=some ns->vs=ns.map V.str
 |vs,[],ns,h,e=>by cases e;rw[h.un0];rfl
 | vs,d::ds,ns,h,e=>by
   obtain⟨v,r,rfl,a,b⟩:=h.un;obtain⟨i,e1,e2⟩:=bnd e;obtain⟨xs,e3,e4⟩:=bnd e2;cases e4;rw[bX,←qX8 b e3,yR a e1]
noncomputable def jnS(sep:Str)(ws:List Str):Option D:=cond (!Builtin.Str.tooLong (ws.toArray.foldl (· + ·.length+sep.length) 0) && decide ((Str.join sep ws).length <=aT)) (some (.str (Str.join sep ws))) none
noncomputable def vJl(sep:Str):List D->Option D
 |[.nd .lst ds]=>(qJ4 ds).bind (jnS sep)
 |[.nd .tup ds]=>(qJ4 ds).bind (jnS sep)
 |_=>none
noncomputable def jQc(K:aQ)(sep:Str):List V->Hp->VK->Prop:=fun vs H Q=>∃a ws,vs=[.ref a]/\(SqL K H a (ws.map V.str)\/SqT K H a (ws.map V.str))/\Builtin.Str.tooLong (ws.toArray.foldl (· + ·.length+sep.length) 0)=false/\(Str.join sep ws).length <=aT/\Q (.str (Str.join sep ws)) H
theorem vKr{ws:List Str}{z:D}(e:jnS sep ws=some z):Builtin.Str.tooLong (ws.toArray.foldl (· + ·.length+sep.length) 0)=false/\(Str.join sep ws).length <=aT/\z=.str (Str.join sep ws):=by
 unfold jnS at e;cases q:(!Builtin.Str.tooLong (ws.toArray.foldl (· + ·.length+sep.length) 0) && decide ((Str.join sep ws).length <=aT)) <;> rw[q]at e <;> cases e
 obtain⟨q1,q2⟩:=Bool.and_eq_true_iff.mp q;exact⟨by simpa using q1,of_decide_eq_true q2,rfl⟩
theorem zYf:PrSN K c (jQc K sep) (vJl sep):=fun us H xs z Q hx e q=>by
 unfold vJl at e;split at e
 ·obtain⟨ws,e1,e2⟩:=bnd e;obtain⟨a,b,rfl⟩:=vKr e2;obtain⟨u,rfl,h⟩:=ds1 hx;obtain⟨p,vs,rfl,h1,h2⟩:=h.un;refine⟨p,ws,rfl,.inl ?_,a,b,q _ fun _=>.str _⟩;rw[←qX8 h2 e1];exact h1
 ·obtain⟨ws,e1,e2⟩:=bnd e;obtain⟨a,b,rfl⟩:=vKr e2;obtain⟨u,rfl,h⟩:=ds1 hx;obtain⟨p,vs,rfl,h1,h2⟩:=h.un;refine⟨p,ws,rfl,.inr ?_,a,b,q _ fun _=>.str _⟩;rw[←qX8 h2 e1];exact h1
 ·cases e
theorem zWg:MtR X "str.join" (fun x vs H Q=>x=.str sep/\jQc X.K sep vs H Q):=by
 intro pins s σ H x xs v us Q I rx rs h;obtain⟨rfl,a,ws,rfl,ha,hl,hz,q⟩:=h;rcases ha with ha|ha
 ·exact zY1 pins s σ H (.str sep) [.ref a] v us Q I rx rs ⟨sep,a,ws,rfl,rfl,ha,hl,hz,q⟩
 obtain⟨t,rfl⟩:=rx;obtain⟨u,rfl,ru⟩:=xS rs;cases(show u=Value.ref a from ru);obtain⟨its,r1,p1,_⟩:=I.tuple ha;obtain⟨l,rfl,e⟩:=vKa r1;refine call_meets PySem.F.slot_str_join (dA _ _ _) PySem.F.entry_str_join (PySem.F.args_str_join_2 _ _) (meets_str_join_tuple sep t a l (by rw[e];exact hl)) ⟨by obtain⟨o,e1,e2,n,e3⟩:=p1;exact⟨o,n,e1,e2,e3⟩,?_⟩;match l,e with
 | [p],e=>
   have:ws=[p.1]:=by rw[←e];rfl
   subst this;exact⟨.str p.1,H,I,⟨p.2,rfl⟩,q⟩
 | [],e=>
   have:ws=[]:=by rw[←e];rfl
   subst this;have g:=dG sep [];refine⟨?_,.str (Builtin.Str.glued sep []),H,I.tok _,⟨_,rfl⟩,?_⟩
   ·grind
   ·grind
 | p::p2::r,e=>
   have g:=dG sep ((p::p2::r).map (·.1));rw[e]at g;refine⟨?_,.str (Builtin.Str.glued sep ((p::p2::r).map (·.1))),H,I.tok _,⟨_,rfl⟩,?_⟩
   ·grind
   ·grind
theorem jZg(he:OD X c E e oe)(m:M1 X (.Constant (.str sep) j pos) "join" apos e cpos)(hs:aX [e] X.env=(false,eval e X.env)::aX [] X.env:=by rfl):OD X c E (.Call (.Attribute (.Constant (.str sep) j pos) "join" apos) [e] [] cpos) (oL (vJl sep) [oe]):=o_sm F.slot_str_join F.type_str_join zWg zYf he m hs
end
section
variable{X:Cx}{c:Nat->aV}{E:XK}{e:Expr}{lo hi:Option Expr}{pos p2:Pos}{o:Oe}{sl sh:Option SV}
theorem zXq:SlR X (fun x lo hi H Q=>∃z,x=.str z/\z.length<=aT/\Q (.str (Txt.slice z lo hi)) H):=by
 intro pins s σ H x v vl vu lo hi sl Q I rx hs pl pu h;obtain⟨z,rfl,hz,q⟩:=h;obtain⟨t,rfl⟩:=rx;have k:∀(l u:Option (Int×Tok)),l.map (·.1)=lo->u.map (·.1)=hi->∀(t' :Tok) (k:Nat),L2.EP X pins σ Q (.str (Txt.slice z (l.map (·.1)) (u.map (·.1))) t') {s with toks:=k}:=fun l u e1 e2 t' k=>⟨.str (Txt.slice z lo hi),H,I.tok _,⟨_,by rw[e1,e2]⟩,q⟩
 cases pl with
 | none=>
   cases pu with
   |none=>exact⟨"str",_,PySem.F.slot_str_getitem.lookup,dA _ _ _,wpAny_getItem_str_slice (l:=none) (u:=none) (st:=none) hs rfl (post_val_or_str ⟨aM (Txt.slice_le z _ _) hz,k none none rfl rfl⟩)⟩
   |int j tj=>exact⟨"str",_,PySem.F.slot_str_getitem.lookup,dA _ _ _,wpAny_getItem_str_slice (l:=none) (u:=some (j,tj)) (st:=none) hs rfl (post_val_or_str ⟨aM (Txt.slice_le z _ _) hz,k none (some (j,tj)) rfl rfl⟩)⟩
 | int i ti=>
   cases pu with
   |none=>exact⟨"str",_,PySem.F.slot_str_getitem.lookup,dA _ _ _,wpAny_getItem_str_slice (l:=some (i,ti)) (u:=none) (st:=none) hs rfl (post_val_or_str ⟨aM (Txt.slice_le z _ _) hz,k (some (i,ti)) none rfl rfl⟩)⟩
   |int j tj=>exact⟨"str",_,PySem.F.slot_str_getitem.lookup,dA _ _ _,wpAny_getItem_str_slice (l:=some (i,ti)) (u:=some (j,tj)) (st:=none) hs rfl (post_val_or_str ⟨aM (Txt.slice_le z _ _) hz,k (some (i,ti)) (some (j,tj)) rfl rfl⟩)⟩
noncomputable def cutS(lo hi:Option Int):D->Option D
 |.str z=>cond (decide (z.length<=aT)) (some (.str (Txt.slice z lo hi))) none
 |_=>none
noncomputable def vJf(o:Oe)(lo hi:Option SV):SV:=fun env=>(evO o env).bind fun r=>(evI lo r.2).bind fun r1=>(evI hi r1.2).bind fun r2=>cond r.1.st ((opt (rsv r2.2 r.1)).bind fun x=>(opt (cutS r1.1 r2.1 x)).bind fun z=>.ok (z,r2.2)) .no
theorem vVw(he:OD X c E e o)(hl:PD X c E lo sl)(hu:PD X c E hi sh):EV X c E (.Subscript e (.Slice lo hi none p2) pos) (vJf o sl sh):=by
 refine⟨PE.imp (vJ9 zXq he.h hl.h hu.h) fun σ H Q=>?_⟩;rintro⟨env,B,W,cf,w⟩;refine yU cf (qB.mp w) fun r w1 u H1 W1 g=>?_
 refine⟨r.2,B,W1,g.cf,wp_mono (fun r2 h2 H2 W2 st2 cf2=>?_) (fun _ _ he=>he.back g.st) (qB.mp w1)⟩;refine⟨r2.2,B,W2,cf2,wp_mono (fun r3 h3 H3 W3 st3 cf3=>?_) (fun _ _ he=>he.back (g.st.trans st2)) (qB.mp h2)⟩;obtain⟨hs,w4⟩:=zV h3;have ha:=(g.at_.step st2.same hs).step st3.same hs;obtain⟨x,e0,w5⟩:=qN w4;obtain⟨y,e1,w6⟩:=qN w5;have d0:=jM cf3 ha e0;unfold cutS at e1;split at e1
 ·rename_i z;cases q:decide (z.length<=aT) <;> rw[q]at e1 <;> cases e1
  cases d0;exact⟨z,rfl,of_decide_eq_true q,w6 _ H3 W3 ⟨(g.st.trans st2).trans st3,cf3,.str _⟩⟩
 ·cases e1
end
end DX
namespace L2
open PySem PySem.Spec PySem.W PyProof.Rows SG
noncomputable def StK(prog:bQ)(w:bK)(a:aV)(l:List L2.Key):HO:=.ext (fun h=>SetK prog w a l h)
theorem jQ9{prog:bQ}{w:bK}{H:Hp}{a:aV}{l:List L2.Key}{h:Heap}(p:SetK prog w a l h):vO prog w H h a (StK prog w a l):=by
 refine⟨p,?_,fun _ _ q k=>q.at k⟩;obtain⟨o,_,_,_,e,_⟩:=p;exact⟨o,e⟩
section
variable{X:Cx}
theorem vYk:jW X (.builtin "len") (fun xs H Q=>∃(a:aV) (l:List L2.Key),xs=[.ref a]/\H a=some (StK X.prog X.w a l)/\Q (.int (l.length:Nat)) H):=by
 intro pins s σ H xs us Q I r h;obtain⟨a,l,rfl,ha,q⟩:=h;obtain⟨u,rfl,ru⟩:=xS r;cases(show u=Value.ref a from ru);obtain⟨⟨o,es,ep,t,e1,hex,hda,hel,hme,hsm,hft,z⟩,_,_⟩:=(show vO X.prog X.w H s.heap a (StK X.prog X.w a l) from I.hok a _ ha)
 refine call_len_set e1 hex hda hft (by have:es.size<4096:=hsm;omega) ?_
 rw[z];exact⟨.int (l.length:Nat),H,I.tok _,⟨_,rfl⟩,q⟩
theorem zQ4:∀{k:L2.Key} {u:Value},RelV (kV k) u->qWt k u=true
 |.inl _,_,⟨_,e⟩=>by rw[e];exact vVs _ _
 |.inr _,_,⟨_,e⟩=>by rw[e];exact vVr _ _
theorem vKq:∀{its:List Value} {xs:List L2.Key},Vals (xs.map kV) its->zQe its xs
 |[],_,_,i,v,h=>by simp at h
 |u::us,[],r,i,v,h=>by cases r
 | u::us,x::xs,r,0,v,h=>by
   cases h;cases r with
   |cons a _=>exact zQ4 a
 | u::us,x::xs,r,i + 1,v,h=>by
   cases r with
   |cons _ b=>exact vKq b i v h
theorem vYj(hc:X.calm=true):jW X (.type "set") (fun xs H Q=>∃(a:aV) (ts:List L2.Key) (b:Bool),xs=[.ref a]/\cond b (SqL X.K H a (ts.map kV)) (SqT X.K H a (ts.map kV))/\ts.length<=2000/\∀p,H p=none->Q (.ref p) (upd H p (StK X.prog X.w p (fmK (vK ts) ts.length)))):=by
 intro pins s σ H xs us Q I r h;obtain⟨a,ts,b,rfl,hl,few,q⟩:=h;obtain⟨u,rfl,ru⟩:=xS r;cases(show u=Value.ref a from ru);obtain⟨its,rv,pl⟩:∃its:List Value,Vals (ts.map kV) its/\cond b (s.heap.IsList a its.toArray) (s.heap.IsTuple a its.toArray):=by
  cases b with
  |true=>obtain⟨its,rv,pl,_⟩:=I.list hl;exact⟨its,rv,pl.isList⟩
  |false=>obtain⟨its,rv,pl,_⟩:=I.tuple hl;exact⟨its,rv,pl⟩
 have len:=rv.length;rw[aP]at len;refine zVl (I.ok.hd hc) b pl (xs:=ts) (by simpa using vKq rv) (by rw[bJ,←len];show ts.length+1<4096;omega) fun h' tk g kept=>?_
 have e:its.toArray.size=ts.length:=by rw[bJ,←len]
 rw[e]at g;exact⟨.ref _,_,I.laid (t' :=tk) (a:=s.heap.objs.size) (o:=StK X.prog X.w s.heap.objs.size _) (h' :=h') (fun b o e=>kept b o (aC e) e) (aD _) (jQ9 g),rfl,q _ (I.hok.fresh (aD _))⟩
end
end L2
namespace DX
open PySem L2 PyProof.Rows SG
section
variable{X:Cx}{K:aQ}{c:Nat->aV}{E:XK}{e:Expr}{o:Oe}{p pos p2 pos2:Pos}
noncomputable def alK:List D->Option (List L2.Key)
 |[]=>some []
 |d::ds=>(vYu d).bind fun k=>(alK ds).bind fun r=>some (k::r)
theorem zJh{F:Hp}:∀{vs:List V} {ds:List D} {ts:List L2.Key},DsAt K c F vs ds->alK ds=some ts->vs=ts.map kV
 |vs,[],ts,h,e=>by cases e;rw[h.un0];rfl
 | vs,d::ds,ts,h,e=>by
   obtain⟨v,r,rfl,a,b⟩:=h.un;obtain⟨k,e1,e2⟩:=bnd e;obtain⟨xs,e3,e4⟩:=bnd e2;cases e4;rw[bX,←zJh b e3,qK5 a e1]
noncomputable def zV7:List D->Option (Bool×List L2.Key)
 |[.nd .lst ds]=>(alK ds).bind fun ts=>some (true,ts)
 |[.nd .tup ds]=>(alK ds).bind fun ts=>some (false,ts)
 |_=>none
theorem vwsK{T:Fp}{H:Hp}{us:List V}{xs:List D}{b:Bool}{ts:List L2.Key}(hv:Vws K c (hide T H) H us xs)(e:zV7 xs=some (b,ts)):∃p,us=[.ref p]/\cond b (SqL K H p (ts.map kV)) (SqT K H p (ts.map kV)):=by
 unfold zV7 at e;split at e
 all_goals first
  |cases e
  | obtain⟨ts',e1,e2⟩:=bnd e
    cases e2;obtain⟨u,rfl,v⟩:=vws1 hv;obtain⟨p,vs,rfl,h1,h2⟩:=v.un vC;rw[zJh h2 e1]at h1;exact⟨p,rfl,h1⟩
noncomputable abbrev vJj(ts:List L2.Key):List L2.Key:=fmK (vK ts) ts.length
noncomputable def lenTD(xs:List D):Option D:=match zV7 xs with
 |some (_,ts)=>cond (decide (ts.length<=2000)) (some (.int ((vJj ts).length :Nat))) none
 |none=>none
noncomputable def zVz(X:Cx):List V->Hp->VK->Prop:=fun xs H Q=>∃(a:aV) (ts:List L2.Key) (b:Bool),xs=[.ref a]/\cond b (SqL X.K H a (ts.map kV)) (SqT X.K H a (ts.map kV))/\ts.length<=2000/\∀p,H p=none->Q (.ref p) (upd H p (StK X.prog X.w p (vJj ts)))
noncomputable def rLeT(X:Cx):List V->Hp->VK->Prop:=fun xs H Q=>∃(a:aV) (l:List L2.Key),xs=[.ref a]/\H a=some (StK X.prog X.w a l)/\Q (.int (l.length:Nat)) H
noncomputable def rTw(r1 r2:List V->Hp->VK->Prop):List V->Hp->VK->Prop:=fun xs H Q=>r1 xs H fun x H1=>r2 [x] H1 Q
theorem zYe:PrA X.K c (rTw (zVz X) (rLeT X)) lenTD:=fun us H T xs z Q hb hv e q=>by
 unfold lenTD at e;split at e
 ·rename_i b ts e1;obtain⟨q1,q2⟩:=zN e;cases q2;obtain⟨p,rfl,h1⟩:=vwsK hv e1;exact⟨p,ts,b,rfl,h1,of_decide_eq_true q1,fun P hP=>⟨P,_,rfl,upd_same,q _ _ (.upd hP) (.int _)⟩⟩
 ·cases e
theorem jQ2(hc:X.calm=true)(hg:Gl X "set")(hm:X.mg "set"=none)(hg2:Gl X "len")(hm2:X.mg "len"=none)(h1:OD X c E e o)(hs:aX [e] X.env=[(false,eval e X.env)]:=by rfl)(h0:aX [] X.env=[]:=by rfl)(he:aX [Expr.Call (.Name "set" p) [e] [] pos] X.env=(false,eval (.Call (.Name "set" p) [e] [] pos) X.env)::aX [] X.env:=by rfl):
  EV X c E (.Call (.Name "len" p2) [.Call (.Name "set" p) [e] [] pos] [] pos2) (svA lenTD [o]):=by
 have ha:=(qG h1 qK (by rw[hs,h0])).h;have:PE X (.Call (.Name "len" p2) [.Call (.Name "set" p) [e] [] pos] [] pos2) (tCB (rLeT X) (vQ6 (tCB (zVz X) _) tNil)):=
  qW7 vYk hg2 hm2 Boot.«len» (wX (qJi (vYj hc) hg hm Boot.«set» ha (by decide) (by decide) (by rw[hs,h0]) (by rw[h0];rfl)) qQr he) (by decide) (by decide) he (by rw[h0];rfl)
 exact⟨PE.imp this fun _ _ _ h=>zK9 (r:=rTw (zVz X) (rLeT X)) zYe h⟩
end
end DX
namespace L2
open PySem PySem.Spec PyProof.Rows
noncomputable abbrev Cx.mute(X:Cx):Cx:={X with xe:=fun _ _=>False}
section
variable{X:Cx}{pins:List (aV×Obj)}{σ:St}{H:Hp}{s:aY}
theorem Inv.mute(I:Inv X pins σ H s):Inv X.mute pins σ H s:=
 ⟨⟨I.ok.mod,I.ok.kind,I.ok.glob,I.ok.blt,I.ok.above,I.ok.inj,I.ok.has,I.ok.cab,I.ok.hd,I.ok.frames,I.ok.stk,I.ok.exf,I.ok.bs,I.ok.bsz,I.ok.noex,I.ok.exfs,I.ok.funs,I.ok.frf⟩,
   I.os,I.bare,I.base,I.loc,I.cell,I.free,I.freeC,I.pin,I.hok,I.len⟩
theorem Inv.unmute(I:Inv X.mute pins σ H s):Inv X pins σ H s:=
 ⟨⟨I.ok.mod,I.ok.kind,I.ok.glob,I.ok.blt,I.ok.above,I.ok.inj,I.ok.has,I.ok.cab,I.ok.hd,I.ok.frames,I.ok.stk,I.ok.exf,I.ok.bs,I.ok.bsz,I.ok.noex,I.ok.exfs,I.ok.funs,I.ok.frf⟩,
   I.os,I.bare,I.base,I.loc,I.cell,I.free,I.freeC,I.pin,I.hok,I.len⟩
end
noncomputable def jJn(K:aQ)(Ch:Value)(i:Nat)(sp:Sp)(t:TA)(ts:TS):TS:=fun D σ H=>t σ H fun vs H1=>sp vs H1 (fun _ H2=>D.nx σ H2)
 (fun cls ox H2=>(∃C,cls=.ref C)/\PySem.W.exmOne K cls Ch=some true/\∀ea,H2 ea=none->ts {nx:=fun σ' H' =>D.nx (σ'.set i none) H',rt:=D.rt} (σ.set i (some (.ref ea))) (upd H2 ea (.ext (ExcD ea cls ox))))
section
variable{X:Cx}{k:Nat}{f:aV}{fd:aH}{ps:List Str}{sp:Sp}{x c n:Str}{p cpos epos np hpos pos:Pos}{e:Expr}{es:List Expr}{t:TA}{b₀:Stmt}{suite:List Stmt}{ts:TS}{i:Nat}{Ch:Value}
theorem zX7(F:FnOk X.prog X.w X.K X.mg X.base (CXd X.prog X.w) k f fd ps sp)(hr:Room k X.A)(hg:Gl X x)(hm:X.mg x=some (.ref f))(hk:cV X.K (.ref f)=true)(hb:wV X.K fd ps [])(ha:PA X.mute (e::es) t)(hgc:Gl X c)(hmc:X.mg c=some Ch)(hN:X.N.Nodup)(hi:X.N[i]?=some n)(hn:X.env.scope.names.lookup n=some .local)(hsu:∀ea,PSs (X.marked ea) (b₀::suite) ts)(hex:X.ex=[])(hst:X.stack=X.env::X.outer)(hfr:X.env.frame=some X.env.locals)(hdb:(x == ("__debug__":Str))=false:=by decide)(hdc:(c == ("__debug__":Str))=false:=by decide)(he:aX (e::es) X.env=(false,eval e X.env)::aX es X.env:=by rfl)(hpl:(cX cpos (aX es X.env)).any (·.1)=false:=by rfl)(hs:swapsWith (.Call (.Name x p) (e::es) [] cpos) none epos.line X.env=pure false:=by rfl):
  PS X (.Try [.Expr (.Call (.Name x p) (e::es) [] cpos) epos] [.ExceptHandler (some (.Name c np)) (some n) (b₀::suite) hpos] [] [] pos) (jJn X.K Ch i sp t ts):=by
 intro pins s σ H D I h;have frm:X.A.frames=some (X.env::X.outer):=by rw[I.ok.frames,hst]
 refine wpAny_Try_except (wpAny_execs_cons (wpAny_Expr_any ?_ I.quiet hs));refine eV (qJe I hg hm ?_ hdb);refine PySem.W.callWith_K (h₀:=X.base) I.ok.mod.kin hk (bS (ha cpos pins s σ H _ I.mute h) (fun us s1 hq=>?_) fun _ _ z=>z.elim) he hpl;obtain⟨vs,H1,I0,r,q⟩:=hq;have I1:=I0.unmute;refine⟨I1.kIn,?_⟩;have hl:(us ++ []).length =ps.length:=by rw[bG,←r.length];exact F.len _ _ _ _ q
 have hbd:=hb s1 us I1.kIn hl;rw[bG]at hbd;refine wpAny_call (codeAny_mono (F.run X.A X.stack s1 H1 ⟨us,[]⟩ us vs _ _ hr I1.env0 hbd r q) fun res s' hq=>?_);cases res with
 | ok fl=>
   cases fl with
   | ret u=>
     obtain⟨v,H2,I2,_,q2⟩:=I1.after hq;exact wpAny_execs_nil (wpAny_execs_nil ⟨σ,H2,I2,q2⟩)
   |next=>exact False.elim hq
   |brk=>exact False.elim hq
   |cont=>exact False.elim hq
 | error ev=>
   obtain⟨ea,cls,a0,H2,B,ox,rfl,hos,bare,un,hok,fl,cov,hea,sea,⟨oe,hoe,hdic⟩,⟨C,rfl⟩,hx,hsuite⟩:=hq;rw[hst]at fl;refine bS ((qXa _ _).any (wpAny_looks_onW (E:=fun _ _=>False) (Q:=fun _ t' =>∃h4,t' ={s' with heap:=h4}/\Heap.HeldW B (X.env::X.outer) ea (.ref C) a0 X.env.locals h4/\s'.heap.UpToSlots h4) frm hfr fl fun h4 held4 sm4=>⟨h4,rfl,held4,sm4⟩)) (fun _ t4 hq4=>?_) fun _ _ z=>z.1.elim
   obtain⟨⟨h4,rfl,held4,sm4⟩,dk4⟩:=hq4;refine bS ((qVo _ _).any (wpAny_landsW (E:=fun _ _=>False) (s:={s' with heap:=h4}) (Q:=fun _ t' =>∃h5,t' ={s' with heap:=h5}/\Heap.FlyingW B (X.env::X.outer) ea (.ref C) a0 h5/\h4.UpToSlots h5) held4 fun h5 fl5 sm5=>⟨h5,rfl,fl5,sm5⟩)) (fun _ t5 hq5=>?_) fun _ _ z=>z.1.elim
   obtain⟨⟨h5,rfl,fl5,sm5⟩,dk5⟩:=hq5;have fl5' :Heap.FlyingW B X.stack ea (.ref C) a0 h5:=by rw[hst];exact fl5
   have I5:Inv X pins σ H2 {s' with heap:=h5}:=vWo I1 hos bare un hok fl5' cov (sm4.trans sm5);refine wpAny_handleBy_cons (codeAny_handlers_test (qJe (I5.marked ea) hgc hmc ?_ hdc)) (by intro q;cases q);obtain⟨ob,hob,hobc⟩:=fl5.there;have LT:PySem.W.Looks (model X.prog X.w) h5 (typeOf (.ref ea)) (.ref C):=hobc▸(PySem.W.Looks.ld hob).andThen .now;refine(PySem.W.exm_one I5.kIn LT hx).here ?_
   refine codeAny_handlers_suite_as ?_
   refine bS ((qVo _ _).any (lands_againW (E:=fun _ _=>False) (s:={s' with heap:=h5}) (Q:=fun _ t' =>∃h6,t' ={s' with heap:=h6}/\Heap.FlyingW B (X.env::X.outer) ea (.ref C) a0 h6/\h5.UpToSlots h6) fl5 fun h6 fl6 sm6=>⟨h6,rfl,fl6,sm6⟩)) (fun _ t6 hq6=>?_) fun _ _ z=>z.1.elim
   obtain⟨⟨h6,rfl,fl6,sm6⟩,dk6⟩:=hq6;have fl6' :Heap.FlyingW B X.stack ea (.ref C) a0 h6:=by rw[hst];exact fl6
   have I6:Inv X pins σ H2 {s' with heap:=h6}:=vWo I1 hos bare un hok fl6' cov ((sm4.trans sm5).trans sm6);obtain⟨ob6,hob6,hobc6,vs6,hv6⟩:∃ob,h6.get? ea=some ob/\ob.cls=.ref C/\∃vs,ob.data=.fields vs:=by
    obtain⟨_,_,_,oe',vs',_,_,_,z1,z2,z3,_⟩:=fl6;exact⟨oe',z1,z2.1,vs',z3⟩
   have hd6:ob6.dict=ox:=by
    obtain⟨o',e1,e2⟩:=((dk4.trans dk5).trans dk6) ea oe hoe;rw[show h6.get? ea=some ob6 from hob6]at e1;cases e1;exact e2.trans hdic
   have ne1:∀b o,s1.heap.get? b=some o->b≠ea:=fun b o e z=>by rw[z,sea]at e;cases e
   have I7:Inv X pins σ (upd H2 ea (.ext (ExcD ea (.ref C) ox))) {s' with heap:=h6}:=by
    refine I6.adopt hea ?_ ?_ (fun y cc e=>?_) (fun p hp=>?_) (zW7 ⟨ob6,hob6,hobc6,hd6,vs6,hv6⟩)
    ·cases q:X.s₀.heap.get? ea with
     |none=>rfl
     | some o=>
       obtain⟨o',z⟩:=I1.base.there ea o q (by rw[hex];simp);rw[sea]at z;cases z
    ·obtain⟨m,⟨o,_,_,z,_⟩,_⟩:=I1.loc;exact(ne1 _ _ z).symm
    ·obtain⟨v,o,z,_⟩:=I1.cell y cc e;exact ne1 _ _ z
    ·exact ne1 _ _ (I1.pin p hp).1
   refine qQ5 I7 hN hi (Or.inl hn) (v:=.ref ea) rfl (fun s8 I8=>?_) (.inr hn);refine bS (hsu ea pins s8 _ _ _ (I8.marked ea) (hsuite ea hea)) (fun fw s9 h9=>?_) fun _ _ z=>z.elim
   cases fw with
   | next=>
     obtain⟨σ9,H9,I9,q9⟩:=h9;exact vVg (I9.unmarked I.ok.hd) hN hi hn fun s10 I10=>⟨_,H9,I10,q9⟩
   | ret v=>
     obtain⟨v9,σ9,H9,I9,r9,q9⟩:=h9;exact vVg (I9.unmarked I.ok.hd) hN hi hn fun s10 I10=>⟨v9,_,H9,I10,r9,q9⟩
   |brk=>obtain⟨_,_,_,z⟩:=h9;exact z.elim
   |cont=>obtain⟨_,_,_,z⟩:=h9;exact z.elim
end
end L2
namespace L2
open PySem PySem.Spec PySem.W PySem.Calls PyProof.Rows
variable{tk:Tok}{Q:Value->aY->Prop}{X:Cx}
section
variable{prog:bQ}{w:bK}{A:cC}{E:Value->aY->Prop}{h:Heap}{g:Array GenState}{d:Drawn}{t:Nat}{os:OsState}{a C dx:aV}{o:Obj}{K:Frag}{f:Str}{u:Value}{mA:Str->Option Value}{vs:Array Value}
theorem vX9{Q:Fin->aY->Prop}(X:K.In h)(hh:hasDictIn K C=true)(hf:findIn K (.ref C) f=some none)(hx:h.get? a=some o)(hc:o.cls=.ref C)(hd:o.dict=some dx)(hv:o.data=.fields vs)(hn:h.Ns dx mA)(hm:mA f=some u)(hq:Q (.done (.ret u)) ⟨h,g,d,t,os⟩):
  aO (model prog w) A (Builtin.«object.__getattribute__» ⟨[.ref a,.str f tk],[]⟩) Q E ⟨h,g,d,t,os⟩:=by
 have L3:=looks_findIn (M:=model prog w) X hf;repeat (any_goals (first|assumption|with_reducible refine L3.at ?_|(with_reducible refine cG hx ?_;rw[hc])|(with_reducible refine cG hx ?_;rw[hd])|wp_step))
 rw[hv];obtain⟨cd,hcd,hdd⟩:=any_some hh;refine aZ (wpAny_loadPart hx ?_);rw[hc,hd];refine aZ ((looks_clsIn X hcd).here (s:=⟨h,g,d,t,os⟩) ?_);rw[hdd];refine aL ?_
 refine wpAny_nsGet hn ?_
 rw[hm];repeat (any_goals (first|assumption|wp_step))
theorem zVc{R:Result->aY->Prop}(X:K.In h)(k:ExcKit K C)(hh:hasDictIn K C=true)(hf:findIn K (.ref C) f=some none)(hx:h.get? a=some o)(hc:o.cls=.ref C)(hd:o.dict=some dx)(hv:o.data=.fields vs)(hn:h.Ns dx mA)(hm:mA f=some u)(hq:R (.ok (.ret u)) ⟨h,g,d,t,os⟩):
  codeAny (model prog w) A (.call (.builtin "BaseException.__getattribute__") ⟨[.ref a,.str f tk],[]⟩) R ⟨h,g,d,t,os⟩:=
 eY F.attrBase_ValueError.ga.plain F.entry_bexc_ga (vVv X k hx hc (vX9 X hh hf hx hc hd hv hn hm hq))
theorem zKs{fill expr:Bool}(X:K.In h)(k:ExcKit K C)(hh:hasDictIn K C=true)(hf:findIn K (.ref C) f=some none)(hx:h.get? a=some o)(hc:o.cls=.ref C)(hd:o.dict=some dx)(hv:o.data=.fields vs)(hn:h.Ns dx mA)(hm:mA f=some u)(hu:handedIn u=true)(hq:Q u ⟨h,g,d,t,os⟩):
  aO (model prog w) A (getAttrBy (.ref a) (.str f tk) fill expr) Q E ⟨h,g,d,t,os⟩:=by
 have f3:=F.attrBase_ValueError.ga.bind (.ref a);have hx0:(expr && onTheHeap (Value.builtin "BaseException.__getattribute__"))=false:=by cases expr <;> rfl
 have hx2:(Value.builtin "BaseException.__getattribute__" == Value.builtin "object.__getattribute__")=false:=by decide +kernel
 have L1:=looks_findIn (M:=model prog w) X k.ga;have L2:=looks_findIn (M:=model prog w) X k.gx;repeat (any_goals (first|assumption|with_reducible refine L1.at ?_|with_reducible refine L2.at ?_|(with_reducible refine cG hx ?_;rw[hc])|wp_step))
 refine zVc X k hh hf hx hc hd hv hn hm ?_
 repeat (any_goals (first|assumption|wp_step))
 have:=handedOut_of hu;unfold handedOut at this;rw[this];exact aL hq
theorem zVd{b:Bool}(X:K.In h)(k:ExcKit K C)(hh:hasDictIn K C=true)(hf:findIn K (.ref C) f=some none)(hx:h.get? a=some o)(hc:o.cls=.ref C)(hd:o.dict=some dx)(hv:o.data=.fields vs)(hn:h.Ns dx mA)(hm:mA f=some u)(hu:handedIn u=true)(hq:Q u ⟨h,g,d,t+1,os⟩):
  aO (model prog w) A (getAttr (.ref a) f b) Q E ⟨h,g,d,t,os⟩:=by
 repeat (any_goals (first|assumption|with_reducible apply zKs X k hh hf hx hc hd hv hn hm hu|wp_step))
end
noncomputable def tXF(K:Frag)(ta:TE)(f:Str):TE:=fun σ H Q=>ta σ H fun x H1=>∃p C dx fs v,x=.ref p/\H1 p=some (.ext (ExcD p (.ref C) (some dx)))/\H1 dx=some (.xd fs)/\ExcKit K C/\hasDictIn K C=true/\findIn K (.ref C) f=some none/\fs.lookup f=some v/\Q v H1
theorem jJy{e:Expr}{f:Str}{pos:Pos}{ta:TE}(he:PE X e ta)(hb:attributeBase e f X.env (eval e X.env)=eval e X.env):PE X (.Attribute e f pos) (tXF X.K ta f):=by
 intro pins s σ H Q I h;refine zQc hb (thn (he pins s σ H _ I h) fun u s1 ⟨x,H1,I1,rx,p,C,dx,fs,v,ex,e1,e2,k,hh,hf,l,q⟩=>?_);subst ex;obtain rfl:u=Value.ref p:=rx;obtain⟨⟨o,h1,h2,h3,vs,h4⟩,_,_⟩:=(show vO X.prog X.w H1 s1.heap p _ from I1.hok p _ e1)
 obtain⟨mA,n1,r⟩:=(show vO X.prog X.w H1 s1.heap dx (.xd fs) from I1.hok dx _ e2)
 obtain⟨u',hu,ru⟩:=RelO.some_of (v:=v) (o:=mA f) (by rw[←l];exact r f);exact zVd I1.kIn k hh hf h1 h2 h3 h4 n1.ns hu (vVu ru) ⟨v,H1,I1.tok _,ru,q⟩
theorem vYl:jW X (.builtin "isinstance") (fun xs H Q=>∃p c cv C ox b,xs=[.ref p,c]/\((∃n,c=.ty n)\/∃a,c=.ref a)/\RelV c cv/\H p=some (.ext (ExcD p (.ref C) ox))/\ExcKit X.K C/\kitOne X.K (.ref C) cv=some b/\Q (.bl b) H):=by
 intro pins s σ H xs us Q I r h;obtain⟨p,c,cv,C,ox,b,rfl,hk,rc,hp,k,e,q⟩:=h;obtain⟨u,w',rfl,r1,r2⟩:=vJd r;cases(show u=Value.ref p from r1);cases zJv hk rc r2;obtain⟨⟨o,h1,h2,_⟩,_,_⟩:=(show vO X.prog X.w H s.heap p (.ext (ExcD p (.ref C) ox)) from I.hok p _ hp)
 exact kia_one (zWm k) I.kIn ⟨o,h1,h2⟩ e (fun z=>nomatch z) fun tk=>⟨.bl b,H,I.tok tk,rfl,q⟩
end L2
namespace DX
open PySem L2 PyProof.Rows
variable{K:aQ}{c:Nat->aV}{β:Type}
noncomputable def qKd:Slot->Slot
 |.s _ (.fz d)=>.s false (.fz d)
 |_=>.un
theorem SlAt.drop{F F' H H' :Hp}(e:Same F F'):∀{env:Ev} {σ:L2.St} {Z:Fp},SlAt K c F H env σ Z->SlAt K c F' H' (env.map qKd) σ (fun _=>0)
 |[],_,_,h=>⟨⟨h.1.1,h.1.2.same e⟩,fun _=>rfl⟩
 | s::env,_,_,h=>by
   obtain⟨x,r,Z1,Z2,a,b,cc,d⟩:=h;refine⟨x,r,fun _=>0,fun _=>0,a,?_,SlAt.drop e cc,fun _=>rfl⟩;cases s with
   |un=>exact fun _=>rfl
   | s io o=>
     cases o with
     |ow k os=>exact fun _=>rfl
     | fz y=>
       cases x with
       |none=>exact b.elim
       | some v=>
         have b' :OAt K c F H (.fz y) v Z1:=b;exact qY0 (b'.1.same e)
theorem vJt{α:Type}:∀ws:List (α×β),(ws.map (·.1)).zip (ws.map (·.2))=ws
 |[]=>rfl
 |w::ws=>by rw[bX,bX,dQ,vJt ws]
noncomputable def sTry(F:Fn)(as:List Am)(hd:Nat->Bool)(i:Nat)(su:SS):SS:=fun env=>match evOs (as.map Am.o) env with
 | .ok r=>match qV7 F as r.1 r.2 with
   |.ok q=>.ok (.nx q.2)
   | .er C fs=>cond (hd C && decide (i < env.length)) (match su ((r.2.map qKd).set i (.s false (.fz (.nd (.exc C (fs.map (·.1))) (fs.map (·.2)))))) with
     |.ok (.rt o e)=>.ok (.rt o e)
     |_=>.no) .no
   |.no =>.no
 |_=>.no
section
variable{X:Cx}{c:Nat->aV}{E:XK}{k:Nat}{f:aV}{fd:aH}{ps:List Str}{x cn n:Str}{p cpos epos np hpos pos:Pos}{e:Expr}{es:List Expr}{b₀:Stmt}{suite:List Stmt}{su:SS}{i:Nat}{Ch:Value}{F:Fn}{as:List Am}{hd:Nat->Bool}
theorem jVb(G:FnOk X.prog X.w X.K X.mg X.base (CXd X.prog X.w) k f fd ps (spD X.K c as.length F))(hr:Room k X.A)(hg:Gl X x)(hm:X.mg x=some (.ref f))(hk:cV X.K (.ref f)=true)(hb:wV X.K fd ps [])(ha:OsD X.mute c E0 (e::es) (as.map Am.o))(hgc:Gl X cn)(hmc:X.mg cn=some Ch)(hN:X.N.Nodup)(hi:X.N[i]?=some n)(hn:X.env.scope.names.lookup n=some .local)(hx:∀C,hd C=true->PySem.W.exmOne X.K (.ref (c C)) Ch=some true)(hsu:∀ea,SDs (X.marked ea) c E0 (b₀::suite) su)(hex:X.ex=[]:=by rfl)(hst:X.stack=X.env::X.outer:=by rfl)(hfr:X.env.frame=some X.env.locals:=by rfl)(hdb:(x == ("__debug__":Str))=false:=by decide)(hdc:(cn == ("__debug__":Str))=false:=by decide)(he:aX (e::es) X.env=(false,eval e X.env)::aX es X.env:=by rfl)(hpl:(cX cpos (aX es X.env)).any (·.1)=false:=by rfl)(hs:swapsWith (.Call (.Name x p) (e::es) [] cpos) none epos.line X.env=pure false:=by rfl):
  SD X c E (.Try [.Expr (.Call (.Name x p) (e::es) [] cpos) epos] [.ExceptHandler (some (.Name cn np)) (some n) (b₀::suite) hpos] [] [] pos) (sTry F as hd i su):=by
 refine⟨PS.imp (zX7 G hr hg hm hk hb ha.h hgc hmc hN hi hn (ts:=tS X.K c E0 su) (fun ea=>(hsu ea).h) hex hst hfr hdb hdc he hpl hs) fun D σ H=>?_⟩;rintro⟨env,B,W,cf,w⟩;unfold sTry at w;cases e0:evOs (as.map Am.o) env with
 |er C fs=>rw[e0]at w;exact w.elim
 |no=>rw[e0]at w;exact w.elim
 |ok r=>
 rw[e0]at w;refine qZg cf (show(evOs (as.map Am.o) env).wp (fun r' =>r' =r) _ by rw[e0];rfl) fun r' hr' us H1 W1 g=>?_
 subst hr';dsimp only at w;refine qJm g.cf g.at_ ?_
 cases e1:qV7 F as r'.1 r'.2 with
 |no=>rw[e1]at w;exact w.elim
 | ok q=>
   rw[e1]at w;exact fun u H' W' Z g2=>w σ H' W' (g.st.trans g2.fz.st) g2.fz.cf
 | er C fs=>
   rw[e1]at w;obtain⟨hc,w2⟩:=zV w;rw[aF]at hc;have hli:=of_decide_eq_true hc.2;intro H' Y ox sx er;refine⟨⟨_,rfl⟩,hx C hc.1,fun ea hea=>?_⟩;have ne:∀a o,H' a=some o->a≠ea:=fun a o q z=>by rw[z,hea]at q;cases q
   have sm:Same (hide (hd2 B Y) H') (hide (hd2 B fun _=>0) (upd H' ea (.ext (ExcD ea (.ref (c C)) ox)))):=zC fun a o z q=>⟨by dsimp only[hd2]at *;omega,by rw[qL (ne a o q)];exact q⟩
   have hb3:∀a,B a≠0->∃o,H' a=some o/\Hb o:=fun a z=>by rw[sx.by_ a z];exact g.cf.hb a z
   have cf2:Cf X.K c (r'.2.map qKd) σ (upd H' ea (.ext (ExcD ea (.ref (c C)) ox))) B (fun _=>0):=⟨SlAt.drop (sx.same.trans sm) g.cf.at_,fun a=>by have:=g.cf.nd a;(try dsimp only);omega,fun a z=>by
    obtain⟨o,q,b⟩:=hb3 a z;exact⟨o,by rw[qL (ne a o q)];exact q,b⟩⟩
   have hB0:B ea=0:=by
    by_cases z:B ea=0
    ·exact z
    ·obtain⟨o,q,_⟩:=hb3 ea z;rw[hea]at q;cases q
   have dE:DAt X.K c (hide (hd2 B fun _=>0) (upd H' ea (.ext (ExcD ea (.ref (c C)) ox)))) (.ref ea) (.nd (.exc C (fs.map (·.1))) (fs.map (·.2))):=by
    have fe:hide (hd2 B fun _=>0) (upd H' ea (.ext (ExcD ea (.ref (c C)) ox))) ea=some (.ext (ExcD ea (.ref (c C)) ox)):=by rw[zZ (by dsimp only[hd2];omega),upd_same]
    cases ox with
    | none=>
      cases(show fs=[] from er);exact .nd (k:=.exc C []) (vs:=[]) ⟨rfl,none,fe,rfl⟩ rfl fun i v d a _=>by simp at a
    | some dx=>
      obtain⟨ws,h1,h2,h3⟩:=er;refine .nd (k:=.exc C (fs.map (·.1))) (vs:=ws.map (·.2)) ⟨?_,some dx,fe,?_⟩ h3.len (h3.same sm).r
      ·rw[←h2,aP,aP]
      ·show hide _ _ dx=some (.xd ((fs.map (·.1)).zip (ws.map (·.2))));rw[←h2,vJt,zZ,qL (ne dx _ h1)]
       ·exact h1
       ·by_cases z:B dx=0
        ·exact z
        ·obtain⟨o,q,b⟩:=hb3 dx z;rw[h1]at q;cases q;exact b.elim
   have hl2:i<(r'.2.map qKd).length :=by rw[aP,g.st.len];exact hli
   obtain⟨W',cf3,sm3,z3⟩:=cf2.put (B:=B) (Z:=fun _=>0) (io:=false) (i:=i) (fun _=>rfl) (OAt.fz.mpr ⟨dE,fun _=>rfl⟩) hl2;have w0:∀a,W' a=0:=fun a=>by
    by_cases z:W' a=0
    ·exact z
    ·exact absurd rfl (z3 a z)
   have st3:Step env σ H B W ((r'.2.map qKd).set i (.s false (.fz (.nd (.exc C (fs.map (·.1))) (fs.map (·.2)))))) (σ.set i (some (.ref ea))) (upd H' ea (.ext (ExcD ea (.ref (c C)) ox))) W' :=by
    refine⟨(g.st.same.trans sx.same).trans (sm.trans sm3),fun a z=>?_,fun a z=>absurd (w0 a) z,fun a z=>?_,fun a _ z=>absurd (w0 a) z,fun j o z=>?_,by rw[cW,aP,g.st.len]⟩
    ·obtain⟨o,q,_⟩:=hb3 a z;rw[qL (ne a o q),sx.by_ a z,g.st.by_ a z]
    ·by_cases y:a=ea
     ·subst y;rw[upd_same]at z;cases z
     ·rw[qL y]at z;exact g.st.dom a (sx.dom a z)
    ·rw [eZ] at z;split at z
     ·first|cases z|(split at z <;> cases z)
     ·rw [cJ] at z;cases e2:r'.2[j]? with
      |none=>rw[e2]at z;cases z
      | some s=>
        rw[e2]at z;cases s with
        |un=>cases z
        |s io o' =>cases o' <;> cases z
   cases e3:su ((r'.2.map qKd).set i (.s false (.fz (.nd (.exc C (fs.map (·.1))) (fs.map (·.2)))))) with
   |no=>rw[e3]at w2;exact w2.elim
   |er _ _=>rw[e3]at w2;exact w2.elim
   | ok o=>
     rw[e3]at w2;cases o with
     |nx _=>exact w2.elim
     |bk _=>exact w2.elim
     |ct _=>exact w2.elim
     | rt r e' =>
       refine⟨_,B,W',cf3,?_⟩;rw[e3];exact fun v σ' H2 W2 Z g3=>w2 v σ' H2 W2 Z ⟨st3.trans g3.st,g3.cf,g3.at_⟩
end
noncomputable def isxD(tb:List (Nat×Bool)):D->Option D
 |.nd (.exc C _) _=>(tb.lookup C).map D.bl
 |_=>none
noncomputable def xfD(Cs:List Nat)(f:Str):D->Option D
 | .nd (.exc C fs) ds=>cond (Cs.contains C) (match(fs.zip ds).lookup f with
   |some (.int i)=>some (.int i)
   |_=>none) none
 |_=>none
theorem qWg:∀{l:List (Nat×β)} {a:Nat} {b:β},l.lookup a=some b->(a,b)∈l
 |[],_,_,h=>by cases h
 | (x,y)::l,a,b,h=>by
   rw[List.lookup_cons]at h;cases z:a == x with
   |true=>rw[z]at h;cases h;rw[beq_iff_eq.mp z];exact aA
   |false=>rw[z]at h;exact aB _ (qWg h)
theorem vVp{F:Hp}{f:Str}:∀{fs:List Str} {vs:List V} {ds:List D} {d:D},DsAt K c F vs ds->(fs.zip ds).lookup f=some d->∃v,(fs.zip vs).lookup f=some v/\DAt K c F v d
 |[],_,_,_,_,h=>by cases h
 |x::fs,vs,[],_,_,h=>by cases h
 | x::fs,vs,y::ds,d,hd,h=>by
   obtain⟨v,r,rfl,a,b⟩:=hd.un;rw[dQ,List.lookup_cons]at h⊢;cases z:f == x with
   |true=>rw[z]at h;cases h;exact⟨v,rfl,a⟩
   |false=>rw[z]at h;exact vVp b h
section
variable{X:Cx}{c:Nat->aV}{E:XK}{e:Expr}{x y f:Str}{p q pos:Pos}{o:Oe}{cv:V}{cu:Value}{tb:List (Nat×Bool)}{Cs:List Nat}
theorem qVk(hk:(∃n,cv=.ty n)\/∃a,cv=.ref a)(rc:RelV cv cu)(hT:∀C b,(C,b)∈tb->ExcKit X.K (c C)/\bW X.K (.ref (c C)) cu=some b)(hg:Gl X x)(hm:X.mg x=none)(hv:cM x=some (.builtin "isinstance"))(h2:PE X (.Name y q) (tC cv))(ha:OD X c E e o)(hx:x≠"__name__":=by decide)(hdb:(x == ("__debug__":Str))=false:=by decide)(he:aX [e, .Name y q] X.env=(false,eval e X.env)::aX [.Name y q] X.env:=by rfl)(hs2:aX [.Name y q] X.env=(false,eval (.Name y q) X.env)::aX [] X.env:=by rfl)(hpl:(cX pos (aX [.Name y q] X.env)).any (·.1)=false:=by rfl):
  OD X c E (.Call (.Name x p) [e, .Name y q] [] pos) (o1 (isxD tb) o):=by
 refine⟨PE.imp (qW7 vYl hg hm hv (wX ha.h (wX h2 qQr hs2) he) hx hdb he hpl) fun σ H Q h=>?_⟩;refine vJe (K:=X.K) (r:=fun u H Q=>∃p c' cv' C ox b,[u,cv]=[.ref p,c']/\((∃n,c' =.ty n)\/∃a,c' =.ref a)/\RelV c' cv' /\H p=some (.ext (ExcD p (.ref C) ox))/\ExcKit X.K C/\bW X.K (.ref C) cv' =some b/\Q (.bl b) H) (fun u H x z Q hx e q=>?_) h;unfold isxD at e;split at e
 ·rename_i C fs ds;obtain⟨p',vs,rfl,⟨_,ox,h1,_⟩,_⟩:=hx.un;cases e1:tb.lookup C with
  |none=>rw[e1]at e;cases e
  | some b=>
    rw[e1]at e;cases e;obtain⟨t1,t2⟩:=hT C b (qWg e1);exact⟨p',cv,cu,c C,ox,b,rfl,hk,rc,h1,t1,t2,q _ fun _=>.bl b⟩
 ·cases e
theorem zV2(hC:∀C∈Cs,ExcKit X.K (c C)/\PySem.W.hasDictIn X.K (c C)=true/\bN X.K (.ref (c C)) f=some none)(ha:OD X c E e o)(hb:attributeBase e f X.env (eval e X.env)=eval e X.env:=by rfl):OD X c E (.Attribute e f pos) (o1 (xfD Cs f) o):=by
 refine⟨PE.imp (jJy ha.h hb) fun σ H Q h=>?_⟩;refine vJe (K:=X.K) (r:=fun u H Q=>∃p C dx fs v,u=.ref p/\H p=some (.ext (ExcD p (.ref C) (some dx)))/\H dx=some (.xd fs)/\ExcKit X.K C/\PySem.W.hasDictIn X.K C=true/\bN X.K (.ref C) f=some none/\fs.lookup f=some v/\Q v H) (fun u H x z Q hx e q=>?_) h;unfold xfD at e;split at e
 ·rename_i C fs ds;obtain⟨p',vs,rfl,⟨_,ox,h1,h2⟩,hds⟩:=hx.un;cases hc:Cs.contains C with
  |false=>rw[hc]at e;cases e
  | true=>
    rw[hc]at e;obtain⟨k1,k2,k3⟩:=hC C (List.contains_iff_mem.mp hc);dsimp only[cond]at e;split at e
    ·rename_i i e1;cases e;cases ox with
     |none=>cases(show fs=[] from h2);cases e1
     | some dx=>
       obtain⟨v,l1,l2⟩:=vVp hds e1;cases l2;exact⟨p',c C,dx,_,_,rfl,h1,h2,k1,k2,k3,l1,q _ fun _=>.int i⟩
    ·cases e
 ·cases e
end
end DX
namespace L2
open PySem PySem.Spec PyProof.Rows PySem.Builtin.Str
section
variable{X:Cx}{CX:CXT}{k:Nat}{f:aV}{fd:aH}{ps:List Str}{sp:Sp}{dvs:List V}{ds:List Value}{E:XK}{x:Str}{p pos:Pos}{e:Expr}{es:List Expr}{t:TA}{i:Nat}
theorem zJ7(F:FnOk X.prog X.w X.K X.mg X.base CX k f fd ps sp)(hr:Room k X.A)(hk:cV X.K (.ref f)=true)(hb:wV X.K fd ps ds)(hd:Vals dvs ds)(hx:jR CX X E)(hv:PE X (.Name x p) (tVar i))(ha:PA X (e::es) t)(he:aX (e::es) X.env=(false,eval e X.env)::aX es X.env)(hpl:(cX pos (aX es X.env)).any (·.1)=false):
  PE X (.Call (.Name x p) (e::es) [] pos) (fun σ H Q=>σ[i]?=some (some (.ref f))/\zVw sp dvs E t σ H Q):=by
 intro pins s σ H Q I h;refine eV (thn (hv pins s σ H (fun v H1=>v=.ref f/\H1=H) I ⟨.ref f,h.1,rfl,rfl⟩) fun u s1 ⟨v,H1,I1,rv,ev,eH⟩=>?_);subst ev eH;cases(show u=Value.ref f from rv);refine PySem.W.callWith_K (h₀:=X.base) I1.ok.mod.kin hk (thn (ha pos pins s1 σ H1 _ I1 h.2) fun us s2 ⟨vs,H2,I2,r,q⟩=>⟨I2.kIn,?_⟩) he hpl;exact vV5 F hr hb hd hx I2 r q
theorem zJo{prog:bQ}{w:bK}{A:cC}{Eh:Value->aY->Prop}{s:aY}{z y:Str}{t u:Tok}{Q:Value->aY->Prop}(hy:(y.length == 0)=false)(hz:z.length+2<=aT)(h:∀l o k,l.map (·.1)=Txt.split z y->o=({cls:=.type "list",data:=.seq (strValues l).toArray }:Obj)->Q (.ref s.heap.objs.size) {s with heap:=s.heap.push o,toks:=k}):
  aO (model prog w) A (call (.builtin "str.split") [.str z t,.str y u]) Q Eh s:=by
 have hn:(partsBetween z (occurrences z y 0 z.length (z.length+1)) y.length).length <=aT:=by
  have:=StrLaws.occ_length_le z y 0 z.length (z.length+1);rw[length_partsBetween];omega
 have hz' :z.length<=aT:=by omega
 by_cases h1:(decide (z.length<y.length) || decide (strKind z<strKind y))=true
 ·exact call_meets F.slot_str_split (dA _ _ _) F.entry_str_split (F.args_str_split_2 _ _) (meets_str_split_cannot_occur z y t u h1) (h [(z,t)] _ s.toks (by unfold Txt.split;rw[if_pos h1];rfl) rfl)
 ·have h2:=Bool.eq_false_iff.mpr h1;by_cases hf:(occurrences z y 0 z.length (z.length+1)).isEmpty =true
  ·exact call_meets F.slot_str_split (dA _ _ _) F.entry_str_split (F.args_str_split_2 _ _) (meets_str_split_not_found z y t u h2 hy hf) (h [(z,t)] _ s.toks (by unfold Txt.split;rw[if_neg h1,if_pos hf];rfl) rfl)
  ·refine call_meets F.slot_str_split (dA _ _ _) F.entry_str_split (F.args_str_split_2 _ _) (meets_str_split_sep z y t u h2 hy (Bool.eq_false_iff.mpr hf) hz' hn) ?_
   have:=h (numbered s.toks (partsBetween z (occurrences z y 0 z.length (z.length+1)) y.length)) {cls:=.type "list",data:=.seq (strsFrom s.toks (partsBetween z (occurrences z y 0 z.length (z.length+1)) y.length)).toArray } (s.toks+(partsBetween z (occurrences z y 0 z.length (z.length+1)) y.length).length) (by rw[numbered_texts];unfold Txt.split;rw[if_neg h1,if_neg hf]) (by rw[strsFrom_eq]);exact this
theorem vVe:∀{l:List (Str×Tok)} {ws:List Str},l.map (·.1)=ws->Vals (ws.map V.str) (strValues l)
 |[],_,e=>by cases e;exact .nil
 | (a,t)::l,_,e=>by
   cases e;exact .cons ⟨t,rfl⟩ (vVe rfl)
theorem zJp(z y:Str):(Txt.split z y).length <=z.length+2:=by
 unfold Txt.split;split
 ·simp
 ·split
  ·simp
  ·have:=StrLaws.occ_length_le z y 0 z.length (z.length + 1);rw[length_partsBetween];omega
theorem zWe:MtR X "str.split" (fun x vs H Q=>∃z y,x=.str z/\vs=[.str y]/\(y.length == 0)=false/\z.length+2<=aT/\∀l,H l=none->Q (.ref l) (upd H l (.lst ((Txt.split z y).map V.str)))):=by
 intro pins s σ H x xs v us Q I rx rs h;obtain⟨z,y,rfl,rfl,hy,hz,q⟩:=h;obtain⟨t,rfl⟩:=rx;obtain⟨u,rfl,ru⟩:=xS rs;obtain⟨t2,rfl⟩:=ru;refine zJo hy hz fun l o k e eo=>?_
 subst eo;exact⟨.ref s.heap.objs.size,_,I.laid (t' :=k) (fun b u e=>aK _ e) (aD _) (show vO X.prog X.w _ _ _ (.lst _) from⟨by rw[aP];exact aM (zJp z y) hz,_,0,vVe e,Heap.get?_push_at rfl rfl⟩),rfl,q _ I.fresh⟩
end
end L2
namespace DX
open PySem L2 PyProof.Rows
variable{j:Nat}{y:Str}
noncomputable def vVa(tb:List (Nat×Fn))(i:Nat)(as:List Am):SE:=fun env=>match env[i]? with
 | some (.s _ (.fz (.fn j)))=>match tb.lookup j with
   |some F=>qP F as env
   |none=>.no
 |_=>.no
noncomputable def FnT(X:Cx)(c:Nat->aV)(n:Nat)(tb:List (Nat×Fn)):Prop:=∀j F,(j,F)∈tb->∃k fd ps,Room k X.A/\FnOk X.prog X.w X.K X.mg X.base (CXd X.prog X.w) k (c j) fd ps (spD X.K c n F)/\cV X.K (.ref (c j))=true/\wV X.K fd ps []
section
variable{X:Cx}{c:Nat->aV}{E:XK}{n i:Nat}{tb:List (Nat×Fn)}{x:Str}{p pos:Pos}{e:Expr}{es:List Expr}{as:List Am}
theorem vKv:FnT X c n []:=fun _ _ h=>by cases h
theorem zWz{k:Nat}{f:aV}{fd:aH}{ps:List Str}{F:Fn}(e1:X.mg y=some (.ref (c j)))(e2:X.mg y=some (.ref f))(hr:Room k X.A)(G:FnOk X.prog X.w X.K X.mg X.base (CXd X.prog X.w) k f fd ps (spD X.K c n F))(hk:cV X.K (.ref f)=true)(hb:wV X.K fd ps [])(t:FnT X c n tb):FnT X c n ((j,F)::tb):=fun j' F' h=>by
 have e3:c j=f:=Value.ref.inj (Option.some.inj (e1.symm.trans e2));subst e3;rcases bV.mp h with h|h
 ·cases h;exact⟨k,fd,ps,hr,G,hk,hb⟩
 ·exact t j' F' h
theorem vWn(T:FnT X c as.length tb)(hv:PE X (.Name x p) (tVar i))(hx:jR (CXd X.prog X.w) X E)(ha:OsD X c E (e::es) (as.map Am.o))(he:aX (e::es) X.env=(false,eval e X.env)::aX es X.env:=by rfl)(hpl:(cX pos (aX es X.env)).any (·.1)=false:=by rfl):
  ED X c E (.Call (.Name x p) (e::es) [] pos) (vVa tb i as):=by
 refine⟨fun pins s σ H Q I h=>?_⟩;obtain⟨env,B,W,cf,w⟩:=h;unfold vVa at w;split at w
 ·rename_i io j e1;split at w
  ·rename_i F e2;obtain⟨v,Z1,R,h1,h2,_⟩:=cf.focus e1;cases v with
   |none=>exact h2.elim
   | some v=>
     have h2' :OAt X.K c (hide (hd2 B W) H) H (.fz (.fn j)) v Z1:=h2;cases h2'.1;obtain⟨k,fd,ps,hr,G,hk,hb⟩:=T j F (qWg e2);exact zJ7 G hr hk hb .nil hx hv ha.h he hpl pins s σ H Q I ⟨h1,vJ0 ⟨env,B,W,cf,w⟩⟩
  ·exact w.elim
 ·exact w.elim
noncomputable def vXm(y:Str)(o:Oe):SE:=fun env=>(evO o env).bind fun r=>(opt (rsv r.2 r.1)).bind fun x=>match x with
 |.str z=>cond (!(y.length == 0) && decide (z.length+2<=1000000)) (.ok (.ow .lst (((Txt.split z y).map D.str).map .fz),r.2)) .no
 |_=>.no
theorem vK1{K:aQ}{F:Hp}:∀ws:List Str,DsAt K c F (ws.map V.str) (ws.map D.str)
 |[]=>.nil
 |w::ws=>.cons (.str w) (vK1 ws)
theorem zKy{o:Expr}{oo:Oe}{apos cpos p2:Pos}(ho:OD X c E o oo)(m:M1 X o "split" apos (.Constant (.str y) j p2) cpos)(hs:aX [.Constant (.str y) j p2] X.env=(false,eval (.Constant (.str y) j p2) X.env)::aX [] X.env:=by rfl):ED X c E (.Call (.Attribute o "split" apos) [.Constant (.str y) j p2] [] cpos) (vXm y oo):=by
 refine⟨PE.imp (vYq F.plainAttrs_str F.slot_str_split F.type_str_split zWe ho.h (wX vXd qQr hs) m.base m.few m.line hs) fun σ H Q h=>?_⟩;obtain⟨env,B,W,cf,w⟩:=h;refine yU cf (qB.mp w) fun r w1 u H1 W1 g=>?_
 obtain⟨x,e1,w2⟩:=qN w1;cases x with
 | str z=>
   have d0:=jM g.cf g.at_ e1;cases d0;obtain⟨hc,w3⟩:=zV w2;rw[aF,Bool.not_eq_true']at hc;have hz:=of_decide_eq_true hc.2;refine⟨rfl,z,y,rfl,rfl,hc.1,aM hz (by decide),fun l hl=>?_⟩;refine w3 _ _ W1 _ ((Got.lay g.cf hl (.upd hl) (k:=.lst) upd_same (vK1 _)).back g.st)
 |non=>exact w2.elim
 |int _=>exact w2.elim
 |bl _=>exact w2.elim
 |fn _=>exact w2.elim
 |nd _ _=>exact w2.elim
end
end DX
namespace L2
open PySem PySem.Spec PyProof.Rows
noncomputable def Itsg(x:Str):It:=⟨fun i _=>i<x.cps.size,fun i H v H' =>H' =H/\∃c,x.cps[i]?=some c/\v=.str ⟨#[c]⟩,fun i _=>i=x.cps.size⟩
theorem vJw{P:bQ}{w:bK}{K:aQ}{tg:Expr}{x:Str}{t:Tok}{it:aV}{nm:String}(hnm: ["enumerate","zip","dict_itemiterator","dict_reverseitemiterator","odict_iterator","itertools.zip_longest","itertools.pairwise"].contains nm=false)(W:∀A:cC,A.handled=none->Walks P w A it [it] [it] x.cps.size (SignAt x) fun i h=>h.IsStrIter it nm x t i)(hs:∀(A:cC) (i:Nat) (s:aY) (Q:Value->aY->Prop) (E:Value->aY->Prop),s.heap.IsStrIter it nm x t i->Q (.ref it) s->aO (model P w) A (pyIter (.ref it)) Q E s):Turn P w K tg (Itsg x) [it] it (fun i h=>h.IsStrIter it nm x t i) where
 mem:=by simp
 obj:=fun i h st b hb=>by
  have e:b=it:=by simpa using hb
  subst e;obtain⟨o,e,c,d⟩:=st;grind
 keep:=fun i h h' st k=>by
  obtain⟨o,e,c,d⟩:=st;exact⟨o,k it (by simp) o e,c,d⟩
 item:=by
  intro X hP hw hK hc i pins s σ H E I hf st hg;obtain⟨f0,f1,f2,f3,f4,f5⟩:=hf it (by simp);refine(W X.A (I.ok.hd hc)).item i s _ _ hg st fun v h' tk pv st2 keep=>?_
  obtain⟨cc,u,hcc,rfl⟩:=pv;have I1:Inv X pins σ H {s with heap:=h',toks:=tk}:=I.turned (t' :=tk) (fun b o hb e=>keep b o (by simpa using hb) e) f0 f1 f3 f4 f5;obtain⟨o,e,c,d⟩:=id st2;exact⟨_,rfl,vYz (s:={s with heap:=h',toks:=tk}) e c d hnm ⟨.str ⟨#[cc]⟩,H,I1,⟨u,rfl⟩,⟨rfl,cc,hcc,rfl⟩,st2,fun b hb=>(hf b hb).1⟩⟩
 done:=by
  intro X hP hw hK hc i pins s σ H E I hf st hg;obtain⟨f0,f1,f2,f3,f4,f5⟩:=hf it (by simp);have hg' :i=x.cps.size:=hg;subst hg';exact(W X.A (I.ok.hd hc)).done s _ _ st fun h' tk keep=>⟨rfl,I.turned (t' :=tk) (fun b o hb e=>keep b o (by simpa using hb) e) f0 f1 f3 f4 f5⟩
 self:=hs
section
variable{X:Cx}{tg:Expr}
noncomputable def iStr(tl:TE):TI:=fun σ H R=>tl σ H fun v H1=>∃x,v=.str x/\R (Itsg x) H1
theorem jVv{l:Expr}{tl:TE}(hl:PE X l tl):PI X tg l (iStr tl):=by
 intro pins s σ H R I h;refine thn (hl pins s σ H _ I h) fun v s1 ⟨y,H1,I1,r1,q1⟩=>?_
 obtain⟨x,e,q⟩:=q1;subst e;obtain⟨t,rfl⟩:=r1;have fin:∀b∈ [s1.heap.objs.size],FpOk X pins H1 b:=fun b hb=>by
  have e:b=s1.heap.objs.size:=by simpa using hb
  subst e;exact I1.fpOk (aD _) (I1.hok.fresh (aD _))
 cases ha:x.cps.all (· < 128)
 ·exact wpAny_pyIter_wide ha ⟨s1.heap.objs.size,[s1.heap.objs.size],_,_,H1,rfl,I1.kept (t' :=s1.toks) fun b o e=>aK _ e,vJw (by decide) (fun A' hA=>Walks.strWide hA _ x t) (fun _ _ _ _ _ st h=>wpAny_pyIter_striter_wide st h),⟨_,aN _ rfl,rfl,rfl⟩,fin,q⟩
 ·exact wpAny_pyIter_ascii ha ⟨s1.heap.objs.size,[s1.heap.objs.size],_,_,H1,rfl,I1.kept (t' :=s1.toks) fun b o e=>aK _ e,vJw (by decide) (fun A' hA=>Walks.strAscii hA _ x t) (fun _ _ _ _ _ st h=>wpAny_pyIter_striter_ascii st h),⟨_,aN _ rfl,rfl,rfl⟩,fin,q⟩
theorem zVs{its:List Value}:∀{bs:List Bool},Vals (bs.map V.bl) its->∀(j:Nat) v,its[j]?=some v->v=Value.bool (bs.getD j true):=by
 induction its with
 |nil=>intro bs _ j v h;simp at h
 | cons u its ih=>
   intro bs r j v h;cases bs with
   |nil=>cases r
   | cons b bs=>
     cases r with
     | cons h1 h2=>
       cases j with
       |zero=>simp at h;rw[←h];exact h1
       |succ j=>simpa using ih h2 j v (by simpa using h)
theorem vX1(bs:List Bool):((List.range bs.length).all fun i=>bs.getD i true)=bs.all id:=by
 induction bs with
 |nil=>rfl
 | cons b bs ih=>
   rw[aW,List.range_succ_eq_map,List.all_cons,List.all_map,List.all_cons,←ih];rfl
theorem zXd(hc:X.calm=true):jW X (.builtin "all") (fun xs H Q=>∃(p:aV) (bs:List Bool),xs=[.ref p]/\SqL X.K H p (bs.map V.bl)/\Q (.bl (bs.all id)) H):=by
 intro pins s σ H xs us Q I r h;obtain⟨p,bs,rfl,hp,q⟩:=h;obtain⟨u,rfl,ru⟩:=xS r;cases ru;obtain⟨its,rv,pl,_⟩:=I.list hp;have lp:p<s.heap.objs.size:=by obtain⟨_,e,_⟩:=pl.isList;exact aC e
 have le:its.length=bs.length:=by rw[←rv.length,aP]
 refine call_all_walk (wpAny_pyIter_list pl.isList ?_);refine⟨s.heap.objs.size,_,_,_,_,_,fun j=>bs.getD j true,rfl,Walks.list (A:=X.A.in1) (I.ok.hd hc) s.heap.objs.size p (bY lp) its.toArray,⟨⟨_,aN _ rfl,rfl,rfl⟩,pl.isList.at fun o e=>aK _ e⟩,fun j v s' Q' E' hP hQ=>?_,fun h' tk kk=>?_⟩
 ·cases zVs rv j v (by simpa using hP);exact cN hQ
 ·rw [show its.toArray.size=bs.length by rw [bJ,le],vX1];refine⟨.bl _,H,I.kept (t' :=tk) fun b o e=>kk b o (fun z=>?_) (aK _ e),rfl,q⟩;have z' :b=s.heap.objs.size:=by simpa using z
  exact absurd (aC e) (by rw[z'];exact cD _)
theorem zVr:jW X (.type "int") (fun xs H Q=>∃(x:Str) (n:Int),xs=[.str x]/\PySem.intText? x=some n/\x.length<=640/\Q (.int n) H):=by
 intro pins s σ H xs us Q I r h;obtain⟨x,n,rfl,hn,hl,q⟩:=h;obtain⟨u,rfl,ru⟩:=xS r;obtain⟨t,rfl⟩:=ru;exact PySem.W.KIN.call_text hn hl ⟨.int n,H,I.tok _,⟨_,rfl⟩,q⟩
end
end L2
namespace DX
open PySem L2 PyProof.Rows
variable{K:aQ}{c:Nat->aV}{F:Hp}
noncomputable def signsD(x:Str):List D:=x.cps.toList.map fun c=>D.str ⟨#[c]⟩
noncomputable def zZp:D->Option (List D)
 |.str x=>some (signsD x)
 |_=>none
noncomputable def iS(s:SV):SI:=fun env=>(s env).bind fun r=>(opt (zZp r.1)).bind fun ds=>.ok (ds,r.2)
theorem zKc{x:Str}:ItD K c F (Itsg x) (signsD x):=by
 intro i H T sm hb;unfold signsD;refine⟨fun d hd=>?_,fun hi=>by rw[aP,dX]at hi;exact hi⟩;rw[cJ,Array.getElem?_toList]at hd;cases q:x.cps[i]? with
 |none=>rw[q]at hd;cases hd
 | some cc=>
   rw[q]at hd;cases hd;refine⟨(Array.getElem?_eq_some_iff.mp q).1,fun y H' z=>?_⟩;obtain⟨rfl,c',e,rfl⟩:=z;rw[q]at e;cases e;exact⟨Same.refl _,.str _⟩
noncomputable def vVb:List D->Option (List Bool)
 |[]=>some []
 |.bl b::r=>(vVb r).bind fun bs=>some (b::bs)
 |_=>none
theorem vWp:∀{vs:List V} {ds:List D} {bs:List Bool},DsAt K c F vs ds->vVb ds=some bs->vs=bs.map V.bl
 |vs,[],bs,h,e=>by cases e;rw[h.un0];rfl
 | vs, .bl b::ds,bs,h,e=>by
   obtain⟨v,r,rfl,a,b⟩:=h.un;obtain⟨xs,e3,e4⟩:=bnd e;cases e4;cases a;rw[vWp b e3];rfl
noncomputable def allD:List D->Option D
 |[.nd .lst ds]=>(vVb ds).bind fun bs=>some (.bl (bs.all id))
 |_=>none
noncomputable def qJq:List D->Option D
 |[.str x]=>cond (decide (x.length<=640)) ((PySem.intText? x).bind fun n=>some (.int n)) none
 |_=>none
section
variable{X:Cx}{c:Nat->aV}{E:XK}{tg e:Expr}{s:SV}{o:Oe}{p pos:Pos}
theorem jZ3(h:EV X c E e s):ID' X c E tg e (iS s):=by
 refine⟨PI.imp (jVv h.h) fun σ H R=>?_⟩;rintro⟨env,B,W,cf,w⟩;refine⟨env,B,W,cf,wp_mono (fun r w1 u H1 W1 g=>?_) (fun _ _ he=>he) (qB.mp w)⟩;obtain⟨ds,e1,w2⟩:=qN w1;unfold zZp at e1;split at e1
 ·rename_i x e2;cases e1;have:=g.at_;rw[e2]at this;cases this;exact⟨x,rfl,w2 _ H1 W1 g.st g.cf zKc⟩
 ·cases e1
theorem jWb(hc:X.calm=true)(hg:Gl X "all")(hm:X.mg "all"=none)(ha:OD X c E e o)(he:aX [e] X.env=[(false,eval e X.env)]:=by rfl)(h0:aX [] X.env=[]:=by rfl):OD X c E (.Call (.Name "all" p) [e] [] pos) (oL allD [o]):=by
 refine qKz (zXd hc) (fun us H xs z Q hx e q=>?_) hg hm Boot.«all» (qG ha qK (by rw[he,h0])) (by decide) (by decide) (by rw[he,h0]) (by rw[h0];rfl);unfold allD at e;split at e
 ·obtain⟨u,rfl,h⟩:=ds1 hx;obtain⟨p',vs,rfl,h1,h2⟩:=h.un;obtain⟨bs,e1,e2⟩:=bnd e;cases e2;have:=vWp h2 e1;subst this;exact⟨p',bs,rfl,h1,q _ fun _=>.bl _⟩
 ·cases e
theorem vXe(hg:Gl X "int")(hm:X.mg "int"=none)(ha:OD X c E e o)(he:aX [e] X.env=[(false,eval e X.env)]:=by rfl)(h0:aX [] X.env=[]:=by rfl):OD X c E (.Call (.Name "int" p) [e] [] pos) (oL qJq [o]):=by
 refine vVn zVr (fun us H xs z Q hx e q=>?_) hg hm Boot.«int» (qG ha qK (by rw[he,h0])) (by decide) (by decide) (by rw[he,h0]) (by rw[h0];rfl);unfold qJq at e;split at e
 ·rename_i x;obtain⟨u,rfl,h⟩:=ds1 hx;cases h;cases hl:decide (x.length<=640) with
  |false=>grind
  | true=>
    rw[hl]at e;obtain⟨n,e1,e2⟩:=bnd e;cases e2;exact⟨x,n,rfl,e1,of_decide_eq_true hl,q _ fun _=>.int n⟩
 ·cases e
end
noncomputable def eqFB:D->D->Option Bool
 |.int i,.int j=>some (i == j)
 |.str i,.str j=>some (decide (i=j))
 |.bl i,.bl j=>some (i == j)
 |_,_=>none
noncomputable def eqF(x y:D):Option D:=(eqFB x y).map .bl
noncomputable def neF(x y:D):Option D:=(eqFB x y).map fun b=>.bl (!b)
section
variable{X:Cx}{K:aQ}{c:Nat->aV}{E:XK}{a b:Expr}{oa ob:Oe}{pos:Pos}
theorem vKz{u w:V}{H:Hp}{x y:D}{z:Bool}(hx:DAt K c H u x)(hy:DAt K c H w y)(e:eqFB x y=some z):scal u w=true/\decide (u=w)=z:=by
 unfold eqFB at e;split at e
 ·cases e;cases hx;cases hy;exact⟨rfl,vZt⟩
 ·cases e;cases hx;cases hy;exact⟨rfl,decide_eq_decide.mpr ⟨fun h=>by cases h;rfl,fun h=>by rw[h]⟩⟩
 ·cases e;cases hx;cases hy;exact⟨rfl,vXn⟩
 ·cases e
theorem zZx:PrS2 K c rEq eqF:=fun u w H x y z Q hx hy e q=>by
 obtain⟨b,e1,rfl⟩:=bP.mp e;obtain⟨h1,h2⟩:=vKz hx hy e1;exact⟨h1,by rw[h2];exact q _ fun _=>.bl _⟩
theorem zZw:PrS2 K c rNe neF:=fun u w H x y z Q hx hy e q=>by
 obtain⟨b,e1,rfl⟩:=bP.mp e;obtain⟨h1,h2⟩:=vKz hx hy e1;exact⟨h1,by rw[h2];exact q _ fun _=>.bl _⟩
theorem qWq(ha:OD X c E a oa)(hb:OD X c E b ob):OD X c E (.Compare a [.Eq] [b] pos) (o2 eqF oa ob):=qKj jQk zZx ha hb (yI _)
theorem jWa(ha:OD X c E a oa)(hb:OD X c E b ob):OD X c E (.Compare a [.NotEq] [b] pos) (o2 neF oa ob):=qKj jQi zZw ha hb (yI _)
theorem jJ(ha:OD X c E a oa)(hb:OD X c E b ob):TD X c E (.Compare a [.Eq] [b] pos) (asB (o2 eqF oa ob)):=qZf jQk zZx ha hb (yI _)
theorem qJn(ha:OD X c E a oa)(hb:OD X c E b ob):TD X c E (.Compare a [.NotEq] [b] pos) (asB (o2 neF oa ob)):=qZf jQi zZw ha hb (yI _)
end
end DX
namespace RF
open PySem L2 DX PyProof.Rows
noncomputable def vQt:Fn:=fnS 1 1 (sSeq (sSet 1 (owS (oV (oIx (oN 0) (oC (.int 0))))))
  (sSeq (sIf (asB (o2 eqF (oN 1) (oC (.str "if")))) (sRet (eLst [(oV (oIx (oN 0) (oC (.int 1)))),(oV (oIx (oN 0) (oC (.int 2)))),(oV (oIx (oN 0) (oC (.int 3))))])) sNil)
  (sSeq (sIf (asB (o2 inD (oN 1) (.v (svTup [(oV (oC (.str "op"))),(oV (oC (.str "bind")))])))) (sRet (eLst [(oV (oIx (oN 0) (oC (.int 2)))),(oV (oIx (oN 0) (oC (.int 3))))])) sNil)
  (sSeq (sIf (asB (o2 inD (oN 1) (.v (svTup [(oV (oC (.str "rest"))),(oV (oC (.str "field")))])))) (sRet (eLst [(oV (oIx (oN 0) (oC (.int 1))))])) sNil)
  (sSeq (sIf (asB (o2 eqF (oN 1) (oC (.str "record")))) (sRet (compS 2 [] [0,1] (iV (oV (oIx (oN 0) (oC (.int 1))))) (gT 2 (gCn (gN 0) (gCn (gN 1) gNl))) bTrue (oV (oN 1)))) sNil)
  (sSeq (sIf (asB (o2 eqF (oN 1) (oC (.str "call")))) (sRet (eF listD [(oIx (oN 0) (oC (.int 2)))])) sNil)
  (sRet (eLst []))))))))
noncomputable def wF:Fn:=fnS 1 0 (sSeq (sIf (bOr (asB (oCh leS leS (oC (.str "a")) (oN 0) (oC (.str "z")))) (asB (oCh leS leS (oC (.str "A")) (oN 0) (oC (.str "Z"))))) (sRet (owS (oV (oC (.str "letter"))))) sNil)
  (sSeq (sIf (asB (oCh leS leS (oC (.str "0")) (oN 0) (oC (.str "9")))) (sRet (owS (oV (oC (.str "figure"))))) sNil)
  (sSeq (sIf (asB (o2 eqF (oN 0) (oC (.str " ")))) (sRet (owS (oV (oC (.str "blank"))))) sNil)
  (sRet (owS (oV (oC (.str "single"))))))))
noncomputable def vQu:SS:=(sAug 3 (i2 fun i j=>i+j) (oV (oC (.int 1))))
noncomputable def qZm:Fn:=fnS 2 2 (sSeq (sSet 2 (qP wF [(.v (oV (oIx (oN 0) (oN 1))))]))
  (sSeq (sSet 3 (owS (oV (oAdd (oN 1) (oC (.int 1))))))
  (sSeq (v5 (bAnd (asB (o2 neF (oN 2) (oC (.str "single")))) (bAnd (asB (oLt (oN 3) (oL lenD [(oN 0)]))) (asB (o2 eqF (.v (fzS (qP wF [(.v (oV (oIx (oN 0) (oN 3))))]))) (oN 2))))) vQu 100000)
  (sRet (eMv 3)))))
noncomputable def yZ:SS:=(sSeq (sSet 3 (qP qZm [(.v (oV (oN 0))),(.v (oV (oN 2)))]))
  (sSeq (sIf (asB (o2 neF (oIx (oN 0) (oN 2)) (oC (.str " ")))) (sExpr (eMu1 (pOf (oN 1)) (owS (vJf (oN 0) (some (oV (oN 2))) (some (oV (oN 3))))) apF)) sNil)
  (sSet 2 (owS (oV (oN 3))))))
noncomputable def y8:Fn:=fnS 1 3 (sSeq (sSet 1 (eLst []))
  (sSeq (sSet 2 (owS (oV (oC (.int 0)))))
  (sSeq (v5 (asB (oLt (oN 2) (oL lenD [(oN 0)]))) yZ 100000)
  (sRet (eMv 1)))))
noncomputable def qQf:Fn:=fnS 3 0 (sSeq (vJg [9] "row" (pOf (oN 0)) (owS (oV (oN 1))))
  (sSeq (vJg [9] "words" (pOf (oN 0)) (owS (oV (oN 2))))
  (vJg [9] "place" (pOf (oN 0)) (owS (oV (oC (.int 0)))))))
noncomputable def vU:Fn:=fnS 1 0 (sSeq (sIf (asB (oLt (oFld [9] "place" (oN 0)) (oL lenD [(oFld [9] "words" (oN 0))]))) (sRet (owS (oV (oIx (oFld [9] "words" (oN 0)) (oFld [9] "place" (oN 0)))))) sNil)
  (sRet (owS (oV (oC (.str ""))))))
noncomputable def vW:Fn:=fnS 1 1 (sSeq (sSet 1 (vF 9 "ahead" vU (.b (pOf (oN 0))) []))
  (sSeq (vYo [9] "place" (i2 fun i j=>i+j) (pOf (oN 0)) (oV (oC (.int 1))))
  (sRet (eMv 1))))
noncomputable def vQ:Fn:=fnS 2 0 (sSeq (sIf (asB (o2 neF (.v (fzS (vF 9 "ahead" vU (.b (pOf (oN 0))) []))) (oN 1))) (sRet (owS (oV (oC (.bl false))))) sNil)
  (sSeq (vYo [9] "place" (i2 fun i j=>i+j) (pOf (oN 0)) (oV (oC (.int 1))))
  (sRet (owS (oV (oC (.bl true)))))))
noncomputable def qI:Fn:=fnS 2 0 (sIf (bNot (asB (.v (fzS (vF 9 "passed" vQ (.io 0) [(.v (oV (oN 1)))]))))) (zS 23 "row" (oV (oFld [9] "row" (oN 0)))) sNil)
noncomputable def xP:Fn:=fnS 1 0 (sRet (owS (oV (oAnd (oCh (c2 fun i j=>decide (i<=j)) (c2 fun i j=>decide (i<=j)) (oC (.int 1)) (oL lenD [(oN 0)]) (oC (.int 8))) (oL allD [(.v (fzS (compS 1 [] [0] (iS (oV (oN 0))) (gN 0) bTrue (oV (oCh leS leS (oC (.str "a")) (oN 0) (oC (.str "z")))))))])))))
noncomputable def yY:Fn:=fnS 1 0 (sRet (owS (oV (oAnd (.v (fzS (qP xP [(.v (oV (oN 0)))]))) (o2 niD (oN 0) (oC (.tup [(.str "flip"),(.str "pick"),(.str "if"),(.str "rest")])))))))
noncomputable def j6:Fn:=fnS 1 0 (sRet (owS (oV (oAnd (oCh leS leS (oC (.str "0")) (.v (vJf (oN 0) none (some (oV (oC (.int 1)))))) (oC (.str "9"))) (oAnd (oLe (oL lenD [(oN 0)]) (oC (.int 12))) (oOr (o2 eqF (oN 0) (oC (.str "0"))) (o2 neF (oIx (oN 0) (oC (.int 0))) (oC (.str "0")))))))))
noncomputable def zU:Fn:=fnS 1 1 (sSeq (sSet 1 (vF 9 "next_word" vW (.io 0) []))
  (sSeq (sIf (bNot (asB (.v (fzS (qP yY [(.v (oV (oN 1)))]))))) (zS 23 "row" (oV (oFld [9] "row" (oN 0)))) sNil)
  (sRet (eMv 1))))
noncomputable def vX:Fn:=fnS 3 1 (sSeq (sSet 3 (vF 9 "next_word" vW (.io 0) []))
  (sSeq (sIf (bOr (bNot (asB (.v (fzS (qP j6 [(.v (oV (oN 3)))]))))) (bNot (asB (oCh (c2 fun i j=>decide (i<=j)) (c2 fun i j=>decide (i<=j)) (oN 1) (oL qJq [(oN 3)]) (oN 2))))) (zS 23 "row" (oV (oFld [9] "row" (oN 0)))) sNil)
  (sRet (owS (oV (oL qJq [(oN 3)]))))))
noncomputable def wN(R_read_term:Fn):Fn:=fnS 1 1 (sSeq (sSet 1 (qP zU [(.io 0)]))
  (sSeq (sExpr (vF 9 "need" qI (.io 0) [(.v (oV (oC (.str ":"))))]))
  (sRet (owS (svTup [(oV (oN 1)),(fzS (qP R_read_term [(.io 0)]))])))))
noncomputable def j9:Fn:=fnS 1 1 (sSeq (sSet 1 (qP vX [(.io 0),(.v (oV (oC (.int 0)))),(.v (oV (oC (.int 999999999999))))]))
  (sSeq (sExpr (vF 9 "need" qI (.io 0) [(.v (oV (oC (.str ":"))))]))
  (sRet (owS (svTup [(oV (oN 1)),(fzS (qP vX [(.io 0),(.v (oV (oC (.int 1)))),(.v (oV (oC (.int 1000000))))]))])))))
noncomputable def wW(R_read_term:Fn):SS:=(sExpr (eMu1 (pOf (oN 4)) (vVa [(30,R_read_term),(31,j9),(32,(wN R_read_term)),(33,zU)] 3 [(.io 0)]) apF))
noncomputable def j5(R_read_term:Fn):Fn:=fnS 4 1 (sSeq (sIf (asB (.v (fzS (vF 9 "passed" vQ (.io 0) [(.v (oV (oN 1)))])))) (sRet (owS (svTup []))) sNil)
  (sSeq (sSet 4 (eLst [(fzS (vVa [(30,R_read_term),(31,j9),(32,(wN R_read_term)),(33,zU)] 3 [(.io 0)]))]))
  (sSeq (v5 (asB (.v (fzS (vF 9 "passed" vQ (.io 0) [(.v (oV (oC (.str ","))))])))) (wW R_read_term) 100000)
  (sSeq (sExpr (vF 9 "need" qI (.io 0) [(.v (oV (oN 1)))]))
  (sSeq (sIf (asB (oGt (oL lenD [(oN 4)]) (oN 2))) (zS 23 "row" (oV (oFld [9] "row" (oN 0)))) sNil)
  (sRet (owS (svA tupleD [(oN 4)]))))))))
noncomputable def j8:Fn:=fnS 2 0 (sIf (asB (oLt (.v (svA lenTD [(oN 1)])) (oL lenD [(oN 1)]))) (zS 23 "row" (oV (oFld [9] "row" (oN 0)))) sNil)
noncomputable def yV(R_read_term:Fn):Fn:=fnS 3 1 (sSeq (sSet 3 (qP (j5 R_read_term) [(.io 0),(.v (oV (oN 1))),(.v (oV (oC (.int 6)))),(.v (oV (oN 2)))]))
  (sSeq (sIf (asB (o2 eqF (oL lenD [(oN 3)]) (oC (.int 0)))) (zS 23 "row" (oV (oFld [9] "row" (oN 0)))) sNil)
  (sSeq (sExpr (qP j8 [(.b (pOf (oN 0))),(.v (fzS (compS 1 [] [0] (iV (oV (oN 3))) (gN 0) bTrue (oV (oIx (oN 0) (oC (.int 0)))))))]))
  (sRet (eMv 3)))))
noncomputable def qX9(R_read_term:Fn):Fn:=fnS 1 1 (sSeq (sSet 1 (qP (j5 R_read_term) [(.io 0),(.v (oV (oC (.str ")")))),(.v (oV (oC (.int 3)))),(.v (oV (oC (.fn 30))))]))
  (sSeq (sIf (asB (oLt (oL lenD [(oN 1)]) (oC (.int 3)))) (zS 23 "row" (oV (oFld [9] "row" (oN 0)))) sNil)
  (sRet (owS (svTup [(oV (oC (.str "if"))),(oV (oIx (oN 1) (oC (.int 0)))),(oV (oIx (oN 1) (oC (.int 1)))),(oV (oIx (oN 1) (oC (.int 2))))])))))
noncomputable def qZ2:Fn:=fnS 1 2 (sSeq (sSet 1 (qP vX [(.io 0),(.v (oV (oC (.int 1)))),(.v (oV (oC (.int 1000000))))]))
  (sSeq (sExpr (vF 9 "need" qI (.io 0) [(.v (oV (oC (.str "/"))))]))
  (sSeq (sSet 2 (qP vX [(.io 0),(.v (oV (oAdd (oN 1) (oC (.int 1))))),(.v (oV (oC (.int 1000000))))]))
  (sSeq (sExpr (vF 9 "need" qI (.io 0) [(.v (oV (oC (.str ")"))))]))
  (sRet (owS (svTup [(oV (oC (.str "flip"))),(oV (oN 1)),(oV (oN 2))])))))))
noncomputable def qZ0(R_read_term:Fn):Fn:=fnS 1 2 (sSeq (sSet 1 (qP R_read_term [(.io 0)]))
  (sSeq (sExpr (vF 9 "need" qI (.io 0) [(.v (oV (oC (.str ","))))]))
  (sSeq (sSet 2 (qP vX [(.io 0),(.v (oV (oC (.int 1)))),(.v (oV (oC (.int 999999999999))))]))
  (sSeq (sExpr (vF 9 "need" qI (.io 0) [(.v (oV (oC (.str ")"))))]))
  (sRet (owS (svTup [(oV (oC (.str "rest"))),(oV (oN 1)),(oV (oN 2))])))))))
noncomputable def qV3(R_read_term:Fn):Fn:=fnS 2 0 (sSeq (sExpr (vF 9 "need" qI (.io 0) [(.v (oV (oC (.str "("))))]))
  (sSeq (sIf (asB (o2 eqF (oN 1) (oC (.str "if")))) (sRet (qP (qX9 R_read_term) [(.io 0)])) sNil)
  (sSeq (sIf (asB (o2 eqF (oN 1) (oC (.str "flip")))) (sRet (qP qZ2 [(.io 0)])) sNil)
  (sSeq (sIf (asB (o2 eqF (oN 1) (oC (.str "pick")))) (sRet (owS (svTup [(oV (oC (.str "pick"))),(fzS (qP (yV R_read_term) [(.io 0),(.v (oV (oC (.str ")")))),(.v (oV (oC (.fn 31))))]))]))) sNil)
  (sRet (qP (qZ0 R_read_term) [(.io 0)]))))))
noncomputable def qV2(R_read_term:Fn):Fn:=fnS 2 0 (sSeq (sIf (bNot (asB (.v (fzS (qP yY [(.v (oV (oN 1)))]))))) (zS 23 "row" (oV (oFld [9] "row" (oN 0)))) sNil)
  (sSeq (sIf (asB (.v (fzS (vF 9 "passed" vQ (.io 0) [(.v (oV (oC (.str "("))))])))) (sRet (owS (svTup [(oV (oC (.str "call"))),(oV (oN 1)),(fzS (qP (j5 R_read_term) [(.io 0),(.v (oV (oC (.str ")")))),(.v (oV (oC (.int 3)))),(.v (oV (oC (.fn 30))))]))]))) sNil)
  (sRet (owS (svTup [(oV (oC (.str "name"))),(oV (oN 1))])))))
noncomputable def qZ1(R_read_term:Fn):Fn:=fnS 1 2 (sSeq (sSet 1 (vF 9 "next_word" vW (.io 0) []))
  (sSeq (sIf (asB (o2 eqF (oN 1) (oC (.str "(")))) (sSeq (sSet 2 (qP R_read_term [(.io 0)]))
  (sSeq (sExpr (vF 9 "need" qI (.io 0) [(.v (oV (oC (.str ")"))))]))
  (sRet (eMv 2)))) sNil)
  (sSeq (sIf (asB (o2 eqF (oN 1) (oC (.str "{")))) (sRet (owS (svTup [(oV (oC (.str "record"))),(fzS (qP (yV R_read_term) [(.io 0),(.v (oV (oC (.str "}")))),(.v (oV (oC (.fn 32))))]))]))) sNil)
  (sSeq (sIf (asB (o2 inD (oN 1) (oC (.tup [(.str "flip"),(.str "pick"),(.str "if"),(.str "rest")])))) (sRet (qP (qV3 R_read_term) [(.io 0),(.v (oV (oN 1)))])) sNil)
  (sSeq (sIf (asB (.v (fzS (qP j6 [(.v (oV (oN 1)))])))) (sRet (owS (svTup [(oV (oC (.str "num"))),(oV (oL qJq [(oN 1)]))]))) sNil)
  (sRet (qP (qV2 R_read_term) [(.io 0),(.v (oV (oN 1)))])))))))
noncomputable def vQy(R_read_term:Fn):SS:=(sSet 1 (owS (svTup [(oV (oC (.str "field"))),(oV (oN 1)),(fzS (qP zU [(.io 0)]))])))
noncomputable def yQ(R_read_term:Fn):Fn:=fnS 1 1 (sSeq (sSet 1 (qP (qZ1 R_read_term) [(.io 0)]))
  (sSeq (v5 (asB (.v (fzS (vF 9 "passed" vQ (.io 0) [(.v (oV (oC (.str "."))))])))) (vQy R_read_term) 100000)
  (sRet (eMv 1))))
noncomputable def qYc(R_read_term:Fn):SS:=(sSet 1 (owS (svTup [(oV (oC (.str "op"))),(oV (oC (.str "*"))),(oV (oN 1)),(fzS (qP (yQ R_read_term) [(.io 0)]))])))
noncomputable def wR(R_read_term:Fn):Fn:=fnS 1 1 (sSeq (sSet 1 (qP (yQ R_read_term) [(.io 0)]))
  (sSeq (v5 (asB (.v (fzS (vF 9 "passed" vQ (.io 0) [(.v (oV (oC (.str "*"))))])))) (qYc R_read_term) 100000)
  (sRet (eMv 1))))
noncomputable def vJc(R_read_term:Fn):SS:=(sSeq (sSet 2 (vF 9 "next_word" vW (.io 0) []))
  (sSet 1 (owS (svTup [(oV (oC (.str "op"))),(oV (oN 2)),(oV (oN 1)),(fzS (qP (wR R_read_term) [(.io 0)]))]))))
noncomputable def xY(R_read_term:Fn):Fn:=fnS 1 2 (sSeq (sSet 1 (qP (wR R_read_term) [(.io 0)]))
  (sSeq (v5 (asB (o2 inD (.v (fzS (vF 9 "ahead" vU (.b (pOf (oN 0))) []))) (.v (svTup [(oV (oC (.str "+"))),(oV (oC (.str "-")))])))) (vJc R_read_term) 100000)
  (sRet (eMv 1))))
noncomputable def zP:Nat->Fn
 | 0=>fun _=>.no
 | h + 1=>fnS 1 2 (sSeq (sSet 1 (qP (xY (zP h)) [(.io 0)]))
   (sSeq (sIf (asB (o2 inD (.v (fzS (vF 9 "ahead" vU (.b (pOf (oN 0))) []))) (.v (svTup [(oV (oC (.str "="))),(oV (oC (.str "<")))])))) (sSeq (sSet 2 (vF 9 "next_word" vW (.io 0) []))
   (sSet 1 (owS (svTup [(oV (oC (.str "op"))),(oV (oN 2)),(oV (oN 1)),(fzS (qP (xY (zP h)) [(.io 0)]))])))) sNil)
   (sRet (eMv 1))))
noncomputable def xH:Fn:=fnS 1 0 (sSeq (sExpr (vF 9 "need" qI (.io 0) [(.v (oV (oC (.str "="))))]))
  (sRet (qP (zP 12) [(.io 0)])))
noncomputable def qWl:Fn:=fnS 1 2 (sSeq (sSet 1 (qP zU [(.io 0)]))
  (sSeq (sExpr (vF 9 "need" qI (.io 0) [(.v (oV (oC (.str "("))))]))
  (sSeq (sSet 2 (qP (j5 (zP 12)) [(.io 0),(.v (oV (oC (.str ")")))),(.v (oV (oC (.int 3)))),(.v (oV (oC (.fn 33))))]))
  (sSeq (sExpr (qP j8 [(.b (pOf (oN 0))),(.v (oV (oN 2)))]))
  (sRet (owS (svTup [(oV (oC (.str "def"))),(oV (oN 1)),(oV (oN 2)),(fzS (qP xH [(.io 0)]))])))))))
noncomputable def qWk:Fn:=fnS 1 1 (sSeq (sSet 1 (qP zU [(.io 0)]))
  (sRet (owS (svTup [(oV (oC (.str "let"))),(oV (oN 1)),(fzS (qP xH [(.io 0)]))]))))
noncomputable def qV4:Fn:=fnS 1 2 (sSeq (sSet 1 (qP vX [(.io 0),(.v (oV (oC (.int 0)))),(.v (oV (oC (.int 30))))]))
  (sSeq (sSet 2 (qP zU [(.io 0)]))
  (sRet (owS (svTup [(oV (oC (.str "again"))),(oV (oN 1)),(oV (oN 2)),(fzS (qP xH [(.io 0)]))])))))
noncomputable def qV1:Fn:=fnS 1 1 (sSeq (sSet 1 (vF 9 "next_word" vW (.io 0) []))
  (sSeq (sIf (asB (o2 eqF (oN 1) (oC (.str "def")))) (sRet (qP qWl [(.io 0)])) sNil)
  (sSeq (sIf (asB (o2 eqF (oN 1) (oC (.str "let")))) (sRet (qP qWk [(.io 0)])) sNil)
  (sSeq (sIf (asB (o2 eqF (oN 1) (oC (.str "again")))) (sRet (qP qV4 [(.io 0)])) sNil)
  (sSeq (sIf (asB (o2 inD (oN 1) (.v (svTup [(oV (oC (.str "see"))),(oV (oC (.str "ask")))])))) (sRet (owS (svTup [(oV (oN 1)),(fzS (qP (zP 12) [(.io 0)]))]))) sNil)
  (zS 23 "row" (oV (oFld [9] "row" (oN 0)))))))))
noncomputable def qQo:SS:=(sSeq (sIf (asB (o2 inD (oN 3) (.v (svTup [(oV (oC (.str "("))),(oV (oC (.str "{")))])))) (sAug 1 (i2 fun i j=>i+j) (oV (oC (.int 1)))) (sIf (asB (o2 inD (oN 3) (.v (svTup [(oV (oC (.str ")"))),(oV (oC (.str "}")))])))) (sAug 1 (i2 fun i j=>i - j) (oV (oC (.int 1)))) sNil))
  (sSet 2 (owS (oV (oL max2D [(oN 2),(oN 1)])))))
noncomputable def zR:Fn:=fnS 1 3 (sSeq (sSet 1 (owS (oV (oC (.int 0)))))
  (sSeq (sSet 2 (owS (oV (oC (.int 0)))))
  (sSeq (sFor (iV (oV (oN 0))) (gN 3) qQo)
  (sRet (eMv 2)))))
noncomputable def zVt(F_depth_h:Fn):SS:=(sSet 1 (owS (oV (oL max2D [(oN 1),(.v (fzS (qP F_depth_h [(.v (oV (oN 2)))])))]))))
noncomputable def qQi:Nat->Fn
 | 0=>fun _=>.no
 | h + 1=>fnS 1 2 (sSeq (sSet 1 (owS (oV (oC (.int 0)))))
   (sSeq (sFor (iV (fzS (qP vQt [(.v (oV (oN 0)))]))) (gN 2) (zVt (qQi h)))
   (sRet (owS (oV (oAdd (oN 1) (oC (.int 1))))))))
noncomputable def vZ:Fn:=fnS 2 3 (sSeq (sIf (asB (oGt (oL lenD [(oN 1)]) (oC (.int 1000)))) (zS 23 "row" (oV (oN 0))) sNil)
  (sSeq (sSet 2 (qP y8 [(.v (oV (oN 1)))]))
  (sSeq (sIf (bOr (asB (oGt (oL lenD [(oN 2)]) (oC (.int 60)))) (asB (oGt (.v (fzS (qP zR [(.v (oV (oN 2)))]))) (oC (.int 10))))) (zS 23 "row" (oV (oN 0))) sNil)
  (sSeq (sSet 3 (vYs 9 qQf [(.v (oV (oN 0))),(.v (oV (oN 2)))]))
  (sSeq (sSet 4 (qP qV1 [(.io 3)]))
  (sSeq (sIf (bOr (asB (o2 neF (.v (fzS (vF 9 "ahead" vU (.b (pOf (oN 3))) []))) (oC (.str "")))) (asB (oGt (.v (fzS (qP (qQi 62) [(.v (oV (oIx (oN 4) (o1 negD (oC (.int 1))))))]))) (oC (.int 10))))) (zS 23 "row" (oV (oN 0))) sNil)
  (sRet (eMv 4))))))))
noncomputable def qW9:SS:=(sSeq (sIf (asB (o2 eqF (oN 3) (oC (.int 40)))) (zS 23 "row" (oV (oN 3))) sNil)
  (sSeq (sSet 5 (qP vZ [(.v (oV (oN 3))),(.v (oV (oN 4)))]))
  (sSeq (sIf (asB (o2 neF (o2 eqF (oIx (oN 5) (oC (.int 0))) (oC (.str "ask"))) (o2 eqF (oN 3) (oSub (oL lenD [(oN 1)]) (oC (.int 1)))))) (zS 23 "row" (oV (oN 3))) sNil)
  (sExpr (eMu1 (pOf (oN 2)) (owS (oV (oN 5))) apF)))))
noncomputable def jY:Fn:=fnS 1 5 (sSeq (sSet 1 (vXm "\n" (oN 0)))
  (sSeq (sSet 2 (eLst []))
  (sSeq (sFor (iL enL [(oV (oN 1))]) (gT 2 (gCn (gN 3) (gCn (gN 4) gNl))) qW9)
  (sRet (eMv 2)))))
end RF
namespace DX
open PySem L2 PyProof.Rows
variable{X:Cx}{c:Nat->aV}
noncomputable def ljD(i:Int):D->Option D
 |.str z=>cond (PadOk i) (some (.str (Txt.ljust z i))) none
 |_=>none
section
variable{X:Cx}{c:Nat->aV}{E:XK}{o:Expr}{oo:Oe}{apos cpos p2:Pos}{i:Int}{j:Nat}
theorem zWf:MtR X "str.ljust" (fun x vs H Q=>∃z i,x=.str z/\vs=[.int i]/\PadOk i=true/\Q (.str (Txt.ljust z i)) H):=by
 intro pins s σ H x xs v us Q I rx rs h;obtain⟨z,i,rfl,rfl,hp,q⟩:=h;obtain⟨t,rfl⟩:=rx;obtain⟨u,rfl,ru⟩:=xS rs;obtain⟨t',rfl⟩:=ru;exact SC.ljust hp fun t' k=>⟨.str (Txt.ljust z i),H,I.tok _,⟨_,rfl⟩,q⟩
theorem zYy(ho:OD X c E o oo)(m:M1 X o "ljust" apos (.Constant (.int i) j p2) cpos)(hs:aX [.Constant (.int i) j p2] X.env=(false,eval (.Constant (.int i) j p2) X.env)::aX [] X.env:=by rfl):OD X c E (.Call (.Attribute o "ljust" apos) [.Constant (.int i) j p2] [] cpos) (o1 (ljD i) oo):=by
 refine⟨PE.imp (vYq F.plainAttrs_str F.slot_str_ljust F.type_str_ljust zWf ho.h (wX zZy qQr hs) m.base m.few m.line hs) fun σ H Q h=>vJe (r:=fun x H Q=>tyV X.K "str" x H/\∃z i',x=.str z/\ [V.int i]=[.int i']/\PadOk i' =true/\Q (.str (Txt.ljust z i')) H) (fun u H x z Q d e q=>?_) h⟩;unfold ljD at e;split at e
 ·obtain⟨q1,q2⟩:=zN e;cases q2;cases d;exact⟨rfl,_,i,rfl,rfl,q1,q _ fun _=>.str _⟩
 ·cases e
end
noncomputable def rEqE(K:aQ):R2:=fun x y H Q=>∃a b vs,x=.ref a/\y=.ref b/\SqL K H a vs/\SqL K H b []/\Q (.bl vs.isEmpty) H
theorem jZd(hu:X.A.units<cLine):OpR X (bL .Eq) (rEqE X.K):=by
 intro pins s σ H x y u v Q I ru rv h;obtain⟨a,b,vs,rfl,rfl,ha,hb,q⟩:=h;cases(show u=Value.ref a from ru);cases(show v=Value.ref b from rv);obtain⟨its,r1,p1,_⟩:=I.list ha;obtain⟨its2,r2,p2,_⟩:=I.list hb;cases r2;cases r1 with
 |nil=>exact SeqAt.RcAt.lists (e:=fun _=>true) p1.isList p2.isList rfl hu (fun j j1 _=>absurd j1 (by simp)) _ _ _ _ (vH I q rfl)
 |cons h1 h2=>exact SeqAt.RcAt.lists_lengths p1.isList p2.isList (by simp) hu _ _ _ _ (vH I q rfl)
noncomputable def eqE:D->D->Option D
 |.nd .lst ds,.nd .lst []=>some (.bl ds.isEmpty)
 |_,_=>none
theorem jVu{K:aQ}:PrS2 K c (rEqE K) eqE:=fun u w H x y z Q hx hy e q=>by
 unfold eqE at e;split at e
 ·rename_i ds;cases e;obtain⟨p,vs,rfl,h1,h2⟩:=hx.un;obtain⟨p2,ws,rfl,h3,h4⟩:=hy.un;cases h4.un0;refine⟨p,p2,vs,rfl,rfl,h1,h3,?_⟩;have:vs.isEmpty=ds.isEmpty:=by
   have l:=h2.len;cases vs <;> cases ds <;> simp_all
  rw[this];exact q _ fun _=>.bl _
 ·cases e
theorem jJm{E:XK}{k:Nat}{a b:Expr}{oa ob:Oe}{pos:Pos}(hr:Room k X.A)(ha:OD X c E a oa)(hb:OD X c E b ob):TD X c E (.Compare a [.Eq] [b] pos) (asB (o2 eqE oa ob)):=qZf (jZd (by have:=hr.un;omega)) jVu ha hb (yI _)
end DX
namespace X15
open PySem L2 DX RF PyProof.Rows
noncomputable def yW:SS:=(sSet 1 (owS (oV (o2 addS (oN 1) (oIx (oC (.str "abcdegmnouvwxyz")) (oMod (oDiv (oN 0) (oAdd (oN 2) (oC (.int 1)))) (oC (.int 15))))))))
noncomputable def zG:Fn:=fnS 1 2 (sSeq (sSet 1 (owS (oV (oC (.str "")))))
  (sSeq (sFor (iL rg1 [(oV (oAdd (oC (.int 1)) (oMod (oN 0) (oC (.int 8)))))]) (gN 2) yW)
  (sRet (eMv 1))))
noncomputable def wE:Fn:=fnS 2 6 (sSeq (sSet 2 (qP zG [(.v (oV (oN 1)))]))
  (sSeq (sSet 3 (owS (oV (oMod (oMul (oN 1) (oC (.int 999983))) (oPow (oC (.int 10)) (oC (.int 12)))))))
  (sSeq (sIf (asB (o2 eqF (oN 0) (oC (.int 0)))) (sRet (owS (svTup [(oV (o2 addS (o2 addS (o2 addS (oC (.str "let ")) (oN 2)) (oC (.str " = "))) (oL strD [(oN 3)]))),(svTup [(oV (oC (.str "let"))),(oV (oN 2)),(svTup [(oV (oC (.str "num"))),(oV (oN 3))])])]))) sNil)
  (sSeq (sIf (asB (o2 eqF (oN 0) (oC (.int 1)))) (sRet (owS (svTup [(oV (o2 addS (o2 addS (o2 addS (oC (.str "see ")) (oN 2)) (oC (.str " < "))) (oL strD [(oN 3)]))),(svTup [(oV (oC (.str "see"))),(svTup [(oV (oC (.str "op"))),(oV (oC (.str "<"))),(svTup [(oV (oC (.str "name"))),(oV (oN 2))]),(svTup [(oV (oC (.str "num"))),(oV (oN 3))])])])]))) sNil)
  (sSeq (sIf (asB (o2 eqF (oN 0) (oC (.int 2)))) (sSeq (sSet 4 (owS (svTup [(oV (oC (.str "op"))),(oV (oC (.str "+"))),(svTup [(oV (oC (.str "name"))),(oV (oN 2))]),(svTup [(oV (oC (.str "num"))),(oV (oC (.int 1)))])])))
  (sRet (owS (svTup [(oV (o2 addS (o2 addS (o2 addS (o2 addS (o2 addS (o2 addS (oC (.str "again ")) (oL strD [(oMod (oN 1) (oC (.int 31)))])) (oC (.str " "))) (oN 2)) (oC (.str " = "))) (oN 2)) (oC (.str " + 1")))),(svTup [(oV (oC (.str "again"))),(oV (oMod (oN 1) (oC (.int 31)))),(oV (oN 2)),(oV (oN 4))])])))) sNil)
  (sSeq (sIf (asB (o2 eqF (oN 0) (oC (.int 3)))) (sSeq (sSet 4 (owS (svTup [(oV (oC (.str "op"))),(oV (oC (.str "*"))),(svTup [(oV (oC (.str "name"))),(oV (oC (.str "a")))]),(svTup [(oV (oC (.str "name"))),(oV (oC (.str "b")))])])))
  (sRet (owS (svTup [(oV (o2 addS (o2 addS (oC (.str "def ")) (oN 2)) (oC (.str "(a, b) = a * b")))),(svTup [(oV (oC (.str "def"))),(oV (oN 2)),(svTup [(oV (oC (.str "a"))),(oV (oC (.str "b")))]),(oV (oN 4))])])))) sNil)
  (sSeq (sIf (asB (o2 eqF (oN 0) (oC (.int 4)))) (sSeq (sSet 5 (owS (svTup [(oV (oC (.str "if"))),(svTup [(oV (oC (.str "name"))),(oV (oN 2))]),(svTup [(oV (oC (.str "flip"))),(oV (oC (.int 1))),(oV (oC (.int 2)))]),(svTup [(oV (oC (.str "num"))),(oV (oN 3))])])))
  (sRet (owS (svTup [(oV (o2 addS (o2 addS (o2 addS (o2 addS (oC (.str "let x=if( ")) (oN 2)) (oC (.str ",flip(1/2) , "))) (oL strD [(oN 3)])) (oC (.str ")")))),(svTup [(oV (oC (.str "let"))),(oV (oC (.str "x"))),(oV (oN 5))])])))) sNil)
  (sSeq (sIf (asB (o2 eqF (oN 0) (oC (.int 5)))) (sSeq (sSet 6 (owS (oV (oC (.str " see flip(1/3)=1 ")))))
  (sSeq (sIf (asB (o2 eqF (oMod (oN 1) (oC (.int 5))) (oC (.int 0)))) (sSet 6 (owS (oV (o1 (ljD 1000) (oN 6))))) sNil)
  (sRet (owS (svTup [(oV (oN 6)),(svTup [(oV (oC (.str "see"))),(svTup [(oV (oC (.str "op"))),(oV (oC (.str "="))),(svTup [(oV (oC (.str "flip"))),(oV (oC (.int 1))),(oV (oC (.int 3)))]),(svTup [(oV (oC (.str "num"))),(oV (oC (.int 1)))])])])]))))) sNil)
  (sSeq (sSet 7 (owS (svTup [(oV (oC (.str "record"))),(svTup [(svTup [(oV (oN 2)),(svTup [(oV (oC (.str "num"))),(oV (oN 3))])])])])))
  (sRet (owS (svTup [(oV (o2 addS (o2 addS (o2 addS (o2 addS (o2 addS (o2 addS (oC (.str "def ")) (oN 2)) (oC (.str "() = {"))) (oN 2)) (oC (.str ":"))) (oL strD [(oN 3)])) (oC (.str "}")))),(svTup [(oV (oC (.str "def"))),(oV (oN 2)),(svTup []),(oV (oN 7))])]))))))))))))
noncomputable def qVd:Fn:=fnS 1 1 (sSeq (sSet 1 (eLst [(oV (oC (.str ""))),(oV (oC (.str " "))),(oV (oC (.str "let"))),(oV (oC (.str "let x"))),(oV (oC (.str "let x ="))),(oV (oC (.str "let = 1"))),(oV (oC (.str "let x 1"))),(oV (oC (.str "let x = 1 2"))),(oV (oC (.str "see"))),(oV (oC (.str "ask"))),(oV (oC (.str "let x = (1")))]))
  (sSeq (sSet 1 (eCat (oN 1) (.v (fzS (eLst [(oV (oC (.str "let x = 1)"))),(oV (oC (.str "Let x = 1"))),(oV (oC (.str "lett x = 1"))),(oV (oC (.str "again x = 1"))),(oV (oC (.str "again 31 x = 1"))),(oV (oC (.str "again 2 = 1"))),(oV (oC (.str "def f = 1")))])))))
  (sSeq (sSet 1 (eCat (oN 1) (.v (fzS (eLst [(oV (oC (.str "def f(a, a) = 1"))),(oV (oC (.str "def f(a) 1"))),(oV (oC (.str "let x = a = b = c"))),(oV (oC (.str "let x = + 1"))),(oV (oC (.str "let x = {}"))),(oV (oC (.str "see x = 1 ask 0")))])))))
  (sSeq (sSet 1 (eCat (oN 1) (.v (fzS (eLst [(oV (oC (.str "let x = flip(2/2)"))),(oV (oC (.str "let if = 1"))),(oV (oC (.str "see 1;"))),(oV (oC (.str "1"))),(oV (oC (.str "let x = 1 # 2"))),(oV (oC (.str "let x = a.1")))])))))
  (sSeq (sSet 1 (eCat (oN 1) (.v (fzS (eLst [(oV (oC (.str "def f(a, b, c, d) = 1"))),(oV (oC (.str "let x\t= 1"))),(oV (oC (.str "\tsee 1"))),(oV (oC (.str "let x =\t1"))),(oV (o2 addS (oC (.str "let x = 1")) (o2 mulS (oC (.str " ")) (oC (.int 992)))))])))))
  (sSeq (sSet 1 (eCat (oN 1) (.v (fzS (eLst [(oV (oC (.str "let x = 1\t"))),(oV (oC (.str "def f() = 1\t"))),(oV (oC (.str "see 1 \t")))])))))
  (sRet (owS (svTup [(oV (oIx (oN 1) (oMod (oN 0) (oC (.int 38))))),(oV (oC .non))])))))))))
noncomputable def yJ:SS:=(sSeq (sSet 5 (owS (oV (oMod (oMul (oAdd (oIx (oN 2) (oN 4)) (oN 4)) (oC (.int 48271))) (oC (.int 2147483629))))))
  (sSeq (sSet 6 (owS (oV (oAnd (oGt (oMod (oN 1) (oC (.int 4))) (oC (.int 0))) (o2 eqF (oN 4) (oMod (oDiv (oN 1) (oC (.int 4))) (oL lenD [(oN 2)])))))))
  (sIf (bOr (bAnd (asB (o2 eqF (oMod (oN 1) (oC (.int 4))) (oC (.int 1)))) (asB (oN 6))) (bAnd (asB (o2 eqF (oMod (oN 1) (oC (.int 4))) (oC (.int 3)))) (asB (o2 eqF (oMod (oIx (oN 2) (oN 4)) (oC (.int 6))) (oC (.int 0)))))) (sExpr (eMu1 (pOf (oN 3)) (qP qVd [(.v (oV (oN 5)))]) apF)) (sIf (bAnd (asB (o2 eqF (oMod (oN 1) (oC (.int 4))) (oC (.int 2)))) (asB (oN 6))) (sExpr (eMu1 (pOf (oN 3)) (owS (svTup [(oV (o2 addS (oC (.str "ask ")) (.v (fzS (qP zG [(.v (oV (oN 5)))]))))),(svTup [(oV (oC (.str "ask"))),(svTup [(oV (oC (.str "name"))),(fzS (qP zG [(.v (oV (oN 5)))]))])])])) apF)) (sExpr (eMu1 (pOf (oN 3)) (qP wE [(.v (oV (oMod (oDiv (oIx (oN 2) (oN 4)) (oC (.int 6))) (oC (.int 7))))),(.v (oV (oN 5)))]) apF))))))
noncomputable def xK:Fn:=fnS 1 6 (sSeq (sSet 1 (owS (oV (oC (.int 0)))))
  (sSeq (sIf (asB (oGt (oL lenD [(oN 0)]) (oC (.int 0)))) (sSet 1 (owS (oV (oMod (oMul (oAdd (oMod (oIx (oN 0) (oC (.int 0))) (oPow (oC (.int 10)) (oC (.int 15)))) (oC (.int 7))) (oC (.int 630360016))) (oC (.int 2147483647)))))) sNil)
  (sSeq (sSet 2 (compS 1 [] [0] (iV (fzS (eSlL (oN 0) (some (oV (oC (.int 1)))) (some (oV (oC (.int 43))))))) (gN 0) bTrue (oV (oMod (oN 0) (oPow (oC (.int 10)) (oC (.int 15)))))))
  (sSeq (sSet 3 (eLst []))
  (sSeq (sFor (iL rg1 [(oV (oL lenD [(oN 2)]))]) (gN 4) yJ)
  (sSeq (sIf (asB (o2 neF (oMod (oDiv (oN 1) (oC (.int 4200))) (oC (.int 5))) (oC (.int 1)))) (sExpr (eMu1 (pOf (oN 3)) (owS (svTup [(oV (oC (.str "ask 7"))),(svTup [(oV (oC (.str "ask"))),(svTup [(oV (oC (.str "num"))),(oV (oC (.int 7)))])])])) apF)) sNil)
  (sSeq (sIf (asB (o2 eqE (oN 3) (.v (fzS (eLst []))))) (sExpr (eMu1 (pOf (oN 3)) (owS (svTup [(oV (oC (.str ""))),(oV (oC .non))])) apF)) sNil)
  (sRet (eMv 3)))))))))
noncomputable def jL:SS:=(sSeq (sIf (bOr (asB (o2 eqF (oN 1) (oC (.int 40)))) (asB (o2 isN (oIx (oIx (oN 0) (oN 1)) (oC (.int 1))) (oC .non)))) (sRet (eMv 1)) sNil)
  (sIf (asB (o2 neF (o2 eqF (oIx (oIx (oIx (oN 0) (oN 1)) (oC (.int 1))) (oC (.int 0))) (oC (.str "ask"))) (o2 eqF (oN 1) (oSub (oL lenD [(oN 0)]) (oC (.int 1)))))) (sRet (eMv 1)) sNil))
noncomputable def jC:Fn:=fnS 1 1 (sSeq (sFor (iL rg1 [(oV (oL lenD [(oN 0)]))]) (gN 1) jL)
  (sRet (owS (oV (oC .non)))))
noncomputable def qJy(F_law_alike_h:Fn):SS:=(sIf (bNot (asB (.v (fzS (qP F_law_alike_h [(.v (oV (oN 2))),(.v (oV (oN 3)))]))))) (sRet (owS (oV (oC (.bl false))))) sNil)
noncomputable def vG:Nat->Fn
 | 0=>fun _=>.no
 | h + 1=>fnS 2 2 (sSeq (sIf (asB (o1 (isiD "str") (oN 1))) (sRet (owS (oV (oAnd (o1 (isiD "str") (oN 0)) (o2 eqF (oN 0) (oN 1)))))) sNil)
   (sSeq (sIf (asB (o1 (isiD "int") (oN 1))) (sRet (owS (oV (oAnd (o1 (isiD "int") (oN 0)) (oAnd (oNot (o1 (isiD "bool") (oN 0))) (o2 eqF (oN 0) (oN 1))))))) sNil)
   (sSeq (sIf (bOr (asB (o2 neF (o1 (isiD "tuple") (oN 1)) (o1 (isiD "tuple") (oN 0)))) (asB (o2 neF (o1 (isiD "list") (oN 1)) (o1 (isiD "list") (oN 0))))) (sRet (owS (oV (oC (.bl false))))) sNil)
   (sSeq (sIf (asB (o2 neF (oL lenD [(oN 0)]) (oL lenD [(oN 1)]))) (sRet (owS (oV (oC (.bl false))))) sNil)
   (sSeq (sFor (iL zpA [(oV (oN 0)),(oV (oN 1))]) (gT 2 (gCn (gN 2) (gCn (gN 3) gNl))) (qJy (vG h)))
   (sRet (owS (oV (oC (.bl true))))))))))
noncomputable def xR:SS:=(sSeq (sIf (bOr (asB (o1 (isxD [(23,false)]) (oN 2))) (bOr (asB (o1 (isxD [(23,false)]) (oN 2))) (bOr (asB (o1 (isxD [(23,false)]) (oN 2))) (asB (o1 (isxD [(23,false)]) (oN 2)))))) (sRet (owS (oV (oC (.bl false))))) sNil)
  (sSeq (sIf (bOr (asB (o1 (isxD [(23,false)]) (oN 2))) (bOr (asB (o1 (isxD [(23,false)]) (oN 2))) (asB (o1 (isxD [(23,false)]) (oN 2))))) (sRet (owS (oV (oC (.bl false))))) sNil)
  (sSeq (sIf (bOr (bNot (asB (o1 (isxD [(23,true)]) (oN 2)))) (bNot (asB (o1 (isxD [(23,true)]) (oN 2))))) (sRet (owS (oV (oC (.bl false))))) sNil)
  (sRet (owS (oV (oAnd (o1 (isiD "int") (o1 (xfD [23] "row") (oN 2))) (oAnd (oNot (o1 (isiD "bool") (o1 (xfD [23] "row") (oN 2)))) (o2 eqF (o1 (xfD [23] "row") (oN 2)) (oN 1))))))))))
noncomputable def zB:Fn:=fnS 2 1 (sSeq (sTry jY [(.v (oV (oN 0)))] (fun C=> [23].contains C) 2 xR)
  (sRet (owS (oV (oC (.bl false))))))
noncomputable def vY5:Fn:=fnS 1 5 (sSeq (sSet 1 (qP xK [(.v (oV (oN 0)))]))
  (sSeq (sSet 2 (owS (oV (oL (vJl "\n") [(.v (fzS (compS 1 [] [0] (iV (oV (oN 1))) (gN 0) bTrue (oV (oIx (oN 0) (oC (.int 0)))))))]))))
  (sSeq (sSet 3 (qP jC [(.v (oV (oN 1)))]))
  (sSeq (sIf (asB (o2 notN (oN 3) (oC .non))) (sRet (qP zB [(.v (oV (oN 2))),(.v (oV (oN 3)))])) sNil)
  (sSeq (sSet 4 (compS 1 [] [0] (iV (oV (oN 1))) (gN 0) bTrue (oV (oIx (oN 0) (oC (.int 1))))))
  (sSeq (sSet 5 (qP jY [(.v (oV (oN 2)))]))
  (sSeq (sIf (bNot (asB (.v (fzS (qP (vG 10) [(.b (pOf (oN 5))),(.v (oV (oN 4)))]))))) (sRet (owS (oV (oC (.bl false))))) sNil)
  (sSeq (sExpr (ePop (pOf (oN 5))))
  (sRet (owS (oV (oAnd (.v (fzS (qP (vG 10) [(.v (fzS (qP jY [(.v (oV (oN 2)))]))),(.v (oV (oN 4)))]))) (.v (fzS (qP zB [(.v (oV (o2 addS (oN 2) (oC (.str "\n"))))),(.v (oV (oSub (oL lenD [(oN 1)]) (oC (.int 1)))))])))))))))))))))
end X15
namespace DX
open PySem L2 PyProof.Rows
variable{args env e1 e2 e:Ev}{C n:Nat}{it:SI}{g:SG}{ds xs vs:List D}{h1:Hn}{hs:List Hn}{ss:List SV}{XI:Res (List D×Ev)}{body:SS}{d:D}{as:List Am}{cs:List (Nat×Nat)}{T:List Nat}{el:SV}{XV:Res (D×Ev)}
section
variable{α β:Type}{X:Res β}{x:Res α}{a:α}{f:α->Res β}
theorem zQa(h:x=.ok a)(k:f a=X):x.bind f=X:=by subst h;exact k
end
section
variable{env e:Ev}{o:O}{d:D}{X:Res Out}{s t s1 s2:SS}{i n m:Nat}{a:SE}{v:SV}{b:ST}{q:Bool}
noncomputable def finO(n:Nat):Out->Res (O×Ev)
 |.nx e=>.ok (.fz .non,outs n e)
 |.rt r e=>.ok (r,outs n e)
 |_=>.no
theorem vB{o:Out}{X:Res (O×Ev)}(h:s (args ++ List.replicate m .un)=.ok o)(k:finO n o=X):fnS n m s args=X:=by
 unfold fnS;rw[h];cases o <;> exact k
theorem wM{fs:List (Str×D)}(h:s (args ++ List.replicate m .un)=.er C fs):fnS n m s args=.er C fs:=by
 unfold fnS;rw[h];rfl
theorem qE(k:t env=X):sSeq sNil t env=X:=k
theorem wD(k:sSeq s1 (sSeq s2 t) env=X):sSeq (sSeq s1 s2) t env=X:=by
 rw[←k];unfold sSeq;cases s1 env with
 |ok o=>cases o <;> rfl
 |er C fs=>rfl
 |no=>rfl
theorem qW(h:b env=.ok (q,e))(k:cond q (sSeq s1 t e) (sSeq s2 t e)=X):sSeq (sIf b s1 s2) t env=X:=by
 unfold sSeq sIf;rw[h];cases q <;> exact k
theorem wQ(h:a env=.ok (o,e))(k: .ok (.rt o e)=X):sSeq (sRet a) t env=X:=by
 unfold sSeq sRet;rw[h];exact k
theorem qU(h:a env=.ok (o,e))(k:t (e.set i (.s false o))=X):sSeq (sSet i a) t env=X:=by
 unfold sSeq sSet;rw[h];exact k
theorem qQ7(h:a env=.ok (o,e))(k:t e=X):sSeq (sExpr a) t env=X:=by
 unfold sSeq sExpr;rw[h];exact k
theorem jX(h:s env=.ok (.nx e))(k:t e=X):sSeq s t env=X:=by
 unfold sSeq;rw[h];exact k
theorem wI{fs:List (Str×D)}(h:s env=.er C fs):sSeq s t env=.er C fs:=by
 unfold sSeq;rw[h];rfl
theorem qKf(h:s env=.ok (.rt o e))(k: .ok (.rt o e)=X):sSeq s t env=X:=by
 unfold sSeq;rw[h];exact k
theorem qQh(h:b env=.ok (q,e))(k:cond q (s1 e) (s2 e)=X):sIf b s1 s2 env=X:=by
 unfold sIf;rw[h];exact k
theorem xI(h:a env=.ok (o,e))(k: .ok (.rt o e)=X):sRet a env=X:=by
 unfold sRet;rw[h];exact k
theorem qJb(h:a env=.ok (o,e))(k: .ok (.nx (e.set i (.s false o)))=X):sSet i a env=X:=by
 unfold sSet;rw[h];exact k
theorem qWy(h:a env=.ok (o,e))(k: .ok (.nx e)=X):sExpr a env=X:=by
 unfold sExpr;rw[h];exact k
theorem yN(h:it env=.ok (ds,e))(k:forS g s ds e=X):sFor it g s env=X:=by
 unfold sFor;rw[h];exact k
end
section
variable{env e e1 e2:Ev}{o:O}{d x y z:D}{a a1 a2:SE}{v v1 v2:SV}{b:ST}{q q1:Bool}{XE:Res (O×Ev)}{XV:Res (D×Ev)}{XB:Res (Bool×Ev)}{oa ob:Oe}
theorem zX(h:v env=.ok (d,e))(k: .ok (.fz d,e)=XE):owS v env=XE:=by
 unfold owS;rw[h];exact k
theorem zE(h:a env=.ok (o,e))(k: .ok (fzO o,e)=XV):fzS a env=XV:=by
 unfold fzS;rw[h];exact k
theorem vM(h:oV oa env=.ok (d,e))(h2:blOf d=some q)(k: .ok (q,e)=XB):asB oa env=XB:=by
 unfold asB;rw[h];show(opt (blOf d)).bind _=_;rw[h2];exact k
theorem qXp{s t:ST}(h:s env=.ok (q,e))(k:cond q (t e) (.ok (false,e))=XB):bAnd s t env=XB:=by
 unfold bAnd;rw[h];exact k
theorem yB{s t:ST}(h:s env=.ok (q,e))(k:cond q (.ok (true,e)) (t e)=XB):bOr s t env=XB:=by
 unfold bOr;rw[h];exact k
theorem not_of{s:ST}(h:s env=.ok (q,e))(k: .ok (!q,e)=XB):bNot s env=XB:=by
 unfold bNot;rw[h];exact k
theorem zY{XH:Res (Hn×Ev)}(h:v env=.ok (d,e))(k: .ok (.d d,e)=XH):evO (.v v) env=XH:=by
 show(v env).bind _=_;rw[h];exact k
theorem xW{os:List Oe}{XH:Res (List Hn×Ev)}(h:evO oa env=.ok (h1,e))(c:(h1.st || os.all Oe.isP)=true)(h2:evOs os e=.ok (hs,e1))(k: .ok (h1::hs,e1)=XH):evOs (oa::os) env=XH:=by
 show(evO oa env).bind _=_;rw[h];show cond (h1.st || os.all Oe.isP) ((evOs os e).bind _) _=_;rw[c,h2];exact k
theorem wJ{XH:Res (List D×Ev)}(k: .ok ([],env)=XH):evVs [] env=XH:=k
theorem qT{XH:Res (List D×Ev)}(h:v env=.ok (d,e))(h2:evVs ss e=.ok (ds,e1))(k: .ok (d::ds,e1)=XH):evVs (v::ss) env=XH:=by
 show(v env).bind _=_;rw[h];show(evVs ss e).bind _=_;rw[h2];exact k
theorem yD(h:evVs ss env=.ok (ds,e))(c:decide (ds.length<=1000)=true)(k: .ok (.tup ds,e)=XV):svTup ss env=XV:=by
 unfold svTup;rw[h];show cond (decide (ds.length<=1000)) _ _=_;grind
theorem vXg(h:evVs ss env=.ok (ds,e))(c:decide (ds.length<=1000)=true)(k: .ok (.ow .lst (ds.map .fz),e)=XE):eLst ss env=XE:=by
 unfold eLst;rw[h];show cond (decide (ds.length<=1000)) _ _=_;grind
theorem zZn{f:D->D->Option D}{h2:Hn}(h:evO oa env=.ok (h1,e))(h' :evO ob e=.ok (h2,e1))(c:(h1.st || ob.isP)=true)(r1:rsv e1 h1=some x)(r2:rsv e1 h2=some y)(r3:f x y=some z)(k: .ok (z,e1)=XV):sv2 f oa ob env=XV:=by
 unfold sv2;rw[h];show(evO ob e).bind _=_;rw[h'];show cond (h1.st || ob.isP) ((opt (rsv e1 h1)).bind _) _=_;rw[c,r1];rw[r2];show(opt (f x y)).bind _=_;rw[r3];exact k
theorem jQ8{f:D->Option D}(h:evO oa env=.ok (h1,e))(r1:rsv e h1=some x)(r3:f x=some z)(k: .ok (z,e)=XV):sv1 f oa env=XV:=by
 unfold sv1;rw[h];show(opt (rsv e h1)).bind _=_;rw[r1];show(opt (f x)).bind _=_;rw[r3];exact k
theorem jQ7{f:List D->Option D}{os:List Oe}(h:evOs os env=.ok (hs,e))(r1:rsvs e hs=some xs)(r3:f xs=some z)(k: .ok (z,e)=XV):svN f os env=XV:=by
 unfold svN;rw[h];show(opt (rsvs e hs)).bind _=_;rw[r1];show(opt (f xs)).bind _=_;rw[r3];exact k
theorem vW9{f:List D->Option D}{os:List Oe}(h:evOs os env=.ok (hs,e))(r1:qWm hs e=.ok (xs,e1))(r3:f xs=some z)(k: .ok (z,e1)=XV):svA f os env=XV:=by
 unfold svA;rw[h];show(qWm hs e).bind _=_;rw[r1];show(opt (f xs)).bind _=_;rw[r3];exact k
theorem vYx(h:v env=.ok (d,e))(r:qYd d=some ds)(k: .ok (ds,e)=XI):iV v env=XI:=by
 unfold iV;rw[h];show(opt (qYd d)).bind _=_;rw[r];exact k
theorem vYy{f:List D->Option (List D)}(h:evVs ss env=.ok (xs,e))(r:f xs=some ds)(k: .ok (ds,e)=XI):iL f ss env=XI:=by
 unfold iL;rw[h];show(opt (f xs)).bind _=_;rw[r];exact k
end
section
variable{env e e1:Ev}{F:Fn}{as:List Am}{hs:List Hn}{XE:Res (O×Ev)}{t0 t:List O×Ev}{args:Ev}{q:O×Ev}{os:List O}
theorem qVc(h0:yP (zI as hs) env=some t0)(h1:yP (wC as hs) t0.2=some t)(h2:jN (zI as hs) t0.1 as hs t.1=some args)(h3:F args=.ok q)(h4:qV5 as q.2=some os)(h5:vV8 t0.1 q.1 os=true)(k: .ok (q.1,putS env (zI as hs) t0.1 (putS env (wC as hs) os t.2))=XE):qV7 F as hs env=XE:=by
 unfold qV7;rw[h0];show(opt (yP (wC as hs) t0.2)).bind _=_;rw[h1];show(opt (jN (zI as hs) t0.1 as hs t.1)).bind _=_;rw[h2];show(F args).bind _=_;rw[h3];show(opt (qV5 as q.2)).bind _=_;rw[h4];show cond (vV8 t0.1 q.1 os) _ _=_;grind
theorem vQc{fs:List (Str×D)}(h0:yP (zI as hs) env=some t0)(h1:yP (wC as hs) t0.2=some t)(h2:jN (zI as hs) t0.1 as hs t.1=some args)(h3:F args=.er C fs):qV7 F as hs env=.er C fs:=by
 unfold qV7;rw[h0];show(opt (yP (wC as hs) t0.2)).bind _=_;rw[h1];show(opt (jN (zI as hs) t0.1 as hs t.1)).bind _=_;rw[h2];show(F args).bind _=_;rw[h3];rfl
theorem zF(h:evOs (as.map Am.o) env=.ok (hs,e))(k:qV7 F as hs e=XE):qP F as env=XE:=by
 unfold qP;rw[h];exact k
end
section
variable{env e e1:Ev}{s k:SP}{a:SE}{v:SV}{i j:Nat}{π:List Nat}{o x:O}{os:List O}{XE:Res (O×Ev)}{X:Res Out}
theorem qKk{f:List O->O->Option (O×List O)}{os0:List O}{z:O×List O}(h:s env=some (.p i π))(h0:qZd env i π=some os0)(h1:a env=.ok (x,e))(h2:qZd e i π=some os)(c:stab env e i π=true)(h3:f os x=some z)(k: .ok (z.1,setE e i π (.ow .lst z.2))=XE):eMu1 s a f env=XE:=by
 unfold eMu1;rw[h];show(opt (qZd env i π)).bind _=_;rw[h0];rw[h1];show(opt (qZd e i π)).bind _=_;rw[h2];show cond (stab env e i π) ((opt (f os x)).bind _) _=_;rw[c,h3];exact k
end
theorem xJ{X:Res Out}(h1:g d env=some e1)(h2:body e1=.ok (.nx e2))(k:forS g body ds e2=X):forS g body (d::ds) env=X:=by
 show(opt (g d env)).bind _=_;rw[h1];show(body e1).bind _=_;rw[h2];exact k
theorem zKl{o:O}{X:Res Out}(h1:g d env=some e1)(h2:body e1=.ok (.rt o e2))(k: .ok (.rt o e2)=X):forS g body (d::ds) env=X:=by
 show(opt (g d env)).bind _=_;rw[h1];show(body e1).bind _=_;rw[h2];exact k
theorem vZq{fs:List (Str×D)}(h1:g d env=some e1)(h2:body e1=.er C fs):forS g body (d::ds) env=.er C fs:=by
 show(opt (g d env)).bind _=_;rw[h1];show(body e1).bind _=_;rw[h2];rfl
section
variable{env e e1 e2:Ev}{o:O}{d x y z:D}{h1 h2 h3:Hn}{oa ob:Oe}{XV:Res (D×Ev)}{XH:Res (Hn×Ev)}{f:D->D->Option D}{f1:D->Option D}
theorem vY(h:evO oa env=.ok (h1,e))(k:hnV e h1=XV):oV oa env=XV:=by
 cases oa with
 | p s=>
   change (opt (s env)).bind _=_ at h;show(opt (s env)).bind _=_;cases q:s env with
   |none=>rw[q]at h;cases h
   |some a=>rw[q]at h;cases h;exact k
 | v s=>
   change (s env).bind _=_ at h;show s env=_;cases q:s env with
   |no=>rw[q]at h;cases h
   |er C fs=>rw[q]at h;cases h
   |ok a=>rw[q]at h;cases h;exact k
theorem qVb{s:SP}(h:s env=some h1)(k: .ok (h1,env)=XH):evO (.p s) env=XH:=by
 show(opt (s env)).bind _=_;rw[h];exact k
theorem qW0{s:SP}(h:evO (.p s) env=.ok (h1,e)):s env=some h1/\e=env:=by
 change (opt (s env)).bind _=_ at h;cases q:s env with
 |none=>rw[q]at h;cases h
 |some a=>rw[q]at h;cases h;exact⟨rfl,rfl⟩
theorem qM(h:evO oa env=.ok (h1,e))(h' :evO ob e=.ok (h2,e1))(c:(h1.st || ob.isP)=true)(r1:rsv e1 h1=some x)(r2:rsv e1 h2=some y)(r3:f x y=some z)(k: .ok (.d z,e1)=XH):evO (o2 f oa ob) env=XH:=by
 cases oa with
 |v s=>exact zY (zZn h h' c r1 r2 r3 rfl) k
 | p s=>
   cases ob with
   |v t=>exact zY (zZn h h' c r1 r2 r3 rfl) k
   | p t=>
     obtain⟨q1,rfl⟩:=qW0 h;obtain⟨q2,rfl⟩:=qW0 h';refine qVb (h1:=.d z) ?_ k;show(s _).bind _=_;grind
theorem zJc(h:evO oa env=.ok (h1,e))(r1:rsv e h1=some x)(r3:f1 x=some z)(k: .ok (.d z,e)=XH):evO (o1 f1 oa) env=XH:=by
 cases oa with
 |v s=>exact zY (jQ8 h r1 r3 rfl) k
 | p s=>
   obtain⟨q1,rfl⟩:=qW0 h;refine qVb (h1:=.d z) ?_ k;show(s _).bind _=_;rw[q1];show(rsv _ h1).bind _=_;rw[r1];show(f1 x).bind _=_;rw[r3];rfl
theorem jH(h:evO oa env=.ok (h1,e))(h' :evO ob e=.ok (h2,e1))(c:(h1.st || (oa.isP && ob.isP))=true)(r:rsv e1 h2=some y)(r3:hnIx e1 y h1=some (.d z))(k: .ok (.d z,e1)=XH):evO (oIx oa ob) env=XH:=by
 have vv:∀(hc:h1.st=true),((evO oa env).bind fun r=>(evO ob r.2).bind fun r' =>cond r.1.st ((opt (rsv r'.2 r'.1)).bind fun y=>(opt (hnIx r'.2 y r.1)).bind fun h=>hnV r'.2 h) .no)=.ok (z,e1):=fun hc=>by
  rw[h];show(evO ob e).bind _=_;rw[h'];show cond h1.st ((opt (rsv e1 h2)).bind _) _=_;rw[hc,r];show(opt (hnIx e1 y h1)).bind _=_;rw[r3];rfl
 cases oa with
 |v s=>exact zY (vv (by simpa[Oe.isP] using c)) k
 | p s=>
   cases ob with
   |v t=>exact zY (vv (by simpa[Oe.isP] using c)) k
   | p t=>
     obtain⟨q1,rfl⟩:=qW0 h;obtain⟨q2,rfl⟩:=qW0 h';refine qVb (h1:=.d z) ?_ k;grind
theorem qYi{os:List Oe}{g:List D->Option D}(h:evOs os env=.ok (hs,e))(r1:rsvs e hs=some xs)(r3:g xs=some z)(k: .ok (.d z,e)=XH):evO (oL g os) env=XH:=by
 have vv:=jQ7 h r1 r3 rfl;unfold oL;split
 ·rename_i s;change ((opt (s env)).bind _).bind _=_ at h;cases q:s env with
  |none=>rw[q]at h;cases h
  | some a=>
    rw[q]at h;change cond (a.st || ([]:List Oe).all Oe.isP) (Res.ok ([a],env)) Res.no=_ at h;cases w:(a.st || ([]:List Oe).all Oe.isP) with
    |false=>grind
    | true=>
      rw[w]at h;cases h;refine qVb (h1:=.d z) ?_ k;rw[q];show(rsv env a).bind _=_;obtain⟨x,e1,r1⟩:=Option.bind_eq_some_iff.mp r1;cases r1;grind
 ·exact zY vv k
theorem vZr{XH:Res (List Hn×Ev)}(k: .ok ([],env)=XH):evOs (([]:List Am).map Am.o) env=XH:=k
theorem wS{s:SV}{XH:Res (List Hn×Ev)}(h:s env=.ok (d,e))(h2:evOs (as.map Am.o) e=.ok (hs,e1))(k: .ok (.d d::hs,e1)=XH):evOs ((Am.v s::as).map Am.o) env=XH:=xW (zY h rfl) rfl h2 k
theorem zZc{s:SP}{XH:Res (List Hn×Ev)}(h:s env=some h1)(c:(h1.st || (as.map Am.o).all Oe.isP)=true)(h2:evOs (as.map Am.o) env=.ok (hs,e1))(k: .ok (h1::hs,e1)=XH):evOs ((Am.b s::as).map Am.o) env=XH:=xW (qVb h rfl) c h2 k
theorem vXl{i:Nat}{XH:Res (List Hn×Ev)}(h:pIo i env=some (.p i []))(h2:evOs (as.map Am.o) env=.ok (hs,e1))(k: .ok (.p i []::hs,e1)=XH):evOs ((Am.io i::as).map Am.o) env=XH:=xW (qVb h rfl) rfl h2 k
end
theorem vZu{t:ST}{q:Ev}{XE:Res (O×Ev)}(h:it env=.ok (ds,e))(c:(vJp cs T n e.length && decide (ds.length<=lim))=true)(h2:qQ4 g t el ds (capS cs .un e 0 n)=.ok (vs,q))(k: .ok (.ow .lst (vs.map .fz),putI cs 0 q (qQ0 cs 0 n e))=XE):compS n cs T it g t el env=XE:=by
 unfold compS;rw[h];show cond (vJp cs T n e.length && decide (ds.length<=lim)) ((qQ4 g t el ds (capS cs .un e 0 n)).bind _) _=_;rw[c,h2];exact k
theorem compL_ok{t:ST}(R:Ev->Prop)(p:D->Option D):∀{ds:List D} {env:Ev},(∀d e,d∈ds->R e->∃e1,g d e=some e1/\((∃e2 v e3,t e1=.ok (true,e2)/\el e2=.ok (v,e3)/\p d=some v/\R e3)\/(∃e2,t e1=.ok (false,e2)/\p d=none/\R e2)))->R env->∃e',qQ4 g t el ds env=.ok (ds.filterMap p,e')/\R e'
 |[],env,_,r=>⟨env,rfl,r⟩
 | d::ds,env,h,r=>by
   obtain⟨e1,h1,h2⟩:=h d env (by simp) r;have ih:=fun {env:Ev} (r:R env)=>compL_ok R p (fun d e hd r=>h d e (aB _ hd) r) (env:=env) r
   rcases h2 with⟨e2,v,e3,a1,a2,a3,a4⟩|⟨e2,a1,a3,a4⟩
   ·obtain⟨e',b1,b2⟩:=ih a4;refine⟨e',?_,b2⟩;show(opt (g d env)).bind _=_;rw[h1];show((t e1).ne).bind _=_;rw[a1];show((el e2).ne).bind _=_;rw[a2];show(qQ4 g t el ds e3).bind _=_;rw[b1,List.filterMap_cons,a3];rfl
   ·obtain⟨e',b1,b2⟩:=ih a4;refine⟨e',?_,b2⟩;show(opt (g d env)).bind _=_;rw[h1];show((t e1).ne).bind _=_;rw[a1];show qQ4 g t el ds e2=_;rw[b1,List.filterMap_cons,a3]
theorem compL_map(R:Ev->Prop)(p:D->D)(h:∀d e,d∈ds->R e->∃e1 e3,g d e=some e1/\el e1=.ok (p d,e3)/\R e3)(r:R env):∃e',qQ4 g bTrue el ds env=.ok (ds.map p,e')/\R e' :=by
 obtain⟨e',a,b⟩:=compL_ok (g:=g) (t:=bTrue) (el:=el) R (fun d=>some (p d)) (fun d e hd r=>by
  obtain⟨e1,e3,h1,h2,h3⟩:=h d e hd r;exact⟨e1,h1,.inl ⟨e1,p d,e3,rfl,h2,rfl,h3⟩⟩) r
 refine⟨e',?_,b⟩;rw[a];congr 2;rw[List.filterMap_eq_map' (f:=p)]
theorem qJf:∀ds:List D,fzOs (ds.map .fz)=ds
 |[]=>rfl
 |d::ds=>by show fzO (.fz d)::fzOs (ds.map .fz)=_;rw[qJf ds];rfl
theorem xU{k:Kd}(ds:List D):fzO (.ow k (ds.map .fz))=.nd k ds:=by show D.nd k (fzOs _)=_;rw[qJf]
theorem qX4{t:ST}{q:Ev}(h:it env=.ok (ds,e))(c:(vJp cs T n e.length && decide (ds.length<=lim))=true)(h2:qQ4 g t el ds (capS cs .un e 0 n)=.ok (vs,q))(k: .ok (.nd .lst vs,putI cs 0 q (qQ0 cs 0 n e))=XV):fzS (compS n cs T it g t el) env=XV:=zE (vZu h c h2 rfl) (by rw[xU];exact k)
theorem vWj(h:evVs ss env=.ok (ds,e))(c:decide (ds.length<=1000)=true)(k: .ok (.nd .lst ds,e)=XV):fzS (eLst ss) env=XV:=zE (vXg h c rfl) (by rw[xU];exact k)
end DX
namespace FW
variable{k c j:Nat}
noncomputable def qR(c:Nat):Nat:=if(97<=c/\c<=122)\/(65<=c/\c<=90) then 0 else if 48<=c/\c<=57 then 1 else if c=32 then 3 else 2
noncomputable def zQ(k:Nat):List Nat->Nat
 |[]=>0
 |c::r=>if qR c=k then zQ k r+1 else 0
noncomputable def qS:List Nat->Nat
 |[]=>0
 |c::r=>if qR c=2 then 1 else zQ (qR c) r+1
theorem jV(k c:Nat)(r:List Nat):zQ k (c::r)=if qR c=k then zQ k r+1 else 0:=rfl
theorem vS(c:Nat)(r:List Nat):qS (c::r)=if qR c=2 then 1 else zQ (qR c) r+1:=rfl
theorem qKv(k:Nat):∀r,zQ k r<=r.length
 |[]=>aD _
 | c::r=>by
   have:=qKv k r;rw[jV];split
   ·simp;omega
   ·exact dW _
theorem xG(c:Nat)(r:List Nat):0<qS (c::r):=by
 rw[vS];split <;> omega
theorem qWf:∀r,qS r<=r.length
 |[]=>aD _
 | c::r=>by
   have:=qKv (qR c) r;rw[vS];split
   ·simp
   ·simp;omega
noncomputable def qJ1:Nat->List Nat->List (List Nat)
 | 0,_=> []
 |_,[]=> []
 |n+1,c::r=>(if c=32 then [] else [(c::r).take (qS (c::r))]) ++ qJ1 n ((c::r).drop (qS (c::r)))
theorem vQ2:∀(n m:Nat) (r:List Nat),r.length<=n->r.length<=m->qJ1 n r=qJ1 m r:=by
 intro n;induction n with
 | zero=>
   intro m r h1 h2;have:r=[]:=List.length_eq_zero_iff.mp (by omega);subst this;cases m <;> rfl
 | succ n ih=>
   intro m r h1 h2;cases r with
   |nil=>cases m <;> rfl
   | cons c r=>
     cases m with
     |zero=>simp at h2
     | succ m=>
       have h3:=xG c r;unfold qJ1;rw[ih m]
       ·rw[cU];omega
       ·rw[cU];omega
noncomputable def parts(r:List Nat):List (List Nat):=qJ1 r.length r
theorem qJj:parts []=[]:=rfl
theorem jS(c:Nat)(r:List Nat):parts (c::r)=(if c=32 then [] else [(c::r).take (qS (c::r))]) ++ parts ((c::r).drop (qS (c::r))):=by
 have h3:=xG c r;unfold parts;show qJ1 (r.length+1) (c::r)=_;rw[qJ1,vQ2 r.length ((c::r).drop (qS (c::r))).length _ (by rw[cU];simp;omega) (aD _)]
theorem qWh(c:Nat):qR c=3↔c=32:=by
 unfold qR;constructor
 ·intro h;split at h
  ·cases h
  ·split at h
   ·cases h
   ·split at h
    ·assumption
    ·cases h
 ·rintro rfl;decide
noncomputable def Seam(R S:List Nat):Prop:=∀a b,R.getLast?=some a->S.head?=some b->qR a=qR b->qR a=2\/qR a=3
theorem qXd(k:Nat):∀(r S:List Nat),zQ k (r ++ S)=if zQ k r=r.length then r.length+zQ k S else zQ k r
 |[],S=>by simp[zQ]
 | c::r,S=>by
   have ih:=qXd k r S;have hle:=qKv k r;show zQ k (c::(r ++ S))=_;rw[jV,jV];by_cases h:qR c=k
   ·rw [if_pos h,if_pos h,ih];by_cases h2:zQ k r=r.length
    ·rw [if_pos h2,if_pos (by simp [h2]),aW];omega
    ·rw[if_neg h2,if_neg (by simp;exact h2)]
   ·rw[if_neg h,if_neg h,if_neg (by simp)]
theorem vVj:∀{r:List Nat},zQ k r=r.length->∀c∈r,qR c=k
 |[],_,c,h=>nomatch h
 | d::r,e,c,h=>by
   rw[jV]at e;by_cases q:qR d=k
   ·rw [if_pos q] at e;rcases bV.mp h with z|z
    ·grind
    ·exact vVj (by simpa using e) c z
   ·grind
theorem qYp:∀(S:List Nat),parts (S.drop (zQ 3 S))=parts S
 |[]=>rfl
 | c::r=>by
   rw[jV];by_cases h:qR c=3
   ·rw [if_pos h];have hc:=(qWh c).mp h;have e:qS (c::r)=zQ 3 r+1:=by rw[vS,h,if_neg (by decide)]
    rw[jS,if_pos hc,List.nil_append,e]
   ·grind
theorem getLast_of_all{R:List Nat}(hne:R≠ [])(h:∀c∈R,qR c=k):∃a,R.getLast?=some a/\qR a=k:=by
 refine⟨R.getLast hne,List.getLast?_eq_some_getLast hne,h _ (List.getLast_mem hne)⟩
theorem qXe:∀(n:Nat) (R S:List Nat),R.length<=n->Seam R S->parts (R ++ S)=parts R ++ parts S:=by
 intro n
 induction n with
 | zero=>
   intro R S h _
   have:R=[]:=List.length_eq_zero_iff.mp (by omega)
   subst this
   rfl
 | succ n ih=>
   intro R S h sm
   cases R with
   |nil=>rfl
   | cons c r=>
     have h3:=xG c r
     have h4:=qWf (c::r)
     by_cases hw:qS (c::(r ++ S))=qS (c::r)
     · -- the part ends within R,or just at its end
       rw[cZ,jS,jS,hw]
       have e1:(c::(r ++ S)).take (qS (c::r))=(c::r).take (qS (c::r)):=by
        rw[←cZ,List.take_append_of_le_length h4]
       have e2:(c::(r ++ S)).drop (qS (c::r))=(c::r).drop (qS (c::r)) ++ S:=by
        rw[←cZ,List.drop_append_of_le_length h4]
       rw[e1,e2]
       have hlen:((c::r).drop (qS (c::r))).length <=n:=by rw[cU];simp at h⊢;omega
       rw[ih _ S hlen ?_,bU]
       intro a b ha hb
       refine sm a b ?_ hb
       by_cases hz:(c::r).drop (qS (c::r))=[]
       ·rw [hz] at ha
        cases ha
       ·rw [List.getLast?_drop] at ha
        split at ha
        ·cases ha
        ·exact ha
     · -- R is one part that goes on:blanks
       have hk:qR c≠2:=fun z=>hw (by rw[vS,vS,if_pos z,if_pos z])
       have f1:qS (c::r)=zQ (qR c) r+1:=by rw[vS,if_neg hk]
       have f2:qS (c::(r ++ S))=zQ (qR c) (r ++ S)+1:=by rw[vS,if_neg hk]
       rw[qXd]at f2
       have hall:zQ (qR c) r=r.length:=by
        by_cases q:zQ (qR c) r=r.length
        ·exact q
        ·rw [if_neg q] at f2
         exact absurd (f2.trans f1.symm) hw
       rw[if_pos hall]at f2
       have hrun:zQ (qR c) S≠0:=fun z=>hw (by rw[f1,f2,z,hall])
       have hallR:∀d∈c::r,qR d=qR c:=fun d hd=>by
        rcases bV.mp hd with z|z
        ·rw[z]
        ·exact vVj hall d z
       obtain⟨a,ha,ka⟩:=getLast_of_all (R:=c::r) (by simp) hallR
       cases S with
       |nil=>exact absurd rfl hrun
       | cons b S=>
         have kb:qR b=qR c:=by
          rw[jV]at hrun
          by_cases q:qR b=qR c
          ·exact q
          ·rw [if_neg q] at hrun
           exact absurd rfl hrun
         have h5:=sm a b ha rfl (ka.trans kb.symm)
         rw[ka]at h5
         have h6:qR c=3:=h5.resolve_left hk
         have hc:=(qWh c).mp h6
         have g1:(c::r).drop (qS (c::r))=[]:=by
          rw[f1,hall]
          simp
         rw[cZ,jS,jS c r,if_pos hc,if_pos hc,g1,f2,qJj,List.nil_append,List.nil_append,List.nil_append]
         have g2:(c::(r ++ b::S)).drop (r.length+zQ (qR c) (b::S)+1)=(b::S).drop (zQ (qR c) (b::S)):=by
          rw[List.drop_succ_cons,List.drop_append]
          rw[List.drop_eq_nil_of_le (by omega),List.nil_append,Nat.add_sub_cancel_left]
         rw[g2,h6,qYp]
theorem qV0:∀{r:List Nat},(∀c∈r,qR c=k)->zQ k r=r.length
 |[],_=>rfl
 | c::r,h=>by
   rw[jV,if_pos (h c (aA ..)),qV0 fun d hd=>h d (aB _ hd)];rfl
theorem vQk{w:List Nat}(hne:w≠ [])(h:∀c∈w,qR c=k)(h2:k=2->w.length=1)(h3:k≠3):parts w=[w]:=by
 cases w with
 |nil=>exact absurd rfl hne
 | cons c r=>
   have kc:=h c (aA ..);have nb:c≠32:=fun z=>h3 (by rw[←kc];exact(qWh c).mpr z)
   have e:qS (c::r)=(c::r).length :=by
    rw[vS];by_cases q:qR c=2
    ·rw [if_pos q];exact(h2 (kc.symm.trans q)).symm
    ·rw [if_neg q,kc,qV0 fun d hd=>h d (aB _ hd)];rfl
   rw[jS,if_neg nb,e,List.take_length,List.drop_length,qJj,bG]
theorem vZ2:∀(n:Nat),parts (List.replicate n 32)=[]
 | 0=>rfl
 | n + 1=>by
   have e:zQ 3 (List.replicate (n+1) 32)=(List.replicate (n+1) 32).length :=qV0 fun c hc=>by
    rw[(List.mem_replicate.mp hc).2];decide
   have:=qYp (List.replicate (n+1) 32);rw[e,List.drop_length]at this;exact this.symm
theorem qYb(R:List Nat)(n:Nat):parts (R ++ List.replicate n 32)=parts R:=by
 rw[qXe R.length R _ (aD _),vZ2,bG];intro a b _ hb e;have:b=32:=by
  cases n with
  |zero=>cases hb
  |succ n=>exact(Option.some.inj hb).symm
 subst this;exact .inr e
theorem qK4(c:Nat):qR c<=3:=by
 unfold qR;split
 ·omega
 ·split
  ·omega
  ·split <;> omega
theorem zQ9{q:Char}(hq:q.isDigit=true):48<=q.toNat/\q.toNat<=57:=by
 have z:=hq;simp only[Char.isDigit,aF,decide_eq_true_eq]at z;have a1:48<=q.val.toNat:=by simpa using UInt32.le_iff_toNat_le.mp z.1
 have a2:q.val.toNat<=57:=by simpa using UInt32.le_iff_toNat_le.mp z.2
 exact⟨a1,a2⟩
theorem qK3(h:48<=c/\c<=57):qR c=1:=by
 unfold qR;rw[if_neg (by omega),if_pos h]
theorem xX(m:Nat):∀c∈(Nat.toDigits 10 m).map Char.toNat,48<=c/\c<=57:=by
 intro c hc;obtain⟨ch,h1,rfl⟩:=dL.mp hc;exact zQ9 (Nat.isDigit_of_mem_toDigits (by decide) (by decide) h1)
theorem qJl(m:Nat):(Nat.toDigits 10 m).map Char.toNat≠ []:=by
 simp_all
theorem vX0{r:List Nat}(h:r[j]?=some c)(hk:qR c=k):zQ k (r.drop j)=zQ k (r.drop (j+1))+1:=by
 have e:r.drop j=c::r.drop (j+1):=by
  have hj:=(aU.mp h).1;rw[cB hj];congr 1;exact(aU.mp h).2
 rw[e,jV,if_pos hk]
theorem vXz{r:List Nat}(h:r[j]?=some c)(hk:qR c≠k):zQ k (r.drop j)=0:=by
 have e:r.drop j=c::r.drop (j+1):=by
  have hj:=(aU.mp h).1;rw[cB hj];congr 1;exact(aU.mp h).2
 rw[e,jV,if_neg hk]
theorem vWa{r:List Nat}{b:Nat}(h:r[b]?=some c):parts (r.drop b)=(if c=32 then [] else [(r.drop b).take (qS (r.drop b))]) ++ parts (r.drop (b+qS (r.drop b)))/\0<qS (r.drop b)/\b+qS (r.drop b)<=r.length
  /\qS (r.drop b)=if qR c=2 then 1 else zQ (qR c) (r.drop (b+1))+1:=by
 have hj:=(aU.mp h).1;have e:r.drop b=c::r.drop (b+1):=by
  rw[cB hj];congr 1;exact(aU.mp h).2
 have hl:=qWf (r.drop b);rw[cU]at hl;refine⟨?_,?_,by omega,?_⟩
 ·rw [←List.drop_drop,e];exact jS c _
 ·rw [e];exact xG c _
 ·rw[e,vS]
end FW
namespace RF
open PySem L2 DX FW PyProof.Rows
variable{e1 e2 env:Ev}{k i m C l:Nat}{w:Str}{row lo hi:Int}{v1 v2 v:SV}{r':List Str}{d:D}{g:List Str->Pr}{vs:List SV}{us ds:List D}
local macro_rules | `(tactic|array_get_dec)=>`(tactic|first
 |with_reducible refine' vB ?_ ?_
 |with_reducible refine' wD ?_
 |with_reducible refine' qW ?_ ?_
 |with_reducible refine' qE ?_
 |with_reducible refine' wQ ?_ ?_
 |with_reducible refine' qU ?_ ?_
 |with_reducible refine' qQ7 ?_ ?_
 |with_reducible refine' jX ?_ ?_
 |with_reducible refine' qQh ?_ ?_
 |with_reducible refine' xI ?_ ?_
 |with_reducible refine' qJb ?_ ?_
 |with_reducible refine' qWy ?_ ?_
 |with_reducible refine' yN ?_ ?_
 |with_reducible refine' wS ?_ ?_ ?_
 |with_reducible refine' zZc ?_ ?_ ?_ ?_
 |with_reducible refine' vXl ?_ ?_ ?_
 |with_reducible refine' qX4 ?_ ?_ ?_ ?_
 |with_reducible refine' vWj ?_ ?_ ?_
 |with_reducible refine' zF ?_ ?_
 |with_reducible refine' qVc ?_ ?_ ?_ ?_ ?_ ?_ ?_
 |with_reducible refine' vYx ?_ ?_ ?_
 |with_reducible refine' vYy ?_ ?_ ?_
 |rfl
 |with_reducible refine' zX ?_ ?_
 |with_reducible refine' zE ?_ ?_
 |with_reducible refine' vM ?_ ?_ ?_
 |with_reducible refine' qXp ?_ ?_
 |with_reducible refine' yB ?_ ?_
 |with_reducible refine' not_of ?_ ?_
 |with_reducible refine' yD ?_ ?_ ?_
 |with_reducible refine' vXg ?_ ?_ ?_
 |with_reducible refine' qT ?_ ?_ ?_
 |with_reducible refine' vY ?_ ?_
 |with_reducible refine' zY ?_ ?_
 |with_reducible refine' qM ?_ ?_ ?_ ?_ ?_ ?_ ?_
 |with_reducible refine' zJc ?_ ?_ ?_ ?_
 |with_reducible refine' jH ?_ ?_ ?_ ?_ ?_ ?_
 |with_reducible refine' qYi ?_ ?_ ?_ ?_
 |with_reducible refine' xW ?_ ?_ ?_ ?_
 |with_reducible refine' vW9 ?_ ?_ ?_ ?_
 |with_reducible refine' qKk ?_ ?_ ?_ ?_ ?_ ?_ ?_
 |with_reducible refine' vZu ?_ ?_ ?_ ?_)
noncomputable abbrev S(r:List Nat):Str:=⟨r.toArray⟩
theorem wT(r:List Nat):(S r).length =r.length:=by show r.toArray.size=_;simp
theorem vJr(a b:List Nat):S a ++ S b=S (a ++ b):=by show(⟨a.toArray ++ b.toArray⟩:Str)=⟨(a ++ b).toArray⟩;simp
theorem vY4(r:List Nat):(S r).cps.toList=r:=rfl
noncomputable abbrev sS(x:Str):Slot:=.s false (.fz (.str x))
noncomputable abbrev sN(n:Int):Slot:=.s false (.fz (.int n))
noncomputable def kS:Nat->Str
 | 0=>"letter"
 | 1=>"figure"
 | 3=>"blank"
 |_=>"single"
theorem zV8:∀{a b:Nat},a<=3->b<=3->decide (kS a=kS b)=decide (a=b):=by
 have:∀a,a<=3->∀b,b<=3->decide (kS a=kS b)=decide (a=b):=by decide +kernel
 intro a b ha hb;exact this a ha b hb
noncomputable def jQl(x:Str):Res (O×Ev)->Bool
 |.ok (.fz (.str y),[.un])=>decide (x=y)
 |_=>false
theorem zWb{x:Str}:∀{r:Res (O×Ev)},jQl x r=true->r=.ok (.fz (.str x),[.un])
 |.ok (.fz (.str y),[.un]),h=>by rw[of_decide_eq_true h]
theorem zWo:(List.range 128).all (fun c=>jQl (kS (qR c)) (wF [.s false (.fz (.str ⟨#[c]⟩))]))=true:=by decide +kernel
theorem zY6{c:Nat}(h:c<128):wF [.s false (.fz (.str ⟨#[c]⟩))]=.ok (.fz (.str (kS (qR c))),[.un]):=
 zWb (List.all_eq_true.mp zWo c (List.mem_range.mpr h))
section
variable{R:List Nat}{env:Ev}{i j k c e n:Nat}{b:Int}
theorem zV9(h:R[k]?=some c)(hl:R.length<=1000):ixD (.str (S R)) (.int k)=some (.str ⟨#[c]⟩):=by
 show((atI R (k:Int)).bind fun ch=>cond (decide ((S R).length <=aT)) (some (D.str ⟨#[ch]⟩)) none)=_;rw[qJg h,wT];rw[decide_eq_true (aM hl (show 1000<=aT by decide))];rfl
theorem ixc(h0:env[i]?=some (sS (S R)))(h1:env[j]?=some (sN k))(hx:R[k]?=some c)(hl:R.length<=1000):oV (oIx (oN i) (oN j)) env=.ok (.str ⟨#[c]⟩,env):=by
 show(opt (((qZb i) env).bind fun h=>((qZb j) env).bind fun h' =>(rsv env h').bind fun y=>hnIx env y h)).bind _=_;unfold qZb;rw[h0,h1];show(opt ((ixD (.str (S R)) (.int k)).map Hn.d)).bind _=_;rw[zV9 hx hl];rfl
theorem jQq(h0:env[i]?=some (sS (S R)))(h1:env[j]?=some (sN k))(hx:R[k]?=some c)(hc:c<128)(hl:R.length<=1000):qP wF [.v (oV (oIx (oN i) (oN j)))] env=.ok (.fz (.str (kS (qR c))),env):=by
 show((evO (.v (oV (oIx (oN i) (oN j)))) env).bind fun r=>cond (r.1.st || true) ((evOs [] r.2).bind _) _).bind _=_;rw[zY (ixc h0 h1 hx hl) rfl];show(wF [.s false (.fz (.str ⟨#[c]⟩))]).bind _=_;rw[zY6 hc];rfl
theorem qKn(hl:R.length<=1000):lenD [.str (S R)]=some (.int R.length):=by
 show cond (decide ((S R).length <=aT)) (some (D.int (S R).length)) _=_;rw[wT,decide_eq_true (aM hl (show 1000<=aT by decide))];rfl
noncomputable abbrev endT:ST:=bAnd (asB (o2 neF (oN 2) (oC (.str "single")))) (bAnd (asB (oLt (oN 3) (oL lenD [(oN 0)]))) (asB (o2 eqF (.v (fzS (qP wF [(.v (oV (oIx (oN 0) (oN 3))))]))) (oN 2))))
theorem lenx(hl:R.length<=1000){s:Slot}:asB (oLt (oN 3) (oL lenD [(oN 0)])) [sS (S R),sN b,s,sN e]=.ok (decide ((e:Int)<R.length),[sS (S R),sN b,s,sN e]):=by
 repeat' (first|array_get_dec|exact qKn hl)
theorem vK0(hl:R.length<=1000)(hk:k<=3)(h2:k≠2)(hx:R[e]?=some c)(hc:c<128):endT [sS (S R),sN b,sS (kS k),sN e]=.ok (decide (qR c=k),[sS (S R),sN b,sS (kS k),sN e]):=by
 have hlt:=(aU.mp hx).1;refine qXp (q:=true) (e:=[sS (S R),sN b,sS (kS k),sN e]) ?_ (qXp (q:=true) (e:=[sS (S R),sN b,sS (kS k),sN e]) ?_ ?_)
 ·show Res.ok (!decide (kS k=kS 2),_)=_;rw[zV8 hk (by decide),decide_eq_false h2];rfl
 ·rw[lenx hl,decide_eq_true (by omega)]
 ·refine vM (d:= .bl (decide (kS (qR c)=kS k))) (vY (h1:= .d (.bl (decide (kS (qR c)=kS k)))) (qM (h1:= .d (.str (kS (qR c)))) (h2:= .d (.str (kS k))) (zY (zE (jQq rfl rfl hx hc hl) rfl) rfl) rfl rfl rfl rfl rfl rfl) rfl) rfl ?_
  rw[zV8 (qK4 c) hk]
theorem zW8(hl:R.length<=1000)(h:R.length<=e)(hk:k<=3)(h2:k≠2):endT [sS (S R),sN b,sS (kS k),sN e]=.ok (false,[sS (S R),sN b,sS (kS k),sN e]):=by
 refine qXp (q:=true) (e:=[sS (S R),sN b,sS (kS k),sN e]) ?_ (qXp (q:=false) (e:=[sS (S R),sN b,sS (kS k),sN e]) ?_ rfl)
 ·show Res.ok (!decide (kS k=kS 2),_)=_;rw[zV8 hk (by decide),decide_eq_false h2];rfl
 ·rw[lenx hl,decide_eq_false (by omega)]
theorem qYy{t:ST}{s:SS}(h:t env=.ok (true,e1))(h2:s e1=.ok (.nx e2)):v5 t s (n+1) env=v5 t s n e2:=by
 show(t env).bind _=_;rw[h];show(s e1).bind _=_;rw[h2];rfl
theorem qWv{t:ST}{s:SS}(h:t env=.ok (false,e1)):v5 t s (n+1) env=.ok (.nx e1):=by
 show(t env).bind _=_;rw[h];rfl
theorem vWm(hl:R.length<=1000)(ha:∀c∈R,c<128)(hk:k<=3)(h2:k≠2):∀(n e:Nat),R.length<n+e->e<=R.length->v5 endT vQu n [sS (S R),sN b,sS (kS k),sN e]=.ok (.nx [sS (S R),sN b,sS (kS k),sN ((e+zQ k (R.drop e):Nat):Int)])
 | 0,e,h,_=>by omega
 | n + 1,e,h,he=>by
   cases hx:R[e]? with
   | none=>
     have hle:R.length<=e:=List.getElem?_eq_none_iff.mp hx;rw[qWv (zW8 hl hle hk h2),List.drop_of_length_le hle];rfl
   | some c=>
     have hc:=ha c (eX hx);by_cases hq:qR c=k
     ·have t:=vK0 (b:=b) hl hk h2 hx hc;rw[decide_eq_true hq]at t;rw[qYy t (e2:=[sS (S R),sN b,sS (kS k),sN ((e+1:Nat):Int)]) rfl,vWm hl ha hk h2 n (e+1) (by omega) (aU.mp hx).1,vX0 hx hq];rw[show e+1+zQ k (R.drop (e+1))=e+(zQ k (R.drop (e+1))+1) by omega]
     ·have t:=vK0 (b:=b) hl hk h2 hx hc;rw[decide_eq_false hq]at t;rw[qWv t,vXz hx hq];rfl
theorem jJb(hl:R.length<=1000)(ha:∀c∈R,c<128)(hx:R[e]?=some c):qZm [sS (S R),sN e]=.ok (.fz (.int ((e+qS (R.drop e):Nat):Int)),[.un,.un]):=by
 have hc:=ha c (eX hx);have hd:R.drop e=c::R.drop (e+1):=by
  have hlt:=(aU.mp hx)
  rw[cB hlt.1,hlt.2]
 have k1:=jQq (env:=[sS (S R),sN e,.un,.un]) (i:=0) (j:=1) rfl rfl hx hc hl;rw[hd,vS];refine vB (qU k1 (qU (o:=.fz (.int ((e+1:Nat):Int))) (e:=[sS (S R),sN e,sS (kS (qR c)),.un]) rfl ?_)) (o:=.rt (.fz (.int ((e+(if qR c=2 then 1 else zQ (qR c) (R.drop (e+1))+1):Nat):Int))) [sS (S R),sN e,sS (kS (qR c)),.un]) rfl;by_cases h2:qR c=2
 ·rw [if_pos h2,h2];rfl
 ·rw [if_neg h2];refine jX (vWm hl ha (qK4 c) h2 100000 (e+1) (by omega) (aU.mp hx).1) ?_
  rw[show e+1+zQ (qR c) (R.drop (e+1))=e+(zQ (qR c) (R.drop (e+1))+1) by omega];rfl
end

theorem vKe(R:List Nat){a b:Nat}(hab:a<=b)(hb:b<=R.length):Txt.slice (S R) (some (a:Int)) (some (b:Int))=S ((R.drop a).take (b - a)):=by
 have hb' :b<=(S R).length :=by rw[wT];exact hb
 have h:=StrLaws.sliced_plain (S R) hab hb';unfold Txt.slice;split
 ·rename_i hw;rw[StrLaws.strSliceIndices_plain hab hb',wT]at hw;have e2:b - a=R.length:=by simpa using hw
  have e3:a=0:=by omega
  grind
 ·rw[h]
noncomputable abbrev wO(ws:List (List Nat)):List O:=ws.map fun w=>.fz (.str (S w))
section
variable{R:List Nat}{c b n:Nat}{ws:List (List Nat)}{y q:Slot}
theorem jQp(hl:R.length<=1000):asB (oLt (oN 2) (oL lenD [(oN 0)])) [sS (S R),q,sN b,y]=.ok (decide ((b:Int)<R.length),[sS (S R),q,sN b,y]):=by
 repeat' (first|array_get_dec|exact qKn hl)
theorem zK3(hl:R.length<=1000)(ha:∀c∈R,c<128)(hx:R[b]?=some c)(hw:ws.length<=1000):yZ [sS (S R),.s false (.ow .lst (wO ws)),sN b,y]=
  .ok (.nx [sS (S R),.s false (.ow .lst (wO (ws ++ if c=32 then [] else [(R.drop b).take (qS (R.drop b))]))),sN ((b+qS (R.drop b):Nat):Int),sN ((b+qS (R.drop b):Nat):Int)]):=by
 have hp:=vWa hx;have e1:qP qZm [(.v (oV (oN 0))),(.v (oV (oN 2)))] [sS (S R),.s false (.ow .lst (wO ws)),sN b,y]=.ok (.fz (.int ((b+qS (R.drop b):Nat):Int)),[sS (S R),.s false (.ow .lst (wO ws)),sN b,y]):=by
  unfold qP;show(qZm [sS (S R),sN b]).bind _=_;rw[jJb hl ha hx];rfl
 generalize hE:b+qS (R.drop b)=E at *;have i1:=ixc (env:=[sS (S R),.s false (.ow .lst (wO ws)),sN b,sN (E:Int)]) (i:=0) (j:=2) rfl rfl hx hl;unfold yZ;refine qU e1 (jX (e:=[sS (S R),.s false (.ow .lst (wO (ws ++ if c=32 then [] else [(R.drop b).take (qS (R.drop b))]))),sN b,sN (E:Int)]) ?_ rfl);have t1:asB (o2 neF (oIx (oN 0) (oN 2)) (oC (.str " "))) [sS (S R),.s false (.ow .lst (wO ws)),sN b,sN (E:Int)]=.ok (!decide (c=32),[sS (S R),.s false (.ow .lst (wO ws)),sN b,sN (E:Int)]):=by
  refine vM (d:=.bl (!decide (c=32))) (vY (h1:=.d (.bl (!decide (c=32)))) (qM (h1:=.d (.str ⟨#[c]⟩)) (h2:=.d (.str ⟨#[32]⟩)) (jH (h1:=.d (.str (S R))) (h2:=.d (.int b)) rfl rfl rfl rfl ?_ rfl) rfl rfl rfl rfl ?_ rfl) rfl) rfl rfl
  ·show(ixD (.str (S R)) (.int b)).map Hn.d=_;rw[zV9 hx hl];rfl
  ·show some (D.bl (!decide (Str.mk #[c]=Str.mk #[32])))=_;have:decide (Str.mk #[c]=Str.mk #[32])=decide (c=32):=by rw[cK];simp
   rw[this]
 refine qQh t1 ?_
 by_cases h32:c=32
 ·rw[if_pos h32,h32,bG];rfl
 ·rw [if_neg h32,decide_eq_false h32];have sl:vJf (oN 0) (some (oV (oN 2))) (some (oV (oN 3))) [sS (S R),.s false (.ow .lst (wO ws)),sN b,sN (E:Int)]=.ok (.str (S ((R.drop b).take (qS (R.drop b)))),[sS (S R),.s false (.ow .lst (wO ws)),sN b,sN (E:Int)]):=by
   show(opt (cond (decide ((S R).length <=aT)) (some (D.str (Txt.slice (S R) (some (b:Int)) (some (E:Int))))) none)).bind _=_;rw[wT,decide_eq_true (aM hl (show 1000<=aT by decide)),vKe R (by omega) (by omega),show E - b=qS (R.drop b) by omega];rfl
  show sExpr _ _=_;refine qWy (qKk (i:=1) (π:=[]) (os:=wO ws) (os0:=wO ws) rfl rfl (zX sl rfl) rfl rfl (z:=(.fz .non,wO ws ++ [.fz (.str (S ((R.drop b).take (qS (R.drop b)))))])) ?_ rfl) ?_
  ·unfold apF;rw[decide_eq_true (show(wO ws).length <=lim from by rw[aP];exact aM hw (by decide))];rfl
  ·rw[show wO (ws ++ [(R.drop b).take (qS (R.drop b))])=wO ws ++ [.fz (.str (S ((R.drop b).take (qS (R.drop b)))))] from dD];rfl
theorem vQd(hl:R.length<=1000)(ha:∀c∈R,c<128):∀(n b:Nat) (ws:List (List Nat)) (y:Slot),R.length<n+b->b<=R.length->ws.length<=b->
  ∃y',v5 (asB (oLt (oN 2) (oL lenD [(oN 0)]))) yZ n [sS (S R),.s false (.ow .lst (wO ws)),sN b,y]=.ok (.nx [sS (S R),.s false (.ow .lst (wO (ws ++ parts (R.drop b)))),sN (R.length:Int),y'])
 | 0,b,ws,y,h,hb,_=>by omega
 | n + 1,b,ws,y,h,hb,hw=>by
   cases hx:R[b]? with
   | none=>
     have hle:R.length<=b:=List.getElem?_eq_none_iff.mp hx;have t:=jQp (b:=b) (y:=y) (q:=.s false (.ow .lst (wO ws))) hl;rw[decide_eq_false (by omega)]at t;refine⟨y,?_⟩;rw[qWv t,List.drop_of_length_le hle,qJj,bG,show R.length=b by omega]
   | some c=>
     obtain⟨p1,p2,p3,p4⟩:=vWa hx;have t:=jQp (b:=b) (y:=y) (q:=.s false (.ow .lst (wO ws))) hl;rw[decide_eq_true (by omega)]at t;obtain⟨y',hy⟩:=vQd hl ha n (b+qS (R.drop b)) (ws ++ if c=32 then [] else [(R.drop b).take (qS (R.drop b))]) (sN ((b+qS (R.drop b):Nat):Int)) (by omega) p3 (by rw[aJ];split <;> simp <;> omega);refine⟨y',?_⟩;rw[qYy t (zK3 hl ha hx (by omega)),hy,p1,bU]
theorem zJj(hl:R.length<=1000)(ha:∀c∈R,c<128):y8 [sS (S R)]=.ok (.ow .lst (wO (parts R)),[.un]):=by
 obtain⟨y',hy⟩:=vQd hl ha 100000 0 [] .un (by omega) (dW _) (dW _);refine vB (qU (o:=.ow .lst []) (e:=[sS (S R),.un,.un,.un]) rfl (qU (o:=.fz (.int 0)) (e:=[sS (S R),.s false (.ow .lst []),.un,.un]) rfl (jX hy rfl))) rfl
end

noncomputable def cu(row:Int)(ws:List Str)(k:Nat):O:=.ow (.obj 9 ["row","words","place"]) [.fz (.int row),.fz (.nd .lst (ws.map D.str)),.fz (.int k)]
noncomputable abbrev fz(d:D):Slot:=.s false (.fz d)
noncomputable abbrev er(row:Int){α:Type}:Res α:=.er 23 [("row",.int row)]
theorem getS{ws:List Str}(h:k<ws.length):ixD (.nd .lst (ws.map D.str)) (.int k)=some (.str (ws.getD k "")):=by
 show(ixN (ws.map D.str).length (k:Int)).bind (fun j=>(ws.map D.str)[j]?)=_;have e:ixN (ws.map D.str).length (k:Int)=some k:=by
  unfold ixN;rw[aP,if_pos (by omega),if_pos (by omega)];rfl
 rw[e];show(ws.map D.str)[k]?=_;rw[cJ,aI h,bI,aI h];rfl
section
variable{row:Int}{ws:List Str}{k:Nat}{x:Str}{b:Bool}{e:Ev}
theorem vWq:vU [.s false (.fz (fzO (cu row ws k)))]=.ok (.fz (.str (ws.getD k "")),[.un]):=by
 have t:asB (oLt (oFld [9] "place" (oN 0)) (oL lenD [(oFld [9] "words" (oN 0))])) [.s false (.fz (fzO (cu row ws k)))]=.ok (decide ((k:Int)<((ws.map D.str).length :Nat)),[.s false (.fz (fzO (cu row ws k)))]):=rfl;by_cases h:k<ws.length
 ·rw [decide_eq_true (by rw [aP];omega)] at t;refine vB (qW t (wQ (zX (d:=.str (ws.getD k "")) (vY (h1:=.d (.str (ws.getD k ""))) (jH (h1:=.d (.nd .lst (ws.map D.str))) (h2:=.d (.int k)) rfl rfl rfl rfl ?_ rfl) rfl) rfl) rfl)) rfl;show(ixD _ _).map Hn.d=_;rw[getS h];rfl
 ·rw [decide_eq_false (by rw [aP];omega)] at t;rw[show ws.getD k ""="" by rw[bI,List.getElem?_eq_none (by omega)];rfl];exact vB (qW t rfl) rfl
theorem vZm:vF 9 "ahead" vU (.b (pOf (oN 0))) [] (.s b (cu row ws k)::e)=.ok (.fz (.str (ws.getD k "")),.s b (cu row ws k)::e):=by
 show(vU [.s false (.fz (fzO (cu row ws k)))]).bind _=_;rw[vWq];rfl
theorem zY0:vW [.s true (cu row ws k)]=.ok (.fz (.str (ws.getD k "")),[.s true (cu row ws (k+1))]):=by
 exact vB (qU (vZm (e:=[.un])) rfl) rfl
theorem qKl:vF 9 "next_word" vW (.io 0) [] (.s b (cu row ws k)::e)=.ok (.fz (.str (ws.getD k "")),.s b (cu row ws (k+1))::e):=by
 show(vW [.s true (cu row ws k)]).bind _=_;rw[zY0];rfl
theorem vVk:vQ [.s true (cu row ws k),sS x]=.ok (.fz (.bl (decide (ws.getD k ""=x))),[.s true (cu row ws (if ws.getD k ""=x then k+1 else k)),.un]):=by
 have t:asB (o2 neF (.v (fzS (vF 9 "ahead" vU (.b (pOf (oN 0))) []))) (oN 1)) [.s true (cu row ws k),sS x]=.ok (!decide (ws.getD k ""=x),[.s true (cu row ws k),sS x]):=
  vM (d:=.bl (!decide (ws.getD k ""=x))) (vY (h1:=.d (.bl (!decide (ws.getD k ""=x)))) (qM (h1:=.d (.str (ws.getD k ""))) (h2:=.d (.str x)) (zY (zE vZm rfl) rfl) rfl rfl rfl rfl rfl rfl) rfl) rfl rfl
 unfold vQ;by_cases h:ws.getD k ""=x
 ·rw [decide_eq_true h] at t⊢;rw[if_pos h];exact vB (qW t rfl) rfl
 ·rw [decide_eq_false h] at t⊢;rw[if_neg h];exact vB (qW t (wQ rfl rfl)) rfl
theorem qK1:vF 9 "passed" vQ (.io 0) [.v (oV (oC (.str x)))] (.s b (cu row ws k)::e)=.ok (.fz (.bl (decide (ws.getD k ""=x))),.s b (cu row ws (if ws.getD k ""=x then k+1 else k))::e):=by
 show(vQ [.s true (cu row ws k),sS x]).bind _=_;rw[vVk];rfl
theorem qX0:vF 9 "passed" vQ (.io 0) [.v (oV (oN 1))] (.s b (cu row ws k)::sS x::e)=.ok (.fz (.bl (decide (ws.getD k ""=x))),.s b (cu row ws (if ws.getD k ""=x then k+1 else k))::sS x::e):=by
 show(vQ [.s true (cu row ws k),sS x]).bind _=_;rw[vVk];rfl
theorem zZ3(h:ws.getD k ""=x):qI [.s true (cu row ws k),sS x]=.ok (.fz .non,[.s true (cu row ws (k+1)),.un]):=by
 have t:=qX0 (row:=row) (b:=true) (e:=[]) (ws:=ws) (k:=k) (x:=x);rw[decide_eq_true h,if_pos h]at t;exact vB (qQh (q:=false) (not_of (vM (vY (zY (zE t rfl) rfl) rfl) rfl rfl) rfl) rfl) rfl
theorem zZ4(h:ws.getD k ""≠x):qI [.s true (cu row ws k),sS x]=er row:=by
 have t:=qX0 (row:=row) (b:=true) (e:=[]) (ws:=ws) (k:=k) (x:=x);rw[decide_eq_false h,if_neg h]at t;exact wM (qQh (q:=true) (not_of (vM (vY (zY (zE t rfl) rfl) rfl) rfl rfl) rfl) rfl)
theorem zWi(h:ws.getD k ""=x):vF 9 "need" qI (.io 0) [.v (oV (oC (.str x)))] (.s b (cu row ws k)::e)=.ok (.fz .non,.s b (cu row ws (k+1))::e):=by
 show(qI [.s true (cu row ws k),sS x]).bind _=_;rw[zZ3 h];rfl
theorem zWj(h:ws.getD k ""≠x):vF 9 "need" qI (.io 0) [.v (oV (oC (.str x)))] (.s b (cu row ws k)::e)=er row:=by
 show(qI [.s true (cu row ws k),sS x]).bind _=_;rw[zZ4 h];rfl
theorem zQ0(h:ws.getD k ""=x):vF 9 "need" qI (.io 0) [.v (oV (oN 1))] (.s b (cu row ws k)::sS x::e)=.ok (.fz .non,.s b (cu row ws (k+1))::sS x::e):=by
 show(qI [.s true (cu row ws k),sS x]).bind _=_;rw[zZ3 h];rfl
theorem zQ1(h:ws.getD k ""≠x):vF 9 "need" qI (.io 0) [.v (oV (oN 1))] (.s b (cu row ws k)::sS x::e)=er row:=by
 show(qI [.s true (cu row ws k),sS x]).bind _=_;rw[zZ4 h];rfl
end

section
variable{s t:Oe}{env:Ev}{p q:Bool}
theorem vAnd(h:asB s env=.ok (p,env))(k:p=true->oV t env=.ok (.bl q,env)):oV (oAnd s t) env=.ok (.bl (p && q),env):=by
 show(asB s env).bind _=_;rw[h];cases p with
 |true=>exact k rfl
 |false=>rfl
theorem vOr(h:asB s env=.ok (p,env))(k:p=false->oV t env=.ok (.bl q,env)):oV (oOr s t) env=.ok (.bl (p || q),env):=by
 show(asB s env).bind _=_;rw[h];cases p with
 |false=>exact k rfl
 |true=>rfl
theorem qWu(h:oV s env=.ok (.bl p,env)):asB s env=.ok (p,env):=by
 show(oV s env).bind _=_;rw[h];rfl
end
theorem leS1(a b:Nat):leS (.str ⟨#[a]⟩) (.str ⟨#[b]⟩)=some (.bl (decide (a<=b))):=by
 show some (D.bl (!decide ([b] < [a])))=_;have:(!decide ([b] < [a]))=decide (a<=b):=by rw[cK];simp[List.cons_lt_cons_iff]
 rw[this]
theorem chA{a c z:Nat}{m:Oe}(hm:evO m env=.ok (.d (.str ⟨#[c]⟩),env)):oV (oCh leS leS (oC (.str ⟨#[a]⟩)) m (oC (.str ⟨#[z]⟩))) env=.ok (.bl (decide (a<=c) && decide (c<=z)),env):=by
 show(evO m env).bind _=_;rw[hm];simp only[Res.bind,Hn.st,Bool.true_or,cond_true,rsv,opt,leS1,blOf];cases decide (a<=c) with
 |false=>rfl
 | true=>
   show Res.bind (opt (leS (.str ⟨#[c]⟩) (.str ⟨#[z]⟩))) (fun w=>Res.ok (w,env))=_;rw[leS1];rfl
theorem zXp(c:Nat)(l:List Nat):Txt.slice (S (c::l)) none (some 1)=S [c]:=by
 have h:=vKe (c::l) (a:=0) (b:=1) (by omega) (by rw[aW];omega);rw[show Txt.slice (S (c::l)) none (some 1)=Txt.slice (S (c::l)) (some ((0:Nat):Int)) (some ((1:Nat):Int)) from ?_]
 ·exact h
 ·unfold Txt.slice Builtin.Str.strSliceIndices;have:max (0:Int) (min 0 ((S (c::l)).length :Int))=0:=by omega
  simp[this]
noncomputable def yL(R:List Nat):Bool:=match R with
 |[]=>false
 |c::l=>(decide (48<=c) && decide (c<=57)) && (decide ((l.length:Int)+1<=12) && (decide (S (c::l)=S [48]) ||!decide (c=48)))
theorem jZh{R:List Nat}(hl:R.length<=1000):j6 [sS (S R)]=.ok (.fz (.bl (yL R)),[.un]):=by
 unfold j6;cases R with
 |nil=>rfl
 | cons c l=>
   have sl:vJf (oN 0) none (some (oV (oC (.int 1)))) [sS (S (c::l))]=.ok (.str ⟨#[c]⟩,[sS (S (c::l))]):=by
    show(opt (cond (decide ((S (c::l)).length <=aT)) (some (D.str (Txt.slice (S (c::l)) none (some 1)))) none)).bind _=_;rw[wT,decide_eq_true (aM hl (show 1000<=aT by decide)),zXp];rfl
   have t1:=chA (a:=48) (z:=57) (zY (XH:=.ok (.d (.str ⟨#[c]⟩),[sS (S (c::l))])) sl rfl);have t2:oV (oLe (oL lenD [(oN 0)]) (oC (.int 12))) [sS (S (c::l))]=.ok (.bl (decide ((l.length:Int)+1<=12)),[sS (S (c::l))]):=by
    have:lenD [.str (S (c::l))]=some (.int ((l.length:Int)+1)):=qKn hl;repeat' (first|array_get_dec|exact this)
   have t4:oV (o2 neF (oIx (oN 0) (oC (.int 0))) (oC (.str "0"))) [sS (S (c::l))]=.ok (.bl (!decide (c=48)),[sS (S (c::l))]):=by
    refine vY (h1:=.d (.bl (!decide (c=48)))) (qM (h1:=.d (.str ⟨#[c]⟩)) (h2:=.d (.str ⟨#[48]⟩)) (jH (h1:=.d (.str (S (c::l)))) (h2:=.d (.int (0:Nat))) rfl rfl rfl rfl ?_ rfl) rfl rfl rfl rfl ?_ rfl) rfl
    ·show(ixD (.str (S (c::l))) (.int (0:Nat))).map Hn.d=_;rw[zV9 (c:=c) rfl hl];rfl
    ·show some (D.bl (!decide (Str.mk #[c]=Str.mk #[48])))=_;have:decide (Str.mk #[c]=Str.mk #[48])=decide (c=48):=by rw[cK];simp
     rw[this]
   exact vB (xI (zX (vAnd (qWu t1) fun _=>vAnd (qWu t2) fun _=>vOr (p:=decide (S (c::l)=S [48])) rfl fun _=>t4) rfl) rfl) rfl
noncomputable def qZl(R:List Nat):Bool:=(decide (1<=(R.length:Int)) && decide ((R.length:Int)<=8)) && R.all fun c=>decide (97<=c) && decide (c<=122)
theorem vV4{α:Type}(f:α->Bool):∀l:List α,vVb (l.map fun c=>D.bl (f c))=some (l.map f)
 |[]=>rfl
 | c::l=>by
   show(vVb (l.map fun c=>D.bl (f c))).bind _=_;rw[vV4 f l];rfl
theorem zJr{R:List Nat}(hl:R.length<=1000):xP [sS (S R)]=.ok (.fz (.bl (qZl R)),[.un]):=by
 unfold xP;have hD:lenD [.str (S R)]=some (.int (R.length:Int)):=qKn hl;have t1:oV (oCh (c2 fun i j=>decide (i<=j)) (c2 fun i j=>decide (i<=j)) (oC (.int 1)) (oL lenD [(oN 0)]) (oC (.int 8))) [sS (S R)]=.ok (.bl (decide (1<=(R.length:Int)) && decide ((R.length:Int)<=8)),[sS (S R)]):=by
  have hm:evO (oL lenD [(oN 0)]) [sS (S R)]=.ok (.d (.int (R.length:Int)),[sS (S R)]):=by
   repeat' (first|array_get_dec|exact hD)
  show(evO (oL lenD [(oN 0)]) [sS (S R)]).bind _=_;rw[hm];show cond (decide (1<=(R.length:Int))) _ _=_;cases decide (1<=(R.length:Int)) <;> rfl
 have t2:oV (oL allD [(.v (fzS (compS 1 [] [0] (iS (oV (oN 0))) (gN 0) bTrue (oV (oCh leS leS (oC (.str "a")) (oN 0) (oC (.str "z")))))))]) [sS (S R)]=.ok (.bl (R.all fun c=>decide (97<=c) && decide (c<=122)),[sS (S R)]):=by
  obtain⟨e',h1,h2⟩:=compL_map (g:=gN 0) (el:=oV (oCh leS leS (oC (.str "a")) (oN 0) (oC (.str "z")))) (ds:=signsD (S R)) (env:=[.un]) (fun e=>e.length=1) (fun d=>match d with
   |.str ⟨⟨c::_⟩⟩=>.bl (decide (97<=c) && decide (c<=122))
   | _=> .non) (fun d e hd he=>by
     obtain⟨c,_,rfl⟩:=dL.mp hd;match e,he with
     |[y],_=>exact⟨[sS ⟨#[c]⟩],[sS ⟨#[c]⟩],rfl,chA rfl,rfl⟩) rfl
  match e',h2 with
  |[y],_=>
  have hv:(signsD (S R)).map (fun d=>match d with
   |.str ⟨⟨c::_⟩⟩=>D.bl (decide (97<=c) && decide (c<=122))
   |_=>.non)=R.map fun c=>D.bl (decide (97<=c) && decide (c<=122)):=by
   unfold signsD;rw[dY,vY4];rfl
  rw[hv]at h1;have hc:fzS (compS 1 [] [0] (iS (oV (oN 0))) (gN 0) bTrue (oV (oCh leS leS (oC (.str "a")) (oN 0) (oC (.str "z"))))) [sS (S R)]=.ok (.nd .lst (R.map fun c=>D.bl (decide (97<=c) && decide (c<=122))),[sS (S R)]):=by
   refine qX4 (ds:=signsD (S R)) (e:=[sS (S R)]) rfl ?_ h1 rfl;show(true && decide ((signsD (S R)).length <=lim))=true;rw[decide_eq_true];rfl;unfold signsD;rw[aP,vY4];exact aM hl (by decide)
  refine vY (h1:=.d (.bl (R.all fun c=>decide (97<=c) && decide (c<=122)))) (qYi (hs:=[.d (.nd .lst (R.map fun c=>D.bl (decide (97<=c) && decide (c<=122))))]) (xW (zY hc rfl) rfl rfl rfl) rfl ?_ rfl) rfl;show(vVb _).bind _=_;rw[vV4];show some (D.bl ((R.map _).all id))=_;rw[List.all_map];rfl
 exact vB (xI (zX (vAnd (qWu t1) fun _=>t2) rfl) rfl) rfl
noncomputable def zH:List Str:=["flip","pick","if","rest"]
theorem qK6(x:Str):∀ys:List Str,inV (.str x) (ys.map V.str)=ys.contains x
 |[]=>rfl
 | y::ys=>by
   show(eqV (.str y) (.str x) || inV (.str x) (ys.map V.str))=_;rw[qK6 x ys,bH];congr 1;unfold eqV;grind
theorem qX7:∀ys:List Str,allV (ys.map D.str)=some (ys.map V.str)
 |[]=>rfl
 | y::ys=>by
   show(toV (.str y)).bind _=_;rw[qX7 ys];rfl
theorem inSS(x:Str)(ys:List Str):inD (.str x) (.tup (ys.map D.str))=some (.bl (ys.contains x)):=by
 show((((allV (ys.map D.str)).bind fun vs=>some (inV (.str x) vs)))).map D.bl=_;rw[qX7];show some (D.bl (inV (.str x) (ys.map V.str)))=_;rw[qK6]
theorem niSS(x:Str)(ys:List Str):niD (.str x) (.tup (ys.map D.str))=some (.bl (!ys.contains x)):=by
 show((((allV (ys.map D.str)).bind fun vs=>some (inV (.str x) vs)))).map (fun b=>D.bl (!b))=_;rw[qX7];show some (D.bl (!inV (.str x) (ys.map V.str)))=_;rw[qK6]
noncomputable def vZn(R:List Nat):Bool:=qZl R &&!zH.contains (S R)
theorem name_ok{R:List Nat}(hl:R.length<=1000):yY [sS (S R)]=.ok (.fz (.bl (vZn R)),[.un]):=by
 have t1:asB (.v (fzS (qP xP [(.v (oV (oN 0)))]))) [sS (S R)]=.ok (qZl R,[sS (S R)]):=by
  refine qWu (zE (o:=.fz (.bl (qZl R))) ?_ rfl);show(xP [sS (S R)]).bind _=_;rw[zJr hl];rfl
 refine vB (xI (zX (vAnd t1 fun _=>?_) rfl) rfl) rfl;exact vY (h1:=.d (.bl (!zH.contains (S R)))) (qM (h1:=.d (.str (S R))) (h2:=.d (.tup [.str "flip",.str "pick",.str "if",.str "rest"])) rfl rfl rfl rfl rfl (niSS _ zH) rfl) rfl

inductive Pr where
 |ok (d:D) (r:List Str)|er|no
noncomputable def Pr.bind(x:Pr)(f:D->List Str->Pr):Pr:=match x with
 |.ok d r=>f d r
 |.er =>.er
 |.no =>.no
noncomputable def hd(r:List Str):Str:=r.headD ""
noncomputable def jG(w:Str):Bool:=yL w.cps.toList
noncomputable def x8(w:Str):Bool:=vZn w.cps.toList
noncomputable def valS(w:Str):Int:=(PySem.intText? w).getD 0
noncomputable def okW(ws:List Str):Prop:=ws.length<=100/\∀w∈ws,w.length<=1000/\(jG w=true->∃n,PySem.intText? w=some n)
theorem S_of(z:Str):S z.cps.toList=z:=by grind
section
variable{ws:List Str}{k:Nat}
theorem zL:ws.getD k ""=hd (ws.drop k):=by
 unfold hd;simp_all
theorem zD:ws.drop (k+1)=(ws.drop k).tail :=by simp_all
theorem okW.at(h:okW ws)(k:Nat):(ws.getD k "").length <=1000/\(jG (ws.getD k "")=true->∃n,PySem.intText? (ws.getD k "")=some n):=by
 by_cases z:k<ws.length
 ·rw [bI,aI z];exact h.2 _ (List.getElem_mem z)
 ·rw [bI,List.getElem?_eq_none (by omega)];exact⟨by decide,fun q=>by cases q⟩
theorem qYo(hw:w.length<=1000)(h:env[i]?=some (sS w)):asB (.v (fzS (qP yY [(.v (oV (oN i)))]))) env=.ok (x8 w,env):=by
 refine qWu (zE (o:=.fz (.bl (x8 w))) ?_ rfl);have v:oV (oN i) env=.ok (.str w,env):=by
  show(opt (qZb i env)).bind _=_;unfold qZb;rw[h];rfl
 refine zF (wS v rfl rfl) ?_
 show(yY [sS w]).bind _=_;have:=name_ok (R:=w.cps.toList) (by rw[dX];exact hw);rw[this];rfl
theorem vQl(hw:w.length<=1000)(h:env[i]?=some (sS w)):asB (.v (fzS (qP j6 [(.v (oV (oN i)))]))) env=.ok (jG w,env):=by
 refine qWu (zE (o:=.fz (.bl (jG w))) ?_ rfl);have v:oV (oN i) env=.ok (.str w,env):=by
  show(opt (qZb i env)).bind _=_;unfold qZb;rw[h];rfl
 refine zF (wS v rfl rfl) ?_
 show(j6 [sS w]).bind _=_;have:=jZh (R:=w.cps.toList) (by rw[dX];exact hw);rw[this];rfl
end
noncomputable def Told(F:Ev->Res (O×Ev))(mk:O->Ev)(out:O->Ev)(row:Int)(ws:List Str)(k:Nat):Pr->Prop
 |.ok d r=>∃k',ws.drop k' =r/\F (mk (cu row ws k))=.ok (.fz d,out (cu row ws k'))
 |.er =>F (mk (cu row ws k))=er row
 |.no =>True
noncomputable def Rd(F:Fn)(p:List Str->Pr):Prop:=∀row ws k,okW ws->Told F (fun o=> [.s true o]) (fun o=> [.s true o]) row ws k (p (ws.drop k))
noncomputable def pName'(r:List Str):Pr:=cond (x8 (hd r)) (.ok (.str (hd r)) r.tail) .er
noncomputable def pNum(lo hi:Int)(r:List Str):Pr:=cond (jG (hd r) && (decide (lo<=valS (hd r)) && decide (valS (hd r)<=hi))) (.ok (.int (valS (hd r))) r.tail) .er
theorem qJd:Rd zU pName' :=by
 intro row ws k hw;have h1:=(hw.at k).1;rw[zL]at h1;have m:=qKl (row:=row) (ws:=ws) (k:=k) (b:=true) (e:=[.un]);rw[zL]at m;have t:=qYo (env:=[.s true (cu row ws (k+1)),sS (hd (ws.drop k))]) (i:=1) h1 rfl;unfold pName';cases q:x8 (hd (ws.drop k)) with
 | true=>
   rw[q]at t;refine⟨k+1,zD,?_⟩;exact vB (qU m (qW (q:=false) (not_of t rfl) rfl)) rfl
 | false=>
   rw[q]at t;exact wM (qU m (qW (q:=true) (not_of t rfl) rfl))
theorem jZi{ws:List Str}(hw:okW ws):Told vX (fun o=> [.s true o,sN lo,sN hi]) (fun o=> [.s true o,.un,.un]) row ws k (pNum lo hi (ws.drop k)):=by
 have h1:=hw.at k;rw[zL]at h1;have m:=qKl (row:=row) (ws:=ws) (k:=k) (b:=true) (e:=[sN lo,sN hi,.un]);rw[zL]at m;have t:=vQl (env:=[.s true (cu row ws (k+1)),sN lo,sN hi,sS (hd (ws.drop k))]) (i:=3) h1.1 rfl;unfold pNum;cases q:jG (hd (ws.drop k)) with
 | false=>
   rw[q]at t;show vX _=_;unfold vX;exact wM (qU m (qW (q:=true) (yB (not_of t rfl) rfl) rfl))
 | true=>
   rw[q]at t;obtain⟨n,hn⟩:=h1.2 q;have hv:valS (hd (ws.drop k))=n:=by unfold valS;rw[hn];rfl
   have hl:(hd (ws.drop k)).length <=640:=by
    have:yL (hd (ws.drop k)).cps.toList=true:=q;unfold yL at this;show(hd (ws.drop k)).cps.size<=640;rw[←dX];split at this
    ·cases this
    ·rename_i c l e;simp only[aF,decide_eq_true_eq]at this;rw[e,aW];omega
   have iv:qJq [.str (hd (ws.drop k))]=some (.int n):=by
    show cond (decide ((hd (ws.drop k)).length <=640)) _ _=_;rw[decide_eq_true hl,hn];rfl
   have t2:asB (oCh (c2 fun i j=>decide (i<=j)) (c2 fun i j=>decide (i<=j)) (oN 1) (oL qJq [(oN 3)]) (oN 2)) [.s true (cu row ws (k+1)),sN lo,sN hi,sS (hd (ws.drop k))]=.ok (decide (lo<=n) && decide (n<=hi),[.s true (cu row ws (k+1)),sN lo,sN hi,sS (hd (ws.drop k))]):=by
    refine qWu ?_
    have hm:evO (oL qJq [(oN 3)]) [.s true (cu row ws (k+1)),sN lo,sN hi,sS (hd (ws.drop k))]=.ok (.d (.int n),[.s true (cu row ws (k+1)),sN lo,sN hi,sS (hd (ws.drop k))]):=by
     repeat' (first|array_get_dec|exact iv)
    show(evO (oL qJq [(oN 3)]) [.s true (cu row ws (k+1)),sN lo,sN hi,sS (hd (ws.drop k))]).bind _=_;rw[hm];show cond (decide (lo<=n)) _ _=_;cases decide (lo<=n) <;> rfl
   rw[hv];cases q2:decide (lo<=n) && decide (n<=hi) with
   | true=>
     rw[q2]at t2;refine⟨k+1,zD,?_⟩;unfold vX;refine vB (qU m (qW (q:=false) (yB (not_of t rfl) (not_of t2 rfl)) (qE (xI (zX (vY (h1:=.d (.int n)) (qYi (hs:=[.d (.str (hd (ws.drop k)))]) rfl rfl iv rfl) rfl) rfl) rfl)))) rfl
   | false=>
     rw[q2]at t2;show vX _=_;unfold vX;exact wM (qU m (qW (q:=true) (yB (not_of t rfl) (not_of t2 rfl)) rfl))

section
variable{env:Ev}{a:SE}{v:SV}{ss:List SV}{i C:Nat}{fs:List (Str×D)}{d:D}{e:Ev}
theorem qZh(h:a env=.er C fs):sSet i a env=.er C fs:=by unfold sSet;rw[h];rfl
theorem qWz(h:a env=.er C fs):sExpr a env=.er C fs:=by unfold sExpr;rw[h];rfl
theorem zZu(h:a env=.er C fs):sRet a env=.er C fs:=by unfold sRet;rw[h];rfl
theorem jQh(h:v env=.er C fs):owS v env=.er C fs:=by unfold owS;rw[h];rfl
theorem zZb(h:a env=.er C fs):fzS a env=.er C fs:=by unfold fzS;rw[h];rfl
theorem zZd(h:v env=.er C fs):evVs (v::ss) env=.er C fs:=by show(v env).bind _=_;rw[h];rfl
theorem jJi(h:v env=.ok (d,e))(k:evVs ss e=.er C fs):evVs (v::ss) env=.er C fs:=by
 show(v env).bind _=_;rw[h];show(evVs ss e).bind _=_;rw[k];rfl
theorem zZg(h:evVs ss env=.er C fs):svTup ss env=.er C fs:=by unfold svTup;rw[h];rfl
end
section
variable{F:Fn}{p:List Str->Pr}{row:Int}{ws:List Str}{k:Nat}{b:Bool}{e:Ev}
theorem Rd.call(h:Rd F p)(hw:okW ws):Told (qP F [.io 0]) (fun o=>.s b o::e) (fun o=>.s b o::e) row ws k (p (ws.drop k)):=by
 have:=h row ws k hw;unfold Told at this⊢;split at this
 ·obtain⟨k',h1,h2⟩:=this;refine⟨k',h1,?_⟩;unfold qP;show(F [.s true (cu row ws k)]).bind _=_;rw[h2];rfl
 ·unfold qP;show(F [.s true (cu row ws k)]).bind _=_;rw[this];rfl
 ·trivial
theorem qQ9(hw:okW ws)(h1:v1 (.s b (cu row ws k)::e)=.ok (.int lo,.s b (cu row ws k)::e))(h2:v2 (.s b (cu row ws k)::e)=.ok (.int hi,.s b (cu row ws k)::e)):
  Told (qP vX [.io 0,.v v1,.v v2]) (fun o=>.s b o::e) (fun o=>.s b o::e) row ws k (pNum lo hi (ws.drop k)):=by
 have:=jZi (row:=row) (k:=k) (lo:=lo) (hi:=hi) hw;have ev:evOs (([.io 0,.v v1,.v v2]:List Am).map Am.o) (.s b (cu row ws k)::e)=.ok ([.p 0 [],.d (.int lo),.d (.int hi)],.s b (cu row ws k)::e):=vXl rfl (wS h1 (wS h2 rfl rfl) rfl) rfl;unfold Told at this⊢;split at this
 ·obtain⟨k',h3,h4⟩:=this;refine⟨k',h3,zF ev ?_⟩;show(vX [.s true (cu row ws k),sN lo,sN hi]).bind _=_;rw[h4];rfl
 ·refine zF ev ?_
  show(vX [.s true (cu row ws k),sN lo,sN hi]).bind _=_;rw[this];rfl
 ·trivial
end
noncomputable def pSk(x:Str)(r:List Str)(f:List Str->Pr):Pr:=cond (decide (hd r=x)) (f r.tail) .er
theorem zJ9{r:List Str}(h:pNum lo hi r=.ok d r'):d=.int (valS (hd r))/\r' =r.tail:=by
 unfold pNum at h;cases q:jG (hd r) && (decide (lo<=valS (hd r)) && decide (valS (hd r)<=hi)) <;> rw[q]at h <;> cases h
 exact⟨rfl,rfl⟩
noncomputable abbrev tg(x:Str)(ds:List D):D:=.tup (.str x::ds)
noncomputable def jWh:D->Int
 |.int i=>i
 |_=>0
noncomputable def okE(n:Nat)(e:Ev):Prop:=e.length=n/\∀s∈e,vZa s=.un
theorem okE.outs:∀{j n:Nat} {e:Ev},okE n e->j<=n->outs j e=List.replicate j .un
 | 0,_,_,_,_=>rfl
 |j+1,n,[],h,hj=>by have:=h.1;simp at this;omega
 | j + 1,n,s::e,h,hj=>by
   show vZa s::DX.outs j e=_;rw[h.2 s (aA ..),okE.outs (n:=e.length) ⟨rfl,fun z hz=>h.2 z (aB _ hz)⟩ (by have:=h.1;rw[aW]at this;omega)];rfl
noncomputable def okB(e:Ev):Bool:=e.all fun s=>match vZa s with
 |.un =>true
 |_=>false
theorem yF{e:Ev}(h:okB e=true):okE e.length e:=⟨rfl,fun s hs=>by
 have:=List.all_eq_true.mp h s hs;cases s with
 |un=>rfl
 |s b o=>cases b <;> first|rfl|cases this⟩
noncomputable def jK(s:SS)(e:Ev)(row:Int)(ws:List Str)(k:Nat):Pr->Prop
 |.ok d r=>∃k' e',ws.drop k' =r/\okE e.length e' /\s (.s true (cu row ws k)::e)=.ok (.rt (.fz d) (.s true (cu row ws k')::e'))
 |.er =>s (.s true (cu row ws k)::e)=er row
 |.no =>True
section
variable{s t:SS}{e:Ev}{row:Int}{ws:List Str}{k i:Nat}{x:Pr}{f:D->List Str->Pr}{a:SE}{w:Str}{d:D}{vs:List SV}{ds:List D}{q:Bool}{b:ST}{y:Pr}
theorem fnTn{zs:Ev}(h:jK s (zs ++ List.replicate m .un) row ws k x):Told (fnS (zs.length+1) m s) (fun o=>.s true o::zs) (fun o=>.s true o::List.replicate zs.length .un) row ws k x:=by
 cases x with
 | ok d r=>
   obtain⟨k',e',h1,h0,h2⟩:=h;refine⟨k',h1,vB h2 ?_⟩;show Res.ok (_,_::outs zs.length e')=_;rw[h0.outs (by rw[aJ];omega)];rfl
 |er=>exact wM h
 |no=>trivial
theorem fnT(h:jK s (List.replicate m .un) row ws k x):Told (fnS 1 m s) (fun o=> [.s true o]) (fun o=> [.s true o]) row ws k x:=fnTn (zs:=[]) h
theorem goT{s' :SS}{k2:Nat}(h:∀z,s' (.s true (cu row ws k2)::e2)=z->s (.s true (cu row ws k)::e)=z)(hl:e2.length=e.length)(c:jK s' e2 row ws k2 x):jK s e row ws k x:=by
 cases x with
 |ok d r=>obtain⟨k',e',h1,h0,h2⟩:=c;exact⟨k',e',h1,hl▸h0,h _ h2⟩
 |er=>exact h _ c
 |no=>trivial
theorem setT(h:Told a (fun o=>.s true o::e) (fun o=>.s true o::e) row ws k x)(c:∀d k',x=.ok d (ws.drop k')->jK t (e.set i (fz d)) row ws k' (f d (ws.drop k'))):jK (sSeq (sSet (i+1) a) t) e row ws k (x.bind f):=by
 cases x with
 | ok d r=>
   obtain⟨k',rfl,h2⟩:=h;exact goT (fun z hz=>qU h2 hz) cW (c d k' rfl)
 |er=>exact wI (qZh h)
 |no=>trivial
theorem qJp(c:hd (ws.drop k)=w->jK t e row ws (k+1) (g (ws.drop (k+1)))):jK (sSeq (sExpr (vF 9 "need" qI (.io 0) [.v (oV (oC (.str w)))])) t) e row ws k (pSk w (ws.drop k) g):=by
 unfold pSk;by_cases h:hd (ws.drop k)=w
 ·rw [decide_eq_true h,←zD];exact goT (fun z hz=>qQ7 (zWi (zL.trans h)) hz) rfl (c h)
 ·rw [decide_eq_false h];exact wI (qWz (zWj fun z=>h (zL.symm.trans z)))
theorem retT(h:a (.s true (cu row ws k)::e)=.ok (.fz d,.s true (cu row ws k)::e))(ho:okB e=true:=by rfl):jK (sRet a) e row ws k (.ok d (ws.drop k)):=⟨k,e,rfl,yF ho,xI h rfl⟩
theorem retC(h:Told a (fun o=>.s true o::e) (fun o=>.s true o::e) row ws k x)(ho:okB e=true:=by rfl):jK (sRet a) e row ws k x:=by
 cases x with
 |ok d r=>obtain⟨k',h1,h2⟩:=h;exact⟨k',e,h1,yF ho,xI h2 rfl⟩
 |er=>exact zZu h
 |no=>trivial
theorem qX5:∀{vs:List SV} {env e1 e2:Ev} {us:List D} {d:D},evVs vs env=.ok (us,e1)->v e1=.ok (d,e2)->evVs (vs ++ [v]) env=.ok (us ++ [d],e2)
 |[],env,e1,e2,us,d,h,k=>by cases h;exact qT k rfl rfl
 | u::vs,env,e1,e2,us,d,h,k=>by
   change (u env).bind _=_ at h;cases q:u env with
   |no=>rw[q]at h;cases h
   |er C fs=>rw[q]at h;cases h
   | ok r=>
     rw[q]at h;change (evVs vs r.2).bind _=_ at h;cases q2:evVs vs r.2 with
     |no=>rw[q2]at h;cases h
     |er C fs=>rw[q2]at h;cases h
     |ok r2=>rw[q2]at h;cases h;exact qT q (qX5 q2 k) rfl
theorem qWi{fs:List (Str×D)}:∀{vs:List SV} {env e1:Ev} {us:List D},evVs vs env=.ok (us,e1)->v e1=.er C fs->evVs (vs ++ [v]) env=.er C fs
 |[],env,e1,us,h,k=>by cases h;exact zZd k
 | u::vs,env,e1,us,h,k=>by
   change (u env).bind _=_ at h;cases q:u env with
   |no=>rw[q]at h;cases h
   |er C fs=>rw[q]at h;cases h
   | ok r=>
     rw[q]at h;change (evVs vs r.2).bind _=_ at h;cases q2:evVs vs r.2 with
     |no=>rw[q2]at h;cases h
     |er C fs=>rw[q2]at h;cases h
     |ok r2=>rw[q2]at h;cases h;exact jJi q (qWi q2 k)
theorem qVg(h:Told a (fun o=>.s true o::e) (fun o=>.s true o::e) row ws k x)(hv:evVs vs (.s true (cu row ws k)::e)=.ok (us,.s true (cu row ws k)::e):=by rfl)(hl:us.length<=100:=by simp)(ho:okB e=true:=by rfl):
  jK (sRet (owS (svTup (vs ++ [fzS a])))) e row ws k (x.bind fun d r=>.ok (.tup (us ++ [d])) r):=by
 cases x with
 | ok d r=>
   obtain⟨k',h1,h2⟩:=h;exact⟨k',e,h1,yF ho,xI (zX (yD (qX5 hv (zE h2 rfl)) (decide_eq_true (by rw[aJ];show us.length+1<=1000;omega)) rfl) rfl) rfl⟩
 |er=>exact zZu (jQh (zZg (qWi hv (zZb h))))
 |no=>trivial
theorem tupT(h:Told a (fun o=>.s true o::e) (fun o=>.s true o::e) row ws k x)(hv:evVs vs (.s true (cu row ws k)::e)=.ok (us,.s true (cu row ws k)::e))(hl:us.length<=100):
  Told (owS (svTup (vs ++ [fzS a]))) (fun o=>.s true o::e) (fun o=>.s true o::e) row ws k (x.bind fun d r=>.ok (.tup (us ++ [d])) r):=by
 cases x with
 | ok d r=>
   obtain⟨k',h1,h2⟩:=h;exact⟨k',h1,zX (yD (qX5 hv (zE h2 rfl)) (decide_eq_true (by rw[aJ];show us.length+1<=1000;omega)) rfl) rfl⟩
 |er=>exact jQh (zZg (qWi hv (zZb h)))
 |no=>trivial
theorem ifT(h:b (.s true (cu row ws k)::e)=.ok (q,.s true (cu row ws k)::e))(c1:q=true->jK s e row ws k x)(c2:q=false->jK t e row ws k y):jK (sSeq (sIf b s sNil) t) e row ws k (cond q x y):=by
 cases q with
 | true=>
   have:=c1 rfl;cases x with
   |ok d r=>obtain⟨k',e',h1,h0,h2⟩:=this;exact⟨k',e',h1,h0,qW h (qKf h2 rfl)⟩
   |er=>exact qW h (wI this)
   |no=>trivial
 |false=>exact goT (fun z hz=>qW h (qE hz)) rfl (c2 rfl)
theorem qJ0:jK (zS 23 "row" (oV (oFld [9] "row" (oN 0)))) e row ws k .er :=rfl
theorem jQn(c:jK t (e.set i (sS (hd (ws.drop k)))) row ws (k+1) y):jK (sSeq (sSet (i+1) (vF 9 "next_word" vW (.io 0) [])) t) e row ws k y:=by
 have m:=qKl (row:=row) (ws:=ws) (k:=k) (b:=true) (e:=e);rw[zL]at m;exact goT (fun z hz=>qU m hz) cW c
theorem jJ3(c1:hd (ws.drop k)=w->jK s e row ws (k+1) (g (ws.drop (k+1))))(c2:hd (ws.drop k)≠w->jK t e row ws k y):jK (sSeq (sIf (asB (.v (fzS (vF 9 "passed" vQ (.io 0) [(.v (oV (oC (.str w))))])))) s sNil) t) e row ws k (cond (decide (hd (ws.drop k)=w)) (g (ws.drop k).tail) y):=by
 have m:=qK1 (row:=row) (ws:=ws) (k:=k) (b:=true) (e:=e) (x:=w);rw[zL]at m;by_cases h:hd (ws.drop k)=w
 ·rw [decide_eq_true h,if_pos h] at m;rw[decide_eq_true h,←zD];have tt:=vM (q:=true) (XB:=.ok (true,.s true (cu row ws (k+1))::e)) (vY (zY (zE m rfl) rfl) rfl) rfl rfl;have:=c1 h;show jK _ _ _ _ _ (g (ws.drop (k+1)));cases z:g (ws.drop (k+1)) with
  |ok d r=>rw[z]at this;obtain⟨k',e',h1,h0,h2⟩:=this;exact⟨k',e',h1,h0,qW tt (qKf h2 rfl)⟩
  |er=>rw[z]at this;exact qW tt (wI this)
  |no=>trivial
 ·rw [decide_eq_false h,if_neg h] at m;rw[decide_eq_false h];have tt:=vM (q:=false) (XB:=.ok (false,.s true (cu row ws k)::e)) (vY (zY (zE m rfl) rfl) rfl) rfl rfl;exact goT (fun z hz=>qW tt (qE hz)) rfl (c2 h)
end
noncomputable def pFlip(r:List Str):Pr:=(pNum 1 1000000 r).bind fun a r=>pSk "/" r fun r=>(pNum (jWh a+1) 1000000 r).bind fun c r=>pSk ")" r fun r=>.ok (tg "flip" [a,c]) r
theorem zX1:Rd qZ2 pFlip:=fun row ws k hw=>fnT (setT (qQ9 hw rfl rfl) fun d k1 q1=>by
 obtain⟨rfl,_⟩:=zJ9 q1;exact qJp fun _=>setT (qQ9 hw rfl rfl) fun d k2 q2=>qJp fun _=>retT rfl)
noncomputable def pOut(r:List Str):Pr:=(pNum 0 999999999999 r).bind fun a r=>pSk ":" r fun r=>(pNum 1 1000000 r).bind fun c r=>.ok (.tup [a,c]) r
theorem jVf:Rd j9 pOut:=fun row ws k hw=>fnT (setT (qQ9 hw rfl rfl) fun d k1 q1=>qJp fun _=>qVg (vs:=[oV (oN 1)]) (us:=[d]) (qQ9 hw rfl rfl))
noncomputable def jQg(T:List Str->Pr)(r:List Str):Pr:=(T r).bind fun t r=>pSk "," r fun r=>(pNum 1 999999999999 r).bind fun c r=>pSk ")" r fun r=>.ok (tg "rest" [t,c]) r
noncomputable def qQs(T:List Str->Pr)(r:List Str):Pr:=(pName' r).bind fun n r=>pSk ":" r fun r=>(T r).bind fun t r=>.ok (.tup [n,t]) r
section
variable{R:Fn}{T:List Str->Pr}
theorem zXz(h:Rd R T):Rd (qZ0 R) (jQg T):=fun row ws k hw=>fnT (setT (h.call hw) fun d k1 q1=>qJp fun _=>setT (qQ9 hw rfl rfl) fun d k2 q2=>qJp fun _=>retT rfl)
theorem zJx(h:Rd R T):Rd (wN R) (qQs T):=fun row ws k hw=>fnT (setT (qJd.call hw) fun d k1 q1=>qJp fun _=>qVg (vs:=[oV (oN 1)]) (us:=[d]) (h.call hw))
end

noncomputable def lenT:D->Int
 |.nd _ ds=>ds.length
 |_=>0
noncomputable def qJo(p:List Str->Pr):Nat->List D->List Str->Pr
 | 0,_,_=>.no
 |n+1,ds,r=>cond (decide (hd r=",")) ((p r.tail).bind fun d r=>qJo p n (ds ++ [d]) r) (.ok (.tup ds) r)
noncomputable def qQ1(p:List Str->Pr)(close:Str)(most:Int)(r:List Str):Pr:=cond (decide (hd r=close)) (.ok (.tup []) r.tail)
 ((p r).bind fun d r=>(qJo p 100 [d] r).bind fun t r=>pSk close r fun r=>cond (decide (lenT t > most)) .er (.ok t r))
noncomputable abbrev tbl(R:Fn):List (Nat×Fn):=[(30,R),(31,j9),(32,(wN R)),(33,zU)]
section
variable{R G:Fn}{p:List Str->Pr}{row:Int}{ws:List Str}{k j:Nat}{close:Str}{most:Int}{y:Slot}
noncomputable abbrev le(close:Str)(most:Int)(j:Nat)(y:Slot):Ev:=[sS close,sN most,fz (.fn j),y]
theorem vK8(hG:(tbl R).lookup j=some G)(h:Rd G p)(hw:okW ws):Told (vVa (tbl R) 3 [.io 0]) (fun o=>.s true o::le close most j y) (fun o=>.s true o::le close most j y) row ws k (p (ws.drop k)):=by
 have:=h.call (row:=row) (k:=k) (b:=true) (e:=le close most j y) hw;have e1:∀o,vVa (tbl R) 3 [.io 0] (.s true o::le close most j y)=qP G [.io 0] (.s true o::le close most j y):=fun o=>by
  show(match(tbl R).lookup j with
   |some F=>qP F [.io 0] (.s true o::le close most j y)
   |none=>.no)=_
  rw[hG]
 unfold Told at this⊢;rw[e1];exact this
noncomputable abbrev fl(ds:List D):Slot:=.s false (.ow .lst (ds.map .fz))
theorem jZk{s:SP}{a:SE}{f:List O->O->Option (O×List O)}{π:List Nat}{os:List O}{fs:List (Str×D)}(h:s env=some (.p i π))(h0:qZd env i π=some os)(h1:a env=.er C fs):eMu1 s a f env=.er C fs:=by
 unfold eMu1;rw[h];show(opt (qZd env i π)).bind _=_;rw[h0];rw[h1];rfl
theorem vJu{t:ST}{s:SS}{n:Nat}{fs:List (Str×D)}(h:t env=.ok (true,e1))(h2:s e1=.er C fs):v5 t s (n+1) env=.er C fs:=by
 show(t env).bind _=_;rw[h];show(s e1).bind _=_;rw[h2];rfl
noncomputable abbrev vQ8(w:Str):ST:=asB (.v (fzS (vF 9 "passed" vQ (.io 0) [(.v (oV (oC (.str w))))])))
theorem qY3{e:Ev}(h:hd (ws.drop k)=w):vQ8 w (.s true (cu row ws k)::e)=.ok (true,.s true (cu row ws (k+1))::e):=by
 have m:=qK1 (row:=row) (ws:=ws) (k:=k) (b:=true) (e:=e) (x:=w);rw[zL,decide_eq_true h,if_pos h]at m;exact vM (vY (zY (zE m rfl) rfl) rfl) rfl rfl
theorem vZl{e:Ev}(h:hd (ws.drop k)≠w):vQ8 w (.s true (cu row ws k)::e)=.ok (false,.s true (cu row ws k)::e):=by
 have m:=qK1 (row:=row) (ws:=ws) (k:=k) (b:=true) (e:=e) (x:=w);rw[zL,decide_eq_false h,if_neg h]at m;exact vM (vY (zY (zE m rfl) rfl) rfl) rfl rfl
theorem zZ5(hG:(tbl R).lookup j=some G)(h:Rd G p)(hw:okW ws):∀(n m:Nat) (ds:List D) (k:Nat),n<=m->ds.length+n<=1000->(match qJo p n ds (ws.drop k) with
  |.ok t r=>∃ds' k',t=.tup ds' /\ds'.length<=1000/\ws.drop k' =r/\v5 (vQ8 ",") (wW R) m (.s true (cu row ws k)::le close most j (fl ds))=.ok (.nx (.s true (cu row ws k')::le close most j (fl ds')))
  |.er =>v5 (vQ8 ",") (wW R) m (.s true (cu row ws k)::le close most j (fl ds))=er row
  |.no =>True)
 | 0,m,ds,k,_,_=>trivial
 |n+1,0,ds,k,hm,_=>by omega
 | n + 1,m + 1,ds,k,hm,hd' =>by
   unfold qJo;by_cases hc:hd (ws.drop k)=","
   ·rw [decide_eq_true hc,←zD];have c1:=vK8 (row:=row) (k:=k+1) (close:=close) (most:=most) (y:=fl ds) hG h hw;cases q:p (ws.drop (k+1)) with
    |no=>trivial
    | er=>
      rw[q]at c1;exact vJu (qY3 hc) (qWz (jZk (i:=4) (π:=[]) (os:=ds.map .fz) rfl rfl c1))
    | ok d r=>
      rw[q]at c1;obtain⟨k1,rfl,c1⟩:=c1;have ih:=zZ5 hG h hw n m (ds ++ [d]) k1 (by omega) (by rw[aJ];show ds.length+1+n<=1000;omega);have step:v5 (vQ8 ",") (wW R) (m+1) (.s true (cu row ws k)::le close most j (fl ds))=v5 (vQ8 ",") (wW R) m (.s true (cu row ws k1)::le close most j (fl (ds ++ [d]))):=by
       refine qYy (qY3 hc) ?_
       refine qWy (qKk (i:=4) (π:=[]) (os0:=ds.map .fz) (os:=ds.map .fz) rfl rfl c1 rfl rfl (z:=(.fz .non,ds.map .fz ++ [.fz d])) ?_ rfl) ?_
       ·unfold apF;rw[decide_eq_true (show(ds.map O.fz).length <=lim from by rw[aP];exact aM (show ds.length<=1000 by omega) (by decide))];rfl
       ·show Res.ok (Out.nx [_,_,_,_, .s false (.ow .lst (ds.map .fz ++ [.fz d]))])=Res.ok (Out.nx [_,_,_,_, .s false (.ow .lst ((ds ++ [d]).map .fz))]);rw[dD];rfl
      rw[step];exact ih
   ·rw [decide_eq_false hc];exact⟨ds,k,rfl,by omega,rfl,qWv (vZl hc)⟩
theorem zY3(hG:(tbl R).lookup j=some G)(h:Rd G p)(hw:okW ws):Told (j5 R) (fun o=> [.s true o,sS close,sN most,fz (.fn j)]) (fun o=> [.s true o,.un,.un,.un]) row ws k (qQ1 p close most (ws.drop k)):=by
 refine fnTn (zs:=[sS close,sN most,fz (.fn j)]) (m:=1) ?_
 unfold qQ1;have m:=qX0 (row:=row) (ws:=ws) (k:=k) (b:=true) (e:=[sN most,fz (.fn j),.un]) (x:=close);rw[zL]at m;by_cases hc:hd (ws.drop k)=close
 ·rw [decide_eq_true hc,if_pos hc] at m;rw[decide_eq_true hc,←zD];have tt:=vM (q:=true) (XB:=.ok (true,.s true (cu row ws (k+1))::le close most j .un)) (vY (zY (zE m rfl) rfl) rfl) rfl rfl;exact⟨k+1,le close most j .un,rfl,yF rfl,qW tt (qKf rfl rfl)⟩
 ·rw [decide_eq_false hc,if_neg hc] at m;rw[decide_eq_false hc];have tt:=vM (q:=false) (XB:=.ok (false,.s true (cu row ws k)::le close most j .un)) (vY (zY (zE m rfl) rfl) rfl) rfl rfl;refine goT (fun z hz=>qW tt (qE hz)) rfl ?_
  have c1:=vK8 (row:=row) (k:=k) (close:=close) (most:=most) (y:=.un) hG h hw;cases q:p (ws.drop k) with
  |no=>trivial
  |er=>rw[q]at c1;exact wI (qZh (show eLst [_] _=_ by unfold eLst;rw[zZd (zZb c1)];rfl))
  | ok d r=>
    rw[q]at c1;obtain⟨k1,rfl,c1⟩:=c1;refine goT (e2:=le close most j (fl [d])) (k2:=k1) (fun z hz=>qU (vXg (ds:=[d]) (qT (zE c1 rfl) rfl rfl) rfl rfl) hz) rfl ?_
    have lp:=zZ5 (row:=row) (close:=close) (most:=most) hG h hw 100 100000 [d] k1 (by decide) (by show 1+100<=1000;decide);show jK _ _ _ _ _ ((qJo p 100 [d] (ws.drop k1)).bind _);cases q2:qJo p 100 [d] (ws.drop k1) with
    |no=>trivial
    |er=>rw[q2]at lp;exact wI lp
    | ok t r=>
      rw[q2]at lp;obtain⟨ds',k2,rfl,hl,rfl,lp⟩:=lp;refine goT (e2:=le close most j (fl ds')) (k2:=k2) (fun z hz=>jX lp hz) rfl ?_
      dsimp only[Pr.bind,pSk];by_cases hx:hd (ws.drop k2)=close
      ·rw [decide_eq_true hx,←zD];refine goT (e2:=le close most j (fl ds')) (k2:=k2+1) (fun z hz=>qQ7 (zQ0 (zL.trans hx)) hz) rfl ?_
       refine ifT (q:=decide (lenT (.tup ds') > most)) ?_ (fun _=>qJ0) fun _=>retT ?_
       ·show Res.ok (decide (((fzOs (ds'.map .fz)).length :Int) > most),_)=_;rw[qJf];rfl
       ·refine zX (d:= .tup ds') (e:= .s true (cu row ws (k2 + 1))::le close most j (fl ds')) ?_ rfl;have e1:(ds'.map O.fz).map (fun o=>O.fz (fzO o))=ds'.map .fz :=by rw[dY];rfl
        show((opt (tupleD [.nd .lst (fzOs (ds'.map .fz))])).bind fun z=>Res.ok (z,Slot.s true (cu row ws (k2+1)):: [sS close,sN most,fz (.fn j),.s false (.ow .lst ((ds'.map O.fz).map fun o=>O.fz (fzO o)))]))=_;rw[qJf,e1];rfl
      ·rw [decide_eq_false hx];exact wI (qWz (zQ1 fun z=>hx (zL.symm.trans z)))
end

section
variable{R G:Fn}{p:List Str->Pr}{row:Int}{ws:List Str}{k j:Nat}{close:Str}{most:Int}{e:Ev}
theorem vJq{F:Fn}{zs:List D}{x:Pr}{b:Bool}(hv:∀o,evOs ((vs.map Am.v).map Am.o) (.s b o::e)=.ok (zs.map .d,.s b o::e))(hl:vs.length=zs.length)(h:Told F (fun o=>.s true o::zs.map fz) (fun o=>.s true o::List.replicate zs.length .un) row ws k x):
  Told (qP F (.io 0::vs.map .v)) (fun o=>.s b o::e) (fun o=>.s b o::e) row ws k x:=by
 have key:∀(vs:List SV) (zs:List D),vs.length=zs.length->zI (.io 0::vs.map .v) (.p 0 []::zs.map .d)=[]/\wC (.io 0::vs.map .v) (.p 0 []::zs.map .d)=[0]/\∀o,jN [] [] (.io 0::vs.map .v) (.p 0 []::zs.map .d) [o]=some (.s true o::zs.map fz):=by
  have k1:∀(vs:List SV) (zs:List D),vs.length=zs.length->zI (vs.map .v) (zs.map .d)=[]/\wC (vs.map .v) (zs.map .d)=[]/\jN [] [] (vs.map .v) (zs.map .d) []=some (zs.map fz):=by
   intro vs;induction vs with
   |nil=>intro zs h;cases zs <;> first|exact⟨rfl,rfl,rfl⟩|cases h
   | cons v vs ih=>
     intro zs h;cases zs with
     |nil=>cases h
     | cons z zs=>
       obtain⟨a,b,c⟩:=ih zs (Nat.succ.inj h);refine⟨a,b,?_⟩;show(jN [] [] (vs.map .v) (zs.map .d) []).bind _=_;rw[c];rfl
  intro vs zs h;obtain⟨a,b,c⟩:=k1 vs zs h;refine⟨a,by show 0::wC _ _=_;rw[b],fun o=>?_⟩;show(jN [] [] (vs.map .v) (zs.map .d) []).bind _=_;rw[c];rfl
 have out:∀(vs:List SV) (zs:List D),vs.length=zs.length->∀o,qV5 (.io 0::vs.map .v) (.s true o::List.replicate zs.length .un)=some [o]:=by
  have k2:∀(vs:List SV) (zs:List D),vs.length=zs.length->qV5 (vs.map .v) (List.replicate zs.length .un)=some []:=by
   intro vs;induction vs with
   |nil=>intro zs h;cases zs <;> first|rfl|cases h
   | cons v vs ih=>
     intro zs h;cases zs with
     |nil=>cases h
     |cons z zs=>exact ih zs (Nat.succ.inj h)
  intro vs zs h o;show(qV5 (vs.map .v) (List.replicate zs.length .un)).bind _=_;rw[k2 vs zs h];rfl
 obtain⟨k1,k2,k3⟩:=key vs zs hl;have ev:∀o,evOs ((.io 0::vs.map Am.v).map Am.o) (.s b o::e)=.ok (.p 0 []::zs.map .d,.s b o::e):=fun o=>vXl rfl (hv o) rfl
 cases x with
 | ok d r=>
   obtain⟨k',h1,h2⟩:=h;refine⟨k',h1,zF (ev _) ?_⟩;refine qVc (t0:=([],.s b (cu row ws k)::e)) (t:=([cu row ws k],.un ::e)) (q:=(.fz d,.s true (cu row ws k')::List.replicate zs.length .un)) (os:=[cu row ws k']) (by rw[k1];rfl) (by rw[k2];rfl) (by rw[k1];exact k3 _) h2 (out vs zs hl _) rfl ?_
   rw[k1,k2];rfl
 | er=>
   refine zF (ev _) (vQc (t0:=([],.s b (cu row ws k)::e)) (t:=([cu row ws k],.un ::e)) (by rw[k1];rfl) (by rw[k2];rfl) (by rw[k1];exact k3 _) h)
 |no=>trivial
theorem qJk{v3:SV}(hG:(tbl R).lookup j=some G)(h:Rd G p)(hw:okW ws)(h1:∀o,v1 (.s true o::e)=.ok (.str close,.s true o::e))(h2:∀o,v2 (.s true o::e)=.ok (.int most,.s true o::e))(h3:∀o,v3 (.s true o::e)=.ok (.fn j,.s true o::e)):
  Told (qP (j5 R) [.io 0,.v v1,.v v2,.v v3]) (fun o=>.s true o::e) (fun o=>.s true o::e) row ws k (qQ1 p close most (ws.drop k)):=
 vJq (vs:=[v1,v2,v3]) (zs:=[.str close,.int most,.fn j]) (fun o=>wS (h1 o) (wS (h2 o) (wS (h3 o) rfl rfl) rfl) rfl) rfl (zY3 hG h hw)
end
theorem vVm{p:List Str->Pr}(P:D->Prop)(hp:∀r d r',p r=.ok d r' ->P d):∀{n:Nat} {ds:List D} {r:List Str} {t:D} {r' :List Str},(∀d∈ds,P d)->qJo p n ds r=.ok t r' ->∃ds',t=.tup ds' /\∀d∈ds',P d
 | 0,ds,r,t,r',_,h=>by cases h
 | n + 1,ds,r,t,r',ho,h=>by
   unfold qJo at h;cases q:decide (hd r=",") with
   |false=>rw[q]at h;cases h;exact⟨ds,rfl,ho⟩
   | true=>
     rw[q]at h;change (p r.tail).bind _=_ at h;cases q2:p r.tail with
     |no=>rw[q2]at h;cases h
     |er=>rw[q2]at h;cases h
     | ok d r1=>
       rw[q2]at h;exact vVm P hp (fun z hz=>by rcases cF.mp hz with y|y;exact ho z y;rw[bA.mp y];exact hp _ _ _ q2) h
theorem qXx{p:List Str->Pr}(P:D->Prop)(hp:∀r d r',p r=.ok d r' ->P d){close:Str}{most:Int}(hm:0<=most){r:List Str}{t:D}(h:qQ1 p close most r=.ok t r'):∃ds,t=.tup ds/\(∀d∈ds,P d)/\(ds.length:Int)<=most:=by
 unfold qQ1 at h;cases q:decide (hd r=close) with
 |true=>rw[q]at h;cases h;exact⟨[],rfl,fun d hd=>(by cases hd),hm⟩
 | false=>
   rw[q]at h;change (p r).bind _=_ at h;cases q1:p r with
   |no=>rw[q1]at h;cases h
   |er=>rw[q1]at h;cases h
   | ok d r1=>
     rw[q1]at h;change (qJo p 100 [d] r1).bind _=_ at h;cases q2:qJo p 100 [d] r1 with
     |no=>rw[q2]at h;cases h
     |er=>rw[q2]at h;cases h
     | ok t2 r2=>
       rw[q2]at h;obtain⟨ds,rfl,hP⟩:=vVm P hp (fun z hz=>by rw[bA.mp hz];exact hp _ _ _ q1) q2;dsimp only[Pr.bind,pSk]at h;cases q3:decide (hd r2=close) with
       |false=>rw[q3]at h;cases h
       | true=>
         rw[q3]at h;cases q4:decide (lenT (.tup ds) > most) with
         |true=>rw[q4]at h;cases h
         | false=>
           rw[q4]at h;cases h;exact⟨ds,rfl,hP,by have:=of_decide_eq_false q4;simp only[lenT]at this;omega⟩
noncomputable def fst1:D->D
 |.nd _ (x::_)=>x
 |_=>.non
noncomputable def kids:D->List D
 |.nd _ ds=>ds
 |_=> []
noncomputable def qZi(ds:List D):Option Bool:=match lenTD [.nd .lst ds] with
 |some (.int n)=>some (decide (n<ds.length))
 |_=>none
noncomputable def qXl(p:List Str->Pr)(close:Str)(r:List Str):Pr:=(qQ1 p close 6 r).bind fun t r=>cond (decide (lenT t=0)) .er (match qZi ((kids t).map fst1) with
 |some b=>cond b .er (.ok t r)
 |none=>.no)
theorem zK5{ws:List Str}{b:Bool}(h:qZi ds=some b):j8 [fz (fzO (cu row ws k)),fz (.nd .lst ds)]=cond b (er row) (.ok (.fz .non,[.un,.un])):=by
 unfold qZi at h;split at h
 ·rename_i n hn;cases h;have t:asB (oLt (.v (svA lenTD [(oN 1)])) (oL lenD [(oN 1)])) [fz (fzO (cu row ws k)),fz (.nd .lst ds)]=.ok (decide (n<ds.length),[fz (fzO (cu row ws k)),fz (.nd .lst ds)]):=by
   refine vM (d:=.bl (decide (n<ds.length))) (vY (h1:=.d (.bl (decide (n<ds.length)))) (qM (h1:=.d (.int n)) (h2:=.d (.int ds.length)) (zY (vW9 (hs:=[.d (.nd .lst ds)]) rfl rfl hn rfl) rfl) rfl rfl rfl rfl rfl rfl) rfl) rfl rfl
  cases q:decide (n<(ds.length:Int)) with
  |true=>rw[q]at t;exact wM (qQh t rfl)
  |false=>rw[q]at t;exact vB (qQh t rfl) rfl
 ·cases h
section
variable{R G:Fn}{p:List Str->Pr}{row:Int}{ws:List Str}{k j:Nat}{close:Str}{T:List Str->Pr}
theorem jZ7(hP:∀d∈ds,∃a b,d=.tup [a,b]){o:O}{e:Ev}(hl:ds.length<=1000):fzS (compS 1 [] [0] (iV (oV (oN 3))) (gN 0) bTrue (oV (oIx (oN 0) (oC (.int 0))))) [.s true o,sS close,fz (.fn j),fz (.tup ds)]=.ok (.nd .lst (ds.map fst1),[.s true o,sS close,fz (.fn j),fz (.tup ds)]):=by
 obtain⟨e',h1,h2⟩:=compL_map (g:=gN 0) (el:=oV (oIx (oN 0) (oC (.int 0)))) (ds:=ds) (env:=[.un]) (fun e=>e.length=1) fst1 (fun d e hd he=>by
  obtain⟨a,b,rfl⟩:=hP d hd;match e,he with
  |[y],_=>exact⟨[fz (.tup [a,b])],[fz (.tup [a,b])],rfl,rfl,rfl⟩) rfl
 match e',h2 with
 |[y],_=>
 refine qX4 (ds:=ds) (e:=[.s true o,sS close,fz (.fn j),fz (.tup ds)]) rfl ?_ h1 rfl;rw[decide_eq_true (aM hl (by decide))];rfl
theorem vWb(hG:(tbl R).lookup j=some G)(h:Rd G p)(hp:∀r d r',p r=.ok d r' ->∃a b,d=.tup [a,b])(hw:okW ws):Told (yV R) (fun o=> [.s true o,sS close,fz (.fn j)]) (fun o=> [.s true o,.un,.un]) row ws k (qXl p close (ws.drop k)):=by
 refine fnTn (zs:=[sS close,fz (.fn j)]) (m:=1) (setT (i:=2) (qJk (most:=6) hG h hw (fun _=>rfl) (fun _=>rfl) (fun _=>rfl)) fun t k1 q1=>?_);obtain⟨ds,rfl,hP,hl⟩:=qXx _ hp (by decide) q1;refine ifT (q:=decide (lenT (.tup ds)=0)) ?_ (fun _=>qJ0) fun _=>?_
 ·show Res.ok (((ds.length:Int) == 0),_)=_;have:((ds.length:Int) == 0)=decide (lenT (.tup ds)=0):=by rw[cK];simp[lenT]
  rw[this]
 ·show jK _ [sS close,fz (.fn j),fz (.tup ds)] _ _ _ _;have c1:=jZ7 (close:=close) (j:=j) (o:=cu row ws k1) (e:=[]) hP (by omega);show jK _ _ _ _ _ (match qZi (ds.map fst1) with
   |some b=>cond b .er (.ok (.tup ds) (ws.drop k1))
   |none=>.no)
  cases q2:qZi (ds.map fst1) with
  |none=>trivial
  | some b=>
    have a1:=zK5 (row:=row) (ws:=ws) (k:=k1) q2;have ev:evOs (([(.b (pOf (oN 0))),(.v (fzS (compS 1 [] [0] (iV (oV (oN 3))) (gN 0) bTrue (oV (oIx (oN 0) (oC (.int 0)))))))]:List Am).map Am.o) [.s true (cu row ws k1),sS close,fz (.fn j),fz (.tup ds)]=.ok ([.p 0 [],.d (.nd .lst (ds.map fst1))],[.s true (cu row ws k1),sS close,fz (.fn j),fz (.tup ds)]):=zZc rfl rfl (wS c1 rfl rfl) rfl;cases b with
    |true=>exact wI (qWz (zF ev (vQc (t0:=([cu row ws k1],[.un,sS close,fz (.fn j),fz (.tup ds)])) (t:=([],[.un,sS close,fz (.fn j),fz (.tup ds)])) rfl rfl rfl a1)))
    | false=>
      refine⟨k1,[sS close,fz (.fn j),.un],rfl,yF rfl,qQ7 (zF ev (qVc (t0:=([cu row ws k1],[.un,sS close,fz (.fn j),fz (.tup ds)])) (t:=([],[.un,sS close,fz (.fn j),fz (.tup ds)])) rfl rfl rfl a1 rfl rfl rfl)) rfl⟩
end

noncomputable def pIf(T:List Str->Pr)(r:List Str):Pr:=(qQ1 T ")" 3 r).bind fun t r=>match kids t with
 |[a,b,c]=>.ok (tg "if" [a,b,c]) r
 |_=>.er
noncomputable def zZz(T:List Str->Pr)(w:Str)(r:List Str):Pr:=pSk "(" r fun r=>cond (decide (w="if")) (pIf T r) (cond (decide (w="flip")) (pFlip r) (cond (decide (w="pick")) ((qXl pOut ")" r).bind fun t r=>.ok (tg "pick" [t]) r) (jQg T r)))
noncomputable def qJ2(T:List Str->Pr)(w:Str)(r:List Str):Pr:=cond (x8 w) (cond (decide (hd r="(")) ((qQ1 T ")" 3 r.tail).bind fun t r=>.ok (tg "call" [.str w,t]) r) (.ok (tg "name" [.str w]) r)) .er
noncomputable def qYf(T:List Str->Pr)(r:List Str):Pr:=cond (decide (hd r="(")) ((T r.tail).bind fun t r=>pSk ")" r fun r=>.ok t r)
 (cond (decide (hd r="{")) ((qXl (qQs T) "}" r.tail).bind fun t r=>.ok (tg "record" [t]) r)
 (cond (zH.contains (hd r)) (zZz T (hd r) r.tail)
 (cond (jG (hd r)) (.ok (tg "num" [.int (valS (hd r))]) r.tail) (qJ2 T (hd r) r.tail))))
theorem zJ8(r:List Str)(d:D)(r' :List Str)(h:pOut r=.ok d r'):∃a b,d=.tup [a,b]:=by
 unfold pOut at h;cases q:pNum 0 999999999999 r with
 |no=>rw[q]at h;cases h
 |er=>rw[q]at h;cases h
 | ok x r1=>
   rw[q]at h;dsimp only[Pr.bind,pSk]at h;grind
theorem vX3(T:List Str->Pr)(r:List Str)(d:D)(r' :List Str)(h:qQs T r=.ok d r'):∃a b,d=.tup [a,b]:=by
 unfold qQs at h;cases q:pName' r with
 |no=>rw[q]at h;cases h
 |er=>rw[q]at h;cases h
 | ok x r1=>
   rw[q]at h;dsimp only[Pr.bind,pSk]at h;grind
section
variable{R:Fn}{T:List Str->Pr}{row:Int}{ws:List Str}{k:Nat}{w:Str}
theorem jJt(h:Rd R T):Rd (qX9 R) (pIf T):=fun row ws k hw=>fnT (setT (i:=0) (qJk (R:=R) (j:=30) (most:=3) rfl h hw (fun _=>rfl) (fun _=>rfl) (fun _=>rfl)) fun t k1 q1=>by
 obtain⟨ds,rfl,_,hl⟩:=qXx (fun _=>True) (fun _ _ _ _=>trivial) (by decide) q1;match ds,hl with
 |[a,b,c],_=>exact ifT (q:=false) (x:=.er) rfl (fun z=>by cases z) fun _=>retT rfl
 |[a,b],_=>exact ifT (q:=true) (y:=.er) rfl (fun _=>qJ0) fun z=>by cases z
 |[a],_=>exact ifT (q:=true) (y:=.er) rfl (fun _=>qJ0) fun z=>by cases z
 |[],_=>exact ifT (q:=true) (y:=.er) rfl (fun _=>qJ0) fun z=>by cases z
 |a::b::c::d::ds,hl=>simp at hl;omega)
theorem zXe(h:Rd R T)(hw:okW ws):Told (qV3 R) (fun o=> [.s true o,sS w]) (fun o=> [.s true o,.un]) row ws k (zZz T w (ws.drop k)):=
 fnTn (zs:=[sS w]) (m:=0) (qJp fun _=>ifT (q:=decide (w="if")) rfl (fun _=>retC ((jJt h).call hw)) fun _=>ifT (q:=decide (w="flip")) rfl (fun _=>retC (zX1.call hw)) fun _=>
  ifT (q:=decide (w="pick")) rfl (fun _=>qVg (vs:=[oV (oC (.str "pick"))]) (us:=[.str "pick"]) (vJq (vs:=[oV (oC (.str ")")),oV (oC (.fn 31))]) (zs:=[.str ")",.fn 31]) (fun _=>rfl) rfl (vWb (R:=R) (j:=31) rfl jVf zJ8 hw))) fun _=>retC ((zXz h).call hw))
theorem zWd(h:Rd R T)(hw:okW ws)(hl:w.length<=1000):Told (qV2 R) (fun o=> [.s true o,sS w]) (fun o=> [.s true o,.un]) row ws k (qJ2 T w (ws.drop k)):=by
 refine fnTn (zs:=[sS w]) (m:=0) ?_
 unfold qJ2;have t:=qYo (env:=[.s true (cu row ws k),sS w]) (i:=1) hl rfl;cases q:x8 w with
 | true=>
   rw[q]at t;refine ifT (q:=false) (x:=.er) (not_of t rfl) (fun z=>by cases z) fun _=>jJ3 (g:=fun r=>(qQ1 T ")" 3 r).bind fun t r=>.ok (tg "call" [.str w,t]) r) (fun _=>?_) fun _=>retT rfl
   exact qVg (vs:=[oV (oC (.str "call")),oV (oN 1)]) (us:=[.str "call",.str w]) (qJk (R:=R) (j:=30) (most:=3) rfl h hw (fun _=>rfl) (fun _=>rfl) (fun _=>rfl))
 |false=>rw[q]at t;exact ifT (q:=true) (y:=.er) (not_of t rfl) (fun _=>qJ0) fun z=>by cases z
theorem zX0(h:Rd R T):Rd (qZ1 R) (qYf T):=fun row ws k hw=>by
 have h1:=hw.at k;rw[zL]at h1;unfold qYf;rw[←zD];generalize hx:hd (ws.drop k)=w at *;refine fnT (jQn (i:=0) ?_);rw[hx];refine ifT (q:=decide (w="(")) rfl (fun _=>setT (i:=1) (h.call hw) fun d k1 q1=>qJp fun _=>⟨k1+1,[sS w,.un],rfl,yF rfl,rfl⟩) fun _=>ifT (q:=decide (w="{")) rfl (fun _=>?_) fun _=>ifT (q:=zH.contains w) ?_ (fun _=>?_) fun _=>ifT (q:=jG w) (vQl h1.1 rfl) (fun q=>retT ?_) fun _=>?_
 ·exact qVg (vs:=[oV (oC (.str "record"))]) (us:=[.str "record"]) (vJq (vs:=[oV (oC (.str "}")),oV (oC (.fn 32))]) (zs:=[.str "}",.fn 32]) (fun _=>rfl) rfl (vWb (R:=R) (j:=32) rfl (zJx h) (vX3 T) hw))
 ·exact vM (d:=.bl (zH.contains w)) (vY (h1:=.d (.bl (zH.contains w))) (qM (h1:=.d (.str w)) (h2:=.d (.tup (zH.map .str))) rfl rfl rfl rfl rfl (inSS w zH) rfl) rfl) rfl rfl
 ·exact retC (vJq (vs:=[oV (oN 1)]) (zs:=[.str w]) (fun _=>rfl) rfl (zXe h hw))
 ·obtain⟨n,hn⟩:=h1.2 q;have hl:w.length<=640:=by
   have:yL w.cps.toList=true:=q;unfold yL at this;show w.cps.size<=640;rw[←dX];split at this
   ·cases this
   ·rename_i c l e;simp only[aF,decide_eq_true_eq]at this;rw[e,aW];omega
  have iv:qJq [.str w]=some (.int (valS w)):=by
   show cond (decide (w.length<=640)) _ _=_;rw[decide_eq_true hl,hn];unfold valS;rw[hn];rfl
  exact zX (yD (qT (d:=.str "num") rfl (qT (d:=.int (valS w)) (vY (h1:=.d (.int (valS w))) (qYi (hs:=[.d (.str w)]) rfl rfl iv rfl) rfl) rfl rfl) rfl) rfl rfl) rfl
 ·exact retC (vJq (vs:=[oV (oN 1)]) (zs:=[.str w]) (fun _=>rfl) rfl (zWd h hw h1.1))
end

noncomputable def yE(test:Str->Bool)(step:D->List Str->Pr):Nat->D->List Str->Pr
 | 0,_,_=>.no
 |n+1,t,r=>cond (test (hd r)) ((step t r).bind fun d r=>yE test step n d r) (.ok t r)
section
variable{test:Str->Bool}{step:D->List Str->Pr}{row:Int}{ws:List Str}{tst:ST}{body:SS}
noncomputable def jQz(test:Str->Bool)(step:D->List Str->Pr)(row:Int)(ws:List Str)(tst:ST)(body:SS)(l:Nat):Prop:=∀(t:D) (k:Nat) (y:Ev),okE l y->
 (test (hd (ws.drop k))=false->tst (.s true (cu row ws k)::fz t::y)=.ok (false,.s true (cu row ws k)::fz t::y))/\
 (test (hd (ws.drop k))=true->∃e1,tst (.s true (cu row ws k)::fz t::y)= .ok (true,e1)/\match step t (ws.drop k) with
  |.ok d r=>∃k' y',ws.drop k' =r/\okE l y' /\body e1=.ok (.nx (.s true (cu row ws k')::fz d::y'))
  |.er =>body e1=er row
  |.no =>True)
theorem vK7(ht:jQz test step row ws tst body l):∀(n m:Nat) (t:D) (k:Nat) (y:Ev),n<=m->okE l y->(match yE test step n t (ws.drop k) with
  |.ok d r=>∃k' y',ws.drop k' =r/\okE l y' /\v5 tst body m (.s true (cu row ws k)::fz t::y)=.ok (.nx (.s true (cu row ws k')::fz d::y'))
  |.er =>v5 tst body m (.s true (cu row ws k)::fz t::y)=er row
  |.no =>True)
 | 0,m,t,k,y,_,_=>trivial
 |n+1,0,t,k,y,hm,_=>by omega
 | n + 1,m + 1,t,k,y,hm,hy=>by
   obtain⟨h1,h2⟩:=ht t k y hy;unfold yE;cases q:test (hd (ws.drop k)) with
   |false=>exact⟨k,y,rfl,hy,qWv (h1 q)⟩
   | true=>
     obtain⟨e1,h3,h4⟩:=h2 q;cases q2:step t (ws.drop k) with
     |no=>trivial
     |er=>rw[q2]at h4;exact vJu h3 h4
     | ok d r=>
       rw[q2]at h4;obtain⟨k1,y1,rfl,o1,h4⟩:=h4;rw[qYy h3 h4];exact vK7 ht n m d k1 y1 (by omega) o1
theorem vXq{a:SE}{x:Pr}(h:Told a (fun o=>.s true o:: .un ::List.replicate l .un) (fun o=>.s true o:: .un ::List.replicate l .un) row ws k x)(ht:jQz test step row ws tst body l):
  Told (fnS 1 (l+1) (sSeq (sSet 1 a) (sSeq (v5 tst body 100000) (sRet (eMv 1))))) (fun o=> [.s true o]) (fun o=> [.s true o]) row ws k (x.bind fun d r=>yE test step 100 d r):=by
 refine fnT (setT (i:=0) h fun d k1 q1=>?_);have c:=vK7 ht 100 100000 d k1 (List.replicate l .un) (by decide) ⟨dS,fun s hs=>by rw[List.eq_of_mem_replicate hs];rfl⟩;show jK _ (fz d::List.replicate l .un) _ _ _ (yE test step 100 d (ws.drop k1));cases q:yE test step 100 d (ws.drop k1) with
 |no=>trivial
 |er=>rw[q]at c;exact wI c
 | ok d2 r=>
   rw[q]at c;obtain⟨k2,y2,h1,h0,c⟩:=c;refine⟨k2,.un ::y2,h1,⟨by rw[aW,aW,h0.1,dS],fun s hs=>?_⟩,jX c rfl⟩;rcases bV.mp hs with z|z
   ·rw[z];rfl
   ·exact h0.2 s z
end
noncomputable def vKb(t:D)(r:List Str):Pr:=(pName' r.tail).bind fun d r=>.ok (tg "field" [t,d]) r
noncomputable def qVh(T:List Str->Pr)(r:List Str):Pr:=(qYf T r).bind fun d r=>yE (fun w=>decide (w=".")) vKb 100 d r
noncomputable def zZq(T:List Str->Pr)(t:D)(r:List Str):Pr:=(qVh T r.tail).bind fun d r=>.ok (tg "op" [.str "*",t,d]) r
noncomputable def qWo(T:List Str->Pr)(r:List Str):Pr:=(qVh T r).bind fun d r=>yE (fun w=>decide (w="*")) (zZq T) 100 d r
noncomputable def vYm(T:List Str->Pr)(t:D)(r:List Str):Pr:=(qWo T r.tail).bind fun d r' =>.ok (tg "op" [.str (hd r),t,d]) r'
noncomputable def pSum(T:List Str->Pr)(r:List Str):Pr:=(qWo T r).bind fun d r=>yE (fun w=> [("+":Str),"-"].contains w) (vYm T) 100 d r
noncomputable def qVi(T:List Str->Pr)(r:List Str):Pr:=(pSum T r).bind fun t r=>cond ([("=":Str),"<"].contains (hd r)) ((pSum T r.tail).bind fun d r' =>.ok (tg "op" [.str (hd r),t,d]) r') (.ok t r)
noncomputable def vL:Nat->List Str->Pr
 | 0,_=>.no
 |h+1,r=>qVi (vL h) r
section
variable{R:Fn}{T:List Str->Pr}{row:Int}{ws:List Str}{k:Nat}{e:Ev}{b:Bool}
theorem vJ5(h:Rd R T):Rd (yQ R) (qVh T):=fun row ws k hw=>vXq (l:=0) ((zX0 h).call hw) fun t k y hy=>by
 cases dI hy.1;refine⟨fun q=>vZl (of_decide_eq_false q),fun q=>⟨_,qY3 (of_decide_eq_true q),?_⟩⟩;have c:=tupT (vs:=[oV (oC (.str "field")),oV (oN 1)]) (us:=[.str "field",t]) (qJd.call (row:=row) (k:=k+1) (b:=true) (e:=[fz t]) hw) rfl (by simp);unfold vKb;rw[←zD];cases q2:pName' (ws.drop (k+1)) with
 |no=>trivial
 |er=>rw[q2]at c;exact qZh c
 |ok d r=>rw[q2]at c;obtain⟨k1,h1,c⟩:=c;exact⟨k1,[],h1,yF rfl,qJb c rfl⟩
theorem vKj(h:Rd R T):Rd (wR R) (qWo T):=fun row ws k hw=>vXq (l:=0) ((vJ5 h).call hw) fun t k y hy=>by
 cases dI hy.1;refine⟨fun q=>vZl (of_decide_eq_false q),fun q=>⟨_,qY3 (of_decide_eq_true q),?_⟩⟩;have c:=tupT (vs:=[oV (oC (.str "op")),oV (oC (.str "*")),oV (oN 1)]) (us:=[.str "op",.str "*",t]) ((vJ5 h).call (row:=row) (k:=k+1) (b:=true) (e:=[fz t]) hw) rfl (by simp);unfold zZq;rw[←zD];cases q2:qVh T (ws.drop (k+1)) with
 |no=>trivial
 |er=>rw[q2]at c;exact qZh c
 |ok d r=>rw[q2]at c;obtain⟨k1,h1,c⟩:=c;exact⟨k1,[],h1,yF rfl,qJb c rfl⟩
theorem qKp{x y:Str}:asB (o2 inD (.v (fzS (vF 9 "ahead" vU (.b (pOf (oN 0))) []))) (.v (svTup [(oV (oC (.str x))),(oV (oC (.str y)))]))) (.s true (cu row ws k)::e)=.ok ([x,y].contains (hd (ws.drop k)),.s true (cu row ws k)::e):=by
 have m:=vZm (row:=row) (ws:=ws) (k:=k) (b:=true) (e:=e);rw[zL]at m;exact vM (d:=.bl ([x,y].contains (hd (ws.drop k)))) (vY (h1:=.d (.bl ([x,y].contains (hd (ws.drop k))))) (qM (h1:=.d (.str (hd (ws.drop k)))) (h2:=.d (.tup [.str x,.str y])) (zY (zE m rfl) rfl) rfl rfl rfl rfl (inSS _ [x,y]) rfl) rfl) rfl rfl
theorem zZv(h:Rd R T):Rd (xY R) (pSum T):=fun row ws k hw=>vXq (l:=1) ((vKj h).call hw) fun t k y hy=>by
 match y,hy with
 |[y],hy=>
 refine⟨fun q=>by rw[qKp,q],fun q=>⟨_,by rw[qKp,q],?_⟩⟩;have m:=qKl (row:=row) (ws:=ws) (k:=k) (b:=true) (e:=[fz t,y]);rw[zL]at m;have c:=tupT (vs:=[oV (oC (.str "op")),oV (oN 2),oV (oN 1)]) (us:=[.str "op",.str (hd (ws.drop k)),t]) ((vKj h).call (row:=row) (k:=k+1) (b:=true) (e:=[fz t,sS (hd (ws.drop k))]) hw) rfl (by simp);unfold vYm;rw[←zD];cases q2:qWo T (ws.drop (k+1)) with
 |no=>trivial
 |er=>rw[q2]at c;exact qU m (qZh c)
 |ok d r=>rw[q2]at c;obtain⟨k1,h1,c⟩:=c;exact⟨k1,[sS (hd (ws.drop k))],h1,yF rfl,qU m (qJb c rfl)⟩
end
theorem vZj:∀h:Nat,Rd (zP h) (vL h)
 | 0=>fun _ _ _ _=>trivial
 | h + 1=>fun row ws k hw=>by
   have ih:=vZj h;refine fnT (setT (i:=0) ((zZv ih).call hw) fun t k1 q1=>?_);show jK _ [fz t,.un] _ _ _ _;cases q: [("=":Str),"<"].contains (hd (ws.drop k1)) with
   |false=>exact⟨k1,[.un,.un],rfl,yF rfl,qW (q:=false) (e:=[.s true (cu row ws k1),fz t,.un]) (by rw[qKp,q]) (qE rfl)⟩
   | true=>
     have m:=qKl (row:=row) (ws:=ws) (k:=k1) (b:=true) (e:=[fz t,.un]);rw[zL]at m;have c:=tupT (vs:=[oV (oC (.str "op")),oV (oN 2),oV (oN 1)]) (us:=[.str "op",.str (hd (ws.drop k1)),t]) ((zZv ih).call (row:=row) (k:=k1+1) (b:=true) (e:=[fz t,sS (hd (ws.drop k1))]) hw) rfl (by simp);rw[←zD];cases q2:pSum (vL h) (ws.drop (k1+1)) with
     |no=>trivial
     | er=>
       rw[q2]at c;have c' :owS (svTup [oV (oC (.str "op")),oV (oN 2),oV (oN 1),fzS (qP (xY (zP h)) [.io 0])]) [.s true (cu row ws (k1+1)),fz t,sS (hd (ws.drop k1))]=er row:=c;exact qW (q:=true) (e:=[.s true (cu row ws k1),fz t,.un]) (by rw[qKp,q]) (wI (qU m (qZh c')))
     | ok d r=>
       rw[q2]at c;obtain⟨k2,h1,c⟩:=c;have c' :owS (svTup [oV (oC (.str "op")),oV (oN 2),oV (oN 1),fzS (qP (xY (zP h)) [.io 0])]) [.s true (cu row ws (k1+1)),fz t,sS (hd (ws.drop k1))]=.ok (.fz (tg "op" [.str (hd (ws.drop k1)),t,d]),[.s true (cu row ws k2),fz t,sS (hd (ws.drop k1))]):=c;exact⟨k2,[.un,sS (hd (ws.drop k1))],h1,yF rfl,qW (q:=true) (e:=[.s true (cu row ws k1),fz t,.un]) (by rw[qKp,q]) (jX (e:=[.s true (cu row ws k2),fz (tg "op" [.str (hd (ws.drop k1)),t,d]),sS (hd (ws.drop k1))]) (qU m (qJb c' rfl)) rfl)⟩

noncomputable def pTold(r:List Str):Pr:=pSk "=" r fun r=>vL 12 r
theorem vZi:Rd xH pTold:=fun row ws k hw=>fnT (qJp fun _=>retC ((vZj 12).call hw))
noncomputable def vZe(t:D):Option Bool:=match lenTD [t] with
 |some (.int n)=>some (decide (n<lenT t))
 |_=>none
noncomputable def pDef(r:List Str):Pr:=(pName' r).bind fun n r=>pSk "(" r fun r=>(qQ1 pName' ")" 3 r).bind fun t r=>match vZe t with
 |some b=>cond b .er ((pTold r).bind fun d r=>.ok (tg "def" [n,t,d]) r)
 |none=>.no
noncomputable def pLet(r:List Str):Pr:=(pName' r).bind fun n r=>(pTold r).bind fun d r=>.ok (tg "let" [n,d]) r
noncomputable def pAgain(r:List Str):Pr:=(pNum 0 30 r).bind fun n r=>(pName' r).bind fun x r=>(pTold r).bind fun d r=>.ok (tg "again" [n,x,d]) r
noncomputable def pWords(r:List Str):Pr:=cond (decide (hd r="def")) (pDef r.tail) (cond (decide (hd r="let")) (pLet r.tail) (cond (decide (hd r="again")) (pAgain r.tail) (cond ([("see":Str),"ask"].contains (hd r)) ((vL 12 r.tail).bind fun t r' =>.ok (.tup [.str (hd r),t]) r') .er)))
theorem zXi{ws:List Str}{b:Bool}(h:vZe (.tup ds)=some b):j8 [fz (fzO (cu row ws k)),fz (.tup ds)]=cond b (er row) (.ok (.fz .non,[.un,.un])):=by
 unfold vZe at h;split at h
 ·rename_i n hn;cases h;have t:asB (oLt (.v (svA lenTD [(oN 1)])) (oL lenD [(oN 1)])) [fz (fzO (cu row ws k)),fz (.tup ds)]=.ok (decide (n<ds.length),[fz (fzO (cu row ws k)),fz (.tup ds)]):=by
   refine vM (d:=.bl (decide (n<ds.length))) (vY (h1:=.d (.bl (decide (n<ds.length)))) (qM (h1:=.d (.int n)) (h2:=.d (.int ds.length)) (zY (vW9 (hs:=[.d (.tup ds)]) rfl rfl hn rfl) rfl) rfl rfl rfl rfl rfl rfl) rfl) rfl rfl
  show fnS 2 0 _ _=cond (decide (n<(ds.length:Int))) _ _;cases q:decide (n<(ds.length:Int)) with
  |true=>rw[q]at t;exact wM (qQh t rfl)
  |false=>rw[q]at t;exact vB (qQh t rfl) rfl
 ·cases h
theorem jVh:Rd qWl pDef:=fun row ws k hw=>fnT (setT (i:=0) (qJd.call hw) fun n k1 q1=>qJp fun _=>setT (i:=1) (qJk (R:=zP 12) (j:=33) (most:=3) rfl qJd hw (fun _=>rfl) (fun _=>rfl) (fun _=>rfl)) fun t k2 q2=>by
 obtain⟨ds,rfl,_,hl⟩:=qXx (fun _=>True) (fun _ _ _ _=>trivial) (by decide) q2;cases q3:vZe (.tup ds) with
 |none=>trivial
 | some b=>
   have a1:=zXi (row:=row) (ws:=ws) (k:=k2) q3;have ev:evOs (([(.b (pOf (oN 0))),(.v (oV (oN 2)))]:List Am).map Am.o) [.s true (cu row ws k2),fz n,fz (.tup ds)]=.ok ([.p 0 [],.d (.tup ds)],[.s true (cu row ws k2),fz n,fz (.tup ds)]):=rfl;cases b with
   |true=>exact wI (qWz (zF ev (vQc (t0:=([cu row ws k2],[.un,fz n,fz (.tup ds)])) (t:=([],[.un,fz n,fz (.tup ds)])) rfl rfl rfl a1)))
   | false=>
     refine goT (e2:=[fz n,fz (.tup ds)]) (k2:=k2) (fun z hz=>qQ7 (zF ev (qVc (t0:=([cu row ws k2],[.un,fz n,fz (.tup ds)])) (t:=([],[.un,fz n,fz (.tup ds)])) rfl rfl rfl a1 rfl rfl rfl)) hz) rfl ?_
     exact qVg (vs:=[oV (oC (.str "def")),oV (oN 1),oV (oN 2)]) (us:=[.str "def",n,.tup ds]) (vZi.call hw))
theorem jVg:Rd qWk pLet:=fun row ws k hw=>fnT (setT (i:=0) (qJd.call hw) fun n k1 q1=>qVg (vs:=[oV (oC (.str "let")),oV (oN 1)]) (us:=[.str "let",n]) (vZi.call hw))
theorem zJy:Rd qV4 pAgain:=fun row ws k hw=>fnT (setT (i:=0) (qQ9 hw rfl rfl) fun n k1 q1=>setT (i:=1) (qJd.call hw) fun x k2 q2=>qVg (vs:=[oV (oC (.str "again")),oV (oN 1),oV (oN 2)]) (us:=[.str "again",n,x]) (vZi.call hw))
theorem zJw:Rd qV1 pWords:=fun row ws k hw=>by
 unfold pWords;rw[←zD];generalize hx:hd (ws.drop k)=w at *;refine fnT (jQn (i:=0) ?_);rw[hx];refine ifT (q:=decide (w="def")) rfl (fun _=>retC (jVh.call hw)) fun _=>ifT (q:=decide (w="let")) rfl (fun _=>retC (jVg.call hw)) fun _=>ifT (q:=decide (w="again")) rfl (fun _=>retC (zJy.call hw)) fun _=>ifT (q:=[("see":Str),"ask"].contains w) ?_ (fun _=>?_) fun _=>qJ0
 ·exact vM (d:=.bl ([("see":Str),"ask"].contains w)) (vY (h1:=.d (.bl ([("see":Str),"ask"].contains w))) (qM (h1:=.d (.str w)) (h2:=.d (.tup [.str "see",.str "ask"])) rfl rfl rfl rfl rfl (inSS w ["see","ask"]) rfl) rfl) rfl rfl
 ·exact qVg (vs:=[oV (oN 1)]) (us:=[.str w]) ((vZj 12).call hw)

theorem vJ2(k:Nat):∀(r:List Nat),∀c∈r.take (zQ k r),qR c=k
 |[],c,h=>by simp at h
 | x::r,c,h=>by
   rw[jV]at h;by_cases z:qR x=k
   ·rw [if_pos z,List.take_succ_cons] at h;rcases bV.mp h with y|y
    ·grind
    ·exact vJ2 k r c y
   ·grind
theorem vVl:∀(n:Nat) (R:List Nat),R.length<=n->∀w∈parts R,w≠ []/\w.length<=R.length/\((∃c,w.head?=some c/\qR c=1)->∀c∈w,qR c=1)
 |n,[],_,w,h=>by rw[qJj]at h;cases h
 | 0,c::R,hn,w,h=>by simp at hn
 | n + 1,c::R,hn,w,h=>by
   rw[jS]at h;have hp:=xG c R;have hl:=qWf (c::R);rcases cF.mp h with z|z
   ·by_cases h32:c=32
    ·rw[if_pos h32]at z;cases z
    ·rw [if_neg h32] at z;cases bA.mp z;refine⟨fun q=>?_,by rw[cT];omega,fun⟨c',e1,e2⟩=>?_⟩
     ·have:=congrArg List.length q;rw[cT]at this;simp at this;omega
     ·have hc:c' =c:=by
       cases hq:qS (c::R) with
       |zero=>omega
       |succ m=>rw[hq]at e1;simpa using e1.symm
      subst hc;rw[vS,if_neg (by omega),List.take_succ_cons];intro x hx;rcases bV.mp hx with y|y
      ·rw[y];exact e2
      ·rw[←e2];exact vJ2 _ R x y
   ·obtain⟨a,b,d⟩:=vVl n ((c::R).drop (qS (c::R))) (by rw [cU];rw [aW] at *;omega) w z;exact⟨a,by rw[cU]at b;omega,d⟩
theorem jWf{c:Nat}(h:qR c=1):48<=c/\c<=57:=by
 unfold qR at h;split at h
 ·cases h
 ·split at h
  ·assumption
  ·split at h <;> cases h
theorem zQy{R:List Nat}(hl:R.length<=1000)(hn:(parts R).length <=60):okW ((parts R).map S):=by
 refine⟨by rw[aP];omega,fun w hw=>?_⟩;obtain⟨q,hq,rfl⟩:=dL.mp hw;obtain⟨h1,h2,h3⟩:=vVl R.length R (aD _) q hq;refine⟨by rw[wT];omega,fun hnum=>?_⟩;have:yL q=true:=hnum;unfold yL at this;split at this
 ·cases this
 ·rename_i c l;simp only[aF,decide_eq_true_eq]at this;have hk:qR c=1:=qK3 this.1;have ad:=h3 ⟨c,rfl,hk⟩;exact⟨_,PySem.intText_digits (x:=S (c::l)) (fun x hx=>jWf (ad x hx)) h1 (by show(S (c::l)).length <=_;rw[wT,aW];omega)⟩
noncomputable def mx(a b:Int):Int:=if b > a then b else a
noncomputable def mbS(s:Int×Int)(w:Str):Int×Int:=(fun d=>(d,mx s.2 d)) (cond ([("(":Str),"{"].contains w) (s.1+1) (cond ([(")":Str),"}"].contains w) (s.1 - 1) s.1))
noncomputable def mb(ws:List Str):Int:=(ws.foldl mbS (0,0)).2
theorem inB2{x y:Str}{a b c:Slot}:asB (o2 inD (oN 3) (.v (svTup [(oV (oC (.str x))),(oV (oC (.str y)))]))) [a,b,c,sS w]=.ok ([x,y].contains w,[a,b,c,sS w]):=
 vM (d:=.bl ([x,y].contains w)) (vY (h1:=.d (.bl ([x,y].contains w))) (qM (h1:=.d (.str w)) (h2:=.d (.tup [.str x,.str y])) rfl rfl rfl rfl rfl (inSS w [x,y]) rfl) rfl) rfl rfl
theorem mb_loop{a:Slot}:∀(ws:List Str) (s:Int×Int) (y:Slot),∃y',forS (gN 3) qQo (ws.map D.str) [a,sN s.1,sN s.2,y]=.ok (.nx [a,sN (ws.foldl mbS s).1,sN (ws.foldl mbS s).2,y'])
 |[],s,y=>⟨y,rfl⟩
 | w::ws,s,y=>by
   obtain⟨y',h⟩:=mb_loop (a:=a) ws (mbS s w) (sS w);refine⟨y',xJ (e1:=[a,sN s.1,sN s.2,sS w]) (e2:=[a,sN (mbS s w).1,sN (mbS s w).2,sS w]) rfl ?_ h⟩;have st:∀d:Int,sSet 2 (owS (oV (oL max2D [(oN 2),(oN 1)]))) [a,sN d,sN s.2,sS w]=.ok (.nx [a,sN d,sN (mx s.2 d),sS w]):=fun d=>rfl
   cases q1: [("(":Str),"{"].contains w with
   | true=>
     have e1:mbS s w=(s.1+1,mx s.2 (s.1+1)):=by unfold mbS;rw[q1];rfl
     rw[e1];exact jX (e:=[a,sN (s.1+1),sN s.2,sS w]) (qQh (q:=true) (e:=[a,sN s.1,sN s.2,sS w]) (by rw[inB2,q1]) rfl) (st _)
   | false=>
     cases q2: [(")":Str),"}"].contains w with
     | true=>
       have e1:mbS s w=(s.1 - 1,mx s.2 (s.1 - 1)):=by unfold mbS;rw[q1,q2];rfl
       rw[e1];exact jX (e:=[a,sN (s.1 - 1),sN s.2,sS w]) (qQh (q:=false) (e:=[a,sN s.1,sN s.2,sS w]) (by rw[inB2,q1]) (qQh (q:=true) (e:=[a,sN s.1,sN s.2,sS w]) (by rw[inB2,q2]) rfl)) (st _)
     | false=>
       have e1:mbS s w=(s.1,mx s.2 s.1):=by unfold mbS;rw[q1,q2];rfl
       rw[e1];exact jX (e:=[a,sN s.1,sN s.2,sS w]) (qQh (q:=false) (e:=[a,sN s.1,sN s.2,sS w]) (by rw[inB2,q1]) (qQh (q:=false) (e:=[a,sN s.1,sN s.2,sS w]) (by rw[inB2,q2]) rfl)) (st _)
theorem jWd(ws:List Str):zR [fz (.nd .lst (ws.map D.str))]=.ok (.fz (.int (mb ws)),[.un]):=by
 obtain⟨y',h⟩:=mb_loop (a:=fz (.nd .lst (ws.map D.str))) ws (0,0) .un;exact vB (qU (o:=.fz (.int 0)) (e:=[fz (.nd .lst (ws.map D.str)),.un,.un,.un]) rfl (qU (o:=.fz (.int 0)) (e:=[fz (.nd .lst (ws.map D.str)),sN 0,.un,.un]) rfl (jX (yN (ds:=ws.map D.str) (e:=[fz (.nd .lst (ws.map D.str)),sN 0,sN 0,.un]) rfl h) rfl))) rfl
noncomputable def depD(t:D):Option Int:=match qQi 62 [fz t] with
 |.ok (.fz (.int n),[.un])=>some n
 |_=>none
theorem zKw{t:D}{n:Int}(h:depD t=some n):qQi 62 [fz t]=.ok (.fz (.int n),[.un]):=by
 unfold depD at h;split at h
 ·cases h;assumption
 ·cases h
noncomputable def qWs:D->D
 |.nd .tup ds=>ds.getLastD .non
 |_=>.non
noncomputable def rowW(ws:List Str):Pr:=cond (decide ((ws.length:Int) > 60) || decide (mb ws > 10)) .er (match pWords ws with
 | .ok d r=>cond (!decide (hd r="")) .er (match depD (qWs d) with
   |some n=>cond (decide (n > 10)) .er (.ok d [])
   |none=>.no)
 |.er =>.er
 |.no =>.no)

theorem zM{x:Pr}{f:D->List Str->Pr}{r:List Str}(h:x.bind f=.ok d r):∃d1 r1,x=.ok d1 r1/\f d1 r1=.ok d r:=by
 cases x with
 |ok d1 r1=>exact⟨d1,r1,rfl,h⟩
 |er=>cases h
 |no=>cases h
theorem sk_ok{x:Str}{r:List Str}{f:List Str->Pr}(h:pSk x r f=.ok d r'):f r.tail=.ok d r' :=by
 unfold pSk at h;grind
noncomputable def Lst(d:D):Prop:=∃ds x,d=.tup (ds ++ [x])/\ds.length<=10
theorem Lst.two{a b:D}:Lst (.tup [a,b]):=⟨[a],b,rfl,by simp⟩
theorem Lst.three{a b c:D}:Lst (.tup [a,b,c]):=⟨[a,b],c,rfl,by simp⟩
theorem Lst.four{a b c e:D}:Lst (.tup [a,b,c,e]):=⟨[a,b,c],e,rfl,by simp⟩
theorem vX2{r:List Str}(h:pWords r=.ok d r'):Lst d:=by
 unfold pWords at h;cases q1:decide (hd r="def") <;> rw[q1]at h
 ·cases q2:decide (hd r="let") <;> rw [q2] at h
  ·cases q3:decide (hd r="again") <;> rw [q3] at h
   ·cases q4: [("see":Str),"ask"].contains (hd r) <;> rw [q4] at h
    ·cases h
    ·obtain⟨_,_,_,h⟩:=zM h;cases h;exact .two
   ·obtain⟨_,_,_,h⟩:=zM h;obtain⟨_,_,_,h⟩:=zM h;obtain⟨_,_,_,h⟩:=zM h;cases h;exact .four
  ·obtain⟨_,_,_,h⟩:=zM h;obtain⟨_,_,_,h⟩:=zM h;cases h;exact .three
 ·obtain⟨_,_,_,h⟩:=zM h;have h:=sk_ok h;obtain⟨_,_,_,h⟩:=zM h;split at h
  ·rename_i b _;cases b with
   |true=>cases h
   |false=>obtain⟨_,_,_,h⟩:=zM h;cases h;exact .four
  ·cases h
theorem Lst.ix(h:Lst d):ixD d (.int (-1))=some (qWs d):=by
 obtain⟨ds,x,rfl,hl⟩:=h;show(ixN (ds ++ [x]).length (-1)).bind (fun j=>(ds ++ [x])[j]?)=some ((ds ++ [x]).getLastD .non);have:ixN (ds ++ [x]).length (-1)=some ds.length:=by
  unfold ixN;rw[aJ,if_neg (by omega),if_pos (by simp;omega)];congr 1;simp;omega
 rw[this];show(ds ++ [x])[ds.length]?=_;rw[cL (aD _),Nat.sub_self,List.getLastD_eq_getLast?,List.getLast?_append];rfl
noncomputable abbrev wL(R:List Nat):List Str:=(parts R).map S
section
variable{R:List Nat}{n:Int}{ws:List Str}{k:Nat}{a b c y:Slot}{F:Fn}{p:List Str->Pr}
theorem vY6:fzOs (wO (parts R))=(wL R).map D.str:=by rw[qK8,dY,dY];rfl
theorem Rd.call3(h:Rd F p)(hw:okW ws):match p (ws.drop k) with
  |.ok d r=>∃k',ws.drop k' =r/\qP F [.io 3] [a,b,c,.s false (cu n ws k),y]=.ok (.fz d,[a,b,c,.s false (cu n ws k'),y])
  |.er =>qP F [.io 3] [a,b,c,.s false (cu n ws k),y]=er n
  |.no =>True:=by
 have:=h n ws k hw;unfold Told at this;split at this
 ·rename_i e;obtain⟨k',h1,h2⟩:=this;try simp only[e]
  refine⟨k',h1,?_⟩;unfold qP;show(F [.s true (cu n ws k)]).bind _=_;rw[h2];rfl
 ·rename_i e;try simp only[e]
  unfold qP;show(F [.s true (cu n ws k)]).bind _=_;rw[this];rfl
 ·rename_i e;try simp only[e]
set_option maxHeartbeats 4000000 in
theorem jVe(hl:R.length<=1000)(ha:∀c∈R,c<128):match rowW (wL R) with
  |.ok d _=>vZ [sN n,sS (S R)]=.ok (.fz d,[.un,.un])
  |.er =>vZ [sN n,sS (S R)]=er n
  |.no =>True:=by
 have t0:asB (oGt (oL lenD [(oN 1)]) (oC (.int 1000))) [sN n,sS (S R),.un,.un,.un]=.ok (false,[sN n,sS (S R),.un,.un,.un]):=by
  have hD:lenD [.str (S R)]=some (.int (R.length:Int)):=qKn hl;have:asB (oGt (oL lenD [(oN 1)]) (oC (.int 1000))) [sN n,sS (S R),.un,.un,.un]=.ok (decide ((R.length:Int) > 1000),[sN n,sS (S R),.un,.un,.un]):=by
   repeat' (first|array_get_dec|exact hD)
  rw[this,decide_eq_false (by omega)]
 have t1:qP y8 [(.v (oV (oN 1)))] [sN n,sS (S R),.un,.un,.un]=.ok (.ow .lst (wO (parts R)),[sN n,sS (S R),.un,.un,.un]):=by
  unfold qP;show(y8 [sS (S R)]).bind _=_;rw[zJj hl ha];rfl
 have t2:asB (oGt (oL lenD [(oN 2)]) (oC (.int 60))) [sN n,sS (S R),.s false (.ow .lst (wO (parts R))),.un,.un]=.ok (decide (((wL R).length :Int) > 60),[sN n,sS (S R),.s false (.ow .lst (wO (parts R))),.un,.un]):=by
  show Res.ok (decide (((fzOs (wO (parts R))).length :Int) > 60),_)=_;rw[vY6,aP]
 have t3:asB (oGt (.v (fzS (qP zR [(.v (oV (oN 2)))]))) (oC (.int 10))) [sN n,sS (S R),.s false (.ow .lst (wO (parts R))),.un,.un]=.ok (decide (mb (wL R) > 10),[sN n,sS (S R),fz (.nd .lst ((wL R).map D.str)),.un,.un]):=by
  have m:qP zR [(.v (oV (oN 2)))] [sN n,sS (S R),.s false (.ow .lst (wO (parts R))),.un,.un]=.ok (.fz (.int (mb (wL R))),[sN n,sS (S R),fz (.nd .lst ((wL R).map D.str)),.un,.un]):=by
   refine zF (wS (d:=.nd .lst ((wL R).map D.str)) (e:=[sN n,sS (S R),fz (.nd .lst ((wL R).map D.str)),.un,.un]) ?_ rfl rfl) ?_
   ·show Res.ok (D.nd .lst (fzOs (wO (parts R))),[sN n,sS (S R), .s false (.fz (D.nd .lst (fzOs (wO (parts R))))), .un, .un])=_;rw[vY6]
   ·show(zR [fz (.nd .lst ((wL R).map D.str))]).bind _=_;rw[jWd];rfl
  exact vM (d:=.bl (decide (mb (wL R) > 10))) (vY (h1:=.d (.bl (decide (mb (wL R) > 10)))) (qM (h1:=.d (.int (mb (wL R)))) (h2:=.d (.int 10)) (zY (zE m rfl) rfl) rfl rfl rfl rfl rfl rfl) rfl) rfl rfl
 unfold rowW;cases q1:decide (((wL R).length :Int) > 60) with
 | true=>
   rw[q1]at t2;show vZ _=_;unfold vZ;exact wM (qW t0 (qE (qU t1 (qW (yB t2 rfl) rfl))))
 | false=>
   rw[q1]at t2;cases q2:decide (mb (wL R) > 10) with
   | true=>
     rw[q2]at t3;show vZ _=_;unfold vZ;exact wM (qW t0 (qE (qU t1 (qW (yB t2 t3) rfl))))
   | false=>
     rw[q2]at t3;have hw:okW (wL R):=zQy hl (by have:=of_decide_eq_false q1;rw[aP]at this;omega);have mk:vYs 9 qQf [(.v (oV (oN 0))),(.v (oV (oN 2)))] [sN n,sS (S R),fz (.nd .lst ((wL R).map D.str)),.un,.un]=.ok (cu n (wL R) 0,[sN n,sS (S R),fz (.nd .lst ((wL R).map D.str)),.un,.un]):=rfl;have c1:=zJw.call3 (k:=0) (n:=n) (a:=sN n) (b:=sS (S R)) (c:=fz (.nd .lst ((wL R).map D.str))) (y:=.un) hw;rw[List.drop_zero]at c1;dsimp only[Bool.or_false,cond];cases q3:pWords (wL R) with
     |no=>trivial
     | er=>
       rw[q3]at c1;show vZ _=_;unfold vZ;exact wM (qW t0 (qE (qU t1 (qW (yB t2 t3) (qE (qU mk (wI (qZh c1))))))))
     | ok d r=>
       rw[q3]at c1;obtain⟨k',rfl,c1⟩:=c1;have hL:=vX2 q3;have t4:asB (o2 neF (.v (fzS (vF 9 "ahead" vU (.b (pOf (oN 3))) []))) (oC (.str ""))) [sN n,sS (S R),fz (.nd .lst ((wL R).map D.str)),.s false (cu n (wL R) k'),fz d]=.ok (!decide (hd ((wL R).drop k')=""),[sN n,sS (S R),fz (.nd .lst ((wL R).map D.str)),.s false (cu n (wL R) k'),fz d]):=by
        have m:vF 9 "ahead" vU (.b (pOf (oN 3))) [] [sN n,sS (S R),fz (.nd .lst ((wL R).map D.str)),.s false (cu n (wL R) k'),fz d]=.ok (.fz (.str (hd ((wL R).drop k'))),[sN n,sS (S R),fz (.nd .lst ((wL R).map D.str)),.s false (cu n (wL R) k'),fz d]):=by
         unfold vF;show(vU [.s false (.fz (fzO (cu n (wL R) k')))]).bind _=_;rw[vWq,zL];rfl
        exact vM (d:=.bl (!decide (hd ((wL R).drop k')=""))) (vY (h1:=.d (.bl (!decide (hd ((wL R).drop k')="")))) (qM (h1:=.d (.str (hd ((wL R).drop k')))) (h2:=.d (.str "")) (zY (zE m rfl) rfl) rfl rfl rfl rfl rfl rfl) rfl) rfl rfl
       dsimp only;cases q4:decide (hd ((wL R).drop k')="") with
       | false=>
         rw[q4]at t4;show vZ _=_;unfold vZ;exact wM (qW t0 (qE (qU t1 (qW (yB t2 t3) (qE (qU mk (qU c1 (qW (yB t4 rfl) rfl))))))))
       | true=>
         rw[q4]at t4;simp only[Bool.not_true,cond_false];cases q5:depD (qWs d) with
         |none=>trivial
         | some m=>
           have t5:asB (oGt (.v (fzS (qP (qQi 62) [(.v (oV (oIx (oN 4) (o1 negD (oC (.int 1))))))]))) (oC (.int 10))) [sN n,sS (S R),fz (.nd .lst ((wL R).map D.str)),.s false (cu n (wL R) k'),fz d]=.ok (decide (m > 10),[sN n,sS (S R),fz (.nd .lst ((wL R).map D.str)),.s false (cu n (wL R) k'),fz d]):=by
            have c2:qP (qQi 62) [(.v (oV (oIx (oN 4) (o1 negD (oC (.int 1))))))] [sN n,sS (S R),fz (.nd .lst ((wL R).map D.str)),.s false (cu n (wL R) k'),fz d]=.ok (.fz (.int m),[sN n,sS (S R),fz (.nd .lst ((wL R).map D.str)),.s false (cu n (wL R) k'),fz d]):=by
             refine zF (wS (d:=qWs d) (vY (h1:=.d (qWs d)) (jH (h1:=.d d) (h2:=.d (.int (-1))) rfl rfl rfl rfl ?_ rfl) rfl) rfl rfl) ?_
             ·show(ixD d (.int (-1))).map Hn.d=_;rw[hL.ix];rfl
             ·show(qQi 62 [fz (qWs d)]).bind _=_;rw[zKw q5];rfl
            exact vM (d:=.bl (decide (m > 10))) (vY (h1:=.d (.bl (decide (m > 10)))) (qM (h1:=.d (.int m)) (h2:=.d (.int 10)) (zY (zE c2 rfl) rfl) rfl rfl rfl rfl rfl rfl) rfl) rfl rfl
           dsimp only;cases q6:decide (m > 10) with
           | true=>
             rw[q6]at t5;show vZ _=_;unfold vZ;exact wM (qW t0 (qE (qU t1 (qW (yB t2 t3) (qE (qU mk (qU c1 (qW (yB t4 t5) rfl))))))))
           | false=>
             rw[q6]at t5;show vZ _=_;unfold vZ;exact vB (qW t0 (qE (qU t1 (qW (yB t2 t3) (qE (qU mk (qU c1 (qW (yB t4 t5) (qE rfl))))))))) rfl
end

noncomputable def jn:List (List Nat)->List Nat
 |[]=> []
 |[a]=>a
 |a::b::r=>a ++ 10::jn (b::r)
theorem zQd{c:Nat}:∀{a b x y:List Nat},c∉a->c∉b->a ++ c::x=b ++ c::y->a=b/\x=y
 |[],[],x,y,_,_,h=>by cases h;exact⟨rfl,rfl⟩
 | [],u::b,x,y,_,hb,h=>by
   grind
 | u::a,[],x,y,ha,_,h=>by
   grind
 | u::a,v::b,x,y,ha,hb,h=>by
   rw[cZ,cZ,List.cons.injEq]at h;obtain⟨h1,h2⟩:=zQd (fun z=>ha (aB _ z)) (fun z=>hb (aB _ z)) h.2;grind
theorem zZ8:∀{as bs:List (List Nat)},as≠ []->bs≠ []->(∀a∈as,10∉a)->(∀b∈bs,10∉b)->jn as=jn bs->as=bs
 |[],_,h,_,_,_,_=>absurd rfl h
 |_::_,[],_,h,_,_,_=>absurd rfl h
 |[a],[b],_,_,_,_,h=>by rw[show a=b from h]
 |[a],b::c::r,_,_,ha,_,h=>absurd (show 10∈a by rw[show a=b ++ 10::jn (c::r) from h];simp) (ha a (by simp))
 |a::c::r,[b],_,_,_,hb,h=>absurd (show 10∈b by rw[←show a ++ 10::jn (c::r)=b from h];simp) (hb b (by simp))
 | a::c::r,b::d::s,_,_,ha,hb,h=>by
   obtain⟨h1,h2⟩:=zQd (ha a (by simp)) (hb b (by simp)) (show a ++ 10::jn (c::r)=b ++ 10::jn (d::s) from h);rw[h1,zZ8 (by simp) (by simp) (fun z hz=>ha z (aB _ hz)) (fun z hz=>hb z (aB _ hz)) h2]
theorem join_jn:∀ws:List Str,(Str.join ⟨#[10]⟩ ws).cps.toList=jn (ws.map fun w=>w.cps.toList)
 |[]=>rfl
 |[a]=>rfl
 | a::b::r=>by
   show((a.cps ++ #[10]) ++ (Str.join ⟨#[10]⟩ (b::r)).cps).toList =_;rw[Array.toList_append,Array.toList_append,join_jn (b::r),bU];rfl
theorem zJq{rows:List (List Nat)}(hne:rows≠ [])(hf:∀r∈rows,10∉r):Txt.split (S (jn rows)) "\n"=rows.map S:=by
 have e0:("\n":Str)=⟨#[10]⟩:=by decide +kernel
 rw[e0];have h1:=StrLaws.join_split (S (jn rows)) ⟨#[10]⟩;have h2:=StrLaws.split_free (S (jn rows)) 10;have h3:=split_pos (S (jn rows)) ⟨#[10]⟩;generalize Txt.split (S (jn rows)) ⟨#[10]⟩=ws at *;have h4:jn (ws.map fun w=>w.cps.toList)=jn rows:=by rw[←join_jn,h1]
 have h5:=zZ8 (by intro z;have:=congrArg List.length z;simp at this;subst this;simp at h3) hne (fun a ha=>by obtain⟨w,hw,rfl⟩:=dL.mp ha;exact h2 w hw) hf h4;rw[←h5,dY];conv=>lhs;rw[←List.map_id ws]
 exact List.map_congr_left fun w _=>(S_of w).symm
inductive Rr where
 |ok (ds:List D)|er (n:Int)|no
noncomputable def qKc:D->Str
 |.nd _ (.str w::_)=>w
 |_=>""
theorem ix0{a:D}{x:List D}:ixD (.tup (a::x)) (.int ((0:Nat):Int))=some a:=by
 exact qJg rfl
theorem vWu{r:List Str}(h:pWords r=.ok d r'):∃w x,d=.tup (.str w::x):=by
 unfold pWords at h;cases q1:decide (hd r="def") <;> rw[q1]at h
 ·cases q2:decide (hd r="let") <;> rw [q2] at h
  ·cases q3:decide (hd r="again") <;> rw [q3] at h
   ·cases q4: [("see":Str),"ask"].contains (hd r) <;> rw [q4] at h
    ·cases h
    ·obtain⟨_,_,_,h⟩:=zM h;cases h;exact⟨_,_,rfl⟩
   ·obtain⟨_,_,_,h⟩:=zM h;obtain⟨_,_,_,h⟩:=zM h;obtain⟨_,_,_,h⟩:=zM h;cases h;exact⟨_,_,rfl⟩
  ·obtain⟨_,_,_,h⟩:=zM h;obtain⟨_,_,_,h⟩:=zM h;cases h;exact⟨_,_,rfl⟩
 ·obtain⟨_,_,_,h⟩:=zM h;have h:=sk_ok h;obtain⟨_,_,_,h⟩:=zM h;split at h
  ·rename_i b _;cases b with
   |true=>cases h
   |false=>obtain⟨_,_,_,h⟩:=zM h;cases h;exact⟨_,_,rfl⟩
  ·cases h
theorem zQo{ws:List Str}{r:List Str}(h:rowW ws=.ok d r):∃w x,d=.tup (.str w::x):=by
 unfold rowW at h;cases q:(decide ((ws.length:Int) > 60) || decide (mb ws > 10)) <;> rw[q]at h
 ·dsimp only [cond] at h;split at h
  ·rename_i d' r' e;split at h
   ·cases h
   ·split at h
    ·split at h
     ·cases h
     ·cases h;exact vWu e
    ·cases h
  ·cases h
  ·cases h
 ·cases h
section
variable{t:Slot}{rows:List (List Nat)}
noncomputable abbrev rD(rows:List (List Nat)):D:=.nd .lst (rows.map fun r=>.str (S r))
end

noncomputable def rowX(R:List Nat):Pr:=cond (decide (1000<R.length)) .er (rowW (wL R))
theorem jZo{R:List Nat}(hl:R.length<=5000):lenD [.str (S R)]=some (.int R.length):=by
 show cond (decide ((S R).length <=aT)) (some (D.int ((S R).length :Nat))) none=_;rw[wT,decide_eq_true (aM hl (by decide))];rfl
theorem zXw{R:List Nat}{n:Int}(hl:R.length<=5000)(ha:∀c∈R,c<128):match rowX R with
  |.ok d _=>vZ [sN n,sS (S R)]=.ok (.fz d,[.un,.un])
  |.er =>vZ [sN n,sS (S R)]=er n
  |.no =>True:=by
 unfold rowX;by_cases h:1000<R.length
 ·rw [decide_eq_true h];show vZ _=_;have hD:=jZo hl;have t0:asB (oGt (oL lenD [(oN 1)]) (oC (.int 1000))) [sN n,sS (S R),.un,.un,.un]=.ok (decide ((R.length:Int) > 1000),[sN n,sS (S R),.un,.un,.un]):=by
   repeat' (first|array_get_dec|exact hD)
  rw[decide_eq_true (by omega)]at t0;unfold vZ;exact wM (qW t0 rfl)
 ·rw [decide_eq_false h];exact jVe (by omega) ha
theorem zQn{R:List Nat}{r:List Str}(h:rowX R=.ok d r):∃w x,d=.tup (.str w::x):=by
 unfold rowX at h;cases q:decide (1000<R.length) <;> rw[q]at h
 ·exact zQo h
 ·cases h
noncomputable def qQg(tot:Int):Nat->List D->List (List Nat)->Rr
 |_,acc,[]=>.ok acc
 | i,acc,R::rs=>cond (decide ((i:Int)=40)) (.er i) (match rowX R with
   |.ok d _=>cond (!(decide (qKc d="ask") == decide ((i:Int)=tot - 1))) (.er i) (qQg tot (i+1) (acc ++ [d]) rs)
   |.er =>.er i
   |.no =>.no)
section
variable{t:Slot}{rows:List (List Nat)}
theorem vQj(hr:∀R∈rows,R.length<=5000/\∀c∈R,c<128)(hl:rows.length<=100):∀(rs:List (List Nat)) (i:Nat) (acc:List D) (y3 y4 y5:Slot),(∀R∈rs,R∈rows)->acc.length+rs.length<=100->(match qQg rows.length i acc rs with
  |.ok ds=>∃z3 z4 z5,forS (gT 2 (gCn (gN 3) (gCn (gN 4) gNl))) qW9 (qQ3 i (rs.map fun r=>.str (S r))) [t,fz (rD rows),fl acc,y3,y4,y5]=.ok (.nx [t,fz (rD rows),fl ds,z3,z4,z5])
  |.er n=>forS (gT 2 (gCn (gN 3) (gCn (gN 4) gNl))) qW9 (qQ3 i (rs.map fun r=>.str (S r))) [t,fz (rD rows),fl acc,y3,y4,y5]=er n
  |.no =>True)
 |[],i,acc,y3,y4,y5,_,_=>⟨y3,y4,y5,rfl⟩
 | R::rs,i,acc,y3,y4,y5,hm,hn=>by
   unfold qQg;have hR:=hr R (hm R (by simp));have g1:(gT 2 (gCn (gN 3) (gCn (gN 4) gNl))) (D.tup [.int (i:Int),.str (S R)]) [t,fz (rD rows),fl acc,y3,y4,y5]=some [t,fz (rD rows),fl acc,sN (i:Int),sS (S R),y5]:=rfl;have t0:asB (o2 eqF (oN 3) (oC (.int 40))) [t,fz (rD rows),fl acc,sN (i:Int),sS (S R),y5]=.ok (decide ((i:Int)=40),[t,fz (rD rows),fl acc,sN (i:Int),sS (S R),y5]):=by
    show Res.ok (((i:Int) == 40),_)=_;rw[show((i:Int) == 40)=decide ((i:Int)=40) by rw[cK];simp]
   cases q0:decide ((i:Int)=40) with
   |true=>rw[q0]at t0;exact vZq g1 (qW t0 rfl)
   | false=>
     rw[q0]at t0;have rf:=zXw (R:=R) (n:=(i:Int)) hR.1 hR.2;dsimp only[cond];cases q1:rowX R with
     |no=>trivial
     | er=>
       rw[q1]at rf;have c1:qP vZ [(.v (oV (oN 3))),(.v (oV (oN 4)))] [t,fz (rD rows),fl acc,sN (i:Int),sS (S R),y5]=er (i:Int):=by
        unfold qP;show(vZ [sN (i:Int),sS (S R)]).bind _=_;rw[rf];rfl
       exact vZq g1 (qW t0 (qE (wI (qZh c1))))
     | ok d r=>
       rw[q1]at rf;obtain⟨w,x,rfl⟩:=zQn q1;have c1:qP vZ [(.v (oV (oN 3))),(.v (oV (oN 4)))] [t,fz (rD rows),fl acc,sN (i:Int),sS (S R),y5]=.ok (.fz (.tup (.str w::x)),[t,fz (rD rows),fl acc,sN (i:Int),sS (S R),y5]):=by
        unfold qP;show(vZ [sN (i:Int),sS (S R)]).bind _=_;rw[rf];rfl
       have t2:asB (o2 neF (o2 eqF (oIx (oN 5) (oC (.int 0))) (oC (.str "ask"))) (o2 eqF (oN 3) (oSub (oL lenD [(oN 1)]) (oC (.int 1))))) [t,fz (rD rows),fl acc,sN (i:Int),sS (S R),fz (.tup (.str w::x))]=.ok (!(decide (w="ask") == decide ((i:Int)=rows.length - 1)),[t,fz (rD rows),fl acc,sN (i:Int),sS (S R),fz (.tup (.str w::x))]):=by
        have e1:((i:Int) == ((rows.map fun r=>D.str (S r)).length :Int) - 1)=decide ((i:Int)=rows.length - 1):=by rw[aP,cK];simp
        refine vM (d:=.bl (!(decide (w="ask") == decide ((i:Int)=rows.length - 1)))) (vY (h1:=.d (.bl (!(decide (w="ask") == decide ((i:Int)=rows.length - 1))))) (qM (h1:=.d (.bl (decide (w="ask")))) (h2:=.d (.bl (decide ((i:Int)=rows.length - 1)))) (qM (h1:=.d (.str w)) (h2:=.d (.str "ask")) (jH (h1:=.d (.tup (.str w::x))) (h2:=.d (.int 0)) rfl rfl rfl rfl ?_ rfl) rfl rfl rfl rfl rfl rfl) (qM (h1:=.d (.int i)) (h2:=.d (.int (((rows.map fun r=>D.str (S r)).length :Int) - 1))) rfl rfl rfl rfl rfl ?_ rfl) rfl rfl rfl rfl rfl) rfl) rfl rfl
        ·show(ixD (.tup (.str w::x)) (.int ((0:Nat):Int))).map Hn.d=_;rw[ix0];rfl
        ·show some (D.bl ((i:Int) == ((rows.map fun r=>D.str (S r)).length :Int) - 1))=_;rw[e1]
       show(match cond (!(decide (w="ask") == decide ((i:Int)=rows.length - 1))) (Rr.er i) (qQg rows.length (i+1) (acc ++ [.tup (.str w::x)]) rs) with
        |.ok ds=>_
        |.er n=>_
        |.no =>True)
       cases q2:(!(decide (w="ask") == decide ((i:Int)=rows.length - 1))) with
       |true=>rw[q2]at t2;exact vZq g1 (qW t0 (qE (qU c1 (qW t2 rfl))))
       | false=>
         rw[q2]at t2;have ih:=vQj hr hl rs (i+1) (acc ++ [.tup (.str w::x)]) (sN (i:Int)) (sS (S R)) (fz (.tup (.str w::x))) (fun z hz=>hm z (aB _ hz)) (by rw[aJ];rw[aW]at hn;show acc.length+1+rs.length<=100;omega);have bd:qW9 [t,fz (rD rows),fl acc,sN (i:Int),sS (S R),y5]=.ok (.nx [t,fz (rD rows),fl (acc ++ [.tup (.str w::x)]),sN (i:Int),sS (S R),fz (.tup (.str w::x))]):=by
          refine qW t0 (qE (qU c1 (qW t2 (qE (qWy (qKk (i:=2) (π:=[]) (os0:=acc.map .fz) (os:=acc.map .fz) rfl rfl (zX (d:=.tup (.str w::x)) rfl rfl) rfl rfl (z:=(.fz .non,acc.map .fz ++ [.fz (.tup (.str w::x))])) ?_ rfl) ?_)))))
          ·unfold apF;rw[decide_eq_true (show(acc.map O.fz).length <=lim from by rw[aP];exact aM (show acc.length<=100 by omega) (by decide))];rfl
          ·rw [show fl (acc ++ [.tup (.str w::x)])= .s false (.ow .lst (acc.map .fz ++ [.fz (.tup (.str w::x))])) by show Slot.s false (.ow .lst ((acc ++ [_]).map O.fz))=_;rw [dD];rfl];rfl
         dsimp only[cond];cases q3:qQg rows.length (i+1) (acc ++ [.tup (.str w::x)]) rs with
         |no=>trivial
         |er n=>rw[q3]at ih;exact xJ g1 bd ih
         |ok ds=>rw[q3]at ih;obtain⟨z3,z4,z5,ih⟩:=ih;exact⟨z3,z4,z5,xJ g1 bd ih⟩
theorem vJ4(hne:rows≠ [])(hf:∀r∈rows,10∉r)(hr:∀R∈rows,R.length<=5000/\∀c∈R,c<128)(hl:rows.length<=100)(hj:(jn rows).length <=500000):(match qQg rows.length 0 [] rows with
  |.ok ds=>jY [sS (S (jn rows))]=.ok (.ow .lst (ds.map .fz),[.un])
  |.er n=>jY [sS (S (jn rows))]=er n
  |.no =>True):=by
 have s1:vXm "\n" (oN 0) [sS (S (jn rows)),.un,.un,.un,.un,.un]=.ok (.ow .lst ((rows.map fun r=>D.str (S r)).map .fz),[sS (S (jn rows)),.un,.un,.un,.un,.un]):=by
  show cond (!(("\n":Str).length == 0) && decide ((S (jn rows)).length+2<=1000000)) (Res.ok (O.ow .lst (((Txt.split (S (jn rows)) "\n").map D.str).map .fz),_)) _=_;rw[zJq hne hf,show decide ((S (jn rows)).length+2<=1000000)=true from decide_eq_true (by rw[wT];omega),dY (f:=S)];rfl
 have it:iL enL [(oV (oN 1))] [sS (S (jn rows)),.s false (.ow .lst ((rows.map fun r=>D.str (S r)).map .fz)),fl [],.un,.un,.un]=.ok (qQ3 0 (rows.map fun r=>.str (S r)),[sS (S (jn rows)),fz (rD rows),fl [],.un,.un,.un]):=by
  show Res.ok (qQ3 0 (fzOs ((rows.map fun r=>D.str (S r)).map .fz)),[sS (S (jn rows)),fz (.nd .lst (fzOs ((rows.map fun r=>D.str (S r)).map .fz))),fl [],.un,.un,.un])=_;rw[qJf]
 have lp:=vQj (t:=sS (S (jn rows))) hr hl rows 0 [] .un .un .un (fun _ h=>h) (by simpa using hl);cases q:qQg rows.length 0 [] rows with
 |no=>trivial
 | er n=>
   rw[q]at lp;show jY _=_;unfold jY;exact wM (qU s1 (qU (o:=.ow .lst []) (e:=[sS (S (jn rows)),.s false (.ow .lst ((rows.map fun r=>D.str (S r)).map .fz)),.un,.un,.un,.un]) rfl (wI (yN it lp))))
 | ok ds=>
   rw[q]at lp;obtain⟨z3,z4,z5,lp⟩:=lp;show jY _=_;unfold jY;exact vB (qU s1 (qU (o:=.ow .lst []) (e:=[sS (S (jn rows)),.s false (.ow .lst ((rows.map fun r=>D.str (S r)).map .fz)),.un,.un,.un,.un]) rfl (jX (yN it lp) rfl))) rfl
end
end RF
namespace X15
open PySem L2 DX RF FW PyProof.Rows
variable{T:List Str->Pr}{r' ws:List Str}{d:D}{n a b:Int}{W:Str}{m i k j tot:Nat}{L y R l:List Nat}{ds:List D}{env e:Ev}{v:SV}{s1 s2:SS}{ns:List Int}
theorem zZi(r:List Str):vL 12 r=qVi (vL 11) r:=rfl
theorem qXn(test:Str->Bool)(step:D->List Str->Pr)(d:D)(r:List Str):yE test step 100 d r=cond (test (hd r)) ((step d r).bind fun d r=>yE test step 99 d r) (.ok d r):=rfl
theorem xZ{r:List Str}(h:qVh T r=.ok d r')(h2:decide (hd r' ="*")=false)(h3: [("+":Str),"-"].contains (hd r')=false)(h4: [("=":Str),"<"].contains (hd r')=false):qVi T r=.ok d r' :=by
 have a2:qWo T r=.ok d r' :=by
  unfold qWo;rw[h];dsimp only[Pr.bind];rw[qXn,h2];rfl
 have a3:pSum T r=.ok d r' :=by
  unfold pSum;rw[a2];dsimp only[Pr.bind];rw[qXn,h3];rfl
 unfold qVi;rw[a3];show cond ([("=":Str),"<"].contains (hd r')) _ _=_;rw[h4];rfl
theorem wP{r:List Str}(h:qYf T r=.ok d r')(h1:decide (hd r' =".")=false):qVh T r=.ok d r' :=by
 unfold qVh;rw[h];dsimp only[Pr.bind];rw[qXn,h1];rfl
theorem jVd(hm:(decide ((ws.length:Int) > 60) || decide (mb ws > 10))=false)(h:pWords ws=.ok d [])(hd1:depD (qWs d)=some n)(hn:n<=10):rowW ws=.ok d []:=by
 unfold rowW;rw[hm,h];show(match depD (qWs d) with
  |some n=>cond (decide (n > 10)) Pr.er (Pr.ok _ [])
  |none=>.no)=_
 rw[hd1];show cond (decide (n > 10)) _ _=_;rw[decide_eq_false (by omega)];rfl
theorem jWv{r:List Str}(h:qVi (vL 11) ws=.ok d r):pWords ("ask"::ws)=.ok (.tup [.str "ask",d]) r:=by
 show((vL 12 ws).bind fun t r' =>Pr.ok (.tup [.str "ask",t]) r')=_;rw[zZi,h];rfl
theorem sk_ok{x:Str}{r:List Str}{f:List Str->Pr}:pSk x (x::r) f=f r:=by
 show cond (decide (x=x)) (f r) .er =_;rw[decide_eq_true rfl];rfl
theorem jWc{r:List Str}:pName' (W::r)=cond (x8 W) (.ok (.str W) r) .er :=rfl
noncomputable abbrev cd(x:String):List Nat:=x.toList.map Char.toNat
noncomputable abbrev dg(m:Nat):List Nat:=(Nat.toDigits 10 m).map Char.toNat
theorem zKv:∀m:Nat,0<m->∃c l,dg m=c::l/\c≠48:=by
 intro m;induction m using Nat.strongRecOn with
 | _ m ih=>
   intro h;by_cases hb:m<10
   ·refine⟨(Nat.digitChar m).toNat,[],by show(Nat.toDigits 10 m).map _=_;rw [Nat.toDigits_of_lt_base hb];rfl,?_⟩;rw[Nat.toNat_digitChar_of_lt_ten hb];omega
   ·obtain⟨c,l,e,hc⟩:=ih (m / 10) (by omega) (by omega);refine⟨c,l ++ [(Nat.digitChar (m % 10)).toNat],?_,hc⟩;show(Nat.toDigits 10 m).map _=_;rw[Nat.toDigits_of_base_le (by decide) (by omega),dD,show(Nat.toDigits 10 (m / 10)).map Char.toNat=c::l from e];rfl
theorem qQt(h:m<10 ^ 12):(dg m).length <=12:=by
 rw[aP];exact(Nat.length_toDigits_le_iff (by decide) (by decide)).mpr h
theorem qY4(h:m<10 ^ 12):valS (S (dg m))=(m:Int):=by
 have:=qQt h;unfold valS;rw[PySem.intText_digits (x:=S (dg m)) (fun c hc=>xX m c hc) (qJl m) (by rw[wT];omega),vY4,PySem.W.KIN.val_back];rfl
theorem vV7(h:m<10 ^ 12):jG (S (dg m))=true:=by
 have hL:=qQt h;show yL (dg m)=_;by_cases h0:m=0
 ·subst h0;rw[show dg 0=[48] by decide +kernel];decide +kernel
 ·obtain⟨c,l,e,hc⟩:=zKv m (by omega);have hf:=xX m c (by show c∈dg m;rw[e];exact aA ..);rw[e]at hL⊢;unfold yL;dsimp only;rw[aW]at hL;rw[decide_eq_true hf.1,decide_eq_true hf.2,decide_eq_false hc,decide_eq_true (show(l.length:Int)+1<=12 by omega)];simp
noncomputable def sgn(x:Str):Bool:=match x.cps.toList with
 |c::_=>!decide (qR c<2)
 |[]=>true
noncomputable def Wd(W:Str):Prop:=∃x l,W.cps.toList=x::l/\qR x<2
section
variable{W:Str}(hW:Wd W)
include hW
theorem Wd.ne(x:Str)(hx:sgn x=true):W≠x:=by
 rintro rfl;obtain⟨c,l,e,h⟩:=hW;unfold sgn at hx;rw[e]at hx;simp[h]at hx
theorem Wd.de(x:Str)(hx:sgn x=true:=by decide +kernel):decide (W=x)=false:=decide_eq_false (hW.ne x hx)
theorem Wd.con(x y:Str)(hx:sgn x=true:=by decide +kernel)(hy:sgn y=true:=by decide +kernel): [x,y].contains W=false:=by
 rw[bH,bH,beq_eq_false_iff_ne.mpr (hW.ne x hx),beq_eq_false_iff_ne.mpr (hW.ne y hy)];rfl
end
theorem yC(m:Nat):Wd (S (dg m)):=by
 cases e:dg m with
 |nil=>exact absurd e (qJl m)
 |cons c l=>exact⟨c,l,rfl,by rw[qK3 (xX m c (by show c∈dg m;rw[e];exact aA ..))];decide⟩
theorem vXf(m:Nat):zH.contains (S (dg m))=false:=by
 have key:∀x:Str,(∀d r,x.cps.toList=d::r->d > 57)->S (dg m)≠x:=fun x hx q=>by
  have e1:dg m=x.cps.toList:=congrArg (fun s:Str=>s.cps.toList) q;cases e:dg m with
  |nil=>exact absurd e (qJl m)
  | cons c l=>
    have h1:=hx c l (by rw[←e1,e]);have h2:=xX m c (by show c∈dg m;rw[e];exact aA ..);omega
 unfold zH;rw[bH,bH,bH,bH,beq_eq_false_iff_ne.mpr (key "flip" (by intro d r q;cases q;decide)),beq_eq_false_iff_ne.mpr (key "pick" (by intro d r q;cases q;decide)),beq_eq_false_iff_ne.mpr (key "if" (by intro d r q;cases q;decide)),beq_eq_false_iff_ne.mpr (key "rest" (by intro d r q;cases q;decide))];rfl
theorem zWv(h:m<10 ^ 12){r:List Str}:qYf (vL 11) (S (dg m)::r)=.ok (tg "num" [.int m]) r:=by
 show cond (decide (S (dg m)="(")) _ (cond (decide (S (dg m)="{")) _ (cond (zH.contains (S (dg m))) _ (cond (jG (S (dg m))) (Pr.ok (tg "num" [.int (valS (S (dg m)))]) r) _)))=_;rw[(yC m).de "(",(yC m).de "{",vXf,vV7 h,qY4 h];rfl
noncomputable abbrev abc:List Nat:=cd "abcdegmnouvwxyz"
structure Nm(L:List Nat):Prop where
 h1:1<=L.length
 h2:L.length<=8
 k:∀c∈L,c∈abc
theorem qW2:∀c∈abc,(97<=c/\c<=122)/\c≠102/\c≠112/\c≠105/\c≠114:=by decide +kernel
section
variable{L:List Nat}(hL:Nm L)
include hL
theorem Nm.k0:∀c∈L,qR c=0:=fun c hc=>by
 have:=(qW2 c (hL.k c hc)).1;unfold qR;rw[if_pos (.inl this)]
theorem Nm.ne:L≠ []:=fun e=>by have:=hL.h1;rw[e]at this;exact absurd this (by decide)
theorem Nm.no:zH.contains (S L)=false:=by
 cases e:L with
 |nil=>exact absurd e hL.ne
 | cons c l=>
   have h:=(qW2 c (hL.k c (by rw[e];exact aA ..))).2;have key:∀x:Str,(∀d r,x.cps.toList=d::r->d=102\/d=112\/d=105\/d=114)->x.cps.toList≠ []->S (c::l)≠x:=fun x hx _ q=>by
    have e1:c::l=x.cps.toList:=congrArg (fun s:Str=>s.cps.toList) q;have:=hx c l e1.symm;omega
   unfold zH;rw[bH,bH,bH,bH,beq_eq_false_iff_ne.mpr (key "flip" (by intro d r q;cases q;decide) (by decide)),beq_eq_false_iff_ne.mpr (key "pick" (by intro d r q;cases q;decide) (by decide)),beq_eq_false_iff_ne.mpr (key "if" (by intro d r q;cases q;decide) (by decide)),beq_eq_false_iff_ne.mpr (key "rest" (by intro d r q;cases q;decide) (by decide))];rfl
theorem Nm.is:x8 (S L)=true:=by
 unfold x8 vZn qZl;rw[S_of,hL.no,vY4];have h1:=hL.h1;have h2:=hL.h2;rw[decide_eq_true (show(1:Int)<=L.length by omega),decide_eq_true (show(L.length:Int)<=8 by omega),show(L.all fun c=>decide (97<=c) && decide (c<=122))=true from List.all_eq_true.mpr fun c hc=>by
  have:=(qW2 c (hL.k c hc)).1;rw[decide_eq_true this.1,decide_eq_true this.2];rfl]
 rfl
end
theorem yK(hL:Nm L):Wd (S L):=by
 cases e:L with
 |nil=>exact absurd e hL.ne
 |cons c l=>exact⟨c,l,rfl,by rw[hL.k0 c (by rw[e];exact aA ..)];decide⟩
theorem jQm(hL:Nm L):jG (S L)=false:=by
 cases e:L with
 |nil=>exact absurd e hL.ne
 | cons c l=>
   have h:=(qW2 c (hL.k c (by rw[e];exact aA ..))).1;unfold jG yL;have h2:decide (c<=57)=false:=decide_eq_false (by omega);simp[h2]
theorem zKh(hL:Nm L){r:List Str}(h:decide (hd r="(")=false):qYf (vL 11) (S L::r)=.ok (tg "name" [.str (S L)]) r:=by
 show cond (decide (S L="(")) _ (cond (decide (S L="{")) _ (cond (zH.contains (S L)) _ (cond (jG (S L)) _ (qJ2 (vL 11) (S L) r))))=_;rw[(yK hL).de "(",(yK hL).de "{",hL.no,jQm hL];unfold qJ2;rw[hL.is,h];rfl
section
variable{L:List Nat}(hL:Nm L){m q:Nat}(hm:m<10 ^ 12)(hq:q<=30)
include hL
theorem tn{r:List Str}(h1:decide (hd r=".")=false)(h2:decide (hd r="(")=false):qVh (vL 11) (S L::r)=.ok (tg "name" [.str (S L)]) r:=wP (zKh hL h2) h1
theorem pn{r:List Str}:pName' (S L::r)=.ok (.str (S L)) r:=by rw[jWc,hL.is];rfl
omit hL in
include hm in
theorem tc{r:List Str}(h1:decide (hd r=".")=false):qVh (vL 11) (S (dg m)::r)=.ok (tg "num" [.int m]) r:=wP (zWv hm) h1
theorem jQe{r:List Str}(h1:decide (hd r=".")=false)(h2:decide (hd r="(")=false)(h3:decide (hd r="*")=false):qWo (vL 11) (S L::r)=.ok (tg "name" [.str (S L)]) r:=by
 unfold qWo;rw[tn hL h1 h2];dsimp only[Pr.bind];rw[qXn,h3];rfl
theorem sumN{r:List Str}(h1:decide (hd r=".")=false)(h2:decide (hd r="(")=false)(h3:decide (hd r="*")=false)(h4: [("+":Str),"-"].contains (hd r)=false):pSum (vL 11) (S L::r)=.ok (tg "name" [.str (S L)]) r:=by
 unfold pSum;rw[jQe hL h1 h2 h3];dsimp only[Pr.bind];rw[qXn,h4];rfl
omit hL in
include hm in
theorem sumC:pSum (vL 11) [S (dg m)]=.ok (tg "num" [.int m]) []:=by
 unfold pSum qWo;rw[tc hm rfl];rfl
omit hL in
include hm in
theorem jJk{r:List Str}(h1:decide (hd r=".")=false)(h2:decide (hd r="*")=false)(h3: [("+":Str),"-"].contains (hd r)=false)(h4: [("=":Str),"<"].contains (hd r)=false):qVi (vL 11) (S (dg m)::r)=.ok (tg "num" [.int m]) r:=xZ (tc hm h1) h2 h3 h4
omit hL in
theorem told{r:List Str}:pTold ("="::r)=qVi (vL 11) r:=by
 show pSk "=" ("="::r) (fun r=>vL 12 r)=_;rw[sk_ok];rfl
include hm in
theorem p0:pWords ["let",S L,"=",S (dg m)]=.ok (tg "let" [.str (S L),tg "num" [.int m]]) []:=by
 show pLet [S L,"=",S (dg m)]=_;unfold pLet;rw[pn hL];show(pTold ["=",S (dg m)]).bind _=_;rw[told,jJk hm rfl rfl rfl rfl];rfl
include hm in
theorem p1:pWords ["see",S L,"<",S (dg m)]=.ok (.tup [.str "see",tg "op" [.str "<",tg "name" [.str (S L)],tg "num" [.int m]]]) []:=by
 show((vL 12 [S L,"<",S (dg m)]).bind fun t r' =>Pr.ok (.tup [.str "see",t]) r')=_;rw[zZi];unfold qVi;rw[sumN hL (r:=["<",S (dg m)]) rfl rfl rfl rfl];show((((pSum (vL 11) [S (dg m)]).bind _)).bind _)=_;rw[sumC hm];rfl
include hq in
theorem p2:pWords ["again",S (dg q),S L,"=",S L,"+","1"]=.ok (tg "again" [.int q,.str (S L),tg "op" [.str "+",tg "name" [.str (S L)],tg "num" [.int 1]]]) []:=by
 show pAgain [S (dg q),S L,"=",S L,"+","1"]=_;unfold pAgain;have:pNum 0 30 [S (dg q),S L,"=",S L,"+","1"]=.ok (.int q) [S L,"=",S L,"+","1"]:=by
  show cond (jG (S (dg q)) && (decide (0<=valS (S (dg q))) && decide (valS (S (dg q))<=30))) (Pr.ok (.int (valS (S (dg q)))) _) .er =_;rw[vV7 (by omega),qY4 (by omega),decide_eq_true (by omega),decide_eq_true (by omega)];rfl
 rw[this];show((pName' [S L,"=",S L,"+","1"]).bind _)=_;rw[pn hL];show((pTold ["=",S L,"+","1"]).bind _)=_;have h1:pSum (vL 11) [S L,"+","1"]=.ok (tg "op" [.str "+",tg "name" [.str (S L)],tg "num" [.int 1]]) []:=by
  unfold pSum;rw[jQe hL (r:=["+","1"]) (by decide +kernel) (by decide +kernel) (by decide +kernel)];dsimp only[Pr.bind];rw[qXn];have:vYm (vL 11) (tg "name" [.str (S L)]) ["+","1"]=.ok (tg "op" [.str "+",tg "name" [.str (S L)],tg "num" [.int 1]]) []:=by kernel_rfl
  show((vYm (vL 11) (tg "name" [.str (S L)]) ["+","1"]).bind _)=_;rw[this];rfl
 rw[told];unfold qVi;rw[h1];rfl
theorem p3:pWords ["def",S L,"(","a",",","b",")","=","a","*","b"]=.ok (tg "def" [.str (S L),.tup [.str "a",.str "b"],tg "op" [.str "*",tg "name" [.str "a"],tg "name" [.str "b"]]]) []:=by
 show pDef (S L:: ["(","a",",","b",")","=","a","*","b"])=_;unfold pDef;rw[pn hL];kernel_rfl
include hm in
theorem p4:pWords ["let","x","=","if","(",S L,",","flip","(","1","/","2",")",",",S (dg m),")"]=.ok (tg "let" [.str "x",tg "if" [tg "name" [.str (S L)],tg "flip" [.int 1,.int 2],tg "num" [.int m]]]) []:=by
 have a1:vL 11 [S L,",","flip","(","1","/","2",")",",",S (dg m),")"]=.ok (tg "name" [.str (S L)]) [",","flip","(","1","/","2",")",",",S (dg m),")"]:=xZ (wP (by show cond (decide (S L="(")) _ (cond (decide (S L="{")) _ (cond (zH.contains (S L)) _ (cond (jG (S L)) _ (qJ2 (vL 10) (S L) _))))=_;rw[(yK hL).de "(",(yK hL).de "{",hL.no,jQm hL];unfold qJ2;rw[hL.is];rfl) rfl) rfl rfl rfl;have a2:vL 11 ["flip","(","1","/","2",")",",",S (dg m),")"]=.ok (tg "flip" [.int 1,.int 2]) [",",S (dg m),")"]:=by kernel_rfl
 have a3:vL 11 [S (dg m),")"]=.ok (tg "num" [.int m]) [")"]:=xZ (wP (by show cond (decide (S (dg m)="(")) _ (cond (decide (S (dg m)="{")) _ (cond (zH.contains (S (dg m))) _ (cond (jG (S (dg m))) (Pr.ok (tg "num" [.int (valS (S (dg m)))]) _) _)))=_;rw[(yC m).de "(",(yC m).de "{",vXf,vV7 hm,qY4 hm];rfl) (by decide +kernel)) (by decide +kernel) (by decide +kernel) (by decide +kernel);have l:qQ1 (vL 11) ")" 3 [S L,",","flip","(","1","/","2",")",",",S (dg m),")"]=.ok (.tup [tg "name" [.str (S L)],tg "flip" [.int 1,.int 2],tg "num" [.int m]]) []:=by
  show cond (decide (S L=")")) _ ((vL 11 [S L,",","flip","(","1","/","2",")",",",S (dg m),")"]).bind _)=_;rw[(yK hL).de ")",a1];show(((vL 11 ["flip","(","1","/","2",")",",",S (dg m),")"]).bind _).bind _)=_;rw[a2];show(((vL 11 [S (dg m),")"]).bind _).bind _)=_;rw[a3];rfl
 have h:qYf (vL 11) ["if","(",S L,",","flip","(","1","/","2",")",",",S (dg m),")"]=.ok (tg "if" [tg "name" [.str (S L)],tg "flip" [.int 1,.int 2],tg "num" [.int m]]) []:=by
  show((qQ1 (vL 11) ")" 3 [S L,",","flip","(","1","/","2",")",",",S (dg m),")"]).bind _)=_;rw[l];rfl
 show((pTold ("=":: ["if","(",S L,",","flip","(","1","/","2",")",",",S (dg m),")"])).bind fun d r=>Pr.ok (tg "let" [.str "x",d]) r)=_;rw[told,xZ (wP h rfl) rfl rfl rfl];rfl
theorem onD:qZi [.str (S L)]=some false:=by
 unfold qZi;show(match some (D.int ((vJj [.inr (S L)]).length :Nat)) with
  |some (.int n)=>some (decide (n<1))
  |_=>none)=_
 have:vJj [.inr (S L)]=[.inr (S L)]:=by simp[vJj,SG.fmK,SG.vK]
 rw[this];rfl
include hm in
theorem p6:pWords ["def",S L,"(",")","=","{",S L,":",S (dg m),"}"]=.ok (tg "def" [.str (S L),.tup [],tg "record" [.tup [.tup [.str (S L),tg "num" [.int m]]]]]) []:=by
 have a3:vL 11 [S (dg m),"}"]=.ok (tg "num" [.int m]) ["}"]:=xZ (wP (by show cond (decide (S (dg m)="(")) _ (cond (decide (S (dg m)="{")) _ (cond (zH.contains (S (dg m))) _ (cond (jG (S (dg m))) (Pr.ok (tg "num" [.int (valS (S (dg m)))]) _) _)))=_;rw[(yC m).de "(",(yC m).de "{",vXf,vV7 hm,qY4 hm];rfl) (by decide +kernel)) (by decide +kernel) (by decide +kernel) (by decide +kernel);have f1:qQs (vL 11) [S L,":",S (dg m),"}"]=.ok (.tup [.str (S L),tg "num" [.int m]]) ["}"]:=by
  unfold qQs;rw[pn hL];dsimp only[Pr.bind];rw[sk_ok,a3]
 have l1:qQ1 (qQs (vL 11)) "}" 6 [S L,":",S (dg m),"}"]=.ok (.tup [.tup [.str (S L),tg "num" [.int m]]]) []:=by
  show cond (decide (S L="}")) _ ((qQs (vL 11) [S L,":",S (dg m),"}"]).bind _)=_;rw[(yK hL).de "}",f1];rfl
 have l2:qXl (qQs (vL 11)) "}" [S L,":",S (dg m),"}"]=.ok (.tup [.tup [.str (S L),tg "num" [.int m]]]) []:=by
  unfold qXl;rw[l1];show(match qZi [.str (S L)] with
   |some b=>cond b Pr.er (.ok _ [])
   |none=>.no)=_
  rw[onD hL];rfl
 have h:qYf (vL 11) ["{",S L,":",S (dg m),"}"]=.ok (tg "record" [.tup [.tup [.str (S L),tg "num" [.int m]]]]) []:=by
  show((qXl (qQs (vL 11)) "}" [S L,":",S (dg m),"}"]).bind fun t r=>Pr.ok (tg "record" [t]) r)=_;rw[l2];rfl
 have e:pDef (S L::"("::")"::"=":: ["{",S L,":",S (dg m),"}"])=(pTold ("=":: ["{",S L,":",S (dg m),"}"])).bind fun d r=>Pr.ok (tg "def" [.str (S L),.tup [],d]) r:=by
  unfold pDef;rw[pn hL];kernel_rfl
 show pDef (S L::"("::")"::"=":: ["{",S L,":",S (dg m),"}"])=_;rw[e,told,xZ (wP h rfl) rfl rfl rfl];rfl
theorem p7:pWords ["ask",S L]=.ok (.tup [.str "ask",tg "name" [.str (S L)]]) []:=jWv (xZ (tn hL rfl rfl) rfl rfl rfl)
end
theorem seam{x:List Nat}(h:∀a b,x.getLast?=some a->y.head?=some b->2<=qR a\/2<=qR b):parts (x ++ y)=parts x ++ parts y:=
 qXe x.length x y (aD _) fun a b ha hb e=>by
  have:=h a b ha hb;have:=qK4 a;omega
theorem vJh(m:Nat):parts (dg m)=[dg m]:=vQk (k:=1) (qJl m) (fun c hc=>qK3 (xX m c hc)) (by intro q;cases q) (by decide)
theorem vJo:∀c∈dg m,c<128/\c≠10:=fun c hc=>by have:=xX m c hc;omega
section
variable{L:List Nat}(hL:Nm L)
include hL
theorem qWn:parts L=[L]:=vQk (k:=0) hL.ne hL.k0 (by intro q;cases q) (by decide)
theorem qWr:∀c∈L,c<128/\c≠10:=fun c hc=>by have:=(qW2 c (hL.k c hc)).1;omega
end
theorem w1{A x r:List Nat}{pa wr:List Str}(ea:(parts A).map S=pa)(hA:∀a,A.getLast?=some a->2<=qR a)(ex:parts x=[x])(er:(parts r).map S=wr)(hr:∀b,r.head?=some b->2<=qR b):(parts (A ++ (x ++ r))).map S=pa ++ (S x::wr):=by
 rw[seam fun a b ha _=>.inl (hA a ha),seam fun a b _ hb=>.inr (hr b hb),dD,dD,ea,ex,er];rfl
structure Rw where
 R:List Nat
 u:Option D
noncomputable def uD:Option D->D
 |none=>.non
 |some d=>d
noncomputable def Rw.t(r:Rw):D:=.tup [.str (S r.R),uD r.u]
mutual
noncomputable def okA:D->Bool
 |.str _=>true
 |.int _=>true
 |.nd .tup ds=>okAs ds
 |.nd .lst ds=>okAs ds
 |_=>false
noncomputable def okAs:List D->Bool
 |[]=>true
 |d::ds=>okA d && okAs ds
end
mutual
noncomputable def hA:D->Nat
 |.nd _ ds=>hAs ds+1
 |_=>1
noncomputable def hAs:List D->Nat
 |[]=>0
 |d::ds=>max (hA d) (hAs ds)
end
structure OkR(r:Rw):Prop where
 ch:∀c∈r.R,c<128/\c≠10
 ln:r.R.length<=1100
 bad:r.u=none->rowX r.R=.er
 ok:∀d,r.u=some d->rowX r.R=.ok d []/\okA d=true/\hA d<=8/\∃w x,d=.tup (.str w::x)
theorem mbW(hW:Wd W)(s:Int×Int):mbS s W=(s.1,mx s.2 s.1):=by
 unfold mbS;rw[hW.con "(" "{",hW.con ")" "}"];rfl
theorem mb2(a W:Str)(r:List Str):mb (a::W::r)=(r.foldl mbS (mbS (mbS (0,0) a) W)).2:=rfl
theorem qWp{w:Str}(ch:∀c∈R,c<128/\c≠10)(ln:R.length<=1000)(hw:(parts R).map S=ws)(hm:(decide ((ws.length:Int) > 60) || decide (mb ws > 10))=false)(hp:pWords ws=.ok (.tup (.str w::ds)) [])(hd:depD (qWs (.tup (.str w::ds)))=some n)(hn:n<=10)(ho:okA (.tup (.str w::ds))=true)(hh:hA (.tup (.str w::ds))<=8):OkR ⟨R,some (.tup (.str w::ds))⟩ where
 ch:=ch;ln:=aM ln (by decide);bad:=fun h=>by cases h
 ok:=fun d e=>by
  cases e;refine⟨?_,ho,hh,_,_,rfl⟩;unfold rowX;rw[decide_eq_false (show¬1000<R.length by omega)];show rowW ((parts R).map S)=_;rw[hw];exact jVd hm hp hd hn
noncomputable def okC(l:List Nat):Bool:=l.all fun c=>decide (c<128) &&!decide (c=10)
theorem zW(h:okC l=true):∀c∈l,c<128/\c≠10:=fun c hc=>by
 have:=List.all_eq_true.mp h c hc;simpa only[aF,decide_eq_true_eq,Bool.not_eq_true',decide_eq_false_iff_not] using this
theorem vR{x:List Nat}(h:∀c∈x,c<128/\c≠10)(k:∀c∈y,c<128/\c≠10):∀c∈x ++ y,c<128/\c≠10:=fun c hc=>(cF.mp hc).elim (h c) (k c)
section
variable{L:List Nat}(hL:Nm L){m q:Nat}(hm:m<10 ^ 12)(hq:q<=30)
noncomputable abbrev R0(L:List Nat)(m:Nat):List Nat:=cd "let " ++ (L ++ ([32,61,32] ++ (dg m ++ [])))
noncomputable abbrev R1(L:List Nat)(m:Nat):List Nat:=cd "see " ++ (L ++ ([32,60,32] ++ (dg m ++ [])))
noncomputable abbrev R2(L:List Nat)(q:Nat):List Nat:=cd "again " ++ (dg q ++ ([32] ++ (L ++ ([32,61,32] ++ (L ++ [32,43,32,49])))))
noncomputable abbrev R3(L:List Nat):List Nat:=cd "def " ++ (L ++ cd "(a, b) = a * b")
noncomputable abbrev R4(L:List Nat)(m:Nat):List Nat:=cd "let x=if( " ++ (L ++ ([44,102,108,105,112,40,49,47,50,41,32,44,32] ++ (dg m ++ [41])))
noncomputable abbrev R6(L:List Nat)(m:Nat):List Nat:=cd "def " ++ (L ++ ([40,41,32,61,32,123] ++ (L ++ ([58] ++ (dg m ++ [125])))))
noncomputable abbrev R7(L:List Nat):List Nat:=cd "ask " ++ (L ++ [])
include hL
include hm in
theorem ok0:OkR ⟨R0 L m,some (tg "let" [.str (S L),tg "num" [.int m]])⟩:=by
 have l1:=hL.h2;have l2:=qQt hm;refine qWp (n:=1) (vR (zW (by decide +kernel)) (vR (qWr hL) (vR (zW (by decide +kernel)) (vR vJo (zW rfl))))) ?_ (w1 (pa:=["let"]) (by decide +kernel) (by decide +kernel) (qWn hL) (w1 (pa:=["="]) (wr:=[]) (by decide +kernel) (by decide +kernel) (vJh m) rfl (by decide)) (fun b hb=>by cases hb;decide)) ?_ (p0 hL hm) (by kernel_rfl) (by decide) (by kernel_rfl) (bR (by kernel_rfl))
 ·simp only[aJ];show 4+(_+(3+(_+0)))<=1000;omega
 ·show(decide ((4:Int) > 60) || decide ((mbS (mbS (mbS (0,0) (S L)) "=") (S (dg m))).2 > 10))=false;rw[mbW (yK hL),mbW (yC m)];decide +kernel
include hm in
theorem ok1:OkR ⟨R1 L m,some (.tup [.str "see",tg "op" [.str "<",tg "name" [.str (S L)],tg "num" [.int m]]])⟩:=by
 have l1:=hL.h2;have l2:=qQt hm;refine qWp (n:=2) (vR (zW (by decide +kernel)) (vR (qWr hL) (vR (zW (by decide +kernel)) (vR vJo (zW rfl))))) ?_ (w1 (pa:=["see"]) (by decide +kernel) (by decide +kernel) (qWn hL) (w1 (pa:=["<"]) (wr:=[]) (by decide +kernel) (by decide +kernel) (vJh m) rfl (by decide)) (fun b hb=>by cases hb;decide)) ?_ (p1 hL hm) (by kernel_rfl) (by decide) (by kernel_rfl) (bR (by kernel_rfl))
 ·simp only[aJ];show 4+(_+(3+(_+0)))<=1000;omega
 ·show(decide ((4:Int) > 60) || decide ((mbS (mbS (mbS (0,0) (S L)) "<") (S (dg m))).2 > 10))=false;rw[mbW (yK hL),mbW (yC m)];decide +kernel
include hq in
theorem ok2:OkR ⟨R2 L q,some (tg "again" [.int q,.str (S L),tg "op" [.str "+",tg "name" [.str (S L)],tg "num" [.int 1]]])⟩:=by
 have l1:=hL.h2;have l2:=qQt (m:=q) (by omega);refine qWp (n:=2) (vR (zW (by decide +kernel)) (vR vJo (vR (zW (by decide +kernel)) (vR (qWr hL) (vR (zW (by decide +kernel)) (vR (qWr hL) (zW (by decide +kernel)))))))) ?_ (w1 (pa:=["again"]) (by decide +kernel) (by decide +kernel) (vJh q) (w1 (pa:=[]) (by decide +kernel) (by decide +kernel) (qWn hL) (w1 (pa:=["="]) (wr:=["+","1"]) (by decide +kernel) (by decide +kernel) (qWn hL) (by decide +kernel) (by decide +kernel)) (fun b hb=>by cases hb;decide)) (fun b hb=>by cases hb;decide)) ?_ (p2 hL hq) (by kernel_rfl) (by decide) (by kernel_rfl) (bR (by kernel_rfl))
 ·simp only[aJ];show 6+(_+(1+(_+(3+(_+4)))))<=1000;omega
 ·show(decide ((7:Int) > 60) || decide ((mbS (mbS (mbS (mbS (mbS (mbS (0,0) (S (dg q))) (S L)) "=") (S L)) "+") "1").2 > 10))=false;rw[mbW (yC q),mbW (yK hL),mbW (yK hL)];decide +kernel
theorem ok3:OkR ⟨R3 L,some (tg "def" [.str (S L),.tup [.str "a",.str "b"],tg "op" [.str "*",tg "name" [.str "a"],tg "name" [.str "b"]]])⟩:=by
 have l1:=hL.h2;refine qWp (n:=2) (vR (zW (by decide +kernel)) (vR (qWr hL) (zW (by decide +kernel)))) ?_ (w1 (pa:=["def"]) (by decide +kernel) (by decide +kernel) (qWn hL) (wr:=["(","a",",","b",")","=","a","*","b"]) (by decide +kernel) (by decide +kernel)) ?_ (p3 hL) (by kernel_rfl) (by decide) (by kernel_rfl) (bR (by kernel_rfl))
 ·simp only[aJ];show 4+(_+14)<=1000;omega
 ·show(decide ((11:Int) > 60) || decide (mb ("def"::S L:: ["(","a",",","b",")","=","a","*","b"]) > 10))=false;rw[mb2,mbW (yK hL)];decide +kernel
include hm in
theorem ok4:OkR ⟨R4 L m,some (tg "let" [.str "x",tg "if" [tg "name" [.str (S L)],tg "flip" [.int 1,.int 2],tg "num" [.int m]]])⟩:=by
 have l1:=hL.h2;have l2:=qQt hm;refine qWp (n:=2) (vR (zW (by decide +kernel)) (vR (qWr hL) (vR (zW (by decide +kernel)) (vR vJo (zW (by decide +kernel)))))) ?_ (w1 (pa:=["let","x","=","if","("]) (by decide +kernel) (by decide +kernel) (qWn hL) (w1 (pa:=[",","flip","(","1","/","2",")",","]) (wr:=[")"]) (by decide +kernel) (by decide +kernel) (vJh m) (by decide +kernel) (by decide +kernel)) (fun b hb=>by cases hb;decide)) ?_ (p4 hL hm) (by kernel_rfl) (by decide) (by kernel_rfl) (bR (by kernel_rfl))
 ·simp only[aJ];show 10+(_+(13+(_+1)))<=1000;omega
 ·show(decide ((16:Int) > 60) || decide ((mbS (mbS (([",","flip","(","1","/","2",")",","]:List Str).foldl mbS (mbS (1,1) (S L))) (S (dg m))) ")").2 > 10))=false;rw[mbW (yK hL),mbW (yC m)];decide +kernel
include hm in
theorem ok6:OkR ⟨R6 L m,some (tg "def" [.str (S L),.tup [],tg "record" [.tup [.tup [.str (S L),tg "num" [.int m]]]]])⟩:=by
 have l1:=hL.h2;have l2:=qQt hm;refine qWp (n:=2) (vR (zW (by decide +kernel)) (vR (qWr hL) (vR (zW (by decide +kernel)) (vR (qWr hL) (vR (zW (by decide +kernel)) (vR vJo (zW (by decide +kernel)))))))) ?_ (w1 (pa:=["def"]) (by decide +kernel) (by decide +kernel) (qWn hL) (w1 (pa:=["(",")","=","{"]) (by decide +kernel) (by decide +kernel) (qWn hL) (w1 (pa:=[":"]) (wr:=["}"]) (by decide +kernel) (by decide +kernel) (vJh m) (by decide +kernel) (by decide +kernel)) (fun b hb=>by cases hb;decide)) (fun b hb=>by cases hb;decide)) ?_ (p6 hL hm) (by kernel_rfl) (by decide) (by kernel_rfl) (bR (by kernel_rfl))
 ·simp only[aJ];show 4+(_+(6+(_+(1+(_+1)))))<=1000;omega
 ·show(decide ((10:Int) > 60) || decide ((mbS (mbS (mbS (mbS ((["(",")","=","{"]:List Str).foldl mbS (mbS (0,0) (S L))) (S L)) ":") (S (dg m))) "}").2 > 10))=false;rw[mbW (yK hL),mbW (yK hL),mbW (yC m)];decide +kernel
theorem ok7:OkR ⟨R7 L,some (.tup [.str "ask",tg "name" [.str (S L)]])⟩:=by
 have l1:=hL.h2;refine qWp (n:=1) (vR (zW (by decide +kernel)) (vR (qWr hL) (zW rfl))) ?_ (w1 (pa:=["ask"]) (by decide +kernel) (by decide +kernel) (qWn hL) (wr:=[]) rfl (by decide)) ?_ (p7 hL) (by kernel_rfl) (by decide) (by kernel_rfl) (bR (by kernel_rfl))
 ·simp only[aJ];show 4+(_+0)<=1000;omega
 ·show(decide ((2:Int) > 60) || decide ((mbS (0,0) (S L)).2 > 10))=false;rw[mbW (yK hL)];decide +kernel
end
noncomputable abbrev R5:List Nat:=cd " see flip(1/3)=1 "
noncomputable abbrev d5:D:=.tup [.str "see",tg "op" [.str "=",tg "flip" [.int 1,.int 3],tg "num" [.int 1]]]
theorem ok5(n:Nat)(hn:n<=983):OkR ⟨R5 ++ List.replicate n 32,some d5⟩:=
 qWp (n:=2) (ws:=["see","flip","(","1","/","3",")","=","1"]) (vR (zW (by decide +kernel)) (fun c hc=>by rw[List.eq_of_mem_replicate hc];decide)) (by rw[aJ,dS];show 17+_<=_;omega) (by rw[qYb];decide +kernel) (by decide +kernel) (by kernel_rfl) (by kernel_rfl) (by decide) (by kernel_rfl) (bR (by kernel_rfl))
theorem oAsk:OkR ⟨cd "ask 7",some (.tup [.str "ask",tg "num" [.int 7]])⟩:=
 qWp (n:=1) (ws:=["ask","7"]) (zW (by decide +kernel)) (by decide) (by decide +kernel) (by decide +kernel) (by kernel_rfl) (by kernel_rfl) (by decide) (by kernel_rfl) (bR (by kernel_rfl))
noncomputable def bads:List (List Nat):=[""," ","let","let x","let x =","let = 1","let x 1","let x = 1 2","see","ask","let x = (1","let x = 1)","Let x = 1","lett x = 1","again x = 1","again 31 x = 1","again 2 = 1","def f = 1","def f(a, a) = 1","def f(a) 1","let x = a = b = c","let x = + 1","let x = {}","see x = 1 ask 0","let x = flip(2/2)","let if = 1","see 1;","1","let x = 1 # 2","let x = a.1","def f(a, b, c, d) = 1","let x\t= 1","\tsee 1","let x =\t1"].map cd ++ (cd "let x = 1" ++ List.replicate 992 32):: ["let x = 1\t","def f() = 1\t","see 1 \t"].map cd
noncomputable def isEr:Pr->Bool
 |.er =>true
 |_=>false
theorem zXf:(bads.all fun R=>(okC R && decide (R.length<=1100)) && isEr (rowX R))=true:=by kernel_rfl
theorem oB(h:R∈bads):OkR ⟨R,none⟩:=by
 have:=List.all_eq_true.mp zXf R h;rw[aF,aF]at this;refine⟨zW this.1.1,of_decide_eq_true this.1.2,fun _=>?_,fun d e=>by cases e⟩;have h2:=this.2;unfold isEr at h2;split at h2
 ·assumption
 ·cases h2
theorem dv(h:qJt a b):i2g qJt (fun i j=>i / j) (.int a) (.int b)=some (.int (a / b)):=if_pos h
theorem md(h:0<b):i2g (fun _ j=>0<j) (fun i j=>i % j) (.int a) (.int b)=some (.int (a % b)):=if_pos h
theorem jQy{x y:Str}(h:x.length+y.length<=5000):addS (.str x) (.str y)=some (.str (x ++ y)):=if_pos (aM h (by decide))
theorem ml(h:IntMulOk a b):i2g IntMulOk (fun i j=>i * j) (.int a) (.int b)=some (.int (a * b)):=if_pos h
noncomputable def isS(c:Nat):Option D->Bool
 |some (.str z)=>decide (z=⟨#[c]⟩)
 |_=>false
theorem jJg:(List.range 15).all (fun i=>isS (abc.getD i 0) (ixD (.str "abcdegmnouvwxyz") (.int (i:Nat))))=true:=by decide +kernel
theorem jWw(h:i<15):∃c∈abc,ixD (.str "abcdegmnouvwxyz") (.int (i:Nat))=some (.str (S [c])):=by
 have:=List.all_eq_true.mp jJg i (List.mem_range.mpr h);unfold isS at this;split at this
 ·rename_i z e;refine⟨abc.getD i 0,?_,by rw[e,of_decide_eq_true this]⟩;rw[bI,aI (show i<abc.length from h)];exact List.getElem_mem _
 ·cases this
section
variable{a:Int}
noncomputable abbrev ne'(a:Int)(L:List Nat)(y:Slot):Ev:=[sN a,sS (S L),y]
theorem name_step(hk:k<=7)(hl:L.length<=12):∃c∈abc,yW (ne' a L (sN k))=.ok (.nx (ne' a (L ++ [c]) (sN k))):=by
 have d:qJt a ((k:Int)+1):=⟨by omega,(by decide +kernel:∀k:Nat,k<=7->((k:Int)+1).natAbs.log2<9000) k hk⟩
 obtain⟨j,hj⟩:∃j:Nat,(j:Int)=a / ((k:Int)+1) % 15:=⟨(a / ((k:Int)+1) % 15).toNat,by omega⟩
 have h15:j<15:=by omega
 obtain⟨c,hc,e⟩:=jWw h15;refine⟨c,hc,?_⟩;have x2:oV (o2 addS (oN 1) (oIx (oC (.str "abcdegmnouvwxyz")) (oMod (oDiv (oN 0) (oAdd (oN 2) (oC (.int 1)))) (oC (.int 15))))) (ne' a L (sN k))=.ok (.str (S (L ++ [c])),ne' a L (sN k)):=by
  refine vY (h1:=.d (.str (S (L ++ [c])))) (qM (h1:=.d (.str (S L))) (h2:=.d (.str (S [c]))) rfl (jH (h1:=.d (.str "abcdegmnouvwxyz")) (h2:=.d (.int (j:Nat))) rfl (qM (h1:=.d (.int (a / ((k:Int)+1)))) (h2:=.d (.int 15)) (qM (h1:=.d (.int a)) (h2:=.d (.int ((k:Int)+1))) rfl rfl rfl rfl rfl (dv d) rfl) rfl rfl rfl rfl (md (by decide)) (by rw[hj])) rfl rfl (z:=.str (S [c])) ?_ rfl) rfl rfl rfl ?_ rfl) rfl
  ·show(ixD _ _).map Hn.d=_;rw[e];rfl
  ·rw[jQy (by rw[wT,wT];show L.length+1<=_;omega),vJr]
 unfold yW;exact qJb (zX x2 rfl) rfl
theorem name_loop:∀(ks:List Nat) (L:List Nat) (y:Slot),(∀k∈ks,k<=7)->L.length+ks.length<=12->(∀c∈L,c∈abc)->∃L' y',forS (gN 2) yW (ks.map fun(k:Nat)=>D.int (0+(k:Int))) (ne' a L y)=.ok (.nx (ne' a L' y'))/\L'.length=L.length+ks.length/\∀c∈L',c∈abc
 |[],L,y,_,_,hL=>⟨L,y,rfl,rfl,hL⟩
 | k::ks,L,y,hk,hl,hL=>by
   rw[aW]at hl;obtain⟨c,hc,h1⟩:=name_step (a:=a) (hk k (aA ..)) (L:=L) (by omega);obtain⟨L',y',h2,h3,h4⟩:=name_loop ks (L ++ [c]) (sN k) (fun x hx=>hk x (aB _ hx)) (by rw[aJ];show L.length+1+_<=_;omega) (fun z hz=>by
    rcases cF.mp hz with q|q
    ·exact hL z q
    ·rw[bA.mp q];exact hc)
   exact⟨L',y',xJ (e1:=ne' a L (sN k)) (by show some (ne' a L (sN (0+(k:Int))))=_;rw[Int.zero_add]) h1 h2,by rw[h3];simp only[aJ,aW,List.length_nil];omega,h4⟩
theorem name_ok(a:Int):∃L,zG [sN a]=.ok (.fz (.str (S L)),[.un])/\Nm L:=by
 obtain⟨m,hm⟩:∃m:Nat,(m:Int)=1+a % 8:=⟨(1+a % 8).toNat,by omega⟩
 have h2:m<=8:=by omega
 obtain⟨L,y,h3,h4,h5⟩:=name_loop (a:=a) (List.range m) [] .un (fun k hk=>by have:=List.mem_range.mp hk;omega) (by rw[List.length_range];show 0+m<=_;omega) (fun c hc=>by cases hc);rw[List.length_range]at h4;have h4' :L.length=m:=by rw[h4];show 0+m=m;omega
 refine⟨L,?_,⟨by omega,by omega,h5⟩⟩;have it:iL rg1 [(oV (oAdd (oC (.int 1)) (oMod (oN 0) (oC (.int 8)))))] (ne' a [] .un)=.ok ((List.range m).map fun(k:Nat)=>D.int (0+(k:Int)),ne' a [] .un):=by
  refine vYy (xs:=[.int m]) (qT (d:=.int m) (e:=ne' a [] .un) (vY (h1:=.d (.int m)) (qM (h1:=.d (.int 1)) (h2:=.d (.int (a % 8))) rfl (qM (h1:=.d (.int a)) (h2:=.d (.int 8)) rfl rfl rfl rfl rfl (md (by decide)) rfl) rfl rfl rfl (z:=.int m) (by show some (D.int (1+a % 8))=_;rw[hm]) rfl) rfl) (wJ rfl) rfl) ?_ rfl;show cond (in62 (m:Int)) (some (rngD 0 (m:Int).toNat)) none=_;have:∀m:Nat,m<=12->in62 (m:Int)=true:=by decide +kernel
  rw[this m (by omega)];rfl
 unfold zG;exact vB (qU (o:=.fz (.str "")) (e:=[sN a,.un,.un]) rfl (jX (yN it h3) rfl)) rfl
end
theorem jZn{v:Nat}(h:v<10 ^ 44):v.log2<1920:=by
 by_cases z:v=0
 ·subst z;decide +kernel
 ·exact(Nat.log2_lt z).mpr (aE h (by decide +kernel))
theorem zXo(h:m<10 ^ 12):strD [.int (m:Int)]=some (.str (S (dg m))):=by
 show cond (decide (m.log2<1920)) (some (D.str (Str.ofString (toString (m:Int))))) _=_;rw[decide_eq_true (jZn (Nat.lt_trans h (by decide)))];show some (D.str (Str.ofString (toString (m:Int))))=_;rw[←S_of (Str.ofString (toString (m:Int))),PySem.W.KIN.signs_num]
theorem qZe{F:Fn}{vs:List SV}{zs:List D}{o:O}(hv:evOs ((vs.map Am.v).map Am.o) env=.ok (zs.map .d,e))(hl:vs.length=zs.length)(h:F (zs.map fz)=.ok (o,List.replicate zs.length .un)):qP F (vs.map .v) env=.ok (o,e):=by
 have k1:∀(vs:List SV) (zs:List D),vs.length=zs.length->zI (vs.map .v) (zs.map .d)=[]/\wC (vs.map .v) (zs.map .d)=[]/\jN [] [] (vs.map .v) (zs.map .d) []=some (zs.map fz)/\qV5 (vs.map .v) (List.replicate zs.length .un)=some []:=by
  intro vs;induction vs with
  |nil=>intro zs h;cases zs <;> first|exact⟨rfl,rfl,rfl,rfl⟩|cases h
  | cons v vs ih=>
    intro zs h;cases zs with
    |nil=>cases h
    | cons z zs=>
      obtain⟨a,b,c,d⟩:=ih zs (Nat.succ.inj h);refine⟨a,b,?_,d⟩;show(jN [] [] (vs.map .v) (zs.map .d) []).bind _=_;rw[c];rfl
 obtain⟨a,b,c,d⟩:=k1 vs zs hl;refine zF hv (qVc (t0:=([],e)) (t:=([],e)) (os:=[]) (by rw[a];rfl) (by rw[b];rfl) (by rw[a];exact c) h d rfl ?_);rw[a,b];rfl
theorem nat_mod(x:Int){p:Nat}(hp:0<p):∃m:Nat,x % (p:Int)=(m:Int)/\m<p:=by
 have e1:=Int.emod_nonneg x (show(p:Int)≠0 by omega);have e2:=Int.emod_lt_of_pos x (show(0:Int)<p by omega);exact⟨(x % (p:Int)).toNat,by omega,by omega⟩
theorem cS{x:Str}(h:x=S l):evO (oC (.str x)) env=.ok (.d (.str (S l)),env):=by subst h;rfl
theorem aS{oa ob:Oe}{x:List Nat}(ha:evO oa env=.ok (.d (.str (S x)),env))(hb:evO ob env=.ok (.d (.str (S y)),env))(h:x.length+y.length<=2000):evO (o2 addS oa ob) env=.ok (.d (.str (S (x ++ y))),env):=
 qM (h1:=.d (.str (S x))) (h2:=.d (.str (S y))) ha hb rfl rfl rfl (by rw[jQy (by rw[wT,wT];omega),vJr]) rfl
theorem nS(h:m<10 ^ 12){o:Oe}(ho:evO o env=.ok (.d (.int (m:Nat)),env)):evO (oL strD [o]) env=.ok (.d (.str (S (dg m))),env):=
 qYi (hs:=[.d (.int (m:Nat))]) (xs:=[.int (m:Nat)]) (xW ho rfl rfl rfl) rfl (zXo h) rfl
theorem oVS{o:Oe}{x:List Nat}(h:evO o env=.ok (.d (.str (S x)),env))(e:x=y):oV o env=.ok (.str (S y),env):=by subst e;exact vY h rfl
noncomputable abbrev re(k a:Int)(L:List Nat)(m:Nat)(p4 p5 p6 p7:Slot):Ev:=[sN k,sN a,sS (S L),sN m,p4,p5,p6,p7]
section
variable{a:Int}{L:List Nat}(hL:Nm L){m:Nat}(hm:m<10 ^ 12)
include hL hm
theorem tup2{v1 v2:SV}(h1:v1 env=.ok (.str (S R),env))(h2:v2 env=.ok (d,env)):owS (svTup [v1,v2]) env=.ok (.fz (Rw.t ⟨R,some d⟩),env):=
 zX (yD (qT h1 (qT h2 (wJ rfl) rfl) rfl) rfl rfl) rfl
theorem x0(hn:zG [sN a]=.ok (.fz (.str (S L)),[.un]))(he:a * 999983 % 10 ^ 12=(m:Int)){k:Int}{t:SS}{o:O}(h:t (re k a L m .un .un .un .un)=.ok (.rt o e)):(sSeq (sSet 2 (qP zG [(.v (oV (oN 1)))])) (sSeq (sSet 3 (owS (oV (oMod (oMul (oN 1) (oC (.int 999983))) (oPow (oC (.int 10)) (oC (.int 12))))))) t)) [sN k,sN a,.un,.un,.un,.un,.un,.un]=.ok (.rt o e):=by
 have c1:qP zG [(.v (oV (oN 1)))] [sN k,sN a,.un,.un,.un,.un,.un,.un]=.ok (.fz (.str (S L)),[sN k,sN a,.un,.un,.un,.un,.un,.un]):=qZe (vs:=[oV (oN 1)]) (zs:=[.int a]) rfl rfl hn;refine qU c1 (qU (o:=.fz (.int (m:Nat))) (e:=[sN k,sN a,sS (S L),.un,.un,.un,.un,.un]) (zX (d:=.int (m:Nat)) ?_ rfl) h);rw[←he];exact vY (h1:=.d (.int (a * 999983 % 10 ^ 12))) (qM (h1:=.d (.int (a * 999983))) (h2:=.d (.int (10 ^ 12))) (qM (h1:=.d (.int a)) (h2:=.d (.int 999983)) rfl rfl rfl rfl rfl (ml (.of_right (by decide +kernel))) rfl) rfl rfl rfl rfl (md (by decide)) rfl) rfl
end
theorem row6{z:Int}(hz:5<z)(hn:zG [sN a]=.ok (.fz (.str (S L)),[.un]))(he:a * 999983 % ((10 ^ 12:Nat):Int)=(m:Int))(hL:Nm L)(hm:m<10 ^ 12):∃r,OkR r/\wE [sN z,sN a]=.ok (.fz r.t,[.un,.un]):=by
 have l1:=hL.h2;have l2:=qQt hm;unfold wE;have f:∀j:Int,j<=5->asB (o2 eqF (oN 0) (oC (.int j))) (re z a L m .un .un .un .un)=.ok (false,re z a L m .un .un .un .un):=fun j hj=>
  vM (d:=.bl (z == j)) (vY (h1:=.d (.bl (z == j))) (qM (h1:=.d (.int z)) (h2:=.d (.int j)) rfl rfl rfl rfl rfl rfl rfl) rfl) rfl (by rw[show(z == j)=false by rw[beq_eq_false_iff_ne];omega])
 refine⟨⟨R6 L m,_⟩,ok6 hL hm,vB (x0 hL hm hn he (k:=z) (qW (f 0 (by decide)) (qE (qW (f 1 (by decide)) (qE (qW (f 2 (by decide)) (qE (qW (f 3 (by decide)) (qE (qW (f 4 (by decide)) (qE (qW (f 5 (by decide)) (qE (qU (o:=.fz (tg "record" [.tup [.tup [.str (S L),tg "num" [.int m]]]])) (e:=re z a L m .un .un .un .un) rfl (xI (tup2 hL hm (oVS (aS (aS (aS (aS (aS (aS (cS (l:=cd "def ") (by kernel_rfl)) rfl ?_) (cS (l:=[40,41,32,61,32,123]) (by kernel_rfl)) ?_) rfl ?_) (cS (l:=[58]) (by kernel_rfl)) ?_) (nS hm rfl) ?_) (cS (l:=[125]) (by kernel_rfl)) ?_) ?_) rfl) rfl))))))))))))))) rfl⟩
 ·show 4+_<=2000;omega
 ·simp only[aJ];show 4+_+6<=2000;omega
 ·simp only[aJ];show 4+_+6+_<=2000;omega
 ·simp only[aJ];show 4+_+6+_+1<=2000;omega
 ·simp only[aJ];show 4+_+6+_+1+_<=2000;omega
 ·simp only[aJ];show 4+_+6+_+1+_+1<=2000;omega
 ·simp only[bU]
set_option maxHeartbeats 0 in
theorem zJu(k:Nat)(a:Int):∃r e,OkR r/\wE [sN k,sN a]=.ok (.fz r.t,e)/\e=[.un,.un]:=by
 obtain⟨L,hn,hL⟩:=name_ok a;obtain⟨m,he,hm⟩:=nat_mod (a * 999983) (p:=10 ^ 12) (by decide);obtain⟨q,hq,hq2⟩:=nat_mod a (p:=31) (by decide);have l1:=hL.h2;have l2:=qQt hm;have l3:=qQt (m:=q) (by omega);unfold wE;match k with
 | 0=>
   refine⟨⟨R0 L m,_⟩,_,ok0 hL hm,vB (x0 hL hm hn he (k:=0) (qW (q:=true) (e:=re 0 a L m .un .un .un .un) rfl (wQ (tup2 hL hm (oVS (aS (aS (aS (cS (l:=cd "let ") (by kernel_rfl)) rfl ?_) (cS (l:=[32,61,32]) (by kernel_rfl)) ?_) (nS hm rfl) ?_) ?_) rfl) rfl))) rfl,rfl⟩
   ·show 4+_<=2000;omega
   ·simp only[aJ];show 4+_+3<=2000;omega
   ·simp only[aJ];show 4+_+3+_<=2000;omega
   ·rw[bU,bU];show _=_ ++ (L ++ (_ ++ (dg m ++ [])));rw[bG]
 | 1=>
   refine⟨⟨R1 L m,_⟩,_,ok1 hL hm,vB (x0 hL hm hn he (k:=1) (qW (q:=false) (e:=re 1 a L m .un .un .un .un) rfl (qE (qW (q:=true) (e:=re 1 a L m .un .un .un .un) rfl (wQ (tup2 hL hm (oVS (aS (aS (aS (cS (l:=cd "see ") (by kernel_rfl)) rfl ?_) (cS (l:=[32,60,32]) (by kernel_rfl)) ?_) (nS hm rfl) ?_) ?_) rfl) rfl))))) rfl,rfl⟩
   ·show 4+_<=2000;omega
   ·simp only[aJ];show 4+_+3<=2000;omega
   ·simp only[aJ];show 4+_+3+_<=2000;omega
   ·rw[bU,bU];show _=_ ++ (L ++ (_ ++ (dg m ++ [])));rw[bG]
 | 2=>
   have hqe:∀env:Ev,env[1]?=some (sN a)->evO (oMod (oN 1) (oC (.int 31))) env=.ok (.d (.int (q:Nat)),env):=fun env h=>by
    rw[←hq];have:evO (oN 1) env=.ok (.d (.int a),env):=by
     show(opt (qZb 1 env)).bind _=_;unfold qZb;rw[h];rfl
    exact qM (h1:=.d (.int a)) (h2:=.d (.int 31)) this rfl rfl rfl rfl (md (by decide)) rfl
   refine⟨⟨R2 L q,_⟩,_,ok2 hL (by omega),vB (x0 hL hm hn he (k:=2) (qW (q:=false) (e:=re 2 a L m .un .un .un .un) rfl (qE (qW (q:=false) (e:=re 2 a L m .un .un .un .un) rfl (qE (qW (q:=true) (e:=re 2 a L m .un .un .un .un) rfl (wD (qU (o:=.fz (tg "op" [.str "+",tg "name" [.str (S L)],tg "num" [.int 1]])) (e:=re 2 a L m .un .un .un .un) rfl (wQ (tup2 hL hm (oVS (aS (aS (aS (aS (aS (aS (cS (l:=cd "again ") (by kernel_rfl)) (nS (m:=q) (by omega) (hqe _ rfl)) ?_) (cS (l:=[32]) (by kernel_rfl)) ?_) rfl ?_) (cS (l:=[32,61,32]) (by kernel_rfl)) ?_) rfl ?_) (cS (l:=[32,43,32,49]) (by kernel_rfl)) ?_) ?_) (yD (qT (d:=.str "again") rfl (qT (d:=.int (q:Nat)) (vY (hqe _ rfl) rfl) (qT (d:=.str (S L)) rfl (qT (d:=tg "op" [.str "+",tg "name" [.str (S L)],tg "num" [.int 1]]) rfl (wJ rfl) rfl) rfl) rfl) rfl) rfl rfl)) rfl))))))))) rfl,rfl⟩
   ·show 6+_<=2000;omega
   ·simp only[aJ];show 6+_+1<=2000;omega
   ·simp only[aJ];show 6+_+1+_<=2000;omega
   ·simp only[aJ];show 6+_+1+_+3<=2000;omega
   ·simp only[aJ];show 6+_+1+_+3+_<=2000;omega
   ·simp only[aJ];show 6+_+1+_+3+_+4<=2000;omega
   ·simp only[bU]
 | 3=>
   refine⟨⟨R3 L,_⟩,_,ok3 hL,vB (x0 hL hm hn he (k:=3) (qW (q:=false) (e:=re 3 a L m .un .un .un .un) rfl (qE (qW (q:=false) (e:=re 3 a L m .un .un .un .un) rfl (qE (qW (q:=false) (e:=re 3 a L m .un .un .un .un) rfl (qE (qW (q:=true) (e:=re 3 a L m .un .un .un .un) rfl (wD (qU (o:=.fz (tg "op" [.str "*",tg "name" [.str "a"],tg "name" [.str "b"]])) (e:=re 3 a L m .un .un .un .un) rfl (wQ (tup2 hL hm (oVS (aS (aS (cS (l:=cd "def ") (by kernel_rfl)) rfl ?_) (cS (l:=cd "(a, b) = a * b") (by kernel_rfl)) ?_) ?_) rfl) rfl))))))))))) rfl,rfl⟩
   ·show 4+_<=2000;omega
   ·simp only[aJ];show 4+_+14<=2000;omega
   ·simp only[bU]
 | 4=>
   refine⟨⟨R4 L m,_⟩,_,ok4 hL hm,vB (x0 hL hm hn he (k:=4) (qW (q:=false) (e:=re 4 a L m .un .un .un .un) rfl (qE (qW (q:=false) (e:=re 4 a L m .un .un .un .un) rfl (qE (qW (q:=false) (e:=re 4 a L m .un .un .un .un) rfl (qE (qW (q:=false) (e:=re 4 a L m .un .un .un .un) rfl (qE (qW (q:=true) (e:=re 4 a L m .un .un .un .un) rfl (wD (qU (o:=.fz (tg "if" [tg "name" [.str (S L)],tg "flip" [.int 1,.int 2],tg "num" [.int m]])) (e:=re 4 a L m .un .un .un .un) rfl (wQ (tup2 hL hm (oVS (aS (aS (aS (aS (cS (l:=cd "let x=if( ") (by kernel_rfl)) rfl ?_) (cS (l:=[44,102,108,105,112,40,49,47,50,41,32,44,32]) (by kernel_rfl)) ?_) (nS hm rfl) ?_) (cS (l:=[41]) (by kernel_rfl)) ?_) ?_) rfl) rfl))))))))))))) rfl,rfl⟩
   ·show 10+_<=2000;omega
   ·simp only[aJ];show 10+_+13<=2000;omega
   ·simp only[aJ];show 10+_+13+_<=2000;omega
   ·simp only[aJ];show 10+_+13+_+1<=2000;omega
   ·simp only[bU]
 | 5=>
   have t5:asB (o2 eqF (oMod (oN 1) (oC (.int 5))) (oC (.int 0))) (re 5 a L m .un .un (sS " see flip(1/3)=1 ") .un)=.ok (decide (a % 5=0),re 5 a L m .un .un (sS " see flip(1/3)=1 ") .un):=
    vM (d:=.bl (a % 5 == 0)) (vY (h1:=.d (.bl (a % 5 == 0))) (qM (h1:=.d (.int (a % 5))) (h2:=.d (.int 0)) (qM (h1:=.d (.int a)) (h2:=.d (.int 5)) rfl rfl rfl rfl rfl (md (by decide)) rfl) rfl rfl rfl rfl rfl rfl) rfl) rfl (by rw[show(a % 5 == 0)=decide (a % 5=0) by rw[cK];simp])
   by_cases h5:a % 5=0
   ·rw [decide_eq_true h5] at t5;have hj:ljD 1000 (.str " see flip(1/3)=1 ")=some (.str (S (R5 ++ List.replicate 983 32))):=by kernel_rfl
    have e5:oV (DX.o1 (ljD 1000) (oN 6)) (re 5 a L m .un .un (sS " see flip(1/3)=1 ") .un)=.ok (.str (S (R5 ++ List.replicate 983 32)),re 5 a L m .un .un (sS " see flip(1/3)=1 ") .un):=vY (zJc (h1:=.d (.str " see flip(1/3)=1 ")) rfl rfl hj rfl) rfl;exact⟨⟨R5 ++ List.replicate 983 32,some d5⟩,_,ok5 983 (by decide),vB (x0 hL hm hn he (k:=5) (qW (q:=false) (e:=re 5 a L m .un .un .un .un) rfl (qE (qW (q:=false) (e:=re 5 a L m .un .un .un .un) rfl (qE (qW (q:=false) (e:=re 5 a L m .un .un .un .un) rfl (qE (qW (q:=false) (e:=re 5 a L m .un .un .un .un) rfl (qE (qW (q:=false) (e:=re 5 a L m .un .un .un .un) rfl (qE (qW (q:=true) (e:=re 5 a L m .un .un .un .un) rfl (wD (qU (o:=.fz (.str " see flip(1/3)=1 ")) (e:=re 5 a L m .un .un .un .un) rfl (wD (qW t5 (qU (zX e5 rfl) (wQ (tup2 hL hm (R:=R5 ++ List.replicate 983 32) rfl rfl) rfl)))))))))))))))))) rfl,rfl⟩
   ·rw [decide_eq_false h5] at t5;exact⟨⟨R5 ++ List.replicate 0 32,some d5⟩,_,ok5 0 (by decide),vB (x0 hL hm hn he (k:=5) (qW (q:=false) (e:=re 5 a L m .un .un .un .un) rfl (qE (qW (q:=false) (e:=re 5 a L m .un .un .un .un) rfl (qE (qW (q:=false) (e:=re 5 a L m .un .un .un .un) rfl (qE (qW (q:=false) (e:=re 5 a L m .un .un .un .un) rfl (qE (qW (q:=false) (e:=re 5 a L m .un .un .un .un) rfl (qE (qW (q:=true) (e:=re 5 a L m .un .un .un .un) rfl (wD (qU (o:=.fz (.str " see flip(1/3)=1 ")) (e:=re 5 a L m .un .un .un .un) rfl (wD (qW t5 (qE (wQ (tup2 hL hm (R:=R5 ++ List.replicate 0 32) (by rw[show S (R5 ++ List.replicate 0 32)=(" see flip(1/3)=1 ":Str) by kernel_rfl];rfl) rfl) rfl)))))))))))))))))) rfl,rfl⟩
 | k + 6=>
   obtain⟨r,h1,h2⟩:=row6 (a:=a) (z:=((k+6:Nat):Int)) (by omega) hn he hL hm;unfold wE at h2;exact⟨r,_,h1,h2,rfl⟩
noncomputable abbrev blD:List D:=bads.map fun R=>.str (S R)
theorem zKa{n:Nat}(h:j<n):ixN n (j:Int)=some j:=by unfold ixN;simp[h]
theorem zZ9{oi:Oe}(h0:evO (oN i) env=.ok (.p i [],env))(hi:evO oi env=.ok (.d (.int (j:Nat)),env))(hp:((Hn.p i []).st || ((oN i).isP && oi.isP))=true)(g:getE env i []=some (.ow .lst (ds.map .fz)))(hd:ds[j]?=some d):evO (oIx (oN i) oi) env=.ok (.d d,env):=by
 have hj:j<ds.length:=(aU.mp hd).1;refine jH (h1:=.p i []) (h2:=.d (.int (j:Nat))) h0 hi hp rfl ?_ rfl;show(match getE env i [] with
  |some (.ow k os)=>(idxK os.length (.int (j:Nat)) k).bind fun j=>(os[j]?).bind fun o=>some (hnO o i ([] ++ [j]))
  |_=>none)=_
 rw[g];show((ixN (ds.map O.fz).length (j:Int)).bind fun j=>((ds.map O.fz)[j]?).bind fun o=>some (hnO o i ([] ++ [j])))=_;rw[aP,zKa hj];show((ds.map O.fz)[j]?).bind _=_;rw[cJ,hd];rfl
theorem jJf:bads.length=38:=by kernel_rfl
theorem bl0(x:Slot):(eLst [(oV (oC (.str ""))),(oV (oC (.str " "))),(oV (oC (.str "let"))),(oV (oC (.str "let x"))),(oV (oC (.str "let x ="))),(oV (oC (.str "let = 1"))),(oV (oC (.str "let x 1"))),(oV (oC (.str "let x = 1 2"))),(oV (oC (.str "see"))),(oV (oC (.str "ask"))),(oV (oC (.str "let x = (1")))]) [x,.un]=.ok (.ow .lst ((blD.take 11).map .fz),[x,.un]):=by kernel_rfl
theorem bl1(x:Slot):(eCat (oN 1) (.v (fzS (eLst [(oV (oC (.str "let x = 1)"))),(oV (oC (.str "Let x = 1"))),(oV (oC (.str "lett x = 1"))),(oV (oC (.str "again x = 1"))),(oV (oC (.str "again 31 x = 1"))),(oV (oC (.str "again 2 = 1"))),(oV (oC (.str "def f = 1")))])))) [x,fl (blD.take 11)]=.ok (.ow .lst ((blD.take 18).map .fz),[x,fl (blD.take 11)]):=by kernel_rfl
theorem bl2(x:Slot):(eCat (oN 1) (.v (fzS (eLst [(oV (oC (.str "def f(a, a) = 1"))),(oV (oC (.str "def f(a) 1"))),(oV (oC (.str "let x = a = b = c"))),(oV (oC (.str "let x = + 1"))),(oV (oC (.str "let x = {}"))),(oV (oC (.str "see x = 1 ask 0")))])))) [x,fl (blD.take 18)]=.ok (.ow .lst ((blD.take 24).map .fz),[x,fl (blD.take 18)]):=by kernel_rfl
theorem bl3(x:Slot):(eCat (oN 1) (.v (fzS (eLst [(oV (oC (.str "let x = flip(2/2)"))),(oV (oC (.str "let if = 1"))),(oV (oC (.str "see 1;"))),(oV (oC (.str "1"))),(oV (oC (.str "let x = 1 # 2"))),(oV (oC (.str "let x = a.1")))])))) [x,fl (blD.take 24)]=.ok (.ow .lst ((blD.take 30).map .fz),[x,fl (blD.take 24)]):=by kernel_rfl
theorem fm(c:Nat):∀(n:Nat) (acc:List Nat),(List.replicate n (#[c]:Array Nat)).foldl (· ++ ·) acc.toArray=(acc ++ List.replicate n c).toArray
 | 0,acc=>by simp
 | n + 1,acc=>by
   rw[List.replicate_succ,List.foldl_cons,show acc.toArray ++ #[c]=(acc ++ [c]).toArray by simp,fm c n,List.replicate_succ,bU];rfl
theorem jZj:mulS (.str " ") (.int 992)=some (.str (S (List.replicate 992 32))):=by
 show(if MulOk " " 992 then some (D.str (Txt.mul " " 992)) else none)=_;rw[if_pos (by decide +kernel)];unfold Txt.mul;rw[if_neg (by decide),if_neg (by decide +kernel)];have:=fm 32 992 [];show some (D.str ⟨(List.replicate 992 (#[32]:Array Nat)).foldl (· ++ ·) ([]:List Nat).toArray⟩)=_;rw[this];rfl
theorem zK1{x:Slot}{es:List D}(hv:v [x,fl ds]=.ok (.nd .lst es,[x,fl ds]))(hl:ds.length+es.length<=1000):eCat (oN 1) (.v v) [x,fl ds]=.ok (.ow .lst ((ds ++ es).map .fz),[x,fl ds]):=by
 refine zQa (a:=(.p 1 [],[x,fl ds])) rfl (zQa (zY hv rfl) ?_);have e:qWm [.p 1 [],.d (.nd .lst es)] [x,fl ds]=.ok ([.nd .lst ds,.nd .lst es],[x,fl ds]):=by
  show Res.ok ([D.nd .lst (fzOs (ds.map .fz)),.nd .lst es],[x,.s false (.ow .lst ((ds.map O.fz).map fun o=>O.fz (fzO o)))])=_;rw[qJf,show(ds.map O.fz).map (fun o=>O.fz (fzO o))=ds.map .fz by rw[dY];rfl]
 show cond true ((qWm [.p 1 [],.d (.nd .lst es)] [x,fl ds]).bind _) _=_;rw[e];show cond (decide (ds.length+es.length<=lim)) _ _=_;rw[decide_eq_true (aM hl (by decide))];rfl
noncomputable abbrev b5:List D:=[.str "def f(a, b, c, d) = 1",.str "let x\t= 1",.str "\tsee 1",.str "let x =\t1",.str (S (cd "let x = 1" ++ List.replicate 992 32))]
theorem jWu:blD.take 30 ++ b5=blD.take 35:=by kernel_rfl
theorem b30:(blD.take 30).length =30:=by kernel_rfl
theorem bl4(x:Slot):eCat (oN 1) (.v (fzS (eLst [(oV (oC (.str "def f(a, b, c, d) = 1"))),(oV (oC (.str "let x\t= 1"))),(oV (oC (.str "\tsee 1"))),(oV (oC (.str "let x =\t1"))),(oV (o2 addS (oC (.str "let x = 1")) (o2 mulS (oC (.str " ")) (oC (.int 992)))))]))) [x,fl (blD.take 30)]=.ok (.ow .lst ((blD.take 35).map .fz),[x,fl (blD.take 30)]):=by
 rw[←jWu];refine zK1 ?_ (by rw[b30];decide)
 generalize blD.take 30=B;refine vWj (ds:=b5) (qT (d:=.str "def f(a, b, c, d) = 1") rfl (qT (d:=.str "let x\t= 1") rfl (qT (d:=.str "\tsee 1") rfl (qT (d:=.str "let x =\t1") rfl (qT (oVS (aS (cS (l:=cd "let x = 1") (by kernel_rfl)) (qM (h1:=.d (.str " ")) (h2:=.d (.int 992)) rfl rfl rfl rfl rfl jZj rfl) ?_) rfl) (wJ rfl) rfl) rfl) rfl) rfl) rfl) rfl rfl;rw[dS];decide
theorem bl5(x:Slot):(eCat (oN 1) (.v (fzS (eLst [(oV (oC (.str "let x = 1\t"))),(oV (oC (.str "def f() = 1\t"))),(oV (oC (.str "see 1 \t")))])))) [x,fl (blD.take 35)]=.ok (.ow .lst ((blD.take 38).map .fz),[x,fl (blD.take 35)]):=by kernel_rfl
theorem zXg(a:Int):∃R∈bads,qVd [sN a]=.ok (.fz (Rw.t ⟨R,none⟩),[.un]):=by
 obtain⟨j,ej,hj⟩:=nat_mod a (p:=38) (by decide);obtain⟨R,hR⟩:∃R,bads[j]?=some R:=⟨_,aI (by rw[jJf];exact hj)⟩
 have hd:(blD.take 38)[j]?=some (.str (S R)):=by rw[List.getElem?_take_of_lt hj,cJ,hR];rfl
 have x1:evO (oMod (oN 0) (oC (.int 38))) [sN a,fl (blD.take 38)]=.ok (.d (.int (j:Nat)),[sN a,fl (blD.take 38)]):=by
  rw[←ej];exact qM (h1:=.d (.int a)) (h2:=.d (.int 38)) rfl rfl rfl rfl rfl (md (by decide)) rfl
 have c:sRet (owS (svTup [(oV (oIx (oN 1) (oMod (oN 0) (oC (.int 38))))),(oV (oC .non))])) [sN a,fl (blD.take 38)]=.ok (.rt (.fz (Rw.t ⟨R,none⟩)) [sN a,fl (blD.take 38)]):=
  xI (zX (yD (qT (vY (zZ9 rfl x1 rfl rfl hd) rfl) (qT (d:=.non) rfl (wJ rfl) rfl) rfl) rfl rfl) rfl) rfl
 refine⟨R,eX hR,?_⟩;unfold qVd;exact vB (qU (bl0 _) (qU (bl1 _) (qU (bl2 _) (qU (bl3 _) (qU (bl4 _) (qU (bl5 _) c)))))) rfl
section
variable{x y5 y6:Slot}{f:Int}{cs:List Int}{rs:List Rw}
noncomputable abbrev be(x:Slot)(f:Int)(cs:List Int)(rs:List Rw)(k y5 y6:Slot):Ev:=[x,sN f,fl (cs.map .int),fl (rs.map Rw.t),k,y5,y6]
theorem vY3(hl:rs.length<=100){a:SE}{r:Rw}{k:Slot}(ha:a (be x f cs rs k y5 y6)=.ok (.fz r.t,be x f cs rs k y5 y6)):sExpr (eMu1 (pOf (oN 3)) a apF) (be x f cs rs k y5 y6)=.ok (.nx (be x f cs (rs ++ [r]) k y5 y6)):=by
 refine qWy (qKk (i:=3) (π:=[]) (os0:=(rs.map Rw.t).map .fz) (os:=(rs.map Rw.t).map .fz) rfl rfl ha rfl rfl (z:=(.fz .non,((rs ++ [r]).map Rw.t).map .fz)) ?_ rfl) rfl;unfold apF;rw[decide_eq_true (show((rs.map Rw.t).map O.fz).length <=lim from by rw[aP,aP];exact aM hl (by decide)),dD,dD];rfl
theorem eq_o{o:Oe}{i j:Int}(h:evO o env=.ok (.d (.int i),env)):asB (o2 eqF o (oC (.int j))) env=.ok (decide (i=j),env):=
 vM (d:=.bl (i == j)) (vY (h1:=.d (.bl (i == j))) (qM (h1:=.d (.int i)) (h2:=.d (.int j)) h rfl rfl rfl rfl rfl rfl) rfl) rfl (by rw[show(i == j)=decide (i=j) by rw[cK];simp])
theorem if_t{b:ST}(h:b env=.ok (true,e)):sIf b s1 s2 env=s1 e:=by unfold sIf;rw[h];rfl
theorem if_f{b:ST}(h:b env=.ok (false,e)):sIf b s1 s2 env=s2 e:=by unfold sIf;rw[h];rfl
theorem step(hk:k<cs.length)(hc:cs.length<=60)(hl:rs.length<=60):∃r z5 z6,OkR r/\yJ (be x f cs rs (sN k) y5 y6)=.ok (.nx (be x f cs (rs ++ [r]) (sN k) z5 z6)):=by
 obtain⟨n,hn⟩:∃n,(cs[k]+(k:Int)) * 48271 % 2147483629=n:=⟨_,rfl⟩
 have ck:∀{y5 y6:Slot},evO (oIx (oN 2) (oN 4)) (be x f cs rs (sN k) y5 y6)=.ok (.d (.int cs[k]),be x f cs rs (sN k) y5 y6):=fun {y5 y6}=>zZ9 rfl rfl rfl rfl (by rw[cJ,aI hk];rfl)
 have x5:oV (oMod (oMul (oAdd (oIx (oN 2) (oN 4)) (oN 4)) (oC (.int 48271))) (oC (.int 2147483629))) (be x f cs rs (sN k) y5 y6)=.ok (.int n,be x f cs rs (sN k) y5 y6):=by
  rw[←hn];exact vY (h1:=.d (.int ((cs[k]+(k:Int)) * 48271 % 2147483629))) (qM (h1:=.d (.int ((cs[k]+(k:Int)) * 48271))) (h2:=.d (.int 2147483629)) (qM (h1:=.d (.int (cs[k]+(k:Int)))) (h2:=.d (.int 48271)) (qM (h1:=.d (.int cs[k])) (h2:=.d (.int (k:Nat))) ck rfl rfl rfl rfl rfl rfl) rfl rfl rfl rfl (ml (.of_right (by decide +kernel))) rfl) rfl rfl rfl rfl (md (by decide)) rfl) rfl
 clear hn;have d4:qJt f 4:=⟨by decide,by decide +kernel⟩
 have ln:evO (oL lenD [(oN 2)]) (be x f cs rs (sN k) (sN n) y6)=.ok (.d (.int (cs.length:Nat)),be x f cs rs (sN k) (sN n) y6):=by
  refine qYi (hs:=[.p 2 []]) (xs:=[.nd .lst (cs.map .int)]) rfl ?_ ?_ rfl
  ·show((some (fzO (.ow .lst ((cs.map D.int).map .fz)))).bind fun x=>some [x])=_;rw[xU];rfl
  ·show some (D.int ((cs.map D.int).length :Nat))=_;rw[aP]
 obtain⟨b,x6⟩:∃b,oV (oAnd (oGt (oMod (oN 1) (oC (.int 4))) (oC (.int 0))) (o2 eqF (oN 4) (oMod (oDiv (oN 1) (oC (.int 4))) (oL lenD [(oN 2)])))) (be x f cs rs (sN k) (sN n) y6)=.ok (.bl b,be x f cs rs (sN k) (sN n) y6):=
  ⟨_,vAnd (p:=decide (f % 4 > 0)) (q:=((k:Int) == f / 4 % (cs.length:Int))) (vM (d:=.bl (decide (f % 4 > 0))) (vY (h1:=.d (.bl (decide (f % 4 > 0)))) (qM (h1:=.d (.int (f % 4))) (h2:=.d (.int 0)) (qM (h1:=.d (.int f)) (h2:=.d (.int 4)) rfl rfl rfl rfl rfl (md (by decide)) rfl) rfl rfl rfl rfl rfl rfl) rfl) rfl rfl) fun _=>vY (h1:=.d (.bl ((k:Int) == f / 4 % (cs.length:Int)))) (qM (h1:=.d (.int (k:Nat))) (h2:=.d (.int (f / 4 % (cs.length:Int)))) rfl (qM (h1:=.d (.int (f / 4))) (h2:=.d (.int (cs.length:Nat))) (qM (h1:=.d (.int f)) (h2:=.d (.int 4)) rfl rfl rfl rfl rfl (dv d4) rfl) ln rfl rfl rfl (md (by omega)) rfl) rfl rfl rfl rfl rfl) rfl⟩
 have f4:∀j:Int,asB (o2 eqF (oMod (oN 1) (oC (.int 4))) (oC (.int j))) (be x f cs rs (sN k) (sN n) (.s false (.fz (.bl b))))=.ok (decide (f % 4=j),be x f cs rs (sN k) (sN n) (.s false (.fz (.bl b)))):=fun j=>eq_o (qM (h1:=.d (.int f)) (h2:=.d (.int 4)) rfl rfl rfl rfl rfl (md (by decide)) rfl)
 have mk:asB (oN 6) (be x f cs rs (sN k) (sN n) (.s false (.fz (.bl b))))=.ok (b,be x f cs rs (sN k) (sN n) (.s false (.fz (.bl b)))):=rfl;have an:∀{s t:ST} {p q:Bool} {env:Ev},s env=.ok (p,env)->t env=.ok (q,env)->bAnd s t env=.ok (p && q,env):=fun {s t p q env} h1 h2=>qXp h1 (by cases p <;> first|rfl|exact h2)
 have or' :∀{s t:ST} {p q:Bool} {env:Ev},s env=.ok (p,env)->t env=.ok (q,env)->bOr s t env=.ok (p || q,env):=fun {s t p q env} h1 h2=>yB h1 (by cases p <;> first|rfl|exact h2)
 have t1:=or' (an (f4 1) mk) (an (f4 3) (eq_o (o:=oMod (oIx (oN 2) (oN 4)) (oC (.int 6))) (j:=0) (qM (h1:=.d (.int cs[k])) (h2:=.d (.int 6)) ck rfl rfl rfl rfl (md (by decide)) rfl)));have t2:=an (f4 2) mk;unfold yJ;cases q1:((decide (f % 4=1) && b) || (decide (f % 4=3) && decide (cs[k] % 6=0))) with
 | true=>
   rw[q1]at t1;obtain⟨R,hR,hb⟩:=zXg n;have c:qP qVd [(.v (oV (oN 5)))] (be x f cs rs (sN k) (sN n) (.s false (.fz (.bl b))))=.ok (.fz (Rw.t ⟨R,none⟩),be x f cs rs (sN k) (sN n) (.s false (.fz (.bl b)))):=qZe (vs:=[oV (oN 5)]) (zs:=[.int n]) rfl rfl hb;exact⟨⟨R,none⟩,sN n,_,oB hR,qU (zX x5 rfl) (qU (zX x6 rfl) ((if_t t1).trans (vY3 (by omega) c)))⟩
 | false=>
   rw[q1]at t1;cases q2:(decide (f % 4=2) && b) with
   | true=>
     rw[q2]at t2;obtain⟨L,hn,hL⟩:=name_ok n;have l1:=hL.h2;have nc:fzS (qP zG [(.v (oV (oN 5)))]) (be x f cs rs (sN k) (sN n) (.s false (.fz (.bl b))))=.ok (.str (S L),be x f cs rs (sN k) (sN n) (.s false (.fz (.bl b)))):=zE (o:=.fz (.str (S L))) (qZe (vs:=[oV (oN 5)]) (zs:=[.int n]) rfl rfl hn) rfl;refine⟨⟨R7 L,some (.tup [.str "ask",tg "name" [.str (S L)]])⟩,sN n,_,ok7 hL,qU (zX x5 rfl) (qU (zX x6 rfl) ((if_f t1).trans ((if_t t2).trans (vY3 (by omega) (zX (yD (qT (oVS (aS (cS (l:=cd "ask ") (by kernel_rfl)) (zY nc rfl) ?_) ?_) (qT (d:=.tup [.str "ask",tg "name" [.str (S L)]]) (yD (qT (d:=.str "ask") rfl (qT (yD (qT (d:=.str "name") rfl (qT nc (wJ rfl) rfl) rfl) rfl rfl) (wJ rfl) rfl) rfl) rfl rfl) (wJ rfl) rfl) rfl) rfl rfl) rfl)))))⟩
     ·show 4+_<=2000;omega
     ·show _=_ ++ (L ++ []);rw[bG]
   | false=>
     rw[q2]at t2;have d6:qJt cs[k] 6:=⟨by decide,by decide +kernel⟩
     obtain⟨j,ej,hj⟩:=nat_mod (cs[k] / 6) (p:=7) (by decide);obtain⟨r,e,hr,hm,rfl⟩:=zJu j n;have kj:oV (oMod (oDiv (oIx (oN 2) (oN 4)) (oC (.int 6))) (oC (.int 7))) (be x f cs rs (sN k) (sN n) (.s false (.fz (.bl b))))=.ok (.int (j:Nat),be x f cs rs (sN k) (sN n) (.s false (.fz (.bl b)))):=by
      rw[←ej];exact vY (h1:=.d (.int (cs[k] / 6 % 7))) (qM (h1:=.d (.int (cs[k] / 6))) (h2:=.d (.int 7)) (qM (h1:=.d (.int cs[k])) (h2:=.d (.int 6)) ck rfl rfl rfl rfl (dv d6) rfl) rfl rfl rfl rfl (md (by decide)) rfl) rfl
     have c:qP wE [(.v (oV (oMod (oDiv (oIx (oN 2) (oN 4)) (oC (.int 6))) (oC (.int 7))))),(.v (oV (oN 5)))] (be x f cs rs (sN k) (sN n) (.s false (.fz (.bl b))))=.ok (.fz r.t,be x f cs rs (sN k) (sN n) (.s false (.fz (.bl b)))):=qZe (vs:=[oV (oMod (oDiv (oIx (oN 2) (oN 4)) (oC (.int 6))) (oC (.int 7))),oV (oN 5)]) (zs:=[.int (j:Nat),.int n]) (wS kj (wS rfl (vZr rfl) rfl) rfl) rfl hm;exact⟨r,sN n,_,hr,qU (zX x5 rfl) (qU (zX x6 rfl) ((if_f t1).trans ((if_f t2).trans (vY3 (by omega) c))))⟩
theorem rows_l(hc:cs.length<=60):∀(ks:List Nat) (rs:List Rw) (y4 y5 y6:Slot),(∀k∈ks,k<cs.length)->rs.length+ks.length<=60->(∀r∈rs,OkR r)->∃rs' z4 z5 z6,forS (gN 4) yJ (ks.map fun(k:Nat)=>D.int (0+(k:Int))) (be x f cs rs y4 y5 y6)=.ok (.nx (be x f cs rs' z4 z5 z6))/\rs'.length=rs.length+ks.length/\∀r∈rs',OkR r
 |[],rs,y4,y5,y6,_,_,h=>⟨rs,y4,y5,y6,rfl,rfl,h⟩
 | k::ks,rs,y4,y5,y6,hk,hl,h=>by
   rw[aW]at hl;obtain⟨r,z5,z6,hr,hb⟩:=step (x:=x) (f:=f) (cs:=cs) (rs:=rs) (y5:=y5) (y6:=y6) (hk k (aA ..)) hc (by omega);obtain⟨rs',w4,w5,w6,h2,h3,h4⟩:=rows_l hc ks (rs ++ [r]) (sN k) z5 z6 (fun x hx=>hk x (aB _ hx)) (by rw[aJ];show rs.length+1+_<=_;omega) (fun z hz=>by
    rcases cF.mp hz with q|q
    ·exact h z q
    ·rw[bA.mp q];exact hr)
   exact⟨rs',w4,w5,w6,xJ (e1:=be x f cs rs (sN k) y5 y6) (by show some (be x f cs rs (sN (0+(k:Int))) y5 y6)=_;rw[Int.zero_add]) hb h2,by rw[h3];simp only[aJ,aW,List.length_nil];omega,h4⟩
end
theorem zZt{n:Nat}(h:n<=60):rg1 [.int (n:Nat)]=some ((List.range' 0 n).map fun(k:Nat)=>D.int (0+(k:Int))):=by
 show cond (in62 (n:Int)) (some (rngD 0 (n:Int).toNat)) none=_;have:∀m:Nat,m<=60->in62 (m:Int)=true:=by decide +kernel
 rw[this n h,←List.range_eq_range'];rfl
section
variable{α:Type}{g:SG}{el:SV}{dn vn:α->D}{m:Nat}
theorem jQx:∀(qs:List α) (e:Ev),(∀q∈qs,∀e,e.length=m->∃e1,g (dn q) e=some e1/\el e1=.ok (vn q,e1)/\e1.length=m)->e.length=m->∃e',qQ4 g bTrue el (qs.map dn) e=.ok (qs.map vn,e')
 |[],e,_,_=>⟨e,rfl⟩
 | q::qs,e,h,he=>by
   obtain⟨e1,h1,h2,h3⟩:=h q (by simp) e he;obtain⟨e',ih⟩:=jQx qs e1 (fun q hq=>h q (aB _ hq)) h3;refine⟨e',?_⟩;show(opt (g (dn q) e)).bind _=_;rw[h1];show((el e1).ne).bind _=_;rw[h2];show(qQ4 g bTrue el (qs.map dn) e1).bind _=_;rw[ih];rfl
theorem zZj:∀(n i:Nat) (e:Ev),qQ0 [] i n e=e
 | 0,_,_=>rfl
 |n+1,i,e=>zZj n (i+1) e
theorem jQd:∀(q:Ev) (i:Nat) (e:Ev),putI [] i q e=e
 |[],_,_=>rfl
 |_::q,i,e=>jQd q (i+1) e
theorem vXp{T:List Nat}{it:SI}{qs:List α}(hi:it env=.ok (qs.map dn,e))(hl:qs.length<=50)(h:∀q∈qs,∀e,e.length=m->∃e1,g (dn q) e=some e1/\el e1=.ok (vn q,e1)/\e1.length=m):compS m [] T it g bTrue el env=.ok (.ow .lst ((qs.map vn).map .fz),e):=by
 obtain⟨e',c⟩:=jQx qs (capS [] .un e 0 m) h (vQa m 0);refine vZu hi ?_ c (by rw[zZj,jQd]);rw[aP,decide_eq_true (aM hl (by decide))];show(vJp [] T m e.length && true)=true;rw[Bool.and_true];exact decide_eq_true ⟨by simp,by simp,fun c hc=>by cases hc⟩
end
theorem jQw(h:evO (oN i) env=.ok (.p i [],env))(g:getE env i []=some (.ow .lst (ds.map .fz)))(s:setE env i [] (.fz (.nd .lst ds))=e):oV (oN i) env=.ok (.nd .lst ds,e):=by
 refine vY h ?_
 show(opt (getE env i [])).bind _=_;rw[g];show Res.ok (fzO (.ow .lst (ds.map .fz)),setE env i [] (.fz (fzO (.ow .lst (ds.map .fz)))))=_;rw[xU,s]
theorem zK0(ns:List Int)(lo hi:Option Int):cutL (ns.map D.int) lo hi=(cutL ns lo hi).map D.int:=by
 unfold cutL;rw[aP,←List.map_drop,←List.map_take]
theorem vK6(ns:List Int):(cutL ns (some 1) (some 43)).length <=42:=by
 unfold cutL;have e2:HT.sIx ns.length ns.length (some 43)=min 43 ns.length:=HT.vKg _ _ 43;have e1:HT.sIx ns.length 0 (some 1)=min 1 ns.length:=HT.vKg _ _ 1;rw[cT,cU,e1,e2];omega
noncomputable abbrev xs0(ns:List Int):Slot:=fz (.nd .lst (ns.map .int))
theorem zYz: []∈bads:=List.mem_append_left _ (dL.mpr ⟨"",aA ..,rfl⟩)
theorem ap3{x k y5 y6:Slot}{f:Int}{cs:List Int}{rs:List Rw}{r:Rw}(hl:rs.length<=100)(hv:v (be x f cs rs k y5 y6)=.ok (r.t,be x f cs rs k y5 y6)):sExpr (eMu1 (pOf (oN 3)) (owS v) apF) (be x f cs rs k y5 y6)=.ok (.nx (be x f cs (rs ++ [r]) k y5 y6)):=vY3 hl (zX hv rfl)
theorem zXh(ns:List Int):∃rs:List Rw,xK [xs0 ns]=.ok (.ow .lst ((rs.map Rw.t).map .fz),[.un])/\1<=rs.length/\rs.length<=43/\∀r∈rs,OkR r:=by
 obtain⟨cs,hcs⟩:∃cs,(cutL ns (some 1) (some 43)).map (fun n=>n % 10 ^ 15)=cs:=⟨_,rfl⟩
 have hc:cs.length<=42:=by rw[←hcs,aP];exact vK6 ns
 obtain⟨f,s1⟩:∃f:Int,∀(t:SS) (X:Res Out),t [xs0 ns,sN f,.un,.un,.un,.un,.un]=X->(sSeq (sSet 1 (owS (oV (oC (.int 0))))) (sSeq (sIf (asB (oGt (oL lenD [(oN 0)]) (oC (.int 0)))) (sSet 1 (owS (oV (oMod (oMul (oAdd (oMod (oIx (oN 0) (oC (.int 0))) (oPow (oC (.int 10)) (oC (.int 15)))) (oC (.int 7))) (oC (.int 630360016))) (oC (.int 2147483647)))))) sNil) t)) [xs0 ns,.un,.un,.un,.un,.un,.un]=X:=by
  cases ns with
  |nil=>exact⟨0,fun t X h=>qU (o:=.fz (.int 0)) (e:=[xs0 [],.un,.un,.un,.un,.un,.un]) rfl (qW (q:=false) (e:=[xs0 [],sN 0,.un,.un,.un,.un,.un]) rfl (qE h))⟩
  | cons i ns=>
    refine⟨(i % 10 ^ 15+7) * 630360016 % 2147483647,fun t X h=>qU (o:=.fz (.int 0)) (e:=[xs0 (i::ns),.un,.un,.un,.un,.un,.un]) rfl (qW (q:=true) (e:=[xs0 (i::ns),sN 0,.un,.un,.un,.un,.un]) ?_ (qU (o:=.fz (.int ((i % 10 ^ 15+7) * 630360016 % 2147483647))) (e:=[xs0 (i::ns),sN 0,.un,.un,.un,.un,.un]) (zX ?_ rfl) h))⟩
    ·show Res.ok (decide (((((i::ns).map D.int).length :Nat):Int) > 0),_)=_;rw[decide_eq_true (by rw[aP,aW];omega)];rfl
    ·exact vY (h1:=.d (.int ((i % 10 ^ 15+7) * 630360016 % 2147483647))) (qM (h1:=.d (.int ((i % 10 ^ 15+7) * 630360016))) (h2:=.d (.int 2147483647)) (qM (h1:=.d (.int (i % 10 ^ 15+7))) (h2:=.d (.int 630360016)) (qM (h1:=.d (.int (i % 10 ^ 15))) (h2:=.d (.int 7)) (qM (h1:=.d (.int i)) (h2:=.d (.int (10 ^ 15))) (jH (h1:=.d (.nd .lst ((i::ns).map .int))) (h2:=.d (.int ((0:Nat):Int))) rfl rfl rfl rfl (by show(atI ((i::ns).map D.int) ((0:Nat):Int)).map Hn.d=_;rw[qJg (show((i::ns).map D.int)[0]?=some (.int i) from rfl)];rfl) rfl) rfl rfl rfl rfl (md (by decide)) rfl) rfl rfl rfl rfl rfl rfl) rfl rfl rfl rfl (ml (.of_right (by decide +kernel))) rfl) rfl rfl rfl rfl (md (by decide)) rfl) rfl
 have sl:fzS (eSlL (oN 0) (some (oV (oC (.int 1)))) (some (oV (oC (.int 43))))) [xs0 ns,sN f,.un,.un,.un,.un,.un]=.ok (.nd .lst ((cutL ns (some 1) (some 43)).map .int),[xs0 ns,sN f,.un,.un,.un,.un,.un]):=by
  refine zE (o:=.ow .lst ((cutL (ns.map D.int) (some 1) (some 43)).map .fz)) rfl ?_
  rw[xU,zK0]
 have c2:compS 1 [] [0] (iV (fzS (eSlL (oN 0) (some (oV (oC (.int 1)))) (some (oV (oC (.int 43))))))) (gN 0) bTrue (oV (oMod (oN 0) (oPow (oC (.int 10)) (oC (.int 15))))) [xs0 ns,sN f,.un,.un,.un,.un,.un]=.ok (.ow .lst ((cs.map .int).map .fz),[xs0 ns,sN f,.un,.un,.un,.un,.un]):=by
  rw[show cs.map D.int=(cutL ns (some 1) (some 43)).map (D.int ∘ fun n=>n % 10 ^ 15) by rw[←hcs,dY]];refine vXp (dn:=D.int) (vn:=D.int ∘ fun n=>n % 10 ^ 15) (vYx sl rfl rfl) (aM (vK6 ns) (by decide)) fun q _ e he=>?_
  match e,he with
  |[y0],_=>exact⟨[sN q],rfl,vY (h1:=.d (.int (q % 10 ^ 15))) (qM (h1:=.d (.int q)) (h2:=.d (.int (10 ^ 15))) rfl rfl rfl rfl rfl (md (by decide)) rfl) rfl,rfl⟩
 obtain⟨rs,z4,z5,z6,lp,l1,o1⟩:=rows_l (x:=xs0 ns) (f:=f) (cs:=cs) (by omega) (List.range' 0 cs.length) [] .un .un .un (fun k hk=>by have:=List.mem_range'_1.mp hk;omega) (by rw[List.length_range'];show 0+_<=_;omega) (fun r hr=>by cases hr);rw[List.length_range']at l1;have l1:rs.length<=42:=by rw[l1];show 0+_<=_;omega
 have it:iL rg1 [(oV (oL lenD [(oN 2)]))] (be (xs0 ns) f cs [] .un .un .un)=.ok ((List.range' 0 cs.length).map fun(k:Nat)=>D.int (0+(k:Int)),be (xs0 ns) f cs [] .un .un .un):=by
  refine vYy (xs:=[.int (cs.length:Nat)]) (qT (vY (h1:=.d (.int (cs.length:Nat))) (qYi (hs:=[.p 2 []]) (xs:=[.nd .lst (cs.map .int)]) rfl ?_ ?_ rfl) rfl) (wJ rfl) rfl) (zZt (by omega)) rfl
  ·show((some (fzO (.ow .lst ((cs.map D.int).map .fz)))).bind fun x=>some [x])=_;rw[xU];rfl
  ·show some (D.int ((cs.map D.int).length :Nat))=_;rw[aP]
 have d1:qJt f 4200:=⟨by decide,by decide +kernel⟩
 obtain⟨b,t3⟩:∃b,asB (o2 neF (oMod (oDiv (oN 1) (oC (.int 4200))) (oC (.int 5))) (oC (.int 1))) (be (xs0 ns) f cs rs z4 z5 z6)=.ok (b,be (xs0 ns) f cs rs z4 z5 z6):=
  ⟨_,vM (d:=.bl (!(f / 4200 % 5 == 1))) (vY (h1:=.d (.bl (!(f / 4200 % 5 == 1)))) (qM (h1:=.d (.int (f / 4200 % 5))) (h2:=.d (.int 1)) (qM (h1:=.d (.int (f / 4200))) (h2:=.d (.int 5)) (qM (h1:=.d (.int f)) (h2:=.d (.int 4200)) rfl rfl rfl rfl rfl (dv d1) rfl) rfl rfl rfl rfl (md (by decide)) rfl) rfl rfl rfl rfl rfl rfl) rfl) rfl rfl⟩
 obtain⟨rs2,l2,k2,s3⟩:∃rs2:List Rw,rs2.length<=43/\(∀r∈rs2,OkR r)/\∀(t:SS) (X:Res Out),t (be (xs0 ns) f cs rs2 z4 z5 z6)=X->(sSeq (sIf (asB (o2 neF (oMod (oDiv (oN 1) (oC (.int 4200))) (oC (.int 5))) (oC (.int 1)))) (sExpr (eMu1 (pOf (oN 3)) (owS (svTup [(oV (oC (.str "ask 7"))),(svTup [(oV (oC (.str "ask"))),(svTup [(oV (oC (.str "num"))),(oV (oC (.int 7)))])])])) apF)) sNil) t) (be (xs0 ns) f cs rs z4 z5 z6)=X:=by
  cases b with
  | true=>
    refine⟨rs ++ [⟨cd "ask 7",some (.tup [.str "ask",tg "num" [.int 7]])⟩],by rw[aJ];show _+1<=_;omega,fun r hr=>by rcases cF.mp hr with q|q;exact o1 r q;rw[bA.mp q];exact oAsk,fun t X h=>qW t3 (jX (ap3 (by omega) ?_) h)⟩;exact yD (qT (d:=.str (S (cd "ask 7"))) (by rw[show S (cd "ask 7")=("ask 7":Str) by kernel_rfl];rfl) (qT (d:=.tup [.str "ask",tg "num" [.int 7]]) rfl (wJ rfl) rfl) rfl) rfl rfl
  |false=>exact⟨rs,by omega,o1,fun t X h=>qW t3 (qE h)⟩
 have t4:asB (o2 eqE (oN 3) (.v (fzS (eLst [])))) (be (xs0 ns) f cs rs2 z4 z5 z6)=.ok (rs2.isEmpty,be (xs0 ns) f cs rs2 z4 z5 z6):=by
  refine vM (d:=.bl rs2.isEmpty) (vY (h1:=.d (.bl rs2.isEmpty)) (qM (h1:=.p 3 []) (h2:=.d (.nd .lst [])) (x:=.nd .lst (rs2.map Rw.t)) rfl (zY (v:=fzS (eLst [])) (d:=.nd .lst []) rfl rfl) ?_ ?_ rfl ?_ rfl) rfl) rfl rfl
  ·rfl
  ·show some (fzO (.ow .lst ((rs2.map Rw.t).map .fz)))=_;rw[xU]
  ·show some (D.bl (rs2.map Rw.t).isEmpty)=_;cases rs2 <;> rfl
 unfold xK;cases hr2:rs2 with
 | nil=>
   rw[hr2]at t4 s3;refine⟨[⟨[],none⟩],?_,by decide,by decide,fun r hr=>by rw[bA.mp hr];exact oB zYz⟩;exact vB (s1 _ _ (qU c2 (qU (o:=.ow .lst []) (e:=[xs0 ns,sN f,fl (cs.map .int),.un,.un,.un,.un]) rfl (jX (yN it lp) (s3 _ _ (qW t4 (jX (ap3 (rs:=[]) (r:=⟨[],none⟩) (by decide) rfl) rfl))))))) rfl
 | cons r0 rs0=>
   rw[hr2]at t4 s3 l2 k2;exact⟨r0::rs0,vB (s1 _ _ (qU c2 (qU (o:=.ow .lst []) (e:=[xs0 ns,sN f,fl (cs.map .int),.un,.un,.un,.un]) rfl (jX (yN it lp) (s3 _ _ (qW t4 (qE rfl))))))) rfl,by rw[aW];omega,l2,k2⟩
noncomputable def askB:Option D->Bool
 |some d=>decide (qKc d="ask")
 |none=>false
noncomputable def fb(tot:Nat):Nat->List Rw->Option Nat
 |_,[]=>none
 |i,r::rs=>if decide (i=40) || (r.u.isNone ||!(askB r.u == decide (i+1=tot))) then some i else fb tot (i+1) rs
noncomputable abbrev duD(rs:List Rw):List D:=rs.map fun r=>uD r.u
theorem vJ3:∀(rs:List Rw) (i:Nat) (acc:List D),(∀r∈rs,OkR r)->qQg (tot:Int) i acc (rs.map Rw.R)=match fb tot i rs with
  |some k=>.er k
  |none=>.ok (acc ++ duD rs)
 |[],i,acc,_=>by show Rr.ok acc=Rr.ok (acc ++ []);rw[bG]
 | r::rs,i,acc,h=>by
   have hr:=h r (by simp);rw[bX,qQg,fb];by_cases h40:i=40
   ·rw[decide_eq_true (show(i:Int)=40 by omega),decide_eq_true h40];rfl
   ·rw [decide_eq_false (show¬((i:Int)=40) by omega),decide_eq_false h40];cases e:r.u with
    |none=>rw[hr.bad e];rfl
    | some d=>
      rw[(hr.ok d e).1];show cond (!(decide (qKc d="ask") == decide ((i:Int)=(tot:Int) - 1))) (Rr.er i) (qQg (tot:Int) (i+1) (acc ++ [d]) (rs.map Rw.R))=match(if !(decide (qKc d="ask") == decide (i+1=tot)) then some i else fb tot (i+1) rs) with
       |some k=>.er k
       |none=>.ok (acc ++ duD (r::rs))
      rw[show decide ((i:Int)=(tot:Int) - 1)=decide (i+1=tot) from decide_eq_decide.mpr (by omega)];cases q:(!(decide (qKc d="ask") == decide (i+1=tot))) with
      |true=>rfl
      | false=>
        show qQg (tot:Int) (i+1) (acc ++ [d]) (rs.map Rw.R)=match fb tot (i+1) rs with
         |some k=>.er k
         |none=>.ok (acc ++ duD (r::rs))
        rw[vJ3 rs (i+1) _ fun r hr=>h r (aB _ hr),bU,show duD (r::rs)=d::duD rs by show uD r.u::_=_;rw[e];rfl];rfl
theorem vQh:∀(rs:List Rw) (i:Nat) (acc:List D),(∀r∈rs,OkR r)->fb tot i rs=none->i+rs.length=tot->0<rs.length->qQg ((tot+1:Nat):Int) i acc (rs.map Rw.R ++ [[]])=.er ((tot - 1:Nat):Int)
 |[],i,acc,_,_,_,h=>absurd h (by decide)
 | r::rs,i,acc,h,hf,ht,_=>by
   have hr:=h r (by simp);rw[aW]at ht;rw[fb]at hf;by_cases c:(decide (i=40) || (r.u.isNone ||!(askB r.u == decide (i+1=tot))))=true
   ·rw[if_pos c]at hf;cases hf
   ·rw [if_neg c] at hf;rw[Bool.not_eq_true,Bool.or_eq_false_iff,Bool.or_eq_false_iff]at c;have h40:=of_decide_eq_false c.1;cases e:r.u with
    |none=>rw[e]at c;exact absurd c.2.1 (by decide)
    | some d=>
      have q:=c.2.2;rw[e]at q;have q:(decide (qKc d="ask") == decide (i+1=tot))=true:=by simpa[askB] using q
      rw[bX,cZ,qQg,decide_eq_false (show¬((i:Int)=40) by omega),(hr.ok d e).1];show cond (!(decide (qKc d="ask") == decide ((i:Int)=((tot+1:Nat):Int) - 1))) (Rr.er i) (qQg _ (i+1) (acc ++ [d]) (rs.map Rw.R ++ [[]]))=_;rw[eq_of_beq q,decide_eq_false (show¬((i:Int)=((tot+1:Nat):Int) - 1) by omega)];cases rs with
      | nil=>
        rw[decide_eq_true (show i+1=tot by simpa using ht)];show Rr.er (i:Int)=_;rw[show tot - 1=i by have:i+(0+1)=tot:=ht;omega]
      | cons r2 rs=>
        rw[aW]at ht;rw[decide_eq_false (show¬(i+1=tot) by omega)];exact vQh (r2::rs) (i+1) _ (fun r hr=>h r (aB _ hr)) hf (by rw[aW];omega) (by rw[aW];omega)
theorem vZb:∀{rs:List Rw},(∀r∈rs,OkR r)->(jn (rs.map Rw.R)).length <=1101 * rs.length
 |[],_=>dW _
 |[r],h=>by have:=(h r (by simp)).ln;show r.R.length<=1101 * 1;omega
 | r::r2::rs,h=>by
   have:=vZb (rs:=r2::rs) fun r hr=>h r (aB _ hr)
   have:=(h r (by simp)).ln;show(r.R ++ 10::jn ((r2::rs).map Rw.R)).length <=_;rw[aJ,aW,aW (a:=r)];omega
section
variable{rs:List Rw}(ho:∀r∈rs,OkR r)(h1:1<=rs.length)(hl:rs.length<=43)
include ho
include h1 hl
theorem zXx:jY [sS (S (jn (rs.map Rw.R)))]=match fb rs.length 0 rs with
  |some k=>er k
  |none=>.ok (.ow .lst ((duD rs).map .fz),[.un]):=by
 have j:=vZb ho;have:=vJ4 (rows:=rs.map Rw.R) (by intro z;have:=congrArg List.length z;rw[aP]at this;change rs.length=0 at this;omega) (fun R hR z=>by obtain⟨r,hr,rfl⟩:=dL.mp hR;exact((ho r hr).ch 10 z).2 rfl) (fun R hR=>by obtain⟨r,hr,rfl⟩:=dL.mp hR;exact⟨aM (ho r hr).ln (by decide),fun c h=>((ho r hr).ch c h).1⟩) (by rw[aP];omega) (by omega);rw[aP,vJ3 rs 0 [] ho]at this;cases q:fb rs.length 0 rs with
 |none=>rw[q]at this;exact this
 |some k=>rw[q]at this;exact this
theorem zQp(hf:fb rs.length 0 rs=none):jY [sS (S (jn (rs.map Rw.R) ++ [10]))]=er ((rs.length - 1:Nat):Int):=by
 have j:=vZb ho;have e:∀{rows:List (List Nat)},rows≠ []->jn (rows ++ [[]])=jn rows ++ [10]:=fun {rows}=>by
  induction rows with
  |nil=>intro h;exact absurd rfl h
  | cons a rows ih=>
    intro _;cases rows with
    |nil=>rfl
    | cons b rows=>
      show a ++ 10::jn ((b::rows) ++ [[]])=(a ++ 10::jn (b::rows)) ++ [10];rw[ih (List.cons_ne_nil _ _),bU];rfl
 have ne:rs.map Rw.R≠ []:=by intro z;have:=congrArg List.length z;rw[aP]at this;change rs.length=0 at this;omega
 have hm:∀R∈rs.map Rw.R ++ [[]],R.length<=5000/\∀c∈R,c<128/\c≠10:=fun R hR=>by
  rcases cF.mp hR with q|q
  ·obtain⟨r,hr,rfl⟩:=dL.mp q;exact⟨aM (ho r hr).ln (by decide),(ho r hr).ch⟩
  ·rw[bA.mp q];exact⟨by decide,fun c h=>by cases h⟩
 have:=vJ4 (rows:=rs.map Rw.R ++ [[]]) (by simp) (fun R hR z=>((hm R hR).2 10 z).2 rfl) (fun R hR=>⟨(hm R hR).1,fun c h=>((hm R hR).2 c h).1⟩) (by rw[aJ,aP];show _+1<=_;omega) (by rw[e ne,aJ];show _+1<=_;omega);rw[aJ,aP,show rs.length + [([]:List Nat)].length =rs.length+1 from rfl,vQh rs 0 [] ho hf (by omega) (by omega),e ne]at this;exact this
end
theorem zQb(i:Int):eqF (.int i) (.int i)=some (.bl true):=by
 show some (D.bl (i == i))=_;rw[beq_self_eq_true]
theorem zK4(i:Str):eqF (.str i) (.str i)=some (.bl true):=by
 show some (D.bl (decide (i=i)))=_;rw[decide_eq_true rfl]
theorem alike_loop{h:Nat}{x y:Slot}:∀(ds:List D) (a b:Slot),(∀d∈ds,vG h [fz d,fz d]=.ok (.fz (.bl true),[.un,.un]))->∃a' b',forS (gT 2 (gCn (gN 2) (gCn (gN 3) gNl))) (qJy (vG h)) (zipD ds ds) [x,y,a,b]=.ok (.nx [x,y,a',b'])
 |[],a,b,_=>⟨a,b,rfl⟩
 | d::ds,a,b,H=>by
   obtain⟨a',b',ih⟩:=alike_loop (h:=h) (x:=x) (y:=y) ds (fz d) (fz d) fun z hz=>H z (aB _ hz)
   refine⟨a',b',xJ (e1:=[x,y,fz d,fz d]) (e2:=[x,y,fz d,fz d]) rfl ?_ ih⟩;have c1:qP (vG h) [(.v (oV (oN 2))),(.v (oV (oN 3)))] [x,y,fz d,fz d]=.ok (.fz (.bl true),[x,y,fz d,fz d]):=by
    unfold qP;show(vG h [fz d,fz d]).bind _=_;rw[H d (aA ..)];rfl
   exact qQh (q:=false) (not_of (qWu (zE c1 rfl)) rfl) rfl
mutual
theorem vQs:∀(d:D) (h:Nat),okA d=true->hA d<=h->vG h [fz d,fz d]=.ok (.fz (.bl true),[.un,.un])
 |.str s,0,_,hh=>by simp[hA]at hh
 | .str s,h + 1,_,_=>by
   refine vB (qW (q:=true) (e:=[fz (.str s),fz (.str s),.un,.un]) rfl (wQ (zX (vAnd (p:=true) (q:=true) rfl fun _=>vY (h1:=.d (.bl true)) (qM (h1:=.d (.str s)) (h2:=.d (.str s)) rfl rfl rfl rfl rfl (zK4 s) rfl) rfl) rfl) rfl)) rfl
 |.int i,0,_,hh=>by simp[hA]at hh
 | .int i,h + 1,_,_=>by
   refine vB (qW (q:=false) (e:=[fz (.int i),fz (.int i),.un,.un]) rfl (qE (qW (q:=true) (e:=[fz (.int i),fz (.int i),.un,.un]) rfl (wQ (zX (vAnd (p:=true) (q:=true) rfl fun _=>vAnd (p:=true) (q:=true) rfl fun _=>vY (h1:=.d (.bl true)) (qM (h1:=.d (.int i)) (h2:=.d (.int i)) rfl rfl rfl rfl rfl (zQb i) rfl) rfl) rfl) rfl)))) rfl
 |.nd .tup ds,0,_,hh=>by simp[hA]at hh
 | .nd .tup ds,h + 1,ho,hh=>by
   obtain⟨a',b',lp⟩:=alike_loop (x:=fz (.tup ds)) (y:=fz (.tup ds)) ds .un .un (alike_selfs ds h (by simpa[okA] using ho) (by simp[hA]at hh;omega));have t:asB (o2 neF (oL lenD [(oN 0)]) (oL lenD [(oN 1)])) [fz (.tup ds),fz (.tup ds),.un,.un]=.ok (false,[fz (.tup ds),fz (.tup ds),.un,.un]):=by
    show Res.ok (!((ds.length:Int) == (ds.length:Int)),_)=_;rw[beq_self_eq_true];rfl
   exact vB (qW (q:=false) (e:=[fz (.tup ds),fz (.tup ds),.un,.un]) rfl (qE (qW (q:=false) (e:=[fz (.tup ds),fz (.tup ds),.un,.un]) rfl (qE (qW (q:=false) (e:=[fz (.tup ds),fz (.tup ds),.un,.un]) rfl (qE (qW t (qE (jX (yN (ds:=zipD ds ds) (e:=[fz (.tup ds),fz (.tup ds),.un,.un]) rfl lp) rfl))))))))) rfl
 |.nd .lst ds,0,_,hh=>by simp[hA]at hh
 | .nd .lst ds,h + 1,ho,hh=>by
   obtain⟨a',b',lp⟩:=alike_loop (x:=fz (.nd .lst ds)) (y:=fz (.nd .lst ds)) ds .un .un (alike_selfs ds h (by simpa[okA] using ho) (by simp[hA]at hh;omega));have t:asB (o2 neF (oL lenD [(oN 0)]) (oL lenD [(oN 1)])) [fz (.nd .lst ds),fz (.nd .lst ds),.un,.un]=.ok (false,[fz (.nd .lst ds),fz (.nd .lst ds),.un,.un]):=by
    show Res.ok (!((ds.length:Int) == (ds.length:Int)),_)=_;rw[beq_self_eq_true];rfl
   exact vB (qW (q:=false) (e:=[fz (.nd .lst ds),fz (.nd .lst ds),.un,.un]) rfl (qE (qW (q:=false) (e:=[fz (.nd .lst ds),fz (.nd .lst ds),.un,.un]) rfl (qE (qW (q:=false) (e:=[fz (.nd .lst ds),fz (.nd .lst ds),.un,.un]) rfl (qE (qW t (qE (jX (yN (ds:=zipD ds ds) (e:=[fz (.nd .lst ds),fz (.nd .lst ds),.un,.un]) rfl lp) rfl))))))))) rfl
 |.non,_,ho,_=>by cases ho
 |.bl _,_,ho,_=>by cases ho
 |.fn _,_,ho,_=>by cases ho
 |.nd (.dct _) _,_,ho,_=>by cases ho
 |.nd (.dcT _) _,_,ho,_=>by cases ho
 |.nd (.obj _ _) _,_,ho,_=>by cases ho
 |.nd (.exc _ _) _,_,ho,_=>by cases ho
theorem alike_selfs:∀(ds:List D) (h:Nat),okAs ds=true->hAs ds<=h->∀d∈ds,vG h [fz d,fz d]=.ok (.fz (.bl true),[.un,.un])
 |[],_,_,_,d,hd=>by cases hd
 | x::ds,h,ho,hh,d,hd=>by
   rw[okAs,aF]at ho;rw[hAs]at hh;rcases bV.mp hd with z|z
   ·rw[z];exact vQs x h ho.1 (by omega)
   ·exact alike_selfs ds h ho.2 (by omega) d z
end
section
variable{F:Fn}{as:List Am}{hd:Nat->Bool}{i:Nat}{su:SS}{env:Ev}{r:List Hn×Ev}
theorem jQ4{C:Nat}{fs:List (Str×D)}{o:O}(h0:evOs (as.map Am.o) env=.ok r)(h1:qV7 F as r.1 r.2=.er C fs)(h2:(hd C && decide (i<env.length))=true)(h3:su ((r.2.map qKd).set i (.s false (.fz (.nd (.exc C (fs.map (·.1))) (fs.map (·.2))))))=.ok (.rt o e)):sTry F as hd i su env=.ok (.rt o e):=by
 unfold sTry;rw[h0];simp only[h1,h2,h3,cond]
end
theorem vQi{T:Str}{i:Int}(h:jY [sS T]=er i):zB [sS T,sN i]=.ok (.fz (.bl true),[.un,.un]):=by
 unfold zB;have su:xR [sS T,sN i,.s false (.fz (.nd (.exc 23 ["row"]) [.int i]))]=.ok (.rt (.fz (.bl true)) [sS T,sN i,.s false (.fz (.nd (.exc 23 ["row"]) [.int i]))]):=by
  have e:oV (oAnd (o1 (isiD "int") (o1 (xfD [23] "row") (oN 2))) (oAnd (oNot (o1 (isiD "bool") (o1 (xfD [23] "row") (oN 2)))) (o2 eqF (o1 (xfD [23] "row") (oN 2)) (oN 1)))) [sS T,sN i,.s false (.fz (.nd (.exc 23 ["row"]) [.int i]))]=.ok (.bl (true && (true && true)),[sS T,sN i,.s false (.fz (.nd (.exc 23 ["row"]) [.int i]))]):=
   vAnd (p:=true) (q:=true && true) rfl fun _=>vAnd (p:=true) (q:=true) rfl fun _=>vY (h1:=.d (.bl true)) (qM (h1:=.d (.int i)) (h2:=.d (.int i)) rfl rfl rfl rfl rfl (zQb i) rfl) rfl
  unfold xR;exact qW (q:=false) (e:=[sS T,sN i,.s false (.fz (.nd (.exc 23 ["row"]) [.int i]))]) rfl (qE (qW (q:=false) (e:=[sS T,sN i,.s false (.fz (.nd (.exc 23 ["row"]) [.int i]))]) rfl (qE (qW (q:=false) (e:=[sS T,sN i,.s false (.fz (.nd (.exc 23 ["row"]) [.int i]))]) rfl (qE (xI (zX e rfl) rfl))))))
 refine vB (qKf (jQ4 (C:=23) (fs:=[("row",.int i)]) (o:=.fz (.bl true)) (e:=[sS T,sN i,.s false (.fz (.nd (.exc 23 ["row"]) [.int i]))]) (r:=([.d (.str T)],[sS T,sN i,.un])) rfl ?_ rfl su) rfl) rfl;show(jY [sS T]).bind _=_;rw[h];rfl
theorem zZr:100000<=aT:=by decide
theorem vWk(k:Nat):∀(ws:List Str) (a:Nat),ws.foldl (fun n w=>n+w.length+k) a=a+(ws.map (·.length)).sum+ws.length * k
 |[],a=>by simp
 | w::ws,a=>by
   rw[List.foldl_cons,vWk k ws,bX,List.sum_cons,aW,Nat.succ_mul];omega
theorem jZu{sep:Str}(l:(ws.map (·.length)).sum+ws.length * sep.length<=100000):jnS sep ws=some (.str (Str.join sep ws)):=by
 unfold jnS;have e1:ws.toArray.foldl (· + ·.length+sep.length) 0=(ws.map (·.length)).sum+ws.length * sep.length:=by
  rw[List.foldl_toArray,vWk];omega
 have j:=PySem.StrLaws.join_length_le sep ws;have e2:Builtin.Str.tooLong (ws.toArray.foldl (· + ·.length+sep.length) 0)=false:=by
  rw[e1];exact decide_eq_false (by have:=zZr;omega)
 rw[e2,decide_eq_true (by have:=zZr;omega)];rfl
theorem join_jn:∀(rows:List (List Nat)),Str.join "\n" (rows.map S)=S (jn rows)
 |[]=>rfl
 |[a]=>rfl
 | a::b::r=>by
   show S a ++ ("\n":Str) ++ Str.join "\n" ((b::r).map S)=S (a ++ 10::jn (b::r));rw[join_jn (b::r),show("\n":Str)=S [10] from rfl,vJr,vJr];simp
noncomputable abbrev rD(rs:List Rw):D:=.nd .lst (rs.map Rw.t)
section
variable{rs:List Rw}
theorem r_at{r:Rw}(hr:rs[k]?=some r):ixD (rD rs) (.int (k:Nat))=some r.t:=by
 show atI (rs.map Rw.t) ((k:Nat):Int)=_;exact qJg (by rw[cJ,hr];rfl)
theorem r_u{r:Rw}(hr:rs[k]?=some r):evO (oIx (oIx (oN 0) (oN 1)) (oC (.int 1))) [fz (rD rs),sN k]=.ok (.d (uD r.u),[fz (rD rs),sN k]):=by
 refine jH (h1:=.d r.t) (h2:=.d (.int ((1:Nat):Int))) (jH (h1:=.d (rD rs)) (h2:=.d (.int (k:Nat))) rfl rfl rfl rfl (by show(ixD _ _).map Hn.d=_;rw[r_at hr];rfl) rfl) rfl rfl rfl ?_ rfl;show(atI [.str (S r.R),uD r.u] ((1:Nat):Int)).map Hn.d=_;rw[qJg (show [D.str (S r.R),uD r.u][1]?=some (uD r.u) from rfl)];rfl
theorem fb_b(ho:∀r∈rs,OkR r){r:Rw}(hr:rs[k]?=some r)(hl:rs.length<=60):jL [fz (rD rs),sN k]=if decide (k=40) || (r.u.isNone ||!(askB r.u == decide (k+1=rs.length))) then .ok (.rt (.fz (.int (k:Nat))) [fz (rD rs),.un]) else .ok (.nx [fz (rD rs),sN k]):=by
 have hO:=ho r (eX hr);have t0:asB (o2 eqF (oN 1) (oC (.int 40))) [fz (rD rs),sN k]=.ok (decide (k=40),[fz (rD rs),sN k]):=by
  rw[show decide (k=40)=decide ((k:Int)=40) from decide_eq_decide.mpr (by omega)];exact eq_o (i:=(k:Int)) rfl
 have t1:asB (o2 isN (oIx (oIx (oN 0) (oN 1)) (oC (.int 1))) (oC .non)) [fz (rD rs),sN k]=.ok (r.u.isNone,[fz (rD rs),sN k]):=by
  refine vM (d:=.bl r.u.isNone) (vY (h1:=.d (.bl r.u.isNone)) (qM (h1:=.d (uD r.u)) (h2:=.d .non) (r_u hr) rfl rfl rfl rfl ?_ rfl) rfl) rfl rfl;cases e:r.u with
  |none=>rfl
  | some d=>
    obtain⟨w,x,rfl⟩:=(hO.ok d e).2.2.2;rfl
 have t01:bOr (asB (o2 eqF (oN 1) (oC (.int 40)))) (asB (o2 isN (oIx (oIx (oN 0) (oN 1)) (oC (.int 1))) (oC .non))) [fz (rD rs),sN k]=.ok (decide (k=40) || r.u.isNone,[fz (rD rs),sN k]):=yB t0 (by cases decide (k=40) <;> first|rfl|exact t1);unfold jL;cases q0:(decide (k=40) || r.u.isNone) with
 | true=>
   rw[q0]at t01;rw[if_pos (by rw[←Bool.or_assoc,q0];rfl)];exact qW t01 rfl
 | false=>
   rw[q0]at t01;have q1:=(Bool.or_eq_false_iff.mp q0)
   rw[q1.1,q1.2,Bool.false_or,Bool.false_or];cases e:r.u with
   |none=>rw[e]at q1;exact absurd q1.2 (by decide)
   | some d=>
     obtain⟨w,x,rfl⟩:=(hO.ok d e).2.2.2;have ru:=r_u hr;rw[e]at ru;have t2:asB (o2 neF (o2 eqF (oIx (oIx (oIx (oN 0) (oN 1)) (oC (.int 1))) (oC (.int 0))) (oC (.str "ask"))) (o2 eqF (oN 1) (oSub (oL lenD [(oN 0)]) (oC (.int 1))))) [fz (rD rs),sN k]=.ok (!(decide (w="ask") == decide (k+1=rs.length)),[fz (rD rs),sN k]):=by
      refine vM (d:=.bl (!(decide (w="ask") == decide (k+1=rs.length)))) (vY (h1:=.d (.bl (!(decide (w="ask") == decide (k+1=rs.length))))) (qM (h1:=.d (.bl (decide (w="ask")))) (h2:=.d (.bl (decide (k+1=rs.length)))) (qM (h1:=.d (.str w)) (h2:=.d (.str "ask")) (jH (h1:=.d (.tup (.str w::x))) (h2:=.d (.int ((0:Nat):Int))) ru rfl rfl rfl (by show(ixD (.tup (.str w::x)) (.int ((0:Nat):Int))).map Hn.d=_;rw[ix0];rfl) rfl) rfl rfl rfl rfl rfl rfl) (qM (h1:=.d (.int (k:Nat))) (h2:=.d (.int (((rs.map Rw.t).length :Int) - 1))) rfl rfl rfl rfl rfl ?_ rfl) rfl rfl rfl rfl rfl) rfl) rfl rfl;show some (D.bl ((k:Int) == ((rs.map Rw.t).length :Int) - 1))=_;rw[aP,show((k:Int) == (rs.length:Int) - 1)=decide (k+1=rs.length) by rw[cK];simp;omega]
     show(sSeq _ _) _=if(!(decide (w="ask") == decide (k+1=rs.length)))=true then _ else _
     cases q2:(!(decide (w="ask") == decide (k+1=rs.length))) with
     |true=>rw[q2]at t2;exact qW t01 (qE ((if_t t2).trans rfl))
     |false=>rw[q2]at t2;exact qW t01 (qE ((if_f t2).trans rfl))
theorem fb_l(ho:∀r∈rs,OkR r)(hl:rs.length<=60):∀(m i:Nat) (y:Slot),i+m=rs.length->∃y',forS (gN 1) jL ((List.range' i m).map fun(k:Nat)=>D.int (0+(k:Int))) [fz (rD rs),y]=match fb rs.length i (rs.drop i) with
  |some k=>.ok (.rt (.fz (.int (k:Nat))) [fz (rD rs),y'])
  |none=>.ok (.nx [fz (rD rs),y'])
 | 0,i,y,h=>⟨y,by rw[List.drop_eq_nil_of_le (by omega)];rfl⟩
 | m + 1,i,y,h=>by
   obtain⟨r,hr⟩:∃r,rs[i]?=some r:=⟨_,aI (by omega)⟩
   have hb:=fb_b ho hr hl;have hd:rs.drop i=r::rs.drop (i+1):=by rw[cB (by omega),(aU.mp hr).2]
   have g:(gN 1) (D.int (0+(i:Int))) [fz (rD rs),y]=some [fz (rD rs),sN i]:=by show some [fz (rD rs),sN (0+(i:Int))]=_;rw[Int.zero_add]
   rw[List.range'_succ,bX,hd,fb];by_cases c:(decide (i=40) || (r.u.isNone ||!(askB r.u == decide (i+1=rs.length))))=true
   ·rw [if_pos c] at hb⊢;exact⟨.un,zKl g hb rfl⟩
   ·rw [if_neg c] at hb⊢;obtain⟨y',ih⟩:=fb_l ho hl m (i+1) (sN i) (by omega);exact⟨y',xJ g hb ih⟩
noncomputable def oN' :Option Nat->D
 |some k=>.int (k:Nat)
 |none=>.non
theorem jWn(ho:∀r∈rs,OkR r)(hl:rs.length<=60):jC [fz (rD rs)]=.ok (.fz (oN' (fb rs.length 0 rs)),[.un]):=by
 obtain⟨y',lp⟩:=fb_l ho hl rs.length 0 .un (by omega);rw[List.drop_zero]at lp;have it:iL rg1 [(oV (oL lenD [(oN 0)]))] [fz (rD rs),.un]=.ok ((List.range' 0 rs.length).map fun(k:Nat)=>D.int (0+(k:Int)),[fz (rD rs),.un]):=by
  refine vYy (xs:=[.int (rs.length:Nat)]) ?_ (zZt hl) rfl;show Res.ok ([D.int ((rs.map Rw.t).length :Nat)],_)=_;rw[aP]
 unfold jC;cases q:fb rs.length 0 rs with
 |some k=>rw[q]at lp;exact vB (qKf (yN it lp) rfl) rfl
 |none=>rw[q]at lp;exact vB (jX (yN it lp) rfl) rfl
end
theorem vKo:∀{ds:List D} {k:Nat},(∀d∈ds,okA d=true/\hA d<=k)->okAs ds=true/\hAs ds<=k
 |[],k,_=>⟨by rw[okAs],by rw[hAs];omega⟩
 | d::ds,k,h=>by
   obtain⟨h1,h2⟩:=h d (by simp);obtain⟨h3,h4⟩:=vKo fun d hd=>h d (aB _ hd)
   rw[okAs,hAs,h1,h3];exact⟨rfl,by omega⟩
theorem vKy:∀{rs:List Rw} {i:Nat},fb tot i rs=none->∀r∈rs,∃d,r.u=some d
 |[],_,_,r,hr=>by cases hr
 | r0::rs,i,h,r,hr=>by
   rw[fb]at h;by_cases c:(decide (i=40) || (r0.u.isNone ||!(askB r0.u == decide (i+1=tot))))=true
   ·rw[if_pos c]at h;cases h
   ·rw [if_neg c] at h;rcases bV.mp hr with q|q
    ·rw [q];cases e:r0.u with
     |some d=>exact⟨d,rfl⟩
     |none=>rw[e]at c;simp at c
    ·exact vKy h r q
theorem zZo:∀{rs:List Rw},(∀r∈rs,OkR r)->((rs.map fun r=>S r.R).map (·.length)).sum <=1100 * rs.length
 |[],_=>aD _
 | r::rs,h=>by
   have:=zZo fun r hr=>h r (aB _ hr)
   have:=(h r (by simp)).ln;rw[bX,bX,List.sum_cons,aW,wT];omega
noncomputable abbrev le(ns:List Int)(p1 p2 p3 p4 p5:Slot):Ev:=[xs0 ns,p1,p2,p3,p4,p5]
section
variable{rs:List Rw}(ho:∀r∈rs,OkR r)(h1:1<=rs.length)(hl:rs.length<=43)
include ho
include hl
theorem c_r0:fzS (compS 1 [] [0] (iV (oV (oN 1))) (gN 0) bTrue (oV (oIx (oN 0) (oC (.int 0))))) (le ns (fl (rs.map Rw.t)) .un .un .un .un)=.ok (.nd .lst (rs.map fun r=>.str (S r.R)),le ns (fz (rD rs)) .un .un .un .un):=by
 refine zE (vXp (dn:=Rw.t) (vn:=fun r=>D.str (S r.R)) (e:=le ns (fz (rD rs)) .un .un .un .un) (vYx (jQw (ds:=rs.map Rw.t) rfl rfl rfl) rfl rfl) (by omega) fun q hq1 e he=>?_) (by rw[xU]);match e,he with
 |[y0],_=>exact⟨[fz q.t],rfl,vY (h1:=.d (.str (S q.R))) (jH (h1:=.d q.t) (h2:=.d (.int ((0:Nat):Int))) rfl rfl rfl rfl (by show(ixD (.tup (.str (S q.R):: [uD q.u])) (.int ((0:Nat):Int))).map Hn.d=_;rw[ix0];rfl) rfl) rfl,rfl⟩
theorem c_r1{p2 p3:Slot}:compS 1 [] [0] (iV (oV (oN 1))) (gN 0) bTrue (oV (oIx (oN 0) (oC (.int 1)))) (le ns (fz (rD rs)) p2 p3 .un .un)=.ok (.ow .lst ((duD rs).map .fz),le ns (fz (rD rs)) p2 p3 .un .un):=by
 refine vXp (dn:=Rw.t) (vn:=fun r=>uD r.u) (e:=le ns (fz (rD rs)) p2 p3 .un .un) (vYx (d:=rD rs) rfl rfl rfl) (by omega) fun q hq1 e he=>?_
 match e,he with
 | [y0],_=>
   refine⟨[fz q.t],rfl,vY (h1:=.d (uD q.u)) (jH (h1:=.d q.t) (h2:=.d (.int ((1:Nat):Int))) rfl rfl rfl rfl ?_ rfl) rfl,rfl⟩;show(atI [.str (S q.R),uD q.u] ((1:Nat):Int)).map Hn.d=_;rw[qJg (show [D.str (S q.R),uD q.u][1]?=some (uD q.u) from rfl)];rfl
theorem j_ok:oV (oL (vJl "\n") [(.v (fzS (compS 1 [] [0] (iV (oV (oN 1))) (gN 0) bTrue (oV (oIx (oN 0) (oC (.int 0)))))))]) (le ns (fl (rs.map Rw.t)) .un .un .un .un)=.ok (.str (S (jn (rs.map Rw.R))),le ns (fz (rD rs)) .un .un .un .un):=by
 refine vY (h1:=.d (.str (S (jn (rs.map Rw.R))))) (qYi (hs:=[.d (.nd .lst (rs.map fun r=>.str (S r.R)))]) (xW (zY (c_r0 ho hl) rfl) rfl rfl rfl) rfl ?_ rfl) rfl;show(qJ4 (rs.map fun r=>.str (S r.R))).bind (jnS "\n")=_;rw[show(rs.map fun r=>D.str (S r.R))=(rs.map fun r=>S r.R).map D.str by rw[dY];rfl,vQr];show jnS "\n" (rs.map fun r=>S r.R)=_;have:=zZo ho;rw[jZu (by rw[aP,show("\n":Str).length =1 from rfl];omega),show(rs.map fun r=>S r.R)=(rs.map Rw.R).map S by rw[dY];rfl,join_jn]
include h1
theorem jZp(hr:xK [xs0 ns]=.ok (.ow .lst ((rs.map Rw.t).map .fz),[.un])):∃e,vY5 [xs0 ns]=.ok (.fz (.bl true),e):=by
 have s1:qP xK [(.v (oV (oN 0)))] (le ns .un .un .un .un .un)=.ok (.ow .lst ((rs.map Rw.t).map .fz),le ns .un .un .un .un .un):=qZe (vs:=[oV (oN 0)]) (zs:=[.nd .lst (ns.map .int)]) rfl rfl hr;have s2:=j_ok ho hl (ns:=ns);have rd:=zXx ho h1 hl;generalize hT:S (jn (rs.map Rw.R))=T at s2 rd;have s3:qP jC [(.v (oV (oN 1)))] (le ns (fz (rD rs)) (sS T) .un .un .un)=.ok (.fz (oN' (fb rs.length 0 rs)),le ns (fz (rD rs)) (sS T) .un .un .un):=qZe (vs:=[oV (oN 1)]) (zs:=[rD rs]) rfl rfl (jWn ho (by omega));refine⟨[.un],?_⟩;unfold vY5;cases hf:fb rs.length 0 rs with
 | some k=>
   rw[hf]at rd s3;have c:qP zB [(.v (oV (oN 2))),(.v (oV (oN 3)))] (le ns (fz (rD rs)) (sS T) (sN k) .un .un)=.ok (.fz (.bl true),le ns (fz (rD rs)) (sS T) (sN k) .un .un):=qZe (vs:=[oV (oN 2),oV (oN 3)]) (zs:=[.str T,.int (k:Nat)]) rfl rfl (vQi rd);exact vB (qU s1 (qU (zX s2 rfl) (qU s3 (qW (q:=true) (e:=le ns (fz (rD rs)) (sS T) (sN k) .un .un) rfl (wQ c rfl))))) rfl
 | none=>
   rw[hf]at rd s3;have al:vG 10 [fz (.nd .lst (duD rs)),fz (.nd .lst (duD rs))]=.ok (.fz (.bl true),[.un,.un]):=by
    have o:=vKo (ds:=duD rs) (k:=8) fun d hd=>by
     obtain⟨r,hr,rfl⟩:=dL.mp hd;obtain⟨d,e⟩:=vKy hf r hr;have:=(ho r hr).ok d e;rw[e];exact⟨this.2.1,this.2.2.1⟩
    exact vQs (.nd .lst (duD rs)) 10 (by rw[okA];exact o.1) (by rw[hA];have:=o.2;omega)
   have s4:=c_r1 ho hl (ns:=ns) (p2:=sS T) (p3:=fz .non);have s5:qP jY [(.v (oV (oN 2)))] (le ns (fz (rD rs)) (sS T) (fz .non) (fl (duD rs)) .un)=.ok (.ow .lst ((duD rs).map .fz),le ns (fz (rD rs)) (sS T) (fz .non) (fl (duD rs)) .un):=qZe (vs:=[oV (oN 2)]) (zs:=[.str T]) rfl rfl rd;have ev:evOs (([(.b (pOf (oN 5))),(.v (oV (oN 4)))]:List Am).map Am.o) (le ns (fz (rD rs)) (sS T) (fz .non) (fl (duD rs)) (fl (duD rs)))=.ok ([.p 5 [],.d (.nd .lst (duD rs))],le ns (fz (rD rs)) (sS T) (fz .non) (fz (.nd .lst (duD rs))) (fl (duD rs))):=zZc rfl rfl (wS (jQw (ds:=duD rs) rfl rfl rfl) rfl rfl) rfl;have c6:qP (vG 10) [(.b (pOf (oN 5))),(.v (oV (oN 4)))] (le ns (fz (rD rs)) (sS T) (fz .non) (fl (duD rs)) (fl (duD rs)))=.ok (.fz (.bl true),le ns (fz (rD rs)) (sS T) (fz .non) (fz (.nd .lst (duD rs))) (fl (duD rs))):=by
    refine zF ev (qVc (t0:=([.ow .lst ((duD rs).map .fz)],le ns (fz (rD rs)) (sS T) (fz .non) (fz (.nd .lst (duD rs))) .un)) (t:=([],le ns (fz (rD rs)) (sS T) (fz .non) (fz (.nd .lst (duD rs))) .un)) (args:=[fz (.nd .lst (duD rs)),fz (.nd .lst (duD rs))]) rfl rfl ?_ al rfl rfl rfl);show some [Slot.s false (.fz (fzO (.ow .lst ((duD rs).map .fz)))),fz (.nd .lst (duD rs))]=_;rw[xU]
   have t6:bNot (asB (.v (fzS (qP (vG 10) [(.b (pOf (oN 5))),(.v (oV (oN 4)))])))) (le ns (fz (rD rs)) (sS T) (fz .non) (fl (duD rs)) (fl (duD rs)))=.ok (false,le ns (fz (rD rs)) (sS T) (fz .non) (fz (.nd .lst (duD rs))) (fl (duD rs))):=by
    have v6:oV (.v (fzS (qP (vG 10) [(.b (pOf (oN 5))),(.v (oV (oN 4)))]))) (le ns (fz (rD rs)) (sS T) (fz .non) (fl (duD rs)) (fl (duD rs)))=.ok (.bl true,le ns (fz (rD rs)) (sS T) (fz .non) (fz (.nd .lst (duD rs))) (fl (duD rs))):=vY (h1:=.d (.bl true)) (zY (zE (o:=.fz (.bl true)) c6 rfl) rfl) rfl;exact not_of (vM v6 rfl rfl) rfl
   obtain⟨p5,s7⟩:∃p5:Slot,∀(t:SS) (X:Res Out),t (le ns (fz (rD rs)) (sS T) (fz .non) (fz (.nd .lst (duD rs))) p5)=X->sSeq (sExpr (ePop (pOf (oN 5)))) t (le ns (fz (rD rs)) (sS T) (fz .non) (fz (.nd .lst (duD rs))) (fl (duD rs)))=X:=by
    obtain⟨o,he⟩:∃o,((duD rs).map O.fz)[((duD rs).map O.fz).length - 1]?=some o:=⟨_,aI (by rw[aP,aP];omega)⟩
    refine⟨.s false (.ow .lst (((duD rs).map O.fz).eraseIdx (((duD rs).map O.fz).length - 1))),fun t X h=>qQ7 (o:=o) ?_ h⟩;show(opt (((duD rs).map O.fz)[((duD rs).map O.fz).length - 1]?)).bind _=_;rw[he];rfl
   have a1:fzS (qP jY [(.v (oV (oN 2)))]) (le ns (fz (rD rs)) (sS T) (fz .non) (fz (.nd .lst (duD rs))) p5)=.ok (.nd .lst (duD rs),le ns (fz (rD rs)) (sS T) (fz .non) (fz (.nd .lst (duD rs))) p5):=zE (qZe (vs:=[oV (oN 2)]) (zs:=[.str T]) rfl rfl rd) (by rw[xU]);have a2:fzS (qP (vG 10) [(.v (fzS (qP jY [(.v (oV (oN 2)))]))),(.v (oV (oN 4)))]) (le ns (fz (rD rs)) (sS T) (fz .non) (fz (.nd .lst (duD rs))) p5)=.ok (.bl true,le ns (fz (rD rs)) (sS T) (fz .non) (fz (.nd .lst (duD rs))) p5):=zE (o:=.fz (.bl true)) (qZe (vs:=[fzS (qP jY [(.v (oV (oN 2)))]),oV (oN 4)]) (zs:=[.nd .lst (duD rs),.nd .lst (duD rs)]) (wS a1 (wS rfl (vZr rfl) rfl) rfl) rfl al) rfl;have lT:=vZb ho;have a3:oV (o2 addS (oN 2) (oC (.str "\n"))) (le ns (fz (rD rs)) (sS T) (fz .non) (fz (.nd .lst (duD rs))) p5)=.ok (.str (S (jn (rs.map Rw.R) ++ [10])),le ns (fz (rD rs)) (sS T) (fz .non) (fz (.nd .lst (duD rs))) p5):=by
    rw[←hT];refine vY (h1:=.d (.str (S (jn (rs.map Rw.R) ++ [10])))) (qM (h1:=.d (.str (S (jn (rs.map Rw.R))))) (h2:=.d (.str (S [10]))) rfl rfl rfl rfl rfl ?_ rfl) rfl;show(if(S (jn (rs.map Rw.R))).length+(S [10]).length <=_ then _ else _)=_;rw[if_pos (by rw[wT,wT];exact aM (show _+1<=50000 by omega) (by decide)),vJr]
   have a4:oV (oSub (oL lenD [(oN 1)]) (oC (.int 1))) (le ns (fz (rD rs)) (sS T) (fz .non) (fz (.nd .lst (duD rs))) p5)=.ok (.int ((rs.length - 1:Nat):Int),le ns (fz (rD rs)) (sS T) (fz .non) (fz (.nd .lst (duD rs))) p5):=by
    rw[show((rs.length - 1:Nat):Int)=((rs.map Rw.t).length :Int) - 1 by rw[aP];omega];rfl
   have a5:fzS (qP zB [(.v (oV (o2 addS (oN 2) (oC (.str "\n"))))),(.v (oV (oSub (oL lenD [(oN 1)]) (oC (.int 1)))))]) (le ns (fz (rD rs)) (sS T) (fz .non) (fz (.nd .lst (duD rs))) p5)=.ok (.bl true,le ns (fz (rD rs)) (sS T) (fz .non) (fz (.nd .lst (duD rs))) p5):=zE (o:=.fz (.bl true)) (qZe (vs:=[oV (o2 addS (oN 2) (oC (.str "\n"))),oV (oSub (oL lenD [(oN 1)]) (oC (.int 1)))]) (zs:=[.str (S (jn (rs.map Rw.R) ++ [10])),.int ((rs.length - 1:Nat):Int)]) (wS a3 (wS a4 (vZr rfl) rfl) rfl) rfl (vQi (zQp ho h1 hl hf))) rfl;have a6:=vAnd (s:=.v (fzS (qP (vG 10) [(.v (fzS (qP jY [(.v (oV (oN 2)))]))),(.v (oV (oN 4)))]))) (t:=.v (fzS (qP zB [(.v (oV (o2 addS (oN 2) (oC (.str "\n"))))),(.v (oV (oSub (oL lenD [(oN 1)]) (oC (.int 1)))))]))) (p:=true) (q:=true) (qWu a2) fun _=>a5
   exact vB (qU s1 (qU (zX s2 rfl) (qU s3 (qW (q:=false) (e:=le ns (fz (rD rs)) (sS T) (fz .non) .un .un) rfl (qE (qU s4 (qU s5 (qW t6 (qE (s7 _ _ (xI (zX a6 rfl) rfl))))))))))) rfl
end
theorem zWk(ns:List Int)(h:ns.length<=63):∃e,vY5 [.s false (.fz (.nd .lst (ns.map .int)))]=.ok (.fz (.bl true),e):=by
 obtain⟨rs,hr,h1,hl,ho⟩:=zXh ns;exact jZp ho h1 hl hr
end X15
namespace DX
open PySem L2 PyProof.Rows
theorem vJv:∀ws:List (Str×Tok),Vals (ws.map fun q=>V.str q.1) (ws.map fun q=>Value.str q.1 q.2)
 |[]=>.nil
 |q::ws=>.cons ⟨q.2,rfl⟩ (vJv ws)
end DX
namespace DX
open PySem L2
variable{C0:Nat}{l:List Nat}{K:aQ}{pl:Sem Bool}{o':Oe}
theorem zKo{p:Nat->Bool->Prop}:∀C b,(C,b)∈([]:List (Nat×Bool))->p C b:=fun _ _ h=>nomatch h
theorem zW2{p:Nat->Bool->Prop}{b0:Bool}{l:List (Nat×Bool)}(h0:p C0 b0)(hl:∀C b,(C,b)∈l->p C b):∀C b,(C,b)∈(C0,b0)::l->p C b:=fun C b h=>by
 grind
theorem zKp{p:Nat->Prop}:∀C∈([]:List Nat),p C:=fun _ h=>nomatch h
theorem zW3{p:Nat->Prop}(h0:p C0)(hl:∀C∈l,p C):∀C∈C0::l,p C:=fun C h=>by
 grind
theorem zKq{p:Nat->Prop}:∀C,([]:List Nat).contains C=true->p C:=fun _ h=>nomatch h
theorem zW4{p:Nat->Prop}(h0:p C0)(hl:∀C,l.contains C=true->p C):∀C,(C0::l).contains C=true->p C:=fun C h=>by
 grind
theorem jWe{c:Nat->aV}{p:aV}{o:Obj}{n:Nat}(ws:List (Str×Tok))(h1:K.lookup p=some o)(h2:o.cls=.type "tuple")(h3:o.data=.seq (ws.map fun q=>Value.str q.1 q.2).toArray n)(h4:ws.length<=100):∀F,DAt K c F (.ref p) (.tup (ws.map fun q=>.str q.1)):=fun F=>by
 refine DAt.nd (k:=.tup) (vs:=ws.map fun q=>V.str q.1) (show SqT K F p _ from .inr ⟨o,_,n,h1,h2,h3,?_,by rw[List.toList_toArray];exact vJv ws⟩) (by rw[aP,aP]) fun i v d hv hd=>?_
 ·rw[bJ,aP];exact aM h4 (by decide)
 ·rw [cJ] at hv hd;cases q:ws[i]? with
  |none=>grind
  |some x=>rw[q]at hv hd;cases hv;cases hd;exact .str _
section
variable{X:Cx}{c:Nat->aV}{E:XK}{e o:Expr}{es:List Expr}{as:List Am}{a0:Am}{x m q y:Str}{C j n:Nat}{st:Stmt}{f:aV}{fd:aH}{ps:List Str}{k k0:Nat}{F:Fn}{p pos apos np cpos:Pos}{s:SV}{tb:List (Nat×Fn)}
theorem cA(A:FnAt X.K X.mg x st ps f fd)(G:FnOk X.prog X.w X.K X.mg X.base (CXd X.prog X.w) k f fd ps (spD X.K c as.length F))(hr:Room k0 X.A)(ha:OsD X c E (e::es) (as.map Am.o))(hx:jR (CXd X.prog X.w) X E:=by exact xD)(hk:k<=k0:=by first|decide|omega)(hg:Gl X x:=by exact rfl)(hdb:(x == ("__debug__":Str))=false:=by decide)(he:aX (e::es) X.env=(false,eval e X.env)::aX es X.env:=by rfl)(hpl:(cX pos (aX es X.env)).any (·.1)=false:=by rfl):ED X c E (.Call (.Name x p) (e::es) [] pos) (qP F as):=
 vZs G (hr.mono hk) hg A.m A.F.kp A.b hx ha hdb he hpl
theorem mA(ho:OD X c E o a0.o)(hc:Cls X.K (c C))(hm:Meth X.K (c C) m f)(A:MethAt X.K m q st ps f fd)(G:FnOk X.prog X.w X.K X.mg X.base (CXd X.prog X.w) k f fd ps (spD X.K c (a0::as).length F))(hr:Room k0 X.A)(ha:OsD X c E (e::es) (as.map Am.o))(hx:jR (CXd X.prog X.w) X E:=by exact xD)(hk:k<=k0:=by first|decide|omega)(hst:aX (e::es) X.env=(false,eval e X.env)::aX es X.env:=by rfl)(hpl:(cX pos (aX es X.env)).any (·.1)=false:=by rfl)(ht:eval (.Call (.Attribute o m apos) (e::es) [] pos) X.env=(do
   let ov ←eval o X.env;standAt apos.atName;let (f,first) ←holding [ov] (getMethod ov m pl);callWith pos f first (cX pos (aX (e::es) X.env)) (backToKw pos (keywordEach [] X.env))):=by rfl):
  ED X c E (.Call (.Attribute o m apos) (e::es) [] pos) (vF C m F a0 as):=zKt ho hc hm G (hr.mono hk) A.b hx ha hst hpl ht
theorem m0A(ho:OD X c E o a0.o)(hc:Cls X.K (c C))(hm:Meth X.K (c C) m f)(A:MethAt X.K m q st ps f fd)(G:FnOk X.prog X.w X.K X.mg X.base (CXd X.prog X.w) k f fd ps (spD X.K c 1 F))(hr:Room k0 X.A)(hx:jR (CXd X.prog X.w) X E:=by exact xD)(hk:k<=k0:=by first|decide|omega)(ht:eval (.Call (.Attribute o m apos) [] [] pos) X.env=(do
   let ov ←eval o X.env;standAt apos.atName;let (f,first) ←holding [ov] (getMethod ov m pl);callWith pos f first (cX pos (aX [] X.env)) (backToKw pos (keywordEach [] X.env))):=by rfl):
  ED X c E (.Call (.Attribute o m apos) [] [] pos) (vF C m F a0 []):=zXa ho hc hm G (hr.mono hk) A.b hx ht
theorem rA{fI:aV}(ce:IniCls X.K (c C) fI)(A:MethAt X.K m q st ps fI fd)(G:FnOk X.prog X.w X.K X.mg X.base (CXd X.prog X.w) k fI fd ps (vYn (c C) y))(hr:Room k0 X.A)(hm:X.mg x=some (.ref (c C)))(he:EV X c E e s)(hk:k+1<=k0:=by first|decide|omega)(hg:Gl X x:=by exact rfl)(hcalm:X.calm=true:=by rfl)(hex:X.ex=[]:=by rfl)(ht:qY9 X (c C) (fun ea dx H1=>E (.ref (c C)) (some dx) (but1 H1 ea)):=by exact vXw)(hs:aX [e] X.env=[(false,eval e X.env)]:=by rfl)(hdb:(x == ("__debug__":Str))=false:=by decide):SD X c E (.Raise (some (.Call (.Name x np) [e] [] cpos)) none pos) (zS C y s):=
 zQl ce G (hr.mono hk) A.b hg hm hcalm hex he ht hs hdb
theorem fA(e1:X.mg y=some (.ref (c j)))(A:FnAt X.K X.mg y st ps f fd)(hr:Room k0 X.A)(G:FnOk X.prog X.w X.K X.mg X.base (CXd X.prog X.w) k f fd ps (spD X.K c n F))(t:FnT X c n tb)(hk:k<=k0:=by first|decide|omega):FnT X c n ((j,F)::tb):=zWz e1 A.m (hr.mono hk) G A.F.kp A.b t
theorem scA{N P:List Str}{sc:Scope}(a:sc.kind=.function :=by rfl)(b:sc.isCoroutine=false:=by rfl)(g:sc.isGenerator=false:=by rfl)(nd:N.Nodup:=by decide +kernel)(pre:List.take P.length N=P:=by rfl)(par:∀x∈P,List.lookup x sc.names=some .local \/List.lookup x sc.names=some .cell :=by decide +kernel)(nf:∀y∈sc.names,y.2≠ .free :=by decide +kernel):FnScope N P sc:=⟨a,b,g,nd,pre,par,nf⟩
theorem sA{i:Nat}{s:SE}{pos' :Pos}(hN:X.N.Nodup)(he:ED X c E e s)(hi:X.N[i]?=some x:=by rfl)(hx:Loc X.env.scope x:=by exact Or.inl rfl)(hs:swapsWith e (some (.Name x pos')) pos.line X.env=pure false:=by rfl)(hf:X.fn x=true\/X.env.scope.names.lookup x=some .local :=by first|exact .inl rfl|exact .inr rfl|assumption):
  SD X c E (.Assign [.Name x pos'] e pos) (sSet i s):=jVc hN hi hx he hs hf
theorem vA{ss:List SV}(ha:OD X c E e o')(hr:VsD X c E es ss)(hs:aX (e::es) X.env=(false,eval e X.env)::aX es X.env:=by rfl):VsD X c E (e::es) (oV o' ::ss):=qO ha.val hr hs
theorem oA{os:List Oe}(ha:OD X c E e o')(hr:OsD X c E es os)(hs:aX (e::es) X.env=(false,eval e X.env)::aX es X.env:=by rfl):OsD X c E (e::es) (.v (oV o')::os):=qG (od_v ha.val) hr hs
end
theorem faM{mg:Str->Option Value}{h:Heap}{x:Str}{st:Stmt}{ps:List Str}{f:aV}{oc:Value}{od an:Option aV}{osl:Array (Option Value)}{kV doc pm cdv ct:Value}(X:K.In h)(G:h.Ns cE mg)(a:PySem.W.nsIn K cE x=some (some (.ref f)))(l:K.lookup f=some ⟨oc,od,.func (cY x x (jI st) (jQ st) (qY st) .none kV doc pm an cdv ct),osl⟩)(c:PySem.W.codeIn K cdv x=true)(k:cV K (.ref f)=true)(b:∀(kV doc pm:Value) (an:Option aV) (cdv ct:Value) (us:List Value),us.length=ps.length->bindArgs (cY x x (jI st) (jQ st) (qY st) .none kV doc pm an cdv ct) ⟨us,[]⟩=pure (ps.zip us):=by first|exact(fun _ _ _ _ _ _ us hl=>match us,hl with|[_],_=>rfl)|exact(fun _ _ _ _ _ _ us hl=>match us,hl with|[_,_],_=>rfl)|exact(fun _ _ _ _ _ _ us hl=>match us,hl with|[_,_,_],_=>rfl)|exact(fun _ _ _ _ _ _ us hl=>match us,hl with|[_,_,_,_],_=>rfl)):
  FnAt K mg x st ps f (cY x x (jI st) (jQ st) (qY st) .none kV doc pm an cdv ct):=zKm X G a l c k b
end DX
namespace L2
open PySem PySem.Spec PyProof.Rows
variable{prog:bQ}{w:bK}{A:cC}{E Q:Value->aY->Prop}{s:aY}{t':Bool}{elts:List Expr}{kk:Nat}{pos:Pos}
noncomputable def SqB:Bool->aQ->Hp->aV->List V->Prop
 |true,K,H,a,xs=>SqT K H a xs
 |false,K,H,a,xs=>SqL K H a xs
noncomputable def IsB:Bool->Heap->aV->Array Value->Prop
 |true,h,a,xs=>h.IsTuple a xs
 |false,h,a,xs=>h.IsList a xs
noncomputable def ItB:Bool->Heap->aV->aV->Nat->Prop
 |true,h,i,l,k=>h.IsTupleIter i l k
 |false,h,i,l,k=>h.IsListIter i l k
noncomputable def itO:Bool->aV->Obj
 |true,l=> {cls:=.type "tuple_iterator",data:=.fields #[.ref l,.int 0 0]}
 |false,l=> {cls:=.type "list_iterator",data:=.fields #[.ref l,.int 0 0]}
section
variable{t t' :Bool}{h g:Heap}{a b i l m:aV}{k:Nat}{xs ys:Array Value}
theorem vY1(t:Bool)(hil:l≠i)(xs:Array Value):Feed i l (fun k h=>ItB t h i l k/\IsB t h l xs) (fun k=>xs[k]?):=by
 cases t
 ·exact zVa hil xs
 ·exact vX8 hil xs
theorem IsB.lt(p:IsB t h a xs):a<h.objs.size:=by
 cases t <;> (obtain⟨_,e,_⟩:=p;exact aC e)
theorem IsB.push{o:Obj}(p:IsB t h a xs):IsB t (h.push o) a xs:=by
 cases t
 ·exact Heap.IsList.push p _
 ·exact Heap.IsTuple.push p _
theorem ItB.new(e:h.get? i=some (itO t l)):ItB t h i l 0:=by
 cases t <;> exact⟨_,e,rfl,rfl⟩
theorem ItB.obj(p:ItB t h i l k):∃o,h.get? i=some o/\∀v,o.data≠ .cell v:=by
 cases t <;> (obtain⟨o,e,_,d⟩:=p;exact⟨o,e,fun v z=>by rw[d]at z;cases z⟩)
theorem ItB.to(p:ItB t h i l k)(q:∀o,h.get? i=some o->g.get? i=some o):ItB t g i l k:=by
 cases t <;> (obtain⟨o,e,d⟩:=p;exact⟨o,q o e,d⟩)
theorem vWh:(itO t l).isFreed =false:=by cases t <;> rfl
theorem jQs(p:IsB t s.heap l xs)(hQ:Q (.ref s.heap.objs.size) {s with heap:=s.heap.push (itO t l)}):aO (model prog w) A (pyIter (.ref l)) Q E s:=by
 cases t
 ·exact wpAny_pyIter_list p hQ
 ·exact wpAny_pyIter_tuple p hQ
noncomputable abbrev bB(t t' :Bool)(h:Heap)(l m:aV):Heap:=(h.push (itO t l)).push (itO t' m)
noncomputable abbrev bC(t t' :Bool)(h:Heap)(l m:aV):Heap:=(bB t t' h l m).push {cls:=.type "tuple",data:=.seq #[.ref h.objs.size,.ref (h.push (itO t l)).objs.size]}
noncomputable abbrev bD(t t' :Bool)(h:Heap)(l m:aV):Heap:=(bC t t' h l m).push {cls:=.type "tuple",data:=.seq #[.none,.none]}
noncomputable abbrev bE(t t' :Bool)(h:Heap)(l m:aV):Heap:=(bD t t' h l m).push {cls:=.type "zip",data:=.fields #[.none,.bool false,.bool false,.ref (bB t t' h l m).objs.size,.ref (bC t t' h l m).objs.size]}
theorem jZm(t t' :Bool)(l m:aV)(xs ys:Array Value):
  Meets (Builtin.«zip.__new__» ⟨[.type "zip",.ref l,.ref m],[]⟩) (fun _ R s=>IsB t s.heap l xs/\IsB t' s.heap m ys/\R (.ok (.ret (.ref (bD t t' s.heap l m).objs.size))) {s with heap:=bE t t' s.heap l m}):=
 .of_wp fun prog w A R s h=>by
  obtain⟨hp,g,d,tk,os⟩:=s;obtain⟨t1,t2,h⟩:=h;have hsub:=sub_zip;have T1:IsB t (Shared.heap ⟨hp,g,d,tk,os⟩) l xs:=t1;have T2:IsB t' (Shared.heap ⟨hp.push (itO t l),g,d,tk,os⟩) m ys:=IsB.push t2;wp_walk using jQs T1,jQs T2;exact⟨_,rfl,h⟩
theorem jWt(t1:IsB t s.heap l xs)(t2:IsB t' s.heap m ys)(h:∀g,IsZip g (s.heap.objs.size+4) (s.heap.objs.size+2) (s.heap.objs.size+3) .none ->IsPair g (s.heap.objs.size+2) (.ref s.heap.objs.size) (.ref (s.heap.objs.size+1))->
   IsPair g (s.heap.objs.size+3) .none .none ->ItB t g s.heap.objs.size l 0->ItB t' g (s.heap.objs.size+1) m 0->(∀c o,s.heap.get? c=some o->g.get? c=some o)->Q (.ref (s.heap.objs.size+4)) {s with heap:=g}):
  aO (model prog w) A (call (.type "zip") [.ref l,.ref m]) Q E s:=by
 refine callType_new PySem.F.called_zip (by decide) (PySem.F.typeCall_zip_2 _ _) (PySem.F.newCall_zip_2 _ _) (fun obj=>PySem.F.args_object_init_3 obj _ _) PySem.F.entry_zip_new (jZm t t' l m xs ys) ⟨t1,t2,?_⟩;have n1:(s.heap.push (itO t l)).objs.size=s.heap.objs.size+1:=cI ..;have n2:(bB t t' s.heap l m).objs.size=s.heap.objs.size+2:=by rw[cI,n1]
 have n3:(bC t t' s.heap l m).objs.size=s.heap.objs.size+3:=by rw[cI,n2]
 have n4:(bD t t' s.heap l m).objs.size=s.heap.objs.size+4:=by rw[cI,n3]
 have up:∀{h:Heap} {o u:Obj} {c:aV},h.get? c=some u->(h.push o).get? c=some u:=aK _;have w5:(bE t t' s.heap l m).get? (bD t t' s.heap l m).objs.size=some _:=aN _ rfl;have w4:(bE t t' s.heap l m).get? (bC t t' s.heap l m).objs.size=some _:=up (aN _ rfl);have w3:(bE t t' s.heap l m).get? (bB t t' s.heap l m).objs.size=some _:=up (up (aN _ rfl));have w2:(bE t t' s.heap l m).get? (s.heap.push (itO t l)).objs.size=some _:=up (up (up (aN _ vWh)));have w1:(bE t t' s.heap l m).get? s.heap.objs.size=some _:=up (up (up (up (aN _ vWh))));show _/\_;rw[n2,n3,n4]at w5;rw[n1,n2]at w3;rw[n3]at w4;rw[n1]at w2;rw[n4];exact⟨⟨_,w5,rfl⟩,h _ w5 w3 w4 (.new w1) (.new w2) fun c o q=>up (up (up (up (up q))))⟩
end
section
variable{X:Cx}{pins:List (aV×Obj)}{σ:St}{H:Hp}{s:aY}{t:Bool}{a:aV}{xs ys:List V}
theorem Inv.sqB(I:Inv X pins σ H s)(h:SqB t X.K H a xs):∃its:List Value,Vals xs its/\IsB t s.heap a its.toArray:=by
 cases t
 ·obtain⟨its,r,p,_⟩:=I.list h;exact⟨its,r,p.isList⟩
 ·obtain⟨its,r,p,_⟩:=I.tuple h;exact⟨its,r,p⟩
theorem Inv.sqB_inj(I:Inv X pins σ H s)(h:SqB t X.K H a xs)(h' :SqB t X.K H a ys):xs=ys:=by
 cases t
 ·exact I.list_inj h h'
 ·exact I.tuple_inj h h'
end
noncomputable def ItzB(t t' :Bool)(K:aQ)(a b:aV):It:=
 ⟨fun i H=>∃xs ys x y,SqB t K H a xs/\SqB t' K H b ys/\xs[i]?=some x/\ys[i]?=some y,
  fun i H v H' =>∃p,v=.ref p/\H p=none/\∀xs ys x y,SqB t K H a xs->SqB t' K H b ys->xs[i]?=some x->ys[i]?=some y->H' =upd H p (.tup [x,y]),
  fun i H=>∃xs ys,SqB t K H a xs/\SqB t' K H b ys/\(xs.length<=i\/ys.length<=i)⟩
noncomputable def StB(t t' :Bool)(a b z TI TO i1 i2:aV)(i:Nat)(h:Heap):Prop:=IsZip h z TI TO .none /\IsPair h TI (.ref i1) (.ref i2)/\(∃x y,IsPair h TO x y)/\ItB t h i1 a i/\ItB t' h i2 b i
theorem StB.obj{t:Bool}{a b z TI TO i1 i2 c:aV}{i:Nat}{h:Heap}(st:StB t t' a b z TI TO i1 i2 i h)(hc:c∈ [z,TI,TO,i1,i2]):∃o,h.get? c=some o/\∀v,o.data≠ .cell v:=by
 obtain⟨hz,hTI,⟨x,y,hTO⟩,h1,h2⟩:=st;have hc' :c=z\/c=TI\/c=TO\/c=i1\/c=i2:=by simpa using hc
 rcases hc' with rfl|rfl|rfl|rfl|rfl
 ·exact⟨_,hz,fun v q=>by cases q⟩
 ·exact⟨_,hTI,fun v q=>by cases q⟩
 ·exact⟨_,hTO,fun v q=>by cases q⟩
 ·exact h1.obj
 ·exact h2.obj
theorem jJj{P:bQ}{K:aQ}{t:Bool}(a b z TI TO i1 i2:aV)(D:ZipApart z TI TO i1 i2 a b):
  Turn P w K (.Tuple elts kk pos) (ItzB t t' K a b) [z,TI,TO,i1,i2] z (StB t t' a b z TI TO i1 i2) where
 mem:=by simp
 obj:=fun i h st c hc=>st.obj hc
 keep:=fun i h h' st k=>by
  obtain⟨hz,hTI,⟨x,y,hTO⟩,h1,h2⟩:=st;exact⟨k z (by simp) _ hz,k TI (by simp) _ hTI,⟨x,y,k TO (by simp) _ hTO⟩,h1.to fun o e=>k i1 (by simp) o e,h2.to fun o e=>k i2 (by simp) o e⟩
 item:=by
  intro X hP hw hK hc i pins s σ H E I hf st hg;subst hP hw hK;obtain⟨xs,ys,x,y,hq1,hq2,hx,hy⟩:=hg;obtain⟨its,rv,p1⟩:=I.sqB hq1;obtain⟨its2,rv2,p2⟩:=I.sqB hq2;obtain⟨u,hu,ru⟩:=rv.get hx;obtain⟨v,hv,rvv⟩:=rv2.get hy;have st' :=st;obtain⟨hz,hTI,⟨ta,tb,hTO⟩,h1,h2⟩:=st;refine zQf (vY1 t D.l1i1 its.toArray) (vY1 t' D.l2i2 its2.toArray) D hz hTI hTO ⟨h1,p1⟩ ⟨h2,p2⟩ (x:=u) (y:=v) (by simpa using hu) (by simpa using hv) fun h' a1 a2 a3 a4 a5 hk=>?_
  refine⟨_,rfl,wpAny_letOwnedTupleGo_zip a1 fun h'' hz'' sb=>?_⟩;have nz:s.heap.objs.size≠z:=dN (aC hz);have hk2:∀c o,c∉ [z,TI,TO,i1,i2]->s.heap.get? c=some o->h''.get? c=some o:=fun c o hc e=>by
   simp only[bV,List.not_mem_nil,or_false,not_or]at hc;exact sb.extBut c o hc.1 (hk c o hc.1 hc.2.2.1 hc.2.2.2.1 hc.2.2.2.2 e)
  refine⟨.ref s.heap.objs.size,upd H s.heap.objs.size (.tup [x,y]),I.turnedLaid (t' :=s.toks) hk2 hf (aD _) ⟨zZf,[u,v],.cons ru (.cons rvv .nil),⟨_,sb.extBut _ _ nz a5,rfl,_,rfl⟩⟩,rfl,
   ⟨_,rfl,I.hok.fresh (aD _),fun xs' ys' x' y' e1 e2 e3 e4=>?_⟩,⟨hz'',sb.extBut _ _ D.TIz (hk _ _ D.TIz D.TITO D.TIi1 D.TIi2 hTI),⟨_,_,sb.extBut _ _ D.TOz a2⟩,a3.1.to fun o e=>sb.extBut _ _ D.i1z e,a4.1.to fun o e=>sb.extBut _ _ D.i2z e⟩,fun c hc=>?_⟩
  ·rw [I.sqB_inj e1 hq1,hx] at e3;rw[I.sqB_inj e2 hq2,hy]at e4;cases e3;cases e4;rfl
  ·obtain⟨o,e,_⟩:=st'.obj hc;rw[qL (bY (aC e))];exact(hf c hc).1
 done:=by
  intro X hP hw hK hc i pins s σ H E I hf st hg;subst hP hw hK;obtain⟨xs,ys,hq1,hq2,hend⟩:=hg;obtain⟨its,rv,p1⟩:=I.sqB hq1;obtain⟨its2,rv2,p2⟩:=I.sqB hq2;obtain⟨hz,hTI,⟨ta,tb,hTO⟩,h1,h2⟩:=st;have l1:=rv.length;have l2:=rv2.length;refine zJi (I.ok.hd hc) (vY1 t D.l1i1 its.toArray) (vY1 t' D.l2i2 its2.toArray) D hz hTI hTO ⟨h1,p1⟩ ⟨h2,p2⟩ ?_ fun h' hk=>⟨rfl,I.turnedAll (t' :=s.toks) (ch:=[z,TI,TO,i1,i2]) (fun c o hc e=>?_) hf⟩
  ·rcases hend with q | q
   ·exact .inl (by simp;omega)
   ·exact .inr (by simp;omega)
  ·simp only [bV,List.not_mem_nil,or_false,not_or] at hc;exact hk c o hc.1 hc.2.2.1 hc.2.2.2.1 hc.2.2.2.2 e
 self:=fun _ _ _ _ _ st h=>wpAny_pyIter_zip st.1 h
noncomputable def jWi(K:aQ)(ta:TA):TI:=fun σ H R=>ta σ H fun vs H1=>∃a b t t' xs ys,vs=[.ref a,.ref b]/\SqB t K H1 a xs/\SqB t' K H1 b ys/\R (ItzB t t' K a b) H1
theorem zYj{X:Cx}{tpos:Pos}{e1 e2:Expr}{ta:TA}{p:Pos}(hg:Gl X "zip")(hm:X.mg "zip"=none)(ha:PA X [e1,e2] ta)(hs:aX [e1,e2] X.env=[(false,eval e1 X.env),(false,eval e2 X.env)])(hs2:aX [e2] X.env=[(false,eval e2 X.env)]):PI X (.Tuple elts kk tpos) (.Call (.Name "zip" p) [e1,e2] [] pos) (jWi X.K ta):=by
 intro pins s σ H R I h;refine Call_ (qXm I hg hm Boot.«zip» (dH (thn (ha pos pins s σ H _ I h) fun us s1 ⟨vs,H1,I1,r1,q1⟩=>?_) (by rw[hs,hs2]) (by rw[hs2];rfl)));obtain⟨a,b,t,t',xs,ys,rfl,hx,hy,q⟩:=q1;cases r1 with
 | cons r rr=>
   cases rr with
   | cons r' rr=>
     cases rr;cases r;cases r';obtain⟨its,rv,p1⟩:=I1.sqB hx;obtain⟨its2,rv2,p2⟩:=I1.sqB hy;refine jWt p1 p2 fun h' hz hTI hTO hi1 hi2 hk=>?_
     refine wpAny_pyIter_zip hz ?_
     refine⟨s1.heap.objs.size+4,[s1.heap.objs.size+4,s1.heap.objs.size+2,s1.heap.objs.size+3,s1.heap.objs.size,s1.heap.objs.size+1],_,_,H1,rfl,I1.kept (t' :=s1.toks) hk,jJj a b _ _ _ _ _ (zipApart_new p1.lt p2.lt),⟨hz,hTI,⟨_,_,hTO⟩,hi1,hi2⟩,fun c hc=>?_,q⟩;have hc' :s1.heap.objs.size<=c:=by
      simp only[bV,List.not_mem_nil,or_false]at hc;rcases hc with e|e|e|e|e <;> rw[e] <;> first|exact aD _|exact Nat.le_add_right _ _
     exact I1.fpOk hc' (I1.hok.fresh hc')
end L2
namespace DX
open PySem L2 PyProof.Rows
section
variable{K:aQ}{c:Nat->aV}{F G:Hp}{a b:aV}{t t' :Bool}{xs ys:List V}{ds es:List D}
theorem qQ6(e:Same F G)(h:SqB t K F a xs):SqB t K G a xs:=by
 cases t
 ·exact xC e h
 ·exact e.tup h
theorem zWq(h1:SqB t K F a xs)(h2:SqB t' K F b ys)(k1:DsAt K c F xs ds)(k2:DsAt K c F ys es):ItD K c F (ItzB t t' K a b) (zipD ds es):=by
 intro i H T sm hb;have g1:=qQ6 vC (qQ6 sm h1);have g2:=qQ6 vC (qQ6 sm h2);refine⟨fun z hz=>?_,fun hi=>⟨xs,ys,g1,g2,by rw[qYj,←k1.len,←k2.len]at hi;omega⟩⟩;obtain⟨d,e,e1,e2,rfl⟩:=zipD_get hz;obtain⟨v,v1,v2⟩:=k1.get e1;obtain⟨u,u1,u2⟩:=k2.get e2;refine⟨⟨xs,ys,v,u,g1,g2,v1,u1⟩,fun x H' y=>?_⟩;obtain⟨p,rfl,hn,y2⟩:=y;rw[y2 xs ys v u g1 g2 v1 u1];exact vWc hn hb (v2.same sm) (u2.same sm)
noncomputable def sqOf:Bool->D->Option (List D)
 |true=>vQ5
 |false=>qV6
theorem vKc{u:V}{d:D}(h:DAt K c F u d)(e:sqOf t d=some ds):∃p vs,u=.ref p/\SqB t K F p vs/\DsAt K c F vs ds:=by
 cases t
 ·exact vWg h e
 ·exact zJk h e
theorem jQ1{zs:List D}{r:List D}(e:zpA zs=some r):∃x y t t' ds es,zs=[x,y]/\sqOf t x=some ds/\sqOf t' y=some es/\r=zipD ds es:=by
 have k:∀{t t'} {x y:D},((sqOf t x).bind fun ds=>(sqOf t' y).bind fun es=>some (zipD ds es))=some r->∃x' y' t t' ds es,[x,y]=[x',y']/\sqOf t x' =some ds/\sqOf t' y' =some es/\r=zipD ds es:=fun {t t' x y} h=>by
  obtain⟨ds,h1,h⟩:=bnd h;obtain⟨es,h2,h⟩:=bnd h;cases h;exact⟨x,y,t,t',ds,es,rfl,h1,h2,rfl⟩
 match zs,e with
 | [x,y],e=>
   unfold zpA at e;split at e
   ·rename_i h;cases e;exact k (t:=false) (t' :=false) h
   ·split at e
    ·rename_i h;cases e;exact k (t:=true) (t' :=true) h
    ·exact k (t:=true) (t' :=false) e
 |[],e=>cases e
 |[_],e=>cases e
 |_::_::_::_,e=>cases e
end
theorem zKf{X:Cx}{c:Nat->aV}{E:XK}{e1 e2:Expr}{ss:List SV}{p pos tpos:Pos}{elts:List Expr}{kk:Nat}(hg:Gl X "zip")(hm:X.mg "zip"=none)(ha:VsD X c E [e1,e2] ss)(hs:aX [e1,e2] X.env=[(false,eval e1 X.env),(false,eval e2 X.env)]:=by rfl)(hs2:aX [e2] X.env=[(false,eval e2 X.env)]:=by rfl):
  ID' X c E (.Tuple elts kk tpos) (.Call (.Name "zip" p) [e1,e2] [] pos) (iL zpA ss):=by
 refine⟨PI.imp (zYj hg hm ha.h hs hs2) fun σ H R=>?_⟩;rintro⟨env,B,W,cf,w⟩;refine qXj cf (qB.mp w) fun r w1 us H1 W1 g=>?_
 obtain⟨ds,e1,w2⟩:=qN w1;have ga:=g.at_;obtain⟨x,y,t,t',ds,es,e2,q1,q2,rfl⟩:=jQ1 e1;rw[e2]at ga;obtain⟨u,v,rfl,a,b⟩:=ds2 ga;obtain⟨q,vs,rfl,c1,c2⟩:=vKc a q1;obtain⟨q',vs',rfl,c3,c4⟩:=vKc b q2;exact⟨q,q',t,t',_,_,rfl,qQ6 vC c1,qQ6 vC c3,w2 _ H1 W1 g.st g.cf (zWq c1 c3 c2 c4)⟩
end DX
namespace X15
open PySem L2 DX RF PyProof.Rows
variable{R:Fn}{k:Nat}
theorem qYs:FnScope ["self","row"] ["self","row"] (qY qQc):=scA
theorem qYl:FnScope ["term","kind"] ["term"] (qY qWb):=scA
theorem vXx:FnScope ["sign"] ["sign"] (qY qXv):=scA
theorem qJh:FnScope ["row","begin","kind","end"] ["row","begin"] (qY qKu):=scA
theorem xF:FnScope ["row","words","begin","end"] ["row"] (qY qJ6):=scA
theorem qYu:FnScope ["self","row","words"] ["self","row","words"] (qY qQe):=scA
theorem qYt:FnScope ["self"] ["self"] (qY qQd):=scA
theorem xT:FnScope ["self","word"] ["self"] (qY wU):=scA
theorem qYa:FnScope ["self","sign"] ["self","sign"] (qY xO):=scA
theorem vQv:FnScope ["self","sign"] ["self","sign"] (qY qQy):=scA
theorem vWs:FnScope ["word"] ["word"] (qY qWe):=scA
theorem vXy:FnScope ["word"] ["word"] (qY qXw):=scA
theorem vZ1:FnScope ["word"] ["word"] (qY qZx):=scA
theorem qXb:FnScope ["cursor","word"] ["cursor"] (qY qZs):=scA
theorem qZ4:FnScope ["cursor","least","most","word"] ["cursor","least","most"] (qY qQw):=scA
theorem qJw:FnScope ["cursor","name"] ["cursor"] (qY qVx):=scA
theorem qV9:FnScope ["cursor","number"] ["cursor"] (qY qQb):=scA
theorem qXc:FnScope ["cursor","close","most","read_one","found"] ["cursor","close","most","read_one"] (qY qZt):=scA
theorem qYr:FnScope ["cursor","things"] ["cursor","things"] (qY y9):=scA
theorem qJv:FnScope ["cursor","close","read_one","pairs"] ["cursor","close","read_one"] (qY qVv):=scA
theorem vQg:FnScope ["cursor","parts"] ["cursor"] (qY qXs):=scA
theorem qVr:FnScope ["cursor","top","bottom"] ["cursor"] (qY qZv):=scA
theorem qVp:FnScope ["cursor","term","number"] ["cursor"] (qY qZr):=scA
theorem vQ1:FnScope ["cursor","word"] ["cursor","word"] (qY qVy):=scA
theorem vQ0:FnScope ["cursor","word"] ["cursor","word"] (qY qVw):=scA
theorem qVq:FnScope ["cursor","word","term"] ["cursor"] (qY qZu):=scA
theorem qQu:FnScope ["cursor","term"] ["cursor"] (qY qVu):=scA
theorem xL:FnScope ["cursor","term"] ["cursor"] (qY qQa):=scA
theorem qQj:FnScope ["cursor","term","sign"] ["cursor"] (qY qJ7):=scA
theorem x9:FnScope ["cursor","term","sign"] ["cursor"] (qY qZq):=scA
theorem vZ0:FnScope ["cursor"] ["cursor"] (qY qZp):=scA
theorem qZo:FnScope ["cursor","name","names"] ["cursor"] (qY qWa):=scA
theorem qYk:FnScope ["cursor","name"] ["cursor"] (qY qJ9):=scA
theorem qQv:FnScope ["cursor","rounds","name"] ["cursor"] (qY qVz):=scA
theorem qJu:FnScope ["cursor","kind"] ["cursor"] (qY qVt):=scA
theorem v7:FnScope ["words","deep","deepest","word"] ["words"] (qY xM):=scA
theorem qW6:FnScope ["term","deepest","part"] ["term"] (qY vZh):=scA
theorem qQk:FnScope ["number","row","words","cursor","found"] ["number","row"] (qY qJ8):=scA
theorem qJc:FnScope ["text","rows","program","number","row","found"] ["text"] (qY vXc):=scA
theorem qQl:FnScope ["_law_more","_law_word","_law_k"] ["_law_more"] (qY qWd):=scA
theorem jU:FnScope ["_law_kind","_law_more","_law_word","_law_count","_law_body","_law_chosen","_law_line","_law_kept"] ["_law_kind","_law_more"] (qY qXt):=scA
theorem wK:FnScope ["_law_more","_law_some"] ["_law_more"] (qY qXu):=scA
theorem jP:FnScope ["_law_script","_law_first","_law_cells","_law_rows_here","_law_k","_law_more","_law_mark"] ["_law_script"] (qY qWc):=scA
theorem qVe:FnScope ["_law_rows_here","_law_k"] ["_law_rows_here"] (qY xN):=scA
theorem qVs:FnScope ["_law_found","_law_due","_law_one","_law_other"] ["_law_found","_law_due"] (qY qZw):=scA
theorem qZ5:FnScope ["_law_text","_law_row_here","e"] ["_law_text","_law_row_here"] (qY qQx):=scA
theorem qXk:FnScope ["_law_script","_law_rows_here","_law_text","_law_bad_here","_law_due","_law_found"] ["_law_script"] (qY zVy):=scA
set_option genInjectivity false
set_option genSizeOf false
structure Fs(K:aQ)(mg:Str->Option Value)(c:Nat->aV) where
 b0:aV
 c0:aH
 d0:MethAt K "__init__" "NoText.__init__" qQc ["self","row"] b0 c0
 e0:aV
 f0:aH
 g0:MethAt K "__init__" "NoName.__init__" qZ6 ["self","row"] e0 f0
 h0:aV
 i0:aH
 j0:FnAt K mg "parts_of" qWb ["term"] h0 i0
 k0:aV
 l0:aH
 m0:FnAt K mg "kind_of" qXv ["sign"] k0 l0
 n0:aV
 o0:aH
 p0:FnAt K mg "end_of" qKu ["row","begin"] n0 o0
 q0:aV
 r0:aH
 s0:FnAt K mg "words_of" qJ6 ["row"] q0 r0
 t0:aV
 u0:aH
 v0:MethAt K "__init__" "Cursor.__init__" qQe ["self","row","words"] t0 u0
 w0:aV
 x0:aH
 y0:MethAt K "ahead" "Cursor.ahead" qQd ["self"] w0 x0
 z0:aV
 A0:aH
 B0:MethAt K "next_word" "Cursor.next_word" wU ["self"] z0 A0
 C0:aV
 D0:aH
 E0:MethAt K "passed" "Cursor.passed" xO ["self","sign"] C0 D0
 F0:aV
 G0:aH
 H0:MethAt K "need" "Cursor.need" qQy ["self","sign"] F0 G0
 I0:aV
 J0:aH
 K0:FnAt K mg "is_small" qWe ["word"] I0 J0
 L0:aV
 M0:aH
 N0:FnAt K mg "is_name" qXw ["word"] L0 M0
 O0:aV
 P0:aH
 Q0:FnAt K mg "is_number" qZx ["word"] O0 P0
 R0:aV
 S0:aH
 T0:FnAt K mg "read_name" qZs ["cursor"] R0 S0
 U0:aV
 V0:aH
 W0:FnAt K mg "read_number" qQw ["cursor","least","most"] U0 V0
 X0:aV
 Y0:aH
 Z0:FnAt K mg "read_field" qVx ["cursor"] X0 Y0
 a1:aV
 b1:aH
 c1:FnAt K mg "read_outcome" qQb ["cursor"] a1 b1
 d1:aV
 e1:aH
 f1:FnAt K mg "read_list" qZt ["cursor","close","most","read_one"] d1 e1
 g1:aV
 h1:aH
 i1:FnAt K mg "refuse_alike" y9 ["cursor","things"] g1 h1
 j1:aV
 k1:aH
 l1:FnAt K mg "read_pairs" qVv ["cursor","close","read_one"] j1 k1
 m1:aV
 n1:aH
 p1:FnAt K mg "read_if" qXs ["cursor"] m1 n1
 q1:aV
 r1:aH
 s1:FnAt K mg "read_flip" qZv ["cursor"] q1 r1
 t1:aV
 u1:aH
 v1:FnAt K mg "read_rest" qZr ["cursor"] t1 u1
 w1:aV
 x1:aH
 y1:FnAt K mg "read_built" qVy ["cursor","word"] w1 x1
 z1:aV
 A1:aH
 B1:FnAt K mg "read_named" qVw ["cursor","word"] z1 A1
 C1:aV
 D1:aH
 E1:FnAt K mg "read_head" qZu ["cursor"] C1 D1
 F1:aV
 G1:aH
 H1:FnAt K mg "read_tight" qVu ["cursor"] F1 G1
 I1:aV
 J1:aH
 K1:FnAt K mg "read_product" qQa ["cursor"] I1 J1
 L1:aV
 M1:aH
 N1:FnAt K mg "read_sum" qJ7 ["cursor"] L1 M1
 O1:aV
 P1:aH
 Q1:FnAt K mg "read_term" qZq ["cursor"] O1 P1
 R1:aV
 S1:aH
 T1:FnAt K mg "read_told" qZp ["cursor"] R1 S1
 U1:aV
 V1:aH
 W1:FnAt K mg "read_def" qWa ["cursor"] U1 V1
 X1:aV
 Y1:aH
 Z1:FnAt K mg "read_let" qJ9 ["cursor"] X1 Y1
 a2:aV
 b2:aH
 c2:FnAt K mg "read_again" qVz ["cursor"] a2 b2
 d2:aV
 e2:aH
 f2:FnAt K mg "read_words" qVt ["cursor"] d2 e2
 g2:aV
 h2:aH
 i2:FnAt K mg "most_brackets" xM ["words"] g2 h2
 j2:aV
 k2:aH
 l2:FnAt K mg "depth" vZh ["term"] j2 k2
 m2:aV
 n2:aH
 p2:FnAt K mg "read_row" qJ8 ["number","row"] m2 n2
 q2:aV
 r2:aH
 s2:FnAt K mg "read" vXc ["text"] q2 r2
 t2:aV
 u2:aH
 v2:FnAt K mg "_law_name" qWd ["_law_more"] t2 u2
 w2:aV
 x2:aH
 y2:FnAt K mg "_law_row" qXt ["_law_kind","_law_more"] w2 x2
 z2:aV
 A2:aH
 B2:FnAt K mg "_law_bad" qXu ["_law_more"] z2 A2
 C2:aV
 D2:aH
 E2:FnAt K mg "_law_rows" qWc ["_law_script"] C2 D2
 F2:aV
 G2:aH
 H2:FnAt K mg "_law_first_bad" xN ["_law_rows_here"] F2 G2
 I2:aV
 J2:aH
 K2:FnAt K mg "_law_alike" qZw ["_law_found","_law_due"] I2 J2
 M2:aV
 N2:aH
 O2:FnAt K mg "_law_refused" qQx ["_law_text","_law_row_here"] M2 N2
 P2:aV
 Q2:aH
 R2:FnAt K mg "law" zVy ["_law_script"] P2 Q2
 S2:Cls K (c 9)
 T2:Mk K (c 9) t0
 U2:IniCls K (c 24) e0
 V2:bN K (.ref (c 24)) "row"=some none
 W2:IniCls K (c 23) b0
 X2:bN K (.ref (c 23)) "row"=some none
 Y2:mg "Cursor"=some (.ref (c 9))
 Z2:mg "FlipError"=some (.ref (c 20))
 a3:mg "Never"=some (.ref (c 22))
 b3:mg "NoName"=some (.ref (c 24))
 c3:mg "NoNumber"=some (.ref (c 27))
 d3:mg "NoOrder"=some (.ref (c 26))
 e3:mg "NoRow"=some (.ref (c 28))
 f3:mg "NoShare"=some (.ref (c 21))
 g3:mg "NoText"=some (.ref (c 23))
 h3:mg "TooMuch"=some (.ref (c 25))
 i3:Meth K (c 9) "ahead" w0
 j3:Meth K (c 9) "need" F0
 k3:Meth K (c 9) "next_word" z0
 l3:Meth K (c 9) "passed" C0
 m3:∀C b,(C,b)∈([(23,false)]:List (Nat×Bool))->ExcKit K (c C)/\bW K (.ref (c C)) (.ref (c 22))=some b
 n3:∀C b,(C,b)∈([(23,false)]:List (Nat×Bool))->ExcKit K (c C)/\bW K (.ref (c C)) (.ref (c 24))=some b
 o3:∀C b,(C,b)∈([(23,false)]:List (Nat×Bool))->ExcKit K (c C)/\bW K (.ref (c C)) (.ref (c 27))=some b
 p3:∀C b,(C,b)∈([(23,false)]:List (Nat×Bool))->ExcKit K (c C)/\bW K (.ref (c C)) (.ref (c 26))=some b
 q3:∀C b,(C,b)∈([(23,false)]:List (Nat×Bool))->ExcKit K (c C)/\bW K (.ref (c C)) (.ref (c 28))=some b
 r3:∀C b,(C,b)∈([(23,false)]:List (Nat×Bool))->ExcKit K (c C)/\bW K (.ref (c C)) (.ref (c 21))=some b
 s3:∀C b,(C,b)∈([(23,true)]:List (Nat×Bool))->ExcKit K (c C)/\bW K (.ref (c C)) (.ref (c 23))=some b
 t3:∀C b,(C,b)∈([(23,false)]:List (Nat×Bool))->ExcKit K (c C)/\bW K (.ref (c C)) (.ref (c 25))=some b
 u3:∀C b,(C,b)∈([(23,true)]:List (Nat×Bool))->ExcKit K (c C)/\bW K (.ref (c C)) (.type "ValueError")=some b
 v3:∀C,([23]:List Nat).contains C=true->PySem.W.exmOne K (.ref (c C)) (.ref (c 20))=some true
 w3:∀C∈([23]:List Nat),ExcKit K (c C)/\PySem.W.hasDictIn K (c C)=true/\bN K (.ref (c C)) "row"=some none
 x3:qV8 K c [9] "place"
 y3:qV8 K c [9] "row"
 z3:qV8 K c [9] "words"
 A3:mg "read_field"=some (.ref (c 32))
 B3:mg "read_name"=some (.ref (c 33))
 C3:mg "read_outcome"=some (.ref (c 31))
 D3:mg "read_term"=some (.ref (c 30))
 E3:mg "ValueError"=none
 F3:mg "all"=none
 G3:mg "bool"=none
 H3:mg "enumerate"=none
 I3:mg "int"=none
 J3:mg "isinstance"=none
 K3:mg "len"=none
 L3:mg "list"=none
 M3:mg "max"=none
 N3:mg "range"=none
 O3:mg "set"=none
 P3:mg "str"=none
 Q3:mg "tuple"=none
 R3:mg "zip"=none
 S3:Tok
 T3:mg "MOST_BRACKETS"=some (.int 10 S3)
 U3:Tok
 V3:mg "MOST_DEPTH"=some (.int 10 U3)
 W3:Tok
 X3:mg "MOST_FIGURES"=some (.int 12 W3)
 Y3:Tok
 Z3:mg "MOST_LETTERS"=some (.int 8 Y3)
 a4:Tok
 b4:mg "MOST_NUMBER"=some (.int 999999999999 a4)
 c4:Tok
 d4:mg "MOST_PAIRS"=some (.int 6 c4)
 e4:Tok
 f4:mg "MOST_ROUNDS"=some (.int 30 e4)
 g4:Tok
 h4:mg "MOST_ROWS"=some (.int 40 g4)
 i4:Tok
 j4:mg "MOST_SIGNS"=some (.int 1000 i4)
 k4:Tok
 l4:mg "MOST_TERMS"=some (.int 3 k4)
 m4:Tok
 n4:mg "MOST_WEIGHT"=some (.int 1000000 m4)
 o4:Tok
 p4:mg "MOST_WORDS"=some (.int 60 o4)
 q4:aV
 r4:mg "NO_NAMES"=some (.ref q4)
 s4:∀F,DAt K c F (.ref q4) (.tup [(.str "flip"),(.str "pick"),(.str "if"),(.str "rest")])
section
variable{P:bQ}{w:bK}{K:aQ}{c:Nat->aV}{mg:Str->Option Value}{base:Heap}(S:Fs K mg c)
set_option maxHeartbeats 4000000
theorem vP:FnOk P w K mg base (CXd P w) 1 S.b0 S.c0 ["self","row"] (vYn (c 23) "row"):=iniD S.d0.F qYs S.X2 (fun _ _ _ _ _ _=>zX6 S.W2 (pv 0) (pv 1) rfl) rfl
theorem vYf:FnOk P w K mg base (CXd P w) 1 S.h0 S.i0 ["term"] (spD K c 1 vQt):=fnD S.j0.F qYl fun _ _ _ _ _ _ hr=>(qV (sA (i:=1) qYl.nd (OD.ow (o_ix hr (qQ (pv 0)) qX)))
   (qV (vJ (jJ (qQ (pv 1)) qZ) (qJ (qD (wY (vA (o_ix hr (qQ (pv 0)) qX) (vA (o_ix hr (qQ (pv 0)) qX) (vA (o_ix hr (qQ (pv 0)) qX) qC)))))) qF)
   (qV (vJ (t_in hr (qQ (pv 1)) (od_v (qH (vA qZ (vA qZ qC))))) (qJ (qD (wY (vA (o_ix hr (qQ (pv 0)) qX) (vA (o_ix hr (qQ (pv 0)) qX) qC))))) qF)
   (qV (vJ (t_in hr (qQ (pv 1)) (od_v (qH (vA qZ (vA qZ qC))))) (qJ (qD (wY (vA (o_ix hr (qQ (pv 0)) qX) qC)))) qF)
   (qV (vJ (jJ (qQ (pv 1)) qZ) (qJ (qD (qY7 rfl (Nc:=["name","part"]) (cs:=[]) (qXo rfl (by decide +kernel) (by decide +kernel) (by decide +kernel)) (qJ3 (OD.val (o_ix hr (qQ (pv 0)) qX))) (fun _ _ _ _=>(vXj rfl (qVa (jZ (i:=0) (show List.Nodup (["name","part"]:List Str) by decide +kernel) rfl (Or.inl rfl)) (qVa (jZ (i:=1) (show List.Nodup (["name","part"]:List Str) by decide +kernel) rfl (Or.inl rfl)) vZp)))) (fun _ _ _ _=>qJa) (fun _ _ _ _=>(OD.val (qQ (pv 1))))))) qF)
   (qV (vJ (jJ (qQ (pv 1)) qZ) (qJ (qD (jJd rfl S.L3 (o_ix hr (qQ (pv 0)) qX)))) qF)
   (qJ (qD (wY qC)))))))))
theorem vVx:FnOk P w K mg base (CXd P w) 1 S.k0 S.l0 ["sign"] (spD K c 1 wF):=fnD S.m0.F vXx fun _ _ _ _ _ _ hr=>(qV (vJ (td_w (qQz (qW4 jD qQq jD qQq qZ (qQ (pv 0)) qZ) (qQp (qW4 jD qQq jD qQq qZ (qQ (pv 0)) qZ)))) (qJ (qD (OD.ow qZ))) qF)
   (qV (vJ (qW4 jD qQq jD qQq qZ (qQ (pv 0)) qZ) (qJ (qD (OD.ow qZ))) qF)
   (qV (vJ (jJ (qQ (pv 0)) qZ) (qJ (qD (OD.ow qZ))) qF)
   (qJ (qD (OD.ow qZ))))))
theorem zXb:FnOk P w K mg base (CXd P w) 2 S.n0 S.o0 ["row","begin"] (spD K c 2 qZm):=fnD S.p0.F qJh fun _ _ _ _ _ _ hr=>(qV (sA (i:=2) qJh.nd (cA (as:=[(.v (oV (oIx (oN 0) (oN 1))))]) S.m0 (vVx S) hr (oA (o_ix hr (qQ (pv 0)) (qQ (pv 1))) qK)))
   (qV (sA (i:=3) qJh.nd (OD.ow (qKb (qQ (pv 1)) qX)))
   (qV (qQ8 100000 bM (td_w (qKe (qJn (qQ (pv 2)) qZ) (qKe (t_lt (qQ (pv 3)) (wB rfl S.K3 (qQ (pv 0)))) (qYz (jJ (od_e (cA (as:=[(.v (oV (oIx (oN 0) (oN 3))))]) S.m0 (vVx S) hr (oA (o_ix hr (qQ (pv 0)) (qQ (pv 3))) qK))) (qQ (pv 2))))))) (qJ (vXa (i:=3) qJh.nd rfl (Or.inl rfl) (OD.val qX) vZc (qKg _))))
   (qJ (qD (xB (pv 3)))))))
theorem vYb:FnOk P w K mg base (CXd P w) 3 S.q0 S.r0 ["row"] (spD K c 1 y8):=fnD S.s0.F xF fun _ _ _ _ _ _ hr=>(qV (sA (i:=1) xF.nd (wY qC))
   (qV (sA (i:=2) xF.nd (OD.ow qX))
   (qV (qQ8 100000 bM (t_lt (qQ (pv 2)) (wB rfl S.K3 (qQ (pv 0)))) (qV (sA (i:=3) xF.nd (cA (as:=[(.v (oV (oN 0))),(.v (oV (oN 2)))]) S.p0 (zXb S) hr (oA (qQ (pv 0)) (oA (qQ (pv 2)) qK))))
   (qV (vJ (qJn (o_ix hr (qQ (pv 0)) (qQ (pv 2))) qZ) (qJ (v4 (xE (qQ (pv 1)) (ed_v (vVw (qQ (pv 0)) (qWw (OD.val (qQ (pv 2)))) (qWw (OD.val (qQ (pv 3))))))))) qF)
   (qJ (sA (i:=2) xF.nd (OD.ow (qQ (pv 3))))))))
   (qJ (qD (xB (pv 1)))))))
theorem vQx:FnOk P w K mg base (CXd P w) 1 S.t0 S.u0 ["self","row","words"] (spD K c 3 qQf):=fnD S.v0.F qYu fun _ _ _ _ _ _ hr=>(qV (vXb S.y3 (qQ (pv 0)) (OD.ow (qQ (pv 1))))
   (qV (vXb S.z3 (qQ (pv 0)) (OD.ow (qQ (pv 2))))
   (qJ (vXb S.x3 (qQ (pv 0)) (OD.ow qX)))))
theorem j7:FnOk P w K mg base (CXd P w) 1 S.w0 S.x0 ["self"] (spD K c 1 vU):=fnD S.y0.F qYt fun _ _ _ _ _ _ hr=>(qV (vJ (t_lt (xV S.x3 (qQ (pv 0))) (wB rfl S.K3 (xV S.z3 (qQ (pv 0))))) (qJ (qD (OD.ow (o_ix hr (xV S.z3 (qQ (pv 0))) (xV S.x3 (qQ (pv 0))))))) qF)
   (qJ (qD (OD.ow qZ))))
theorem v8:FnOk P w K mg base (CXd P w) 2 S.z0 S.A0 ["self"] (spD K c 1 vW):=fnD S.B0.F xT fun _ _ _ _ _ _ hr=>(qV (sA (i:=1) xT.nd (m0A (C:=9) (a0:=(.b (pOf (oN 0)))) (qYh (qQ (pv 0))) S.S2 S.i3 S.y0 (j7 S) hr))
   (qV (zZs S.x3 (qQ (pv 0)) (OD.val qX) vZc (qKg _))
   (qJ (qD (xB (pv 1))))))
theorem zO:FnOk P w K mg base (CXd P w) 2 S.C0 S.D0 ["self","sign"] (spD K c 2 vQ):=fnD S.E0.F qYa fun _ _ _ _ _ _ hr=>(qV (vJ (qJn (od_e (m0A (C:=9) (a0:=(.b (pOf (oN 0)))) (qYh (qQ (pv 0))) S.S2 S.i3 S.y0 (j7 S) hr)) (qQ (pv 1))) (qJ (qD (OD.ow qZc))) qF)
   (qV (zZs S.x3 (qQ (pv 0)) (OD.val qX) vZc (qKg _))
   (qJ (qD (OD.ow qZc)))))
theorem vI:FnOk P w K mg base (CXd P w) 4 S.F0 S.G0 ["self","sign"] (spD K c 2 qI):=fnD S.H0.F vQv fun _ _ _ _ _ _ hr=>(qJ (vJ (qVf (zJ (od_e (mA (C:=9) (a0:=(.io 0)) (as:=[(.v (oV (oN 1)))]) (vV (pv 0)) S.S2 S.l3 S.E0 (zO S) hr (oA (qQ (pv 1)) qK))))) (qJ (rA (C:=23) S.W2 S.d0 (vP S) hr S.g3 (OD.val (xV S.y3 (qQ (pv 0)))))) qF))
theorem vYh:FnOk P w K mg base (CXd P w) 1 S.I0 S.J0 ["word"] (spD K c 1 xP):=fnD S.K0.F vWs fun _ _ _ _ _ _ hr=>(qJ (qD (OD.ow (yH (qKy vJi (qYe _) vJi (qYe _) qX (wB rfl S.K3 (qQ (pv 0))) (od_c (vD (v:=.int 8) rfl S.Z3 ⟨_,rfl⟩) (fun _=>.int _))) (qVj (jWb rfl rfl S.F3 (od_e (qY7 rfl (Nc:=["sign"]) (cs:=[]) (qXo rfl (by decide +kernel) (by decide +kernel) (by decide +kernel)) (jZ3 (OD.val (qQ (pv 0)))) (fun _ _ _ _=>(jZ (i:=0) (show List.Nodup (["sign"]:List Str) by decide +kernel) rfl (Or.inl rfl))) (fun _ _ _ _=>qJa) (fun _ _ _ _=>(OD.val (qKy jD qQq jD qQq qZ (qQ (pv 0)) qZ)))))))))))
theorem vVy:FnOk P w K mg base (CXd P w) 2 S.L0 S.M0 ["word"] (spD K c 1 yY):=fnD S.N0.F vXy fun _ _ _ _ _ _ hr=>(qJ (qD (OD.ow (yH (od_e (cA (as:=[(.v (oV (oN 0)))]) S.K0 (vYh S) hr (oA (qQ (pv 0)) qK))) (qVj (zYx hr (qQ (pv 0)) (od_c (vD (v:=.ref S.q4) rfl S.r4 rfl) S.s4)))))))
theorem qYq:FnOk P w K mg base (CXd P w) 1 S.O0 S.P0 ["word"] (spD K c 1 j6):=fnD S.Q0.F vZ1 fun _ _ _ _ _ _ hr=>(qJ (qD (OD.ow (yH (qKy jD qQq jD qQq qZ (od_v (vVw (qQ (pv 0)) zYs (qWw (OD.val qX)))) qZ) (yH (o_le (wB rfl S.K3 (qQ (pv 0))) (od_c (vD (v:=.int 12) rfl S.X3 ⟨_,rfl⟩) (fun _=>.int _))) (qVj (jJ7 (qWq (qQ (pv 0)) qZ) (qVj (jWa (o_ix hr (qQ (pv 0)) qX) qZ)))))))))
theorem jT:FnOk P w K mg base (CXd P w) 4 S.R0 S.S0 ["cursor"] (spD K c 1 zU):=fnD S.T0.F qXb fun _ _ _ _ _ _ hr=>(qV (sA (i:=1) qXb.nd (m0A (C:=9) (a0:=(.io 0)) (vV (pv 0)) S.S2 S.k3 S.B0 (v8 S) hr))
   (qV (vJ (qVf (zJ (od_e (cA (as:=[(.v (oV (oN 1)))]) S.N0 (vVy S) hr (oA (qQ (pv 1)) qK))))) (qJ (rA (C:=23) S.W2 S.d0 (vP S) hr S.g3 (OD.val (xV S.y3 (qQ (pv 0)))))) qF)
   (qJ (qD (xB (pv 1))))))
theorem jF:FnOk P w K mg base (CXd P w) 4 S.U0 S.V0 ["cursor","least","most"] (spD K c 3 vX):=fnD S.W0.F qZ4 fun _ _ _ _ _ _ hr=>(qV (sA (i:=3) qZ4.nd (m0A (C:=9) (a0:=(.io 0)) (vV (pv 0)) S.S2 S.k3 S.B0 (v8 S) hr))
   (qV (vJ (td_w (qQz (qVf (zJ (od_e (cA (as:=[(.v (oV (oN 3)))]) S.Q0 (qYq S) hr (oA (qQ (pv 3)) qK))))) (qQp (qVf (qW4 vJi (qYe _) vJi (qYe _) (qQ (pv 1)) (vXe rfl S.I3 (qQ (pv 3))) (qQ (pv 2))))))) (qJ (rA (C:=23) S.W2 S.d0 (vP S) hr S.g3 (OD.val (xV S.y3 (qQ (pv 0)))))) qF)
   (qJ (qD (OD.ow (vXe rfl S.I3 (qQ (pv 3))))))))
theorem qXi(G:FnOk P w K mg base (CXd P w) k S.O1 S.P1 ["cursor"] (spD K c 1 R)):FnOk P w K mg base (CXd P w) (k+5) S.X0 S.Y0 ["cursor"] (spD K c 1 (wN R)):=fnD (k:=k+4) S.Z0.F qJw fun _ _ _ _ _ _ hr=>(qV (sA (i:=1) qJw.nd (cA (as:=[(.io 0)]) S.T0 (jT S) hr (qG (vV (pv 0)) qK)))
   (qV (v4 (mA (C:=9) (a0:=(.io 0)) (as:=[(.v (oV (oC (.str ":"))))]) (vV (pv 0)) S.S2 S.j3 S.H0 (vI S) hr (oA qZ qK)))
   (qJ (qD (ed_v (qH (vA (qQ (pv 1)) (qO (ev_e (cA (as:=[(.io 0)]) S.Q1 G hr (qG (vV (pv 0)) qK))) qC))))))))
theorem qZ9:FnOk P w K mg base (CXd P w) 5 S.a1 S.b1 ["cursor"] (spD K c 1 j9):=fnD S.c1.F qV9 fun _ _ _ _ _ _ hr=>(qV (sA (i:=1) qV9.nd (cA (as:=[(.io 0),(.v (oV (oC (.int 0)))),(.v (oV (oC (.int 999999999999))))]) S.W0 (jF S) hr (qG (vV (pv 0)) (oA qX (oA (od_c (vD (v:=.int 999999999999) rfl S.b4 ⟨_,rfl⟩) (fun _=>.int _)) qK)))))
   (qV (v4 (mA (C:=9) (a0:=(.io 0)) (as:=[(.v (oV (oC (.str ":"))))]) (vV (pv 0)) S.S2 S.j3 S.H0 (vI S) hr (oA qZ qK)))
   (qJ (qD (ed_v (qH (vA (qQ (pv 1)) (qO (ev_e (cA (as:=[(.io 0),(.v (oV (oC (.int 1)))),(.v (oV (oC (.int 1000000))))]) S.W0 (jF S) hr (qG (vV (pv 0)) (oA qX (oA (od_c (vD (v:=.int 1000000) rfl S.n4 ⟨_,rfl⟩) (fun _=>.int _)) qK))))) qC))))))))
theorem qQn(G:FnOk P w K mg base (CXd P w) k S.O1 S.P1 ["cursor"] (spD K c 1 R)):FnOk P w K mg base (CXd P w) (k+7) S.d1 S.e1 ["cursor","close","most","read_one"] (spD K c 4 (j5 R)):=fnD (k:=k+6) S.f1.F qXc fun _ _ _ _ _ _ hr=>(qV (vJ (zJ (od_e (mA (C:=9) (a0:=(.io 0)) (as:=[(.v (oV (oN 1)))]) (vV (pv 0)) S.S2 S.l3 S.E0 (zO S) hr (oA (qQ (pv 1)) qK)))) (qJ (qD (ed_v (qH qC)))) qF)
   (qV (sA (i:=4) qXc.nd (wY (qO (ev_e (vWn (as:=[(.io 0)]) (fA S.D3 S.Q1 hr G (fA S.C3 S.c1 hr (qZ9 S) (fA S.A3 S.Z0 hr (qXi S G) (fA S.B3 S.T0 hr (jT S) vKv)))) (pv 3) xD (qG (vV (pv 0)) qK))) qC)))
   (qV (qQ8 100000 bM (zJ (od_e (mA (C:=9) (a0:=(.io 0)) (as:=[(.v (oV (oC (.str ","))))]) (vV (pv 0)) S.S2 S.l3 S.E0 (zO S) hr (oA qZ qK)))) (qJ (v4 (xE (qQ (pv 4)) (vWn (as:=[(.io 0)]) (fA S.D3 S.Q1 hr G (fA S.C3 S.c1 hr (qZ9 S) (fA S.A3 S.Z0 hr (qXi S G) (fA S.B3 S.T0 hr (jT S) vKv)))) (pv 3) xD (qG (vV (pv 0)) qK))))))
   (qV (v4 (mA (C:=9) (a0:=(.io 0)) (as:=[(.v (oV (oN 1)))]) (vV (pv 0)) S.S2 S.j3 S.H0 (vI S) hr (oA (qQ (pv 1)) qK)))
   (qV (vJ (t_gt (wB rfl S.K3 (qQ (pv 4))) (qQ (pv 2))) (qJ (rA (C:=23) S.W2 S.d0 (vP S) hr S.g3 (OD.val (xV S.y3 (qQ (pv 0)))))) qF)
   (qJ (qD (ed_v (zXk rfl S.Q3 (qQ (pv 4)))))))))))
theorem qZ7:FnOk P w K mg base (CXd P w) 3 S.g1 S.h1 ["cursor","things"] (spD K c 2 j8):=fnD S.i1.F qYr fun _ _ _ _ _ _ hr=>(qJ (vJ (t_lt (od_v (jQ2 rfl rfl S.O3 rfl S.K3 (qQ (pv 1)))) (wB rfl S.K3 (qQ (pv 1)))) (qJ (rA (C:=23) S.W2 S.d0 (vP S) hr S.g3 (OD.val (xV S.y3 (qQ (pv 0)))))) qF))
theorem qXh(G:FnOk P w K mg base (CXd P w) k S.O1 S.P1 ["cursor"] (spD K c 1 R)):FnOk P w K mg base (CXd P w) (k+9) S.j1 S.k1 ["cursor","close","read_one"] (spD K c 3 (yV R)):=fnD (k:=k+8) S.l1.F qJv fun _ _ _ _ _ _ hr=>(qV (sA (i:=3) qJv.nd (cA (as:=[(.io 0),(.v (oV (oN 1))),(.v (oV (oC (.int 6)))),(.v (oV (oN 2)))]) S.f1 (qQn S G) hr (qG (vV (pv 0)) (oA (qQ (pv 1)) (oA (od_c (vD (v:=.int 6) rfl S.d4 ⟨_,rfl⟩) (fun _=>.int _)) (oA (qQ (pv 2)) qK))))))
   (qV (vJ (jJ (wB rfl S.K3 (qQ (pv 3))) qX) (qJ (rA (C:=23) S.W2 S.d0 (vP S) hr S.g3 (OD.val (xV S.y3 (qQ (pv 0)))))) qF)
   (qV (v4 (cA (as:=[(.b (pOf (oN 0))),(.v (fzS (compS 1 [] [0] (iV (oV (oN 3))) (gN 0) bTrue (oV (oIx (oN 0) (oC (.int 0)))))))]) S.i1 (qZ7 S) hr (qG (qYh (qQ (pv 0))) (qG (od_v (ev_e (qY7 rfl (Nc:=["pair"]) (cs:=[]) (qXo rfl (by decide +kernel) (by decide +kernel) (by decide +kernel)) (qJ3 (OD.val (qQ (pv 3)))) (fun _ _ _ _=>(jZ (i:=0) (show List.Nodup (["pair"]:List Str) by decide +kernel) rfl (Or.inl rfl))) (fun _ _ _ _=>qJa) (fun _ _ _ _=>(OD.val (o_ix hr (qQ (pv 0)) qX)))))) qK))))
   (qJ (qD (xB (pv 3)))))))
theorem zVh(G:FnOk P w K mg base (CXd P w) k S.O1 S.P1 ["cursor"] (spD K c 1 R)):FnOk P w K mg base (CXd P w) (k+9) S.m1 S.n1 ["cursor"] (spD K c 1 (qX9 R)):=fnD (k:=k+8) S.p1.F vQg fun _ _ _ _ _ _ hr=>(qV (sA (i:=1) vQg.nd (cA (as:=[(.io 0),(.v (oV (oC (.str ")")))),(.v (oV (oC (.int 3)))),(.v (oV (oC (.fn 30))))]) S.f1 (qQn S G) hr (qG (vV (pv 0)) (oA qZ (oA qX (oA (od_c (vD (v:=.ref (c 30)) rfl S.D3 rfl) (fun _=>.fn 30)) qK))))))
   (qV (vJ (t_lt (wB rfl S.K3 (qQ (pv 1))) qX) (qJ (rA (C:=23) S.W2 S.d0 (vP S) hr S.g3 (OD.val (xV S.y3 (qQ (pv 0)))))) qF)
   (qJ (qD (ed_v (qH (vA qZ (vA (o_ix hr (qQ (pv 1)) qX) (vA (o_ix hr (qQ (pv 1)) qX) (vA (o_ix hr (qQ (pv 1)) qX) qC))))))))))
theorem vW2:FnOk P w K mg base (CXd P w) 5 S.q1 S.r1 ["cursor"] (spD K c 1 qZ2):=fnD S.s1.F qVr fun _ _ _ _ _ _ hr=>(qV (sA (i:=1) qVr.nd (cA (as:=[(.io 0),(.v (oV (oC (.int 1)))),(.v (oV (oC (.int 1000000))))]) S.W0 (jF S) hr (qG (vV (pv 0)) (oA qX (oA (od_c (vD (v:=.int 1000000) rfl S.n4 ⟨_,rfl⟩) (fun _=>.int _)) qK)))))
   (qV (v4 (mA (C:=9) (a0:=(.io 0)) (as:=[(.v (oV (oC (.str "/"))))]) (vV (pv 0)) S.S2 S.j3 S.H0 (vI S) hr (oA qZ qK)))
   (qV (sA (i:=2) qVr.nd (cA (as:=[(.io 0),(.v (oV (oAdd (oN 1) (oC (.int 1))))),(.v (oV (oC (.int 1000000))))]) S.W0 (jF S) hr (qG (vV (pv 0)) (oA (qKb (qQ (pv 1)) qX) (oA (od_c (vD (v:=.int 1000000) rfl S.n4 ⟨_,rfl⟩) (fun _=>.int _)) qK)))))
   (qV (v4 (mA (C:=9) (a0:=(.io 0)) (as:=[(.v (oV (oC (.str ")"))))]) (vV (pv 0)) S.S2 S.j3 S.H0 (vI S) hr (oA qZ qK)))
   (qJ (qD (ed_v (qH (vA qZ (vA (qQ (pv 1)) (vA (qQ (pv 2)) qC)))))))))))
theorem vW0(G:FnOk P w K mg base (CXd P w) k S.O1 S.P1 ["cursor"] (spD K c 1 R)):FnOk P w K mg base (CXd P w) (k+5) S.t1 S.u1 ["cursor"] (spD K c 1 (qZ0 R)):=fnD (k:=k+4) S.v1.F qVp fun _ _ _ _ _ _ hr=>(qV (sA (i:=1) qVp.nd (cA (as:=[(.io 0)]) S.Q1 G hr (qG (vV (pv 0)) qK)))
   (qV (v4 (mA (C:=9) (a0:=(.io 0)) (as:=[(.v (oV (oC (.str ","))))]) (vV (pv 0)) S.S2 S.j3 S.H0 (vI S) hr (oA qZ qK)))
   (qV (sA (i:=2) qVp.nd (cA (as:=[(.io 0),(.v (oV (oC (.int 1)))),(.v (oV (oC (.int 999999999999))))]) S.W0 (jF S) hr (qG (vV (pv 0)) (oA qX (oA (od_c (vD (v:=.int 999999999999) rfl S.b4 ⟨_,rfl⟩) (fun _=>.int _)) qK)))))
   (qV (v4 (mA (C:=9) (a0:=(.io 0)) (as:=[(.v (oV (oC (.str ")"))))]) (vV (pv 0)) S.S2 S.j3 S.H0 (vI S) hr (oA qZ qK)))
   (qJ (qD (ed_v (qH (vA qZ (vA (qQ (pv 1)) (vA (qQ (pv 2)) qC)))))))))))
theorem vZ6(G:FnOk P w K mg base (CXd P w) k S.O1 S.P1 ["cursor"] (spD K c 1 R)):FnOk P w K mg base (CXd P w) (k+10) S.w1 S.x1 ["cursor","word"] (spD K c 2 (qV3 R)):=fnD (k:=k+9) S.y1.F vQ1 fun _ _ _ _ _ _ hr=>(qV (v4 (mA (C:=9) (a0:=(.io 0)) (as:=[(.v (oV (oC (.str "("))))]) (vV (pv 0)) S.S2 S.j3 S.H0 (vI S) hr (oA qZ qK)))
   (qV (vJ (jJ (qQ (pv 1)) qZ) (qJ (qD (cA (as:=[(.io 0)]) S.p1 (zVh S G) hr (qG (vV (pv 0)) qK)))) qF)
   (qV (vJ (jJ (qQ (pv 1)) qZ) (qJ (qD (cA (as:=[(.io 0)]) S.s1 (vW2 S) hr (qG (vV (pv 0)) qK)))) qF)
   (qV (vJ (jJ (qQ (pv 1)) qZ) (qJ (qD (ed_v (qH (vA qZ (qO (ev_e (cA (as:=[(.io 0),(.v (oV (oC (.str ")")))),(.v (oV (oC (.fn 31))))]) S.l1 (qXh S G) hr (qG (vV (pv 0)) (oA qZ (oA (od_c (vD (v:=.ref (c 31)) rfl S.C3 rfl) (fun _=>.fn 31)) qK))))) qC)))))) qF)
   (qJ (qD (cA (as:=[(.io 0)]) S.v1 (vW0 S G) hr (qG (vV (pv 0)) qK))))))))
theorem vZ5(G:FnOk P w K mg base (CXd P w) k S.O1 S.P1 ["cursor"] (spD K c 1 R)):FnOk P w K mg base (CXd P w) (k+9) S.z1 S.A1 ["cursor","word"] (spD K c 2 (qV2 R)):=fnD (k:=k+8) S.B1.F vQ0 fun _ _ _ _ _ _ hr=>(qV (vJ (qVf (zJ (od_e (cA (as:=[(.v (oV (oN 1)))]) S.N0 (vVy S) hr (oA (qQ (pv 1)) qK))))) (qJ (rA (C:=23) S.W2 S.d0 (vP S) hr S.g3 (OD.val (xV S.y3 (qQ (pv 0)))))) qF)
   (qV (vJ (zJ (od_e (mA (C:=9) (a0:=(.io 0)) (as:=[(.v (oV (oC (.str "("))))]) (vV (pv 0)) S.S2 S.l3 S.E0 (zO S) hr (oA qZ qK)))) (qJ (qD (ed_v (qH (vA qZ (vA (qQ (pv 1)) (qO (ev_e (cA (as:=[(.io 0),(.v (oV (oC (.str ")")))),(.v (oV (oC (.int 3)))),(.v (oV (oC (.fn 30))))]) S.f1 (qQn S G) hr (qG (vV (pv 0)) (oA qZ (oA (od_c (vD (v:=.int 3) rfl S.l4 ⟨_,rfl⟩) (fun _=>.int _)) (oA (od_c (vD (v:=.ref (c 30)) rfl S.D3 rfl) (fun _=>.fn 30)) qK)))))) qC))))))) qF)
   (qJ (qD (ed_v (qH (vA qZ (vA (qQ (pv 1)) qC))))))))
theorem vW1(G:FnOk P w K mg base (CXd P w) k S.O1 S.P1 ["cursor"] (spD K c 1 R)):FnOk P w K mg base (CXd P w) (k+11) S.C1 S.D1 ["cursor"] (spD K c 1 (qZ1 R)):=fnD (k:=k+10) S.E1.F qVq fun _ _ _ _ _ _ hr=>(qV (sA (i:=1) qVq.nd (m0A (C:=9) (a0:=(.io 0)) (vV (pv 0)) S.S2 S.k3 S.B0 (v8 S) hr))
   (qV (vJ (jJ (qQ (pv 1)) qZ) (qV (sA (i:=2) qVq.nd (cA (as:=[(.io 0)]) S.Q1 G hr (qG (vV (pv 0)) qK)))
   (qV (v4 (mA (C:=9) (a0:=(.io 0)) (as:=[(.v (oV (oC (.str ")"))))]) (vV (pv 0)) S.S2 S.j3 S.H0 (vI S) hr (oA qZ qK)))
   (qJ (qD (xB (pv 2)))))) qF)
   (qV (vJ (jJ (qQ (pv 1)) qZ) (qJ (qD (ed_v (qH (vA qZ (qO (ev_e (cA (as:=[(.io 0),(.v (oV (oC (.str "}")))),(.v (oV (oC (.fn 32))))]) S.l1 (qXh S G) hr (qG (vV (pv 0)) (oA qZ (oA (od_c (vD (v:=.ref (c 32)) rfl S.A3 rfl) (fun _=>.fn 32)) qK))))) qC)))))) qF)
   (qV (vJ (t_in hr (qQ (pv 1)) (od_c (vD (v:=.ref S.q4) rfl S.r4 rfl) S.s4)) (qJ (qD (cA (as:=[(.io 0),(.v (oV (oN 1)))]) S.y1 (vZ6 S G) hr (qG (vV (pv 0)) (oA (qQ (pv 1)) qK))))) qF)
   (qV (vJ (zJ (od_e (cA (as:=[(.v (oV (oN 1)))]) S.Q0 (qYq S) hr (oA (qQ (pv 1)) qK)))) (qJ (qD (ed_v (qH (vA qZ (vA (vXe rfl S.I3 (qQ (pv 1))) qC)))))) qF)
   (qJ (qD (cA (as:=[(.io 0),(.v (oV (oN 1)))]) S.B1 (vZ5 S G) hr (qG (vV (pv 0)) (oA (qQ (pv 1)) qK))))))))))
theorem qXg(G:FnOk P w K mg base (CXd P w) k S.O1 S.P1 ["cursor"] (spD K c 1 R)):FnOk P w K mg base (CXd P w) (k+12) S.F1 S.G1 ["cursor"] (spD K c 1 (yQ R)):=fnD (k:=k+11) S.H1.F qQu fun _ _ _ _ _ _ hr=>(qV (sA (i:=1) qQu.nd (cA (as:=[(.io 0)]) S.E1 (vW1 S G) hr (qG (vV (pv 0)) qK)))
   (qV (qQ8 100000 bM (zJ (od_e (mA (C:=9) (a0:=(.io 0)) (as:=[(.v (oV (oC (.str "."))))]) (vV (pv 0)) S.S2 S.l3 S.E0 (zO S) hr (oA qZ qK)))) (qJ (sA (i:=1) qQu.nd (ed_v (qH (vA qZ (vA (qQ (pv 1)) (qO (ev_e (cA (as:=[(.io 0)]) S.T0 (jT S) hr (qG (vV (pv 0)) qK))) qC))))))))
   (qJ (qD (xB (pv 1))))))
theorem qZ8(G:FnOk P w K mg base (CXd P w) k S.O1 S.P1 ["cursor"] (spD K c 1 R)):FnOk P w K mg base (CXd P w) (k+13) S.I1 S.J1 ["cursor"] (spD K c 1 (wR R)):=fnD (k:=k+12) S.K1.F xL fun _ _ _ _ _ _ hr=>(qV (sA (i:=1) xL.nd (cA (as:=[(.io 0)]) S.H1 (qXg S G) hr (qG (vV (pv 0)) qK)))
   (qV (qQ8 100000 bM (zJ (od_e (mA (C:=9) (a0:=(.io 0)) (as:=[(.v (oV (oC (.str "*"))))]) (vV (pv 0)) S.S2 S.l3 S.E0 (zO S) hr (oA qZ qK)))) (qJ (sA (i:=1) xL.nd (ed_v (qH (vA qZ (vA qZ (vA (qQ (pv 1)) (qO (ev_e (cA (as:=[(.io 0)]) S.H1 (qXg S G) hr (qG (vV (pv 0)) qK))) qC)))))))))
   (qJ (qD (xB (pv 1))))))
theorem vQp(G:FnOk P w K mg base (CXd P w) k S.O1 S.P1 ["cursor"] (spD K c 1 R)):FnOk P w K mg base (CXd P w) (k+14) S.L1 S.M1 ["cursor"] (spD K c 1 (xY R)):=fnD (k:=k+13) S.N1.F qQj fun _ _ _ _ _ _ hr=>(qV (sA (i:=1) qQj.nd (cA (as:=[(.io 0)]) S.K1 (qZ8 S G) hr (qG (vV (pv 0)) qK)))
   (qV (qQ8 100000 bM (t_in hr (od_e (m0A (C:=9) (a0:=(.b (pOf (oN 0)))) (qYh (qQ (pv 0))) S.S2 S.i3 S.y0 (j7 S) hr)) (od_v (qH (vA qZ (vA qZ qC))))) (qV (sA (i:=2) qQj.nd (m0A (C:=9) (a0:=(.io 0)) (vV (pv 0)) S.S2 S.k3 S.B0 (v8 S) hr))
   (qJ (sA (i:=1) qQj.nd (ed_v (qH (vA qZ (vA (qQ (pv 2)) (vA (qQ (pv 1)) (qO (ev_e (cA (as:=[(.io 0)]) S.K1 (qZ8 S G) hr (qG (vV (pv 0)) qK))) qC))))))))))
   (qJ (qD (xB (pv 1))))))
theorem qQm:∀h:Nat,FnOk P w K mg base (CXd P w) (15 * h+15) S.O1 S.P1 ["cursor"] (spD K c 1 (zP h))
 | 0=>fnNo
 | h + 1=>by
   have ih:=qQm h
   exact FnOk.lv (by omega) (fnD (k:=15 * h+29) S.Q1.F x9 fun _ _ _ _ _ _ hr=>(qV (sA (i:=1) x9.nd (cA (as:=[(.io 0)]) S.N1 (vQp S ih) hr (qG (vV (pv 0)) qK)))
    (qV (vJ (t_in hr (od_e (m0A (C:=9) (a0:=(.b (pOf (oN 0)))) (qYh (qQ (pv 0))) S.S2 S.i3 S.y0 (j7 S) hr)) (od_v (qH (vA qZ (vA qZ qC))))) (qV (sA (i:=2) x9.nd (m0A (C:=9) (a0:=(.io 0)) (vV (pv 0)) S.S2 S.k3 S.B0 (v8 S) hr))
    (qJ (sA (i:=1) x9.nd (ed_v (qH (vA qZ (vA (qQ (pv 2)) (vA (qQ (pv 1)) (qO (ev_e (cA (as:=[(.io 0)]) S.N1 (vQp S ih) hr (qG (vV (pv 0)) qK))) qC))))))))) qF)
    (qJ (qD (xB (pv 1)))))))
theorem qZy:FnOk P w K mg base (CXd P w) 196 S.R1 S.S1 ["cursor"] (spD K c 1 xH):=fnD S.T1.F vZ0 fun _ _ _ _ _ _ hr=>(qV (v4 (mA (C:=9) (a0:=(.io 0)) (as:=[(.v (oV (oC (.str "="))))]) (vV (pv 0)) S.S2 S.j3 S.H0 (vI S) hr (oA qZ qK)))
   (qJ (qD (cA (as:=[(.io 0)]) S.Q1 (qQm S 12) hr (qG (vV (pv 0)) qK)))))
theorem vYe:FnOk P w K mg base (CXd P w) 203 S.U1 S.V1 ["cursor"] (spD K c 1 qWl):=fnD S.W1.F qZo fun _ _ _ _ _ _ hr=>(qV (sA (i:=1) qZo.nd (cA (as:=[(.io 0)]) S.T0 (jT S) hr (qG (vV (pv 0)) qK)))
   (qV (v4 (mA (C:=9) (a0:=(.io 0)) (as:=[(.v (oV (oC (.str "("))))]) (vV (pv 0)) S.S2 S.j3 S.H0 (vI S) hr (oA qZ qK)))
   (qV (sA (i:=2) qZo.nd (cA (as:=[(.io 0),(.v (oV (oC (.str ")")))),(.v (oV (oC (.int 3)))),(.v (oV (oC (.fn 33))))]) S.f1 (qQn S (qQm S 12)) hr (qG (vV (pv 0)) (oA qZ (oA (od_c (vD (v:=.int 3) rfl S.l4 ⟨_,rfl⟩) (fun _=>.int _)) (oA (od_c (vD (v:=.ref (c 33)) rfl S.B3 rfl) (fun _=>.fn 33)) qK))))))
   (qV (v4 (cA (as:=[(.b (pOf (oN 0))),(.v (oV (oN 2)))]) S.i1 (qZ7 S) hr (qG (qYh (qQ (pv 0))) (oA (qQ (pv 2)) qK))))
   (qJ (qD (ed_v (qH (vA qZ (vA (qQ (pv 1)) (vA (qQ (pv 2)) (qO (ev_e (cA (as:=[(.io 0)]) S.T1 (qZy S) hr (qG (vV (pv 0)) qK))) qC))))))))))))
theorem vYd:FnOk P w K mg base (CXd P w) 197 S.X1 S.Y1 ["cursor"] (spD K c 1 qWk):=fnD S.Z1.F qYk fun _ _ _ _ _ _ hr=>(qV (sA (i:=1) qYk.nd (cA (as:=[(.io 0)]) S.T0 (jT S) hr (qG (vV (pv 0)) qK)))
   (qJ (qD (ed_v (qH (vA qZ (vA (qQ (pv 1)) (qO (ev_e (cA (as:=[(.io 0)]) S.T1 (qZy S) hr (qG (vV (pv 0)) qK))) qC))))))))
theorem vZ7:FnOk P w K mg base (CXd P w) 197 S.a2 S.b2 ["cursor"] (spD K c 1 qV4):=fnD S.c2.F qQv fun _ _ _ _ _ _ hr=>(qV (sA (i:=1) qQv.nd (cA (as:=[(.io 0),(.v (oV (oC (.int 0)))),(.v (oV (oC (.int 30))))]) S.W0 (jF S) hr (qG (vV (pv 0)) (oA qX (oA (od_c (vD (v:=.int 30) rfl S.f4 ⟨_,rfl⟩) (fun _=>.int _)) qK)))))
   (qV (sA (i:=2) qQv.nd (cA (as:=[(.io 0)]) S.T0 (jT S) hr (qG (vV (pv 0)) qK)))
   (qJ (qD (ed_v (qH (vA qZ (vA (qQ (pv 1)) (vA (qQ (pv 2)) (qO (ev_e (cA (as:=[(.io 0)]) S.T1 (qZy S) hr (qG (vV (pv 0)) qK))) qC))))))))))
theorem vZ4:FnOk P w K mg base (CXd P w) 205 S.d2 S.e2 ["cursor"] (spD K c 1 qV1):=fnD S.f2.F qJu fun _ _ _ _ _ _ hr=>(qV (sA (i:=1) qJu.nd (m0A (C:=9) (a0:=(.io 0)) (vV (pv 0)) S.S2 S.k3 S.B0 (v8 S) hr))
   (qV (vJ (jJ (qQ (pv 1)) qZ) (qJ (qD (cA (as:=[(.io 0)]) S.W1 (vYe S) hr (qG (vV (pv 0)) qK)))) qF)
   (qV (vJ (jJ (qQ (pv 1)) qZ) (qJ (qD (cA (as:=[(.io 0)]) S.Z1 (vYd S) hr (qG (vV (pv 0)) qK)))) qF)
   (qV (vJ (jJ (qQ (pv 1)) qZ) (qJ (qD (cA (as:=[(.io 0)]) S.c2 (vZ7 S) hr (qG (vV (pv 0)) qK)))) qF)
   (qV (vJ (t_in hr (qQ (pv 1)) (od_v (qH (vA qZ (vA qZ qC))))) (qJ (qD (ed_v (qH (vA (qQ (pv 1)) (qO (ev_e (cA (as:=[(.io 0)]) S.Q1 (qQm S 12) hr (qG (vV (pv 0)) qK))) qC)))))) qF)
   (qJ (rA (C:=23) S.W2 S.d0 (vP S) hr S.g3 (OD.val (xV S.y3 (qQ (pv 0)))))))))))
theorem qYw:FnOk P w K mg base (CXd P w) 1 S.g2 S.h2 ["words"] (spD K c 1 zR):=fnD S.i2.F v7 fun _ _ _ _ _ _ hr=>(qV (sA (i:=1) v7.nd (OD.ow qX))
   (qV (sA (i:=2) v7.nd (OD.ow qX))
   (qV (qJz bM rfl (qJ3 (OD.val (qQ (pv 0)))) (jZ (i:=3) v7.nd rfl (Or.inl rfl)) (qV (vJ (t_in hr (qQ (pv 3)) (od_v (qH (vA qZ (vA qZ qC))))) (qJ (vXa (i:=1) v7.nd rfl (Or.inl rfl) (OD.val qX) vZc (qKg _))) (qJ (vJ (t_in hr (qQ (pv 3)) (od_v (qH (vA qZ (vA qZ qC))))) (qJ (vXa (i:=1) v7.nd rfl (Or.inl rfl) (OD.val qX) jZ1 (qKg _))) qF)))
   (qJ (sA (i:=2) v7.nd (OD.ow (zZ1 rfl rfl S.M3 (qQ (pv 2)) (qQ (pv 1))))))))
   (qJ (qD (xB (pv 2)))))))
theorem vK5:∀h:Nat,FnOk P w K mg base (CXd P w) (1 * h+2) S.j2 S.k2 ["term"] (spD K c 1 (qQi h))
 | 0=>fnNo
 | h + 1=>by
   have ih:=vK5 h
   exact FnOk.lv (by omega) (fnD (k:=1 * h+2) S.l2.F qW6 fun _ _ _ _ _ _ hr=>(qV (sA (i:=1) qW6.nd (OD.ow qX))
    (qV (qJz bM rfl (qJ3 (ev_e (cA (as:=[(.v (oV (oN 0)))]) S.j0 (vYf S) hr (oA (qQ (pv 0)) qK)))) (jZ (i:=2) qW6.nd rfl (Or.inl rfl)) (qJ (sA (i:=1) qW6.nd (OD.ow (zZ1 rfl rfl S.M3 (qQ (pv 1)) (od_e (vZs (as:=[(.v (oV (oN 2)))]) ih (hr.mono (by omega)) rfl S.l2.m S.l2.F.kp S.l2.b xD (oA (qQ (pv 2)) qK))))))))
    (qJ (qD (OD.ow (qKb (qQ (pv 1)) qX)))))))
theorem vYc:FnOk P w K mg base (CXd P w) 207 S.m2 S.n2 ["number","row"] (spD K c 2 vZ):=fnD S.p2.F qQk fun _ _ _ _ _ _ hr=>(qV (vJ (t_gt (wB rfl S.K3 (qQ (pv 1))) (od_c (vD (v:=.int 1000) rfl S.j4 ⟨_,rfl⟩) (fun _=>.int _))) (qJ (rA (C:=23) S.W2 S.d0 (vP S) hr S.g3 (OD.val (qQ (pv 0))))) qF)
   (qV (sA (i:=2) qQk.nd (cA (as:=[(.v (oV (oN 1)))]) S.s0 (vYb S) hr (oA (qQ (pv 1)) qK)))
   (qV (vJ (td_w (qQz (t_gt (wB rfl S.K3 (qQ (pv 2))) (od_c (vD (v:=.int 60) rfl S.p4 ⟨_,rfl⟩) (fun _=>.int _))) (qQp (t_gt (od_e (cA (as:=[(.v (oV (oN 2)))]) S.i2 (qYw S) hr (oA (qQ (pv 2)) qK))) (od_c (vD (v:=.int 10) rfl S.T3 ⟨_,rfl⟩) (fun _=>.int _)))))) (qJ (rA (C:=23) S.W2 S.d0 (vP S) hr S.g3 (OD.val (qQ (pv 0))))) qF)
   (qV (sA (i:=3) qQk.nd (zKu (C:=9) (as:=[(.v (oV (oN 0))),(.v (oV (oN 2)))]) S.T2 (vQx S) (hr.mono (by decide)) rfl S.Y2 S.v0.b xD (oA (qQ (pv 0)) (oA (qQ (pv 2)) qK))))
   (qV (sA (i:=4) qQk.nd (cA (as:=[(.io 3)]) S.f2 (vZ4 S) hr (qG (vV (pv 3)) qK)))
   (qV (vJ (td_w (qQz (qJn (od_e (m0A (C:=9) (a0:=(.b (pOf (oN 3)))) (qYh (qQ (pv 3))) S.S2 S.i3 S.y0 (j7 S) hr)) qZ) (qQp (t_gt (od_e (cA (as:=[(.v (oV (oIx (oN 4) (o1 negD (oC (.int 1))))))]) S.l2 (vK5 S 62) hr (oA (o_ix hr (qQ (pv 4)) (jJ9 qX)) qK))) (od_c (vD (v:=.int 10) rfl S.V3 ⟨_,rfl⟩) (fun _=>.int _)))))) (qJ (rA (C:=23) S.W2 S.d0 (vP S) hr S.g3 (OD.val (qQ (pv 0))))) qF)
   (qJ (qD (xB (pv 4))))))))))
theorem vXo:FnOk P w K mg base (CXd P w) 209 S.q2 S.r2 ["text"] (spD K c 1 jY):=fnD S.s2.F qJc fun _ _ _ _ _ _ hr=>(qV (sA (i:=1) qJc.nd (zKy (qQ (pv 0)) ⟨rfl,rfl,rfl,rfl⟩))
   (qV (sA (i:=2) qJc.nd (wY qC))
   (qV (qJz bM rfl (zKg rfl S.H3 (vA (qQ (pv 1)) qC)) (vXj rfl (qVa (jZ (i:=3) qJc.nd rfl (Or.inl rfl)) (qVa (jZ (i:=4) qJc.nd rfl (Or.inl rfl)) vZp))) (qV (vJ (jJ (qQ (pv 3)) (od_c (vD (v:=.int 40) rfl S.h4 ⟨_,rfl⟩) (fun _=>.int _))) (qJ (rA (C:=23) S.W2 S.d0 (vP S) hr S.g3 (OD.val (qQ (pv 3))))) qF)
   (qV (sA (i:=5) qJc.nd (cA (as:=[(.v (oV (oN 3))),(.v (oV (oN 4)))]) S.p2 (vYc S) hr (oA (qQ (pv 3)) (oA (qQ (pv 4)) qK))))
   (qV (vJ (qJn (qWq (o_ix hr (qQ (pv 5)) qX) qZ) (qWq (qQ (pv 3)) (zV3 (wB rfl S.K3 (qQ (pv 1))) qX))) (qJ (rA (C:=23) S.W2 S.d0 (vP S) hr S.g3 (OD.val (qQ (pv 3))))) qF)
   (qJ (v4 (xE (qQ (pv 2)) (OD.ow (qQ (pv 5))))))))))
   (qJ (qD (xB (pv 2)))))))
theorem qWj:FnOk P w K mg base (CXd P w) 1 S.t2 S.u2 ["_law_more"] (spD K c 1 zG):=fnD S.v2.F qQl fun _ _ _ _ _ _ hr=>(qV (sA (i:=1) qQl.nd (OD.ow qZ))
   (qV (qJz bM rfl (qX3 rfl S.N3 (vA (qKb qX (wG (qQ (pv 0)) qX)) qC)) (jZ (i:=2) qQl.nd rfl (Or.inl rfl)) (qJ (sA (i:=1) qQl.nd (OD.ow (vT (qQ (pv 1)) (o_ix hr qZ (wG (vYr (qQ (pv 0)) (qKb (qQ (pv 2)) qX)) qX)))))))
   (qJ (qD (xB (pv 1))))))
theorem zVi:FnOk P w K mg base (CXd P w) 2 S.w2 S.x2 ["_law_kind","_law_more"] (spD K c 2 wE):=fnD S.y2.F jU fun _ _ _ _ _ _ hr=>(qV (sA (i:=2) jU.nd (cA (as:=[(.v (oV (oN 1)))]) S.v2 (qWj S) hr (oA (qQ (pv 1)) qK)))
   (qV (sA (i:=3) jU.nd (OD.ow (wG (zV5 (qQ (pv 1)) qX) (zV4 qX qX))))
   (qV (vJ (jJ (qQ (pv 0)) qX) (qJ (qD (ed_v (qH (vA (vT (vT (vT qZ (qQ (pv 2))) qZ) (vJk rfl S.P3 (qQ (pv 3)))) (qO (qH (vA qZ (vA (qQ (pv 2)) (qO (qH (vA qZ (vA (qQ (pv 3)) qC))) qC)))) qC)))))) qF)
   (qV (vJ (jJ (qQ (pv 0)) qX) (qJ (qD (ed_v (qH (vA (vT (vT (vT qZ (qQ (pv 2))) qZ) (vJk rfl S.P3 (qQ (pv 3)))) (qO (qH (vA qZ (qO (qH (vA qZ (vA qZ (qO (qH (vA qZ (vA (qQ (pv 2)) qC))) (qO (qH (vA qZ (vA (qQ (pv 3)) qC))) qC))))) qC))) qC)))))) qF)
   (qV (vJ (jJ (qQ (pv 0)) qX) (qV (sA (i:=4) jU.nd (ed_v (qH (vA qZ (vA qZ (qO (qH (vA qZ (vA (qQ (pv 2)) qC))) (qO (qH (vA qZ (vA qX qC))) qC)))))))
   (qJ (qD (ed_v (qH (vA (vT (vT (vT (vT (vT (vT qZ (vJk rfl S.P3 (wG (qQ (pv 1)) qX))) qZ) (qQ (pv 2))) qZ) (qQ (pv 2))) qZ) (qO (qH (vA qZ (vA (wG (qQ (pv 1)) qX) (vA (qQ (pv 2)) (vA (qQ (pv 4)) qC))))) qC))))))) qF)
   (qV (vJ (jJ (qQ (pv 0)) qX) (qV (sA (i:=4) jU.nd (ed_v (qH (vA qZ (vA qZ (qO (qH (vA qZ (vA qZ qC))) (qO (qH (vA qZ (vA qZ qC))) qC)))))))
   (qJ (qD (ed_v (qH (vA (vT (vT qZ (qQ (pv 2))) qZ) (qO (qH (vA qZ (vA (qQ (pv 2)) (qO (qH (vA qZ (vA qZ qC))) (vA (qQ (pv 4)) qC))))) qC))))))) qF)
   (qV (vJ (jJ (qQ (pv 0)) qX) (qV (sA (i:=5) jU.nd (ed_v (qH (vA qZ (qO (qH (vA qZ (vA (qQ (pv 2)) qC))) (qO (qH (vA qZ (vA qX (vA qX qC)))) (qO (qH (vA qZ (vA (qQ (pv 3)) qC))) qC)))))))
   (qJ (qD (ed_v (qH (vA (vT (vT (vT (vT qZ (qQ (pv 2))) qZ) (vJk rfl S.P3 (qQ (pv 3)))) qZ) (qO (qH (vA qZ (vA qZ (vA (qQ (pv 5)) qC)))) qC))))))) qF)
   (qV (vJ (jJ (qQ (pv 0)) qX) (qV (sA (i:=6) jU.nd (OD.ow qZ))
   (qV (vJ (jJ (wG (qQ (pv 1)) qX) qX) (qJ (sA (i:=6) jU.nd (OD.ow (zYy (qQ (pv 6)) ⟨rfl,rfl,rfl,rfl⟩)))) qF)
   (qJ (qD (ed_v (qH (vA (qQ (pv 6)) (qO (qH (vA qZ (qO (qH (vA qZ (vA qZ (qO (qH (vA qZ (vA qX (vA qX qC)))) (qO (qH (vA qZ (vA qX qC))) qC))))) qC))) qC)))))))) qF)
   (qV (sA (i:=7) jU.nd (ed_v (qH (vA qZ (qO (qH (qO (qH (vA (qQ (pv 2)) (qO (qH (vA qZ (vA (qQ (pv 3)) qC))) qC))) qC)) qC)))))
   (qJ (qD (ed_v (qH (vA (vT (vT (vT (vT (vT (vT qZ (qQ (pv 2))) qZ) (qQ (pv 2))) qZ) (vJk rfl S.P3 (qQ (pv 3)))) qZ) (qO (qH (vA qZ (vA (qQ (pv 2)) (qO (qH qC) (vA (qQ (pv 7)) qC))))) qC)))))))))))))))
theorem zVj:FnOk P w K mg base (CXd P w) 1 S.z2 S.A2 ["_law_more"] (spD K c 1 qVd):=fnD S.B2.F wK fun _ _ _ _ _ _ hr=>(qV (sA (i:=1) wK.nd (wY (vA qZ (vA qZ (vA qZ (vA qZ (vA qZ (vA qZ (vA qZ (vA qZ (vA qZ (vA qZ (vA qZ qC)))))))))))))
   (qV (sA (i:=1) wK.nd (qKo (qQ (pv 1)) (od_e (wY (vA qZ (vA qZ (vA qZ (vA qZ (vA qZ (vA qZ (vA qZ qC)))))))))))
   (qV (sA (i:=1) wK.nd (qKo (qQ (pv 1)) (od_e (wY (vA qZ (vA qZ (vA qZ (vA qZ (vA qZ (vA qZ qC))))))))))
   (qV (sA (i:=1) wK.nd (qKo (qQ (pv 1)) (od_e (wY (vA qZ (vA qZ (vA qZ (vA qZ (vA qZ (vA qZ qC))))))))))
   (qV (sA (i:=1) wK.nd (qKo (qQ (pv 1)) (od_e (wY (vA qZ (vA qZ (vA qZ (vA qZ (vA (vT qZ (jZf qZ qX)) qC)))))))))
   (qV (sA (i:=1) wK.nd (qKo (qQ (pv 1)) (od_e (wY (vA qZ (vA qZ (vA qZ qC)))))))
   (qJ (qD (ed_v (qH (vA (o_ix hr (qQ (pv 1)) (wG (qQ (pv 0)) qX)) (vA qKi qC))))))))))))
theorem vYg:FnOk P w K mg base (CXd P w) 3 S.C2 S.D2 ["_law_script"] (spD K c 1 xK):=fnD S.E2.F jP fun _ _ _ _ _ _ hr=>(qV (sA (i:=1) jP.nd (OD.ow qX))
   (qV (vJ (t_gt (wB rfl S.K3 (qQ (pv 0))) qX) (qJ (sA (i:=1) jP.nd (OD.ow (wG (zV5 (qKb (wG (o_ix hr (qQ (pv 0)) qX) (zV4 qX qX)) qX) qX) qX)))) qF)
   (qV (vKf (i:=2) rfl jP.nd rfl (Or.inl rfl) (Nc:=["_law_cell"]) (cs:=[]) (qXo rfl (by decide +kernel) (by decide +kernel) (by decide +kernel)) (qJ3 (ev_e (zW9 (qQ (pv 0)) (qWw (OD.val qX)) (qWw (OD.val qX))))) (fun _ _ _ _=>(jZ (i:=0) (show List.Nodup (["_law_cell"]:List Str) by decide +kernel) rfl (Or.inl rfl))) (fun _ _ _ _=>qJa) (fun _ _ _ _=>(OD.val (wG (qQ (pv 0)) (zV4 qX qX)))))
   (qV (sA (i:=3) jP.nd (wY qC))
   (qV (qJz bM rfl (qX3 rfl S.N3 (vA (wB rfl S.K3 (qQ (pv 2))) qC)) (jZ (i:=4) jP.nd rfl (Or.inl rfl)) (qV (sA (i:=5) jP.nd (OD.ow (wG (zV5 (qKb (o_ix hr (qQ (pv 2)) (qQ (pv 4))) (qQ (pv 4))) qX) qX)))
   (qV (sA (i:=6) jP.nd (OD.ow (yH (o_gt (wG (qQ (pv 1)) qX) qX) (qVj (qWq (qQ (pv 4)) (wG (vYr (qQ (pv 1)) qX) (wB rfl S.K3 (qQ (pv 2)))))))))
   (qJ (vJ (td_w (qQz (td_w (qKe (jJ (wG (qQ (pv 1)) qX) qX) (qYz (zJ (qQ (pv 6)))))) (qQp (td_w (qKe (jJ (wG (qQ (pv 1)) qX) qX) (qYz (jJ (wG (o_ix hr (qQ (pv 2)) (qQ (pv 4))) qX) qX))))))) (qJ (v4 (xE (qQ (pv 3)) (cA (as:=[(.v (oV (oN 5)))]) S.B2 (zVj S) hr (oA (qQ (pv 5)) qK))))) (qJ (vJ (td_w (qKe (jJ (wG (qQ (pv 1)) qX) qX) (qYz (zJ (qQ (pv 6)))))) (qJ (v4 (xE (qQ (pv 3)) (ed_v (qH (vA (vT qZ (od_e (cA (as:=[(.v (oV (oN 5)))]) S.v2 (qWj S) hr (oA (qQ (pv 5)) qK)))) (qO (qH (vA qZ (qO (qH (vA qZ (qO (ev_e (cA (as:=[(.v (oV (oN 5)))]) S.v2 (qWj S) hr (oA (qQ (pv 5)) qK))) qC))) qC))) qC))))))) (qJ (v4 (xE (qQ (pv 3)) (cA (as:=[(.v (oV (oMod (oDiv (oIx (oN 2) (oN 4)) (oC (.int 6))) (oC (.int 7))))),(.v (oV (oN 5)))]) S.y2 (zVi S) hr (oA (wG (vYr (o_ix hr (qQ (pv 2)) (qQ (pv 4))) qX) qX) (oA (qQ (pv 5)) qK)))))))))))))
   (qV (vJ (qJn (wG (vYr (qQ (pv 1)) qX) qX) qX) (qJ (v4 (xE (qQ (pv 3)) (ed_v (qH (vA qZ (qO (qH (vA qZ (qO (qH (vA qZ (vA qX qC))) qC))) qC))))))) qF)
   (qV (vJ (jJm hr (qQ (pv 3)) (od_e (wY qC))) (qJ (v4 (xE (qQ (pv 3)) (ed_v (qH (vA qZ (vA qKi qC))))))) qF)
   (qJ (qD (xB (pv 3)))))))))))
theorem qYx:FnOk P w K mg base (CXd P w) 1 S.F2 S.G2 ["_law_rows_here"] (spD K c 1 jC):=fnD S.H2.F qVe fun _ _ _ _ _ _ hr=>(qV (qJz bM rfl (qX3 rfl S.N3 (vA (wB rfl S.K3 (qQ (pv 0))) qC)) (jZ (i:=1) qVe.nd rfl (Or.inl rfl)) (qV (vJ (td_w (qQz (jJ (qQ (pv 1)) qX) (qQp (jJl (o_ix hr (o_ix hr (qQ (pv 0)) (qQ (pv 1))) qX) qKi)))) (qJ (qD (xB (pv 1)))) qF)
   (qJ (vJ (qJn (qWq (o_ix hr (o_ix hr (o_ix hr (qQ (pv 0)) (qQ (pv 1))) qX) qX) qZ) (qWq (qQ (pv 1)) (zV3 (wB rfl S.K3 (qQ (pv 0))) qX))) (qJ (qD (xB (pv 1)))) qF))))
   (qJ (qD (OD.ow qKi))))
theorem qZz:∀h:Nat,FnOk P w K mg base (CXd P w) (1 * h+1) S.I2 S.J2 ["_law_found","_law_due"] (spD K c 2 (vG h))
 | 0=>fnNo
 | h + 1=>by
   have ih:=qZz h
   exact FnOk.lv (by omega) (fnD (k:=1 * h+1) S.K2.F qVs fun _ _ _ _ _ _ hr=>(qV (vJ (zJ (yG (n:="str") (by decide) rfl S.J3 Boot.«isinstance» rfl S.P3 Boot.«str» (qQ (pv 1)))) (qJ (qD (OD.ow (yH (yG (n:="str") (by decide) rfl S.J3 Boot.«isinstance» rfl S.P3 Boot.«str» (qQ (pv 0))) (qVj (qWq (qQ (pv 0)) (qQ (pv 1)))))))) qF)
    (qV (vJ (zJ (yG (n:="int") (by decide) rfl S.J3 Boot.«isinstance» rfl S.I3 Boot.«int» (qQ (pv 1)))) (qJ (qD (OD.ow (yH (yG (n:="int") (by decide) rfl S.J3 Boot.«isinstance» rfl S.I3 Boot.«int» (qQ (pv 0))) (yH (zZ0 (yG (n:="bool") (by decide) rfl S.J3 Boot.«isinstance» rfl S.G3 Boot.«bool» (qQ (pv 0)))) (qVj (qWq (qQ (pv 0)) (qQ (pv 1))))))))) qF)
    (qV (vJ (td_w (qQz (qJn (yG (n:="tuple") (by decide) rfl S.J3 Boot.«isinstance» rfl S.Q3 Boot.«tuple» (qQ (pv 1))) (yG (n:="tuple") (by decide) rfl S.J3 Boot.«isinstance» rfl S.Q3 Boot.«tuple» (qQ (pv 0)))) (qQp (qJn (yG (n:="list") (by decide) rfl S.J3 Boot.«isinstance» rfl S.L3 Boot.«list» (qQ (pv 1))) (yG (n:="list") (by decide) rfl S.J3 Boot.«isinstance» rfl S.L3 Boot.«list» (qQ (pv 0))))))) (qJ (qD (OD.ow qZc))) qF)
    (qV (vJ (qJn (wB rfl S.K3 (qQ (pv 0))) (wB rfl S.K3 (qQ (pv 1)))) (qJ (qD (OD.ow qZc))) qF)
    (qV (qJz bM rfl (zKf rfl S.R3 (vA (qQ (pv 0)) (vA (qQ (pv 1)) qC))) (vXj rfl (qVa (jZ (i:=2) qVs.nd rfl (Or.inl rfl)) (qVa (jZ (i:=3) qVs.nd rfl (Or.inl rfl)) vZp))) (qJ (vJ (qVf (zJ (od_e (vZs (as:=[(.v (oV (oN 2))),(.v (oV (oN 3)))]) ih (hr.mono (by omega)) rfl S.K2.m S.K2.F.kp S.K2.b xD (oA (qQ (pv 2)) (oA (qQ (pv 3)) qK)))))) (qJ (qD (OD.ow qZc))) qF)))
    (qJ (qD (OD.ow qZc)))))))))
theorem qJx:FnOk P w K mg base (CXd P w) 210 S.M2 S.N2 ["_law_text","_law_row_here"] (spD K c 2 zB):=fnD S.O2.F qZ5 fun _ _ _ _ _ _ hr=>(qV (jVb (as:=[(.v (oV (oN 0)))]) (hd:=fun C=> [23].contains C) (vXo S) (hr.mono (by decide)) rfl S.s2.m S.s2.F.kp S.s2.b (oA (qQ (pv 0)) qK) rfl S.Z2 qZ5.nd (i:=2) rfl rfl S.v3 (fun ea=>(qV (vJ (td_w (qQz (zJ (qVk (tb:=[(23,false)]) (.inr ⟨_,rfl⟩) rfl S.r3 rfl S.J3 Boot.«isinstance» (vD rfl S.f3 rfl) (qQ (pv 2)))) (qQz (zJ (qVk (tb:=[(23,false)]) (.inr ⟨_,rfl⟩) rfl S.m3 rfl S.J3 Boot.«isinstance» (vD rfl S.a3 rfl) (qQ (pv 2)))) (qQz (zJ (qVk (tb:=[(23,false)]) (.inr ⟨_,rfl⟩) rfl S.n3 rfl S.J3 Boot.«isinstance» (vD rfl S.b3 rfl) (qQ (pv 2)))) (qQp (zJ (qVk (tb:=[(23,false)]) (.inr ⟨_,rfl⟩) rfl S.t3 rfl S.J3 Boot.«isinstance» (vD rfl S.h3 rfl) (qQ (pv 2))))))))) (qJ (qD (OD.ow qZc))) qF)
   (qV (vJ (td_w (qQz (zJ (qVk (tb:=[(23,false)]) (.inr ⟨_,rfl⟩) rfl S.p3 rfl S.J3 Boot.«isinstance» (vD rfl S.d3 rfl) (qQ (pv 2)))) (qQz (zJ (qVk (tb:=[(23,false)]) (.inr ⟨_,rfl⟩) rfl S.o3 rfl S.J3 Boot.«isinstance» (vD rfl S.c3 rfl) (qQ (pv 2)))) (qQp (zJ (qVk (tb:=[(23,false)]) (.inr ⟨_,rfl⟩) rfl S.q3 rfl S.J3 Boot.«isinstance» (vD rfl S.e3 rfl) (qQ (pv 2)))))))) (qJ (qD (OD.ow qZc))) qF)
   (qV (vJ (td_w (qQz (qVf (zJ (qVk (tb:=[(23,true)]) (.inr ⟨_,rfl⟩) rfl S.s3 rfl S.J3 Boot.«isinstance» (vD rfl S.g3 rfl) (qQ (pv 2))))) (qQp (qVf (zJ (qVk (tb:=[(23,true)]) (.inl ⟨_,rfl⟩) rfl S.u3 rfl S.J3 Boot.«isinstance» (vKn rfl S.E3 Boot.«ValueError» (v:=.ty "ValueError") rfl (by decide) (by decide)) (qQ (pv 2)))))))) (qJ (qD (OD.ow qZc))) qF)
   (qJ (qD (OD.ow (yH (yG (n:="int") (by decide) rfl S.J3 Boot.«isinstance» rfl S.I3 Boot.«int» (zV2 (Cs:=[23]) S.w3 (qQ (pv 2)))) (yH (zZ0 (yG (n:="bool") (by decide) rfl S.J3 Boot.«isinstance» rfl S.G3 Boot.«bool» (zV2 (Cs:=[23]) S.w3 (qQ (pv 2))))) (qVj (qWq (zV2 (Cs:=[23]) S.w3 (qQ (pv 2))) (qQ (pv 1))))))))))))))
   (qJ (qD (OD.ow qZc))))
theorem jWq:FnOk P w K mg base (CXd P w) 211 S.P2 S.Q2 ["_law_script"] (spD K c 1 vY5):=fnD S.R2.F qXk fun _ _ _ _ _ _ hr=>(qV (sA (i:=1) qXk.nd (cA (as:=[(.v (oV (oN 0)))]) S.E2 (vYg S) hr (oA (qQ (pv 0)) qK)))
   (qV (sA (i:=2) qXk.nd (OD.ow (jZg (od_e (qY7 rfl (Nc:=["_law_row_here"]) (cs:=[]) (qXo rfl (by decide +kernel) (by decide +kernel) (by decide +kernel)) (qJ3 (OD.val (qQ (pv 1)))) (fun _ _ _ _=>(jZ (i:=0) (show List.Nodup (["_law_row_here"]:List Str) by decide +kernel) rfl (Or.inl rfl))) (fun _ _ _ _=>qJa) (fun _ _ _ _=>(OD.val (o_ix hr (qQ (pv 0)) qX))))) ⟨rfl,rfl,rfl,rfl⟩)))
   (qV (sA (i:=3) qXk.nd (cA (as:=[(.v (oV (oN 1)))]) S.H2 (qYx S) hr (oA (qQ (pv 1)) qK)))
   (qV (vJ (jQ5 (qQ (pv 3)) qKi) (qJ (qD (cA (as:=[(.v (oV (oN 2))),(.v (oV (oN 3)))]) S.O2 (qJx S) hr (oA (qQ (pv 2)) (oA (qQ (pv 3)) qK))))) qF)
   (qV (vKf (i:=4) rfl qXk.nd rfl (Or.inl rfl) (Nc:=["_law_row_here"]) (cs:=[]) (qXo rfl (by decide +kernel) (by decide +kernel) (by decide +kernel)) (qJ3 (OD.val (qQ (pv 1)))) (fun _ _ _ _=>(jZ (i:=0) (show List.Nodup (["_law_row_here"]:List Str) by decide +kernel) rfl (Or.inl rfl))) (fun _ _ _ _=>qJa) (fun _ _ _ _=>(OD.val (o_ix hr (qQ (pv 0)) qX))))
   (qV (sA (i:=5) qXk.nd (cA (as:=[(.v (oV (oN 2)))]) S.s2 (vXo S) hr (oA (qQ (pv 2)) qK)))
   (qV (vJ (qVf (zJ (od_e (cA (as:=[(.b (pOf (oN 5))),(.v (oV (oN 4)))]) S.K2 (qZz S 10) hr (qG (qYh (qQ (pv 5))) (oA (qQ (pv 4)) qK)))))) (qJ (qD (OD.ow qZc))) qF)
   (qV (v4 (jWo (qQ (pv 5))))
   (qJ (qD (OD.ow (yH (od_e (cA (as:=[(.v (fzS (qP jY [(.v (oV (oN 2)))]))),(.v (oV (oN 4)))]) S.K2 (qZz S 10) hr (qG (od_v (ev_e (cA (as:=[(.v (oV (oN 2)))]) S.s2 (vXo S) hr (oA (qQ (pv 2)) qK)))) (oA (qQ (pv 4)) qK)))) (qVj (od_e (cA (as:=[(.v (oV (o2 addS (oN 2) (oC (.str "\n"))))),(.v (oV (oSub (oL lenD [(oN 1)]) (oC (.int 1)))))]) S.O2 (qJx S) hr (oA (vT (qQ (pv 2)) qZ) (oA (zV3 (wB rfl S.K3 (qQ (pv 1))) qX) qK)))))))))))))))))
end
def cm:Nat->aV:=fun n=>match n with | 9=>209 | 20=>24 | 21=>37 | 22=>49 | 23=>68 | 24=>87 | 25=>99 | 26=>111 | 27=>123 | 28=>135 | 30=>349 | 31=>272 | 32=>279 | 33=>239|_=>0
end X15
open PySem PySem.W PyProof.Rows L2 DX
set_option maxHeartbeats 0 in
theorem PySem.Challenge.cw_flipwright_k15_rows_holds : PySem.Challenge.rw_flipwright_k15_rows.Holds := by
 w_on;o_law;refine holds_open (q:=X15.vw) (loose:=X15.pg.boundNames) (Xt:=fun s=>xlAt X15.vw [] s && recOk (RowW.records (OpenRow.toRowW PySem.Challenge.rw_flipwright_k15_rows.row)) s) (XP:=XL X15.vw []) (Yf:=Hook.obs (kHook X15.KF X15.KA X15.KAs)) (Ya:=Hook.val (kHook X15.KF X15.KA X15.KAs)) (YP:=Hook.says (kHook X15.KF X15.KA X15.KAs)) (N:=7556) ?hl (Hook.of _) (Hook.keeps _) (fun s e=>xl_of s (Bool.and_eq_true_iff.mp e).1) XL.keeps (by rfl) (by rfl) (by rfl) (fun s e=>recFacts_of (Bool.and_eq_true_iff.mp e).2) (by rfl) (by first|assumption|decide +kernel) (by decide +kernel) ⟨rfl,rfl,rfl,rfl,rfl,by decide +kernel⟩ ?hw ?hc
 (case hw=>w_witness2);(case hl=>exact TH.left (k0:=12) rfl (by rfl) (fun _=>rfl) X15.zKj X15.jZ5 X15.zKi X15.zWw X15.jZ4 (by rfl));k_fill;refine DX.jJh (l:=PySem.Challenge.rw_flipwright_k15_rows) (k:=211) (x:="_law_script") rfl rfl ⟨rfl,by decide,by decide,rfl⟩ (fun w h Y=>PySem.W.kIn_of Y) X15.zWk ?F
 case F=>
  intro w mg fa h KX G hmg;let S:X15.Fs (X15.KF w.params) mg X15.cm:=by
   constructor
   iterate 2 all_goals try first
    |exact faM KX G (by k_is) (by k_is) (by k_is) (by k_is)
    |exact PySem.W.mg_of KX G (by k_is)
    |exact PySem.W.mg_none_of KX G (by k_is)
    |exact⟨by k_is,by k_is,by k_is⟩
    |exact⟨by k_is,by k_is,by k_is,by k_is⟩
    |k_is
    |exact qXz (by k_is) (by k_is) (by k_is) (fun _ _ _ _ _ _ us hl=>match us,hl with|[_],_=>rfl)
    |exact qXz (by k_is) (by k_is) (by k_is) (fun _ _ _ _ _ _ us hl=>match us,hl with|[_,_],_=>rfl)
    |exact qXz (by k_is) (by k_is) (by k_is) (fun _ _ _ _ _ _ us hl=>match us,hl with|[_,_,_],_=>rfl)
    |exact⟨DX.jZ2 (by kernel_rfl),by k_is,by k_is,by k_is,by k_is⟩
    |exact zW2 ⟨⟨by k_is,by k_is,by k_is,by k_is,by k_is⟩,by kit_is⟩ zKo
    |exact zW4 (by kts_exm) zKq
    |exact zW3 ⟨⟨by k_is,by k_is,by k_is,by k_is,by k_is⟩,by k_is,by k_is⟩ zKp
    |exact zW1 (C:=9) ⟨by k_is,by k_is,by k_is,by k_is⟩ (by unfold L2.yO;k_is) zKn
    |exact jWe [("flip",416),("pick",417),("if",418),("rest",419)] (n:=0) rfl rfl rfl (by decide)
  have e:fa=S.P2:=by have e:=hmg.symm.trans S.R2.m;cases e;rfl
  rw[e];exact⟨X15.cm,S.Q2,rfl,fun s u=>.of_eq rfl,fun base _ _=>X15.jWq S⟩
