import PyProof.Rows.All
import Wide.All
import OpenK.AllK
import Wide.FinOn
import PyProof.EqAt
import PyProof.EqKinds
import PyProof.TupleCall
import Lean
import PySem.Challenge.RW_flipwright_k13_lists
set_option Elab.async false
set_option linter.all false
set_option maxRecDepth 100000
set_option compiler.extract_closed false
set_option bootstrap.genMatcherCode false
open PySem.W renaming Frag → aQ, kitOne → bK, findIn → bO, kia_one → bR, keepIn → bT, fnOf → cB, emptyDict → cL, instObj → dB, behindTheImports → dC
open PySem renaming Addr → aV, wpAny_bind → aZ, starEach → aJ, Shared → aX, FuncData → aG, wpAny_pure → aL, sizeLine → aM, wpAny → aR, Program → bQ, World → bH, compareOp → bA, wpAny_mono → cZ, backTo → cU, mem_of_lookup → cD, Around → cE, mainGlobals → cG, wpAny_loadPart_at → cI, bootBuiltins → dQ, wpAny_truthy_bool → dJ, wpAny_field → dU, wpAny_seqItems → dS, typeIs_str → eJ, wpAny_setField_rec → eX, wpAny_Call_Name_kw → eY, wpAny_passesOwn → eW, wpAny_holding → eK, codeAny_call_builtin → eP
open List renaming length_cons → aY, length_append → aW, mem_cons_of_mem → aK, length_map → aP, getElem?_eq_some_iff → aB, mem_cons → aH, getElem?_eq_getElem → aO, mem_cons_self → aA, size_toArray → bV, map_map → bZ, map_cons → bJ, append_assoc → bX, getElem?_set_ne → bY, getD_eq_getElem?_getD → bP, mem_singleton → bU, contains_cons → bF, mem_append → bG, mem_append_right → bI, append_nil → bM, mem_map → cQ, length_set → cV, mem_filterMap → cJ, map_append → cX, length_drop → cY, cons_append → cW, getElem?_append_left → cC, getElem?_map → cN, getElem?_append_right → cS, replicate_succ → cT, drop_eq_getElem_cons → dY, zip_cons_cons → dW, contains_iff_mem → dP, length_take → dG, getElem?_cons_zero → dH, eq_nil_of_length_eq_zero → dM, length_range' → dN, getElem?_set_self → dO, nodup_cons → eQ, nil_append → eV, length_replicate → eZ
open PySem.Heap renaming get?_push_of_some → aU, lt_size → aC, get?_push_size → aN, size_push → cM
open Nat renaming le_refl → aD, lt_of_lt_of_le → aF, le_trans → aS, ne_of_lt → bW, le_of_ble_eq_true → cK, lt_irrefl → cF, zero_le → dF, ne_of_gt → dR, lt_of_le_of_lt → dA
open Bool renaming and_eq_true → aE, false_ne_true → aT, eq_iff_iff → cH
open PySem.PyData renaming keyHash → aI
open Option renaming map_eq_some_iff → bL
open PySem.PassesOwn renaming leaving → bN
open PySem.F renaming called_set → dX, slot_tuple_iterator_next → dD
open PySem.StrLaws renaming glued_eq_join → dI
open PyProof.Rows renaming callWith_type1 → dL
namespace L2
open PySem
def qV0(s:Stmt)(j:Nat):Stmt:=match s with
 |.ClassDef _ _ _ body _ _ _ _ _ _ _=>body.getD j (.Pass ⟨0,0,0,0⟩)
 |_=> .Pass ⟨0,0,0,0⟩
noncomputable def j6(s:Stmt):Arguments:=match s with
 |.FunctionDef _ a _ _ _ _ _ _ _ _=>a
 |_=> {posonlyargs:=[],args:=[],vararg:=none,kwonlyargs:=[],kw_defaults:=[],kwarg:=none,defaults:=[]}
noncomputable def jY(s:Stmt):List Stmt:=match s with
 |.FunctionDef _ _ b _ _ _ _ _ _ _=>b
 |_=> []
noncomputable def qW(s:Stmt):Scope:=match s with
 |.FunctionDef _ _ _ _ _ _ sc _ _ _=>sc
 |_=> {kind:=.function,names:=[],isGenerator:=false,isCoroutine:=false}
end L2
namespace TH
open PySem PySem.W PySem.Calls PyProof.Rows
variable{N k:Nat}{c:Code}{pos:Pos}{p:bQ}{ann:Option Value}{env:Env}
noncomputable def zJz:List Obj->Nat->BT->BT
 |[],_,t=>t
 |o::l,n,t=>zJz l (n+1) (t.ins n o)
noncomputable def ofS(s:aX):SharedT:=⟨zJz s.heap.objs.toList 0 .nil,s.heap.objs.size,s.heap.life,s.gens,s.drawn,s.toks,s.os⟩
section
variable{tb:String->Option Builtin}{p:bQ}{w:bH}{n₀:Nat}{ann:Option Value}{env:Env}{q:Pos}
theorem app{n:Nat}{s s' r:aX}{l:List Stmt}{c':Code}{p':Pos}(h:segRun tb p w n₀ ann 1 n s (piecesOf l env c pos [topFrame q])=some (.next,s',c',p'))(k:topRun tb p w n₀ ann N s' (restOf [] env c' p' [topFrame q])=some r):topRun tb p w n₀ ann (n+N) s (restOf l env c pos [topFrame q])=some r:=by
 obtain⟨a,ha,hN⟩:=seg_top (res:=id) (K' :=fun f=>match f with|.next =>(execs [] env).wrap doneF (leaveH env) id id|f=>doneF f) (H' :=leaveH env) (B:=[topFrame q]) rfl n s (piecesOf l env c pos [topFrame q])
  ⟨(execs l env).wrap (fun f=>match f with|.next =>(execs [] env).wrap doneF (leaveH env) id id|f=>doneF f) (leaveH env) id id,c,pos,[topFrame q]⟩ _ _ _ _ ⟨rfl,rfl,.inl ⟨rfl,rfl,_,rfl,rfl⟩⟩ h
 obtain rfl:a=.next :=ha
 have:=hN N r k;rw[show l=l ++ [] by simp];unfold restOf;rw[execs_app_wrap];exact this
end
noncomputable def vK0{β:Type}(p:bQ)(w:bH)(n₀:Nat)(ann:Option Value)(b:List Stmt)(env:Env)(c:Code)(pos q:Pos)(k:Nat)(s:SharedT)(look:aX->β):Option β:=
 match segRunT treeTable p w n₀ ann 1 k s (piecesOf b env c pos [topFrame q]) with
 |some (.next,s',c',p')=>(topRun treeTable p w n₀ ann 5 s'.abs (restOf [] env c' p' [topFrame q])).map look
 |_=>none
theorem jQy{β:Type}{w:bH}{n₀:Nat}{b:List Stmt}{q:Pos}{s:SharedT}{look:aX->β}{v:β}(h:vK0 p w n₀ ann b env c pos q k s look=some v):∃r,topRun treeTable p w n₀ ann (k+5) s.abs (restOf b env c pos [topFrame q])=some r/\look r=v:=by
 unfold vK0 at h;split at h
 ·next s' c' p' e=>
  obtain⟨r,hr,hv⟩:=bL.mp h;exact⟨r,app (segRun_of e) hr,hv⟩
 ·cases h
noncomputable def zJl{α:Type}(p q:bQ)(loose:List Str)(Xt:aX->Bool)(Yf:aX->α)(g0:Bool)(H₀:Heap)(s:aX):=
 ((staticsOk (importedModules p.main.body) H₀ s.heap && namesBound p s.heap && gensDone s && laidKept H₀ s.heap),openSeen q loose (importedModules p.main.body) Xt g0 s,Yf s)
theorem left{q:bQ}{loose:List Str}{Xt:aX->Bool}{α:Type}{Yf:aX->α}{Ya:bH->α}{g0:Bool}{m₀:Nat}{k0:Nat}{q0:Pos}{Sa:bH->OsState->aX}(e:opening p=plainProg p.main.scope.names)(hN:Nat.ble 600 N=true)(f:∀s,fenceModules? p s=some s)(size:∀w:bH,((boot_heap w.params).isNs cG,(boot_heap w.params).objs.size,(boot_heap w.params).nsMap cG "__annotations__")=(true,m₀,ann))(pre:∀(w:bH) (os:OsState),topGo treeTable p w m₀ ann k0 ⟨boot_heap w.params,Array.mk [],boot_drawn,boot_toks,os⟩ (topStub p)=
   some (Sa w os,⟨denote treeTable (.body (dC p) env),.body (dC p) env,pos,[topFrame q0]⟩))(tree:∀w os,(ofS (Sa w os)).abs =Sa w os)(block:blockStart (dC p) env=.pure ())(run:∀w os,vK0 p w m₀ ann (dC p) env (.body (dC p) env) pos q0 k (ofS (Sa w os)) (zJl p q loose Xt Yf g0 (boot_heap w.params))=some (true,openGood q loose,Ya w))(le:Nat.ble (k0+(1+(k+5))) N=true):LeftO p q loose Xt Yf Ya N g0:=fun w=>by
 obtain⟨⟨h,gs,d,kk,os⟩,e1,e'⟩:=bL.mp (boot_open (N:=N) e hN f w);obtain⟨rfl,rfl,rfl,rfl⟩:h=boot_heap w.params/\gs=Array.mk []/\d=boot_drawn/\kk=boot_toks:=by simpa using e'
 obtain⟨z1,z2,z3⟩:_/\_/\_:=by simpa only[Prod.mk.injEq] using size w
 obtain⟨r,hr,hv⟩:=jQy (run w os);rw[tree w os]at hr;have hb:segRun treeTable p w m₀ ann 1 1 (Sa w os) (blockOf (dC p) env (.body (dC p) env) pos [topFrame q0])=some (.next,Sa w os,.body (dC p) env,pos):=by
  unfold blockOf;rw[block];rfl
 have r1:=go_top (pre w os) (piece_block hb hr);have r2:=topRun_mono (N - (k0+(1+(k+5)))) _ _ _ _ r1;rw[show(k0+(1+(k+5)))+(N - (k0+(1+(k+5))))=N by have:=cK le;omega]at r2;obtain⟨l1,l2,l3⟩:_/\_/\_:=by simpa only[zJl,Prod.mk.injEq] using hv
 have t:topFrom treeTable p w N ⟨boot_heap w.params,Array.mk [],boot_drawn,boot_toks,os⟩=some r:=by
  unfold topFrom;dsimp only;rw[z1,z2,z3,r2];show(match staticsOk (importedModules p.main.body) (boot_heap w.params) r.heap && namesBound p r.heap && gensDone r && laidKept (boot_heap w.params) r.heap with|true=>_|false=>_)=_;rw[l1]
 unfold openEnds;rw[e1];show(topFrom treeTable p w N _).map _=_;rw[t];exact congrArg some (Prod.ext l2 l3)
end TH
namespace X13
open PySem L2 PyProof.Rows
def top(i:Nat):Stmt:=PySem.Challenge.pw_flipwright_k13_lists.main.body.getD i (.Pass ⟨0,0,0,0⟩)
abbrev qQv:Stmt:=qV0 (top 4) 0
abbrev qJz:Stmt:=qV0 (top 5) 0
abbrev qW0:Stmt:=top 11
abbrev qYo:Stmt:=top 13
abbrev vQr:Stmt:=top 14
abbrev qWv:Stmt:=top 15
abbrev qQx:Stmt:=qV0 (top 30) 0
abbrev qQw:Stmt:=qV0 (top 30) 1
abbrev wR:Stmt:=qV0 (top 30) 2
abbrev yU:Stmt:=qV0 (top 30) 3
abbrev qVh:Stmt:=qV0 (top 30) 4
abbrev qW4:Stmt:=top 31
abbrev qYp:Stmt:=top 32
abbrev qJr:Stmt:=top 33
abbrev qJk:Stmt:=top 34
abbrev qVf:Stmt:=top 35
abbrev qZf:Stmt:=top 40
abbrev qQu:Stmt:=top 39
abbrev qJl:Stmt:=top 36
abbrev qQs:Stmt:=top 37
abbrev qZd:Stmt:=top 38
abbrev qYm:Stmt:=top 41
abbrev qJn:Stmt:=top 42
abbrev qJj:Stmt:=top 43
abbrev qZg:Stmt:=top 44
abbrev qZe:Stmt:=top 45
abbrev qJm:Stmt:=top 46
abbrev qZc:Stmt:=top 47
abbrev qQt:Stmt:=top 48
abbrev qWw:Stmt:=top 49
abbrev qJi:Stmt:=top 50
abbrev qJh:Stmt:=top 51
abbrev qWz:Stmt:=top 52
abbrev qWy:Stmt:=top 53
abbrev qZh:Stmt:=top 54
abbrev qZb:Stmt:=top 55
abbrev yK:Stmt:=top 56
abbrev vJj:Stmt:=top 57
abbrev qWx:Stmt:=top 58
abbrev vYc:Stmt:=top 59
abbrev qJp:Stmt:=top 61
abbrev qJo:Stmt:=top 62
abbrev yP:Stmt:=top 63
abbrev qZj:Stmt:=top 64
abbrev qW1:Stmt:=top 65
abbrev qZi:Stmt:=top 66
abbrev qW3:Stmt:=top 67
abbrev qYn:Stmt:=top 68
abbrev qJq:Stmt:=top 69
abbrev qVg:Stmt:=top 70
abbrev qW2:Stmt:=top 71
abbrev zJe:Stmt:=top 72
noncomputable def fO(x q:Str)(s:Stmt)(m:Str)(t c:Nat):Obj:=⟨(.type "function"),none,(.func ⟨x,q,j6 s,.stmts (jY s),qW s,3,[],.none,.none,.none,(.str m t),none,(.ref c),.none,0⟩),#[]⟩
noncomputable def cO(x q:Str)(a b d:Nat)(l n v:Int)(e:Nat)(i:Int)(f g h j:Nat)(k o:Int)(p:Nat):Obj:=⟨(.type "code"),none,(.fields #[(.str x a),(.str q b),(.str "/claim/cut.py" d),(.int l 0),(.int n 0),(.int 0 0),(.int 0 0),(.int v 0),(.ref e),(.bool true),(.int i 0),(.ref f),.none,(.ref g),(.ref h),(.ref j),(.int k 0),(.int o 0),(.str "/claim/cut.py" p)]),#[]⟩
noncomputable def eR(P:Params)(x:Str)(t c:Nat):DictEntry:=⟨aI P x,.str x t,.ref c⟩
noncomputable def cP(c:Nat)(x:Str)(a:Nat)(l n:Int)(e:Nat):Obj:=cO x x a (a+1) (a+2) l n 3 (c - 5) 181 (c - 4) (c - 3) (c - 2) (c - 1) (e:Int) l (e+1)
noncomputable def g0(x:Str)(s:Stmt)(c:Nat):Obj:=fO x x s "flipwright.opening" 353 c
noncomputable def g1(x:Str)(s:Stmt)(c:Nat):Obj:=fO x x s "flipwright.words" 361 c
noncomputable def g2(x:Str)(s:Stmt)(c:Nat):Obj:=fO x x s "flipwright.reader" 390 c
noncomputable def g3(x:Str)(s:Stmt)(c:Nat):Obj:=fO x x s "law_flipwright_k13_lists" 731 c
def x1:Obj:=⟨(.type "tuple"),none,(.seq #[(.ref 24)] 0),#[]⟩
def x2:Obj:=⟨(.type "tuple"),none,(.seq #[] 0),#[]⟩
noncomputable def x3(c:Nat)(l:Int)(a:Nat)(P:Params):Obj:=⟨(.type "dict"),none,(.dict #[⟨aI P "__module__",(.str "__module__" (a+7)),(.str "flipwright.errors" 187)⟩,⟨aI P "__firstlineno__",(.str "__firstlineno__" (a+11)),(.int l (a+10))⟩,eR P "__static_attributes__" (a+12) (c+7),⟨aI P "__doc__",(.str "__doc__" (a+13)),.none⟩] 2),#[]⟩
noncomputable def x4(c:Nat)(x:Str)(a:Nat):Obj:=⟨(.type "type"),none,(.cls (.mk x [(.ref 24)] [(.ref (c+9)),(.ref 24),(.type "ValueError"),(.type "Exception"),(.type "BaseException"),(.type "object")] (c+8) x true [] [] false none false)),#[(some (.ref (c+0))),none,(some (.str x (a+0))),(some (.str x (a+8))),(some (.builtin "ValueError.__new__")),(some (.bool true))]⟩
noncomputable def KF:Params->aQ:=fun P=>
 (nat_lit 2,⟨.none,none,(.dict #[] 0),#[]⟩)::
 (nat_lit 3,⟨(.type "dict"),none,(.dict #[⟨aI P "__name__",(.str "__name__" 165),(.str "law_flipwright_k13_lists" 731)⟩,⟨aI P "__doc__",(.str "__doc__" 166),.none⟩,⟨aI P "__package__",(.str "__package__" 167),.none⟩,⟨aI P "__loader__",(.str "__loader__" 168),(.builtin "__main__.__loader__#opaque")⟩,⟨aI P "__spec__",(.str "__spec__" 169),.none⟩,eR P "__annotations__" 170 6,eR P "__builtins__" 171 4,⟨aI P "__file__",(.str "__file__" 173),(.str "/claim/cut.py" 172)⟩,⟨aI P "__cached__",(.str "__cached__" 174),.none⟩,eR P "FlipError" 206 24,eR P "NoShare" 222 37,eR P "Never" 238 49,eR P "NoText" 263 68,eR P "NoName" 288 87,eR P "TooMuch" 304 99,eR P "NoOrder" 320 111,eR P "NoNumber" 336 123,eR P "NoRow" 352 135,eR P "parts_of" 360 142,eR P "kind_of" 369 149,eR P "end_of" 379 156,eR P "words_of" 389 163,⟨aI P "MOST_ROWS",(.str "MOST_ROWS" 393),(.int 40 392)⟩,⟨aI P "MOST_SIGNS",(.str "MOST_SIGNS" 395),(.int 1000 394)⟩,⟨aI P "MOST_WORDS",(.str "MOST_WORDS" 397),(.int 60 396)⟩,⟨aI P "MOST_BRACKETS",(.str "MOST_BRACKETS" 399),(.int 10 398)⟩,⟨aI P "MOST_DEPTH",(.str "MOST_DEPTH" 401),(.int 10 400)⟩,⟨aI P "MOST_ROUNDS",(.str "MOST_ROUNDS" 403),(.int 30 402)⟩,⟨aI P "MOST_LETTERS",(.str "MOST_LETTERS" 405),(.int 8 404)⟩,⟨aI P "MOST_FIGURES",(.str "MOST_FIGURES" 407),(.int 12 406)⟩,⟨aI P "MOST_NUMBER",(.str "MOST_NUMBER" 409),(.int 999999999999 408)⟩,⟨aI P "MOST_WEIGHT",(.str "MOST_WEIGHT" 411),(.int 1000000 410)⟩,⟨aI P "MOST_PAIRS",(.str "MOST_PAIRS" 413),(.int 6 412)⟩,⟨aI P "MOST_TERMS",(.str "MOST_TERMS" 415),(.int 3 414)⟩,eR P "NO_NAMES" 420 164,eR P "Cursor" 483 209,eR P "is_small" 489 218,eR P "is_name" 496 225,eR P "is_number" 503 232,eR P "read_name" 511 239,eR P "read_number" 521 246,eR P "read_list" 532 253,eR P "refuse_alike" 540 260,eR P "read_pairs" 546 265,eR P "read_outcome" 554 272,eR P "read_field" 562 279,eR P "read_if" 570 286,eR P "read_flip" 579 293,eR P "read_rest" 588 300,eR P "read_built" 596 307,eR P "read_named" 604 314,eR P "read_head" 613 321,eR P "read_tight" 621 328,eR P "read_product" 629 335,eR P "read_sum" 638 342,eR P "read_term" 647 349,eR P "read_told" 654 356,eR P "read_def" 663 363,eR P "read_let" 671 370,eR P "read_again" 680 377,eR P "read_words" 688 384,eR P "most_brackets" 698 391,eR P "depth" 707 398,eR P "read_row" 718 405,eR P "read" 730 412,eR P "_law_names" 745 419,eR P "_law_twins" 755 426,eR P "_law_alike_two" 763 433,eR P "_law_joined" 771 440,eR P "_law_pick" 777 445,eR P "_law_record" 783 450,eR P "_law_call" 789 455,eR P "_law_def" 801 462,eR P "_law_alike" 811 469,eR P "_law_refused" 820 476,eR P "_law_good" 835 483,eR P "law" 843 490] 77),#[]⟩)::
 (nat_lit 15,⟨(.type "tuple"),none,(.seq #[(.type "ValueError")] 0),#[]⟩)::
 (nat_lit 22,x2)::
 (nat_lit 23,⟨(.type "dict"),none,(.dict #[⟨aI P "__module__",(.str "__module__" 196),(.str "flipwright.errors" 187)⟩,⟨aI P "__firstlineno__",(.str "__firstlineno__" 200),(.int 2 199)⟩,eR P "__static_attributes__" 201 22,eR P "__weakref__" 203 25,⟨aI P "__doc__",(.str "__doc__" 204),.none⟩] 3),#[]⟩)::
 (nat_lit 24,⟨(.type "type"),none,(.cls (.mk "FlipError" [(.type "ValueError")] [(.ref 24),(.type "ValueError"),(.type "Exception"),(.type "BaseException"),(.type "object")] 23 "FlipError" true [] [(.ref 37),(.ref 49),(.ref 68),(.ref 87),(.ref 99),(.ref 111),(.ref 123),(.ref 135)] false none false)),#[(some (.ref 15)),none,(some (.str "FlipError" 189)),(some (.str "FlipError" 197)),(some (.builtin "ValueError.__new__")),(some (.bool true))]⟩)::
 (nat_lit 25,⟨(.type "getset_descriptor"),none,(.fields #[(.str "__weakref__" 202),(.ref 24),(.builtin "ExceptionGroup.__weakref__"),.none]),#[]⟩)::
 (nat_lit 28,x1)::
 (nat_lit 35,x2)::
 (nat_lit 36,x3 28 4 207 P)::
 (nat_lit 37,x4 28 "NoShare" 207)::
 (nat_lit 40,x1)::
 (nat_lit 47,x2)::
 (nat_lit 48,x3 40 6 223 P)::
 (nat_lit 49,x4 40 "Never" 223)::
 (nat_lit 52,x1)::
 (nat_lit 64,cO "__init__" "NoText.__init__" 251 252 253 10 2 3 59 181 60 61 62 63 256 10 257)::
 (nat_lit 65,fO "__init__" "NoText.__init__" qQv "flipwright.errors" 187 64)::
 (nat_lit 66,⟨(.type "tuple"),none,(.seq #[(.str "row" 259)] 0),#[]⟩)::
 (nat_lit 67,⟨(.type "dict"),none,(.dict #[⟨aI P "__module__",(.str "__module__" 246),(.str "flipwright.errors" 187)⟩,⟨aI P "__firstlineno__",(.str "__firstlineno__" 250),(.int 8 249)⟩,eR P "__init__" 258 65,eR P "__static_attributes__" 260 66,⟨aI P "__doc__",(.str "__doc__" 261),.none⟩] 2),#[]⟩)::
 (nat_lit 68,⟨(.type "type"),none,(.cls (.mk "NoText" [(.ref 24)] [(.ref 68),(.ref 24),(.type "ValueError"),(.type "Exception"),(.type "BaseException"),(.type "object")] 67 "NoText" true [] [] false none false)),#[(some (.ref 52)),none,(some (.str "NoText" 239)),(some (.str "NoText" 247)),(some (.builtin "ValueError.__new__")),(some (.bool true))]⟩)::
 (nat_lit 71,x1)::
 (nat_lit 83,cO "__init__" "NoName.__init__" 276 277 278 14 2 3 78 181 79 80 81 82 281 14 282)::
 (nat_lit 84,fO "__init__" "NoName.__init__" qJz "flipwright.errors" 187 83)::
 (nat_lit 85,⟨(.type "tuple"),none,(.seq #[(.str "row" 284)] 0),#[]⟩)::
 (nat_lit 86,⟨(.type "dict"),none,(.dict #[⟨aI P "__module__",(.str "__module__" 271),(.str "flipwright.errors" 187)⟩,⟨aI P "__firstlineno__",(.str "__firstlineno__" 275),(.int 12 274)⟩,eR P "__init__" 283 84,eR P "__static_attributes__" 285 85,⟨aI P "__doc__",(.str "__doc__" 286),.none⟩] 2),#[]⟩)::
 (nat_lit 87,⟨(.type "type"),none,(.cls (.mk "NoName" [(.ref 24)] [(.ref 87),(.ref 24),(.type "ValueError"),(.type "Exception"),(.type "BaseException"),(.type "object")] 86 "NoName" true [] [] false none false)),#[(some (.ref 71)),none,(some (.str "NoName" 264)),(some (.str "NoName" 272)),(some (.builtin "ValueError.__new__")),(some (.bool true))]⟩)::
 (nat_lit 90,x1)::
 (nat_lit 97,x2)::
 (nat_lit 98,x3 90 16 289 P)::
 (nat_lit 99,x4 90 "TooMuch" 289)::
 (nat_lit 102,x1)::
 (nat_lit 109,x2)::
 (nat_lit 110,x3 102 18 305 P)::
 (nat_lit 111,x4 102 "NoOrder" 305)::
 (nat_lit 114,x1)::
 (nat_lit 121,x2)::
 (nat_lit 122,x3 114 20 321 P)::
 (nat_lit 123,x4 114 "NoNumber" 321)::
 (nat_lit 126,x1)::
 (nat_lit 133,x2)::
 (nat_lit 134,x3 126 22 337 P)::
 (nat_lit 135,x4 126 "NoRow" 337)::
 (nat_lit 141,⟨(.type "code"),none,(.fields #[(.str "parts_of" 355),(.str "parts_of" 356),(.str "/claim/cut.py" 357),(.int 25 0),(.int 1 0),(.int 0 0),(.int 0 0),(.int 3 0),(.ref 138),(.bool true),(.int 181 0),(.ref 139),.none,.none,.none,(.ref 140),(.int 358 0),(.int 25 0),(.str "/claim/cut.py" 359)]),#[]⟩)::
 (nat_lit 142,g0 "parts_of" qW0 141)::
 (nat_lit 148,cP 148 "kind_of" 363 39 1 367)::
 (nat_lit 149,g1 "kind_of" qYo 148)::
 (nat_lit 155,cP 155 "end_of" 370 47 2 377)::
 (nat_lit 156,g1 "end_of" vQr 155)::
 (nat_lit 162,cP 162 "words_of" 380 53 1 387)::
 (nat_lit 163,g1 "words_of" qWv 162)::
 (nat_lit 164,⟨(.type "tuple"),none,(.seq #[(.str "flip" 416),(.str "pick" 417),(.str "if" 418),(.str "rest" 419)] 0),#[]⟩)::
 (nat_lit 177,cO "__init__" "Cursor.__init__" 433 434 435 78 3 3 172 181 173 174 175 176 439 78 440)::
 (nat_lit 178,fO "__init__" "Cursor.__init__" qQx "flipwright.reader" 390 177)::
 (nat_lit 184,cO "ahead" "Cursor.ahead" 442 443 444 83 1 3 179 181 180 181 182 183 446 83 447)::
 (nat_lit 185,fO "ahead" "Cursor.ahead" qQw "flipwright.reader" 390 184)::
 (nat_lit 191,cO "next_word" "Cursor.next_word" 449 450 451 88 1 3 186 181 187 188 189 190 454 88 455)::
 (nat_lit 192,fO "next_word" "Cursor.next_word" wR "flipwright.reader" 390 191)::
 (nat_lit 198,cO "passed" "Cursor.passed" 457 458 459 93 2 3 193 181 194 195 196 197 462 93 463)::
 (nat_lit 199,fO "passed" "Cursor.passed" yU "flipwright.reader" 390 198)::
 (nat_lit 205,cO "need" "Cursor.need" 465 466 467 99 2 3 200 181 201 202 203 204 470 99 471)::
 (nat_lit 206,fO "need" "Cursor.need" qVh "flipwright.reader" 390 205)::
 (nat_lit 207,⟨(.type "tuple"),none,(.seq #[(.str "place" 473),(.str "row" 474),(.str "words" 475)] 0),#[]⟩)::
 (nat_lit 208,⟨(.type "dict"),none,(.dict #[⟨aI P "__module__",(.str "__module__" 428),(.str "flipwright.reader" 390)⟩,⟨aI P "__firstlineno__",(.str "__firstlineno__" 432),(.int 76 431)⟩,eR P "__init__" 441 178,eR P "ahead" 448 185,eR P "next_word" 456 192,eR P "passed" 464 199,eR P "need" 472 206,eR P "__static_attributes__" 476 207,eR P "__dict__" 478 210,eR P "__weakref__" 480 211,⟨aI P "__doc__",(.str "__doc__" 481),.none⟩] 4),#[]⟩)::
 (nat_lit 209,⟨(.type "type"),none,(.cls (.mk "Cursor" [(.type "object")] [(.ref 209),(.type "object")] 208 "Cursor" true [] [] false none false)),#[none,none,(some (.str "Cursor" 421)),(some (.str "Cursor" 429)),(some (.builtin "object.__new__")),(some (.bool true))]⟩)::
 (nat_lit 210,⟨(.type "getset_descriptor"),none,(.fields #[(.str "__dict__" 477),(.ref 209),(.builtin "function.__dict__"),(.builtin "function.__dict__#set")]),#[]⟩)::
 (nat_lit 211,⟨(.type "getset_descriptor"),none,(.fields #[(.str "__weakref__" 479),(.ref 209),(.builtin "ExceptionGroup.__weakref__"),.none]),#[]⟩)::
 (nat_lit 217,⟨(.type "code"),none,(.fields #[(.str "is_small" 484),(.str "is_small" 485),(.str "/claim/cut.py" 486),(.int 102 0),(.int 1 0),(.int 0 0),(.int 0 0),(.int 3 0),(.ref 214),(.bool true),(.int 181 0),(.ref 215),.none,.none,.none,(.ref 216),(.int 487 0),(.int 102 0),(.str "/claim/cut.py" 488)]),#[]⟩)::
 (nat_lit 218,g2 "is_small" qW4 217)::
 (nat_lit 224,cP 224 "is_name" 490 104 1 494)::
 (nat_lit 225,g2 "is_name" qYp 224)::
 (nat_lit 231,cP 231 "is_number" 497 106 1 501)::
 (nat_lit 232,g2 "is_number" qJr 231)::
 (nat_lit 238,cP 238 "read_name" 504 108 1 509)::
 (nat_lit 239,g2 "read_name" qJk 238)::
 (nat_lit 245,cP 245 "read_number" 512 113 3 519)::
 (nat_lit 246,g2 "read_number" qVf 245)::
 (nat_lit 252,cP 252 "read_list" 522 118 4 530)::
 (nat_lit 253,g2 "read_list" qJl 252)::
 (nat_lit 259,cP 259 "refuse_alike" 533 128 2 538)::
 (nat_lit 260,g2 "refuse_alike" qQs 259)::
 (nat_lit 264,⟨(.type "code"),none,(.fields #[(.str "read_pairs" 541),(.str "read_pairs" 542),(.str "/claim/cut.py" 543),(.int 131 0),(.int 3 0),(.int 0 0),(.int 0 0),(.int 3 0),(.ref 261),(.bool true),(.int 181 0),(.ref 262),.none,.none,.none,(.ref 263),(.int 544 0),(.int 131 0),(.str "/claim/cut.py" 545)]),#[]⟩)::
 (nat_lit 265,g2 "read_pairs" qZd 264)::
 (nat_lit 271,cP 271 "read_outcome" 547 137 1 552)::
 (nat_lit 272,g2 "read_outcome" qQu 271)::
 (nat_lit 278,cP 278 "read_field" 555 141 1 560)::
 (nat_lit 279,g2 "read_field" qZf 278)::
 (nat_lit 285,cP 285 "read_if" 563 145 1 568)::
 (nat_lit 286,g2 "read_if" qYm 285)::
 (nat_lit 292,cP 292 "read_flip" 571 150 1 577)::
 (nat_lit 293,g2 "read_flip" qJn 292)::
 (nat_lit 299,cP 299 "read_rest" 580 156 1 586)::
 (nat_lit 300,g2 "read_rest" qJj 299)::
 (nat_lit 306,cP 306 "read_built" 589 162 2 594)::
 (nat_lit 307,g2 "read_built" qZg 306)::
 (nat_lit 313,cP 313 "read_named" 597 171 2 602)::
 (nat_lit 314,g2 "read_named" qZe 313)::
 (nat_lit 320,cP 320 "read_head" 605 177 1 611)::
 (nat_lit 321,g2 "read_head" qJm 320)::
 (nat_lit 327,cP 327 "read_tight" 614 190 1 619)::
 (nat_lit 328,g2 "read_tight" qZc 327)::
 (nat_lit 334,cP 334 "read_product" 622 195 1 627)::
 (nat_lit 335,g2 "read_product" qQt 334)::
 (nat_lit 341,cP 341 "read_sum" 630 200 1 636)::
 (nat_lit 342,g2 "read_sum" qWw 341)::
 (nat_lit 348,cP 348 "read_term" 639 206 1 645)::
 (nat_lit 349,g2 "read_term" qJi 348)::
 (nat_lit 355,cP 355 "read_told" 648 212 1 652)::
 (nat_lit 356,g2 "read_told" qJh 355)::
 (nat_lit 362,cP 362 "read_def" 655 215 1 661)::
 (nat_lit 363,g2 "read_def" qWz 362)::
 (nat_lit 369,cP 369 "read_let" 664 221 1 669)::
 (nat_lit 370,g2 "read_let" qWy 369)::
 (nat_lit 376,cP 376 "read_again" 672 224 1 678)::
 (nat_lit 377,g2 "read_again" qZh 376)::
 (nat_lit 383,cP 383 "read_words" 681 228 1 686)::
 (nat_lit 384,g2 "read_words" qZb 383)::
 (nat_lit 390,cP 390 "most_brackets" 689 239 1 696)::
 (nat_lit 391,g2 "most_brackets" yK 390)::
 (nat_lit 397,cP 397 "depth" 699 249 1 705)::
 (nat_lit 398,g2 "depth" vJj 397)::
 (nat_lit 404,cP 404 "read_row" 708 254 2 716)::
 (nat_lit 405,g2 "read_row" qWx 404)::
 (nat_lit 411,cP 411 "read" 719 265 1 728)::
 (nat_lit 412,g2 "read" vYc 411)::
 (nat_lit 418,cP 418 "_law_names" 733 277 2 743)::
 (nat_lit 419,g3 "_law_names" qJp 418)::
 (nat_lit 425,cP 425 "_law_twins" 746 286 2 753)::
 (nat_lit 426,g3 "_law_twins" qJo 425)::
 (nat_lit 432,cP 432 "_law_alike_two" 756 292 1 761)::
 (nat_lit 433,g3 "_law_alike_two" yP 432)::
 (nat_lit 439,cP 439 "_law_joined" 764 297 2 769)::
 (nat_lit 440,g3 "_law_joined" qZj 439)::
 (nat_lit 444,⟨(.type "code"),none,(.fields #[(.str "_law_pick" 772),(.str "_law_pick" 773),(.str "/claim/cut.py" 774),(.int 307 0),(.int 3 0),(.int 0 0),(.int 0 0),(.int 3 0),(.ref 441),(.bool true),(.int 181 0),(.ref 442),.none,.none,.none,(.ref 443),(.int 775 0),(.int 307 0),(.str "/claim/cut.py" 776)]),#[]⟩)::
 (nat_lit 445,g3 "_law_pick" qW1 444)::
 (nat_lit 449,⟨(.type "code"),none,(.fields #[(.str "_law_record" 778),(.str "_law_record" 779),(.str "/claim/cut.py" 780),(.int 314 0),(.int 3 0),(.int 0 0),(.int 0 0),(.int 3 0),(.ref 446),(.bool true),(.int 181 0),(.ref 447),.none,.none,.none,(.ref 448),(.int 781 0),(.int 314 0),(.str "/claim/cut.py" 782)]),#[]⟩)::
 (nat_lit 450,g3 "_law_record" qZi 449)::
 (nat_lit 454,⟨(.type "code"),none,(.fields #[(.str "_law_call" 784),(.str "_law_call" 785),(.str "/claim/cut.py" 786),(.int 320 0),(.int 3 0),(.int 0 0),(.int 0 0),(.int 3 0),(.ref 451),(.bool true),(.int 181 0),(.ref 452),.none,.none,.none,(.ref 453),(.int 787 0),(.int 320 0),(.str "/claim/cut.py" 788)]),#[]⟩)::
 (nat_lit 455,g3 "_law_call" qW3 454)::
 (nat_lit 461,cP 461 "_law_def" 790 324 3 799)::
 (nat_lit 462,g3 "_law_def" qYn 461)::
 (nat_lit 468,cP 468 "_law_alike" 802 329 2 809)::
 (nat_lit 469,g3 "_law_alike" qJq 468)::
 (nat_lit 475,cP 475 "_law_refused" 812 342 2 818)::
 (nat_lit 476,g3 "_law_refused" qVg 475)::
 (nat_lit 482,cP 482 "_law_good" 821 354 1 833)::
 (nat_lit 483,g3 "_law_good" qW2 482)::
 (nat_lit 489,cP 489 "law" 836 376 1 841)::
 (nat_lit 490,g3 "law" zJe 489):: []
def KA:List aV:=[2,3,15,22,23,24,25,28,35,36,37,40,47,48,49,52,64,65,66,67,68,71,83,84,85,86,87,90,97,98,99,102,109,110,111,114,121,122,123,126,133,134,135,141,142,148,149,155,156,162,163,164,177,178,184,185,191,192,198,199,205,206,207,208,209,210,211,217,218,224,225,231,232,238,239,245,246,252,253,259,260,264,265,271,272,278,279,285,286,292,293,299,300,306,307,313,314,320,321,327,328,334,335,341,342,348,349,355,356,362,363,369,370,376,377,383,384,390,391,397,398,404,405,411,412,418,419,425,426,432,433,439,440,444,445,449,450,454,455,461,462,468,469,475,476,482,483,489,490]
theorem KAs(P:Params):KA=List.map (fun x=>x.fst) (KF P):=by kernel_rfl
abbrev pg:bQ:=PySem.Challenge.rw_flipwright_k13_lists.row.toRowW.prog
noncomputable def vw:bQ:={pg with main:={pg.main with body:=pg.main.body.drop 72}}
noncomputable def ev0:Env:={scope:=pg.main.scope,locals:=mainNs,globals:=mainNs,cells:=[],code:=.ref 13,frame:=some 14}
noncomputable def Sa(w:bH)(os:OsState):aX:=match PySem.W.topGo treeTable pg w 11 (some (.ref 6)) 12 ⟨PySem.W.boot_heap w.params,Array.mk [],PySem.W.boot_drawn,PySem.W.boot_toks,os⟩ (PySem.W.topStub pg) with|some r=>r.1|none=>⟨PySem.W.boot_heap w.params,Array.mk [],PySem.W.boot_drawn,PySem.W.boot_toks,os⟩
theorem jW8(w:bH)(os:OsState):PySem.W.topGo treeTable pg w 11 (some (.ref 6)) 12 ⟨PySem.W.boot_heap w.params,Array.mk [],PySem.W.boot_drawn,PySem.W.boot_toks,os⟩ (PySem.W.topStub pg)=
   some (Sa w os,⟨denote treeTable (.body (PySem.W.behindTheImports pg) ev0),.body (PySem.W.behindTheImports pg) ev0,default,[PySem.W.topFrame default]⟩):=by kernel_rfl
theorem jVa(w:bH)(os:OsState):(TH.ofS (Sa w os)).abs =Sa w os:=by kernel_rfl
theorem zYr:blockStart (PySem.W.behindTheImports pg) ev0=.pure ():=by kernel_rfl
theorem jVb(w:bH):((PySem.W.boot_heap w.params).isNs cG,(PySem.W.boot_heap w.params).objs.size,(PySem.W.boot_heap w.params).nsMap cG "__annotations__")=(true,11,some (.ref 6)):=by kernel_rfl
set_option maxHeartbeats 0 in
theorem jW7(w:bH)(os:OsState):TH.vK0 pg w 11 (some (.ref 6)) (PySem.W.behindTheImports pg) ev0 (.body (PySem.W.behindTheImports pg) ev0) default default 3915 (TH.ofS (Sa w os)) (TH.zJl pg vw pg.boundNames (fun s=>PySem.W.xlAt vw [] s && PySem.W.recOk (PySem.W.RowW.records (PySem.W.OpenRow.toRowW PySem.Challenge.rw_flipwright_k13_lists.row)) s) (PySem.W.Hook.obs (PySem.W.kHook KF KA KAs)) true (PySem.W.boot_heap w.params))=some (true,PySem.W.openGood vw pg.boundNames,PySem.W.Hook.val (PySem.W.kHook KF KA KAs) w):=by kernel_rfl
end X13
namespace L2
open PySem PySem.Spec PyProof.Rows
variable{us:List Value}{H:Hp}{α:Type}{h base:Heap}{g':Array GenState}{t' i j k n:Nat}{d':Drawn}{ch fp:List aV}{it dx C:aV}{N ps:List Str}{M:Model}{A:cE}{Q:Value->aX->Prop}{X:Cx}{s:aX}{pos pos':Pos}{pins:List (aV×Obj)}{y:V}{K:aQ}{es:List Expr}{g:Int->Int->Int}{op op':CmpOp}{body:List Stmt}{r':R2}{pl:Sem Bool}{kw:List (Str×Value)}{mg:Str->Option Value}{CX:CXT}{fd:aG}{sp:Sp}{outer:List Env}{vs:List V}{kindOf:Str->Option NameKind}{qual:Str}{scope:Scope}
noncomputable abbrev Key:=Sum Int Str
noncomputable def qXf:Key->Value->Bool
 |.inl k,v=>Value.isInt k v
 |.inr x,v=>Value.isStrOf x v
noncomputable def keyH(w:bH):Key->Int
 |.inl k=>hashInt k
 |.inr x=>hashStr w x
theorem zE:∀{k:Key} {v:Value},qXf k v=true->(∃i t,k=Sum.inl i/\v=Value.int i t)\/(∃x t,k=Sum.inr x/\v=Value.str x t)
 | .inl i,v,h=>by
   obtain⟨t,e⟩:=Value.isInt_shape (k:=i) (v:=v) h;exact .inl ⟨i,t,rfl,e⟩
 | .inr x,v,h=>by
   obtain⟨t,e⟩:=Value.isStrOf_shape (x:=x) (v:=v) h;exact .inr ⟨x,t,rfl,e⟩
theorem vZo(i:Int)(t:Tok):qXf (.inl i) (.int i t)=true:=by simp[qXf,Value.isInt]
theorem vZn(x:Str)(t:Tok):qXf (.inr x) (.str x t)=true:=by simp[qXf,Value.isStrOf]
theorem jWu(a b:Int):decide ((Sum.inl a:Key)=Sum.inl b)=(a == b):=by
 grind
theorem jWr(a b:Str):decide ((Sum.inr a:Key)=Sum.inr b)=decide (a=b):=by
 grind
theorem jWt(a:Int)(b:Str):decide ((Sum.inl a:Key)=Sum.inr b)=false:=decide_eq_false (fun q=>nomatch q)
theorem jWs(a:Str)(b:Int):decide ((Sum.inr a:Key)=Sum.inl b)=false:=decide_eq_false (fun q=>nomatch q)
noncomputable def jJ(prog:bQ)(w:bH):PySem.KeyKind prog w Key where
 is:=qXf;hash:=keyH w;inj:=fun v a b ha hb=>by
  rcases zE ha with⟨i,t,rfl,rfl⟩|⟨x,t,rfl,rfl⟩
  ·rcases zE hb with⟨j,u,rfl,e⟩ | ⟨y,u,rfl,e⟩
   ·injection e with e1 _;rw[e1]
   ·exact nomatch e
  ·rcases zE hb with⟨j,u,rfl,e⟩ | ⟨y,u,rfl,e⟩
   ·exact nomatch e
   ·injection e with e1 _;rw[e1]
 byValue:=fun k v h=>by
  rcases zE h with⟨i,t,rfl,rfl⟩|⟨x,t,rfl,rfl⟩ <;> rfl
 pyHash:=fun hv h=>by
  rcases zE hv with⟨i,t,rfl,rfl⟩|⟨x,t,rfl,rfl⟩
  ·exact wpAny_pyHash_int h
  ·exact wpAny_pyHash_str h
 eqBool:=fun hu hv h=>by
  rcases zE hu with⟨i,t,rfl,rfl⟩|⟨x,t,rfl,rfl⟩
  ·rcases zE hv with⟨j,u,rfl,rfl⟩ | ⟨y,u,rfl,rfl⟩
   ·rw[jWu]at h;exact wpAny_eqBool_int h
   ·rw[jWt]at h;exact SeqAt.EqAt.int_str i t y u _ _ _ _ h
  ·rcases zE hv with⟨j,u,rfl,rfl⟩ | ⟨y,u,rfl,rfl⟩
   ·rw[jWs]at h;exact SeqAt.EqAt.str_int x t j u _ _ _ _ h
   ·rw[jWr]at h;exact wpAny_eqBool_str h
 «strs»:=fun k x t v h=>by
  rcases zE h with⟨i,u,rfl,e⟩|⟨y,u,rfl,e⟩
  ·exact nomatch e
  ·injection e with e1 _
   subst e1;cases v <;> rfl
theorem vXw(prog:bQ)(w:bH)(i:Int)(t:Tok):(jJ prog w).is (.inl i) (.int i t)=true:=vZo i t
theorem vXv(prog:bQ)(w:bH)(x:Str)(t:Tok):(jJ prog w).is (.inr x) (.str x t)=true:=vZn x t
inductive V where
 |non|bl (b:Bool)|int (i:Int)|str (x:Str)|byt (b:Array UInt8)|flt (b:UInt64)|ref (a:aV)|ty (n:String)
 deriving DecidableEq
noncomputable def RelV:V->Value->Prop
 |.non,u=>u=Value.none
 |.bl b,u=>u=Value.bool b
 |.int i,u=>∃t,u=Value.int i t
 |.str x,u=>∃t,u=Value.str x t
 |.byt b,u=>∃t,u=Value.bytes b t
 |.flt b,u=>∃t,u=Value.float b t
 |.ref a,u=>u=Value.ref a
 |.ty n,u=>u=Value.type n
noncomputable abbrev Vals:List V->List Value->Prop:=Paired RelV
theorem Vals.length{xs:List V}(r:Vals xs us):xs.length=us.length:=Paired.length r
theorem Vals.get:∀{xs:List V} {us:List Value} {i:Nat} {x:V},Vals xs us->xs[i]?=some x->∃u,us[i]?=some u/\RelV x u
 |_,_,_,_,.nil,e=>by simp at e
 |_,_,0,_,.cons r _,e=>by simp at e;subst e;exact⟨_,rfl,r⟩
 | _,_,i + 1,x, .cons _ t,e=>by
   obtain⟨u,h1,h2⟩:=Vals.get (i:=i) (x:=x) t (by simpa using e);exact⟨u,by simpa using h1,h2⟩
theorem Vals.set{x:V}{u:Value}(r:RelV x u):∀{xs:List V} {us:List Value} (i:Nat),Vals xs us->Vals (xs.set i x) (us.set i u)
 |_,_,_,.nil =>.nil
 |_,_,0,.cons _ t=>.cons r t
 |_,_,i+1,.cons q t=>.cons q (Vals.set r i t)
theorem Vals.append:∀{xs ys:List V} {us ws:List Value},Vals xs us->Vals ys ws->Vals (xs ++ ys) (us ++ ws)
 |_,_,_,_,.nil,s=>s
 |_,_,_,_,.cons r t,s=>.cons r (Vals.append t s)
theorem Vals.take:∀{xs:List V} {us:List Value} (n:Nat),Vals xs us->Vals (xs.take n) (us.take n)
 |_,_,0,_=>.nil
 |_,_,_+1,.nil =>.nil
 |_,_,n+1,.cons r t=>.cons r (Vals.take n t)
theorem Vals.drop:∀{xs:List V} {us:List Value} (n:Nat),Vals xs us->Vals (xs.drop n) (us.drop n)
 |_,_,0,r=>r
 |_,_,_+1,.nil =>.nil
 |_,_,n+1,.cons _ t=>Vals.drop n t
noncomputable def RelO:Option V->Option Value->Prop
 |some v,some u=>RelV v u
 |none,none=>True
 |_,_=>False
noncomputable def KV{κ:Type}:List (κ×V)->List (κ×Value)->Prop:=Paired fun(p:κ×V) (q:κ×Value)=>p.1=q.1/\RelV p.2 q.2
noncomputable def kV:Key->V
 |.inl i=>.int i
 |.inr x=>.str x
inductive HO where
  |lst (xs:List V)
  |tup (xs:List V)
  |dK (kvs:List (Key×V))|dT (kvs:List (List Key×V))
  |set (S:Int->Bool) (n:Nat)
  |ins (C dx:aV) (fs:List (Str×V))
  |own (x:aV)
  |xd (fs:List (Str×V))
  |met (f x:aV)
  |rng (lo hi:Int)
  |frz (o:Obj) (u:HO)
  |tbl (ps:Array Value)
 | tab (l c:Nat) (q:Str)
   |ext (φ:Heap->Prop)
noncomputable abbrev Hp:=aV->Option HO
noncomputable def upd(H:Hp)(a:aV)(o:HO):Hp:=fun b=>if b=a then some o else H b
theorem upd_same{a:aV}{o:HO}:upd H a o a=some o:=by unfold upd;rw[if_pos rfl]
theorem qM{a b:aV}{o:HO}(h:b≠a):upd H a o b=H b:=by unfold upd;rw[if_neg h]
theorem vI{a b:aV}{o:HO}(h:H a=some o)(h' :H b=none):a≠b:=by
 grind
noncomputable def TabL(H:Hp)(h:Heap)(a:aV)(l c:Nat)(q:Str)(ps:List Value):Prop:=ps=[]\/∃c1 co fs t,ps=[rawInt l,rawInt c,.ref c1]/\H c1=some (.own a)/\h.get? c1=some co/\co.data=.fields fs/\fs[1]?=some (.str q t)
section
variable(P:bQ)(w:bH)
noncomputable def v5(H:Hp)(h:Heap)(a:aV):HO->Prop
 |.lst xs=>xs.length<=aM/\∃(its:List Value) (n:Nat),Vals xs its/\h.get? a=some {cls:=.type "list",data:=.seq its.toArray n}
 |.tup xs=>xs.length<=aM/\∃its:List Value,Vals xs its/\IsTup h a its.toArray
 |.dK kvs=>kvs.length<=aM/\(a == sysModules)=false/\∃vs,KV kvs vs/\h.DictOf (jJ P w) a vs
 | .dT kvs=>kvs.length<=aM/\(a == sysModules)=false/\∃xs:List (List Key×aV×Value),
   Paired (fun(p:List Key×V) (q:List Key×aV×Value)=>p.1=q.1/\H q.2.1=some (.tup (p.1.map kV))/\RelV p.2 q.2.2) kvs xs/\
   ∃o es ep,h.get? a=some o/\o.ExactDict/\o.data=.dict es ep/\es.toList=xs.map (entryOfKey (tupleKind (jJ P w)))/\(xs.map (·.1)).Nodup
 |.set S n=>h.SetOf (intKind P w) a S n
 | .ins C dx fs=>H dx=some (.own a)/\fs.length<=1000/\dx≠a/\h.get? a=some (dB C dx)/\
   ∃mA,h.Ns1 dx mA/\(∀f,RelO (fs.lookup f) (mA f))/\PySem.Within mA (fs.map (·.1))
 |.own _=>∃o,h.get? a=some o
 |.xd fs=>∃mA,h.Ns1 a mA/\∀f,RelO (fs.lookup f) (mA f)
 |.rng lo hi=>∃t u v,h.get? a=some {cls:=.type "range",data:=.fields #[.int lo t,.int hi u,.int 1 v]}
 |.frz o u=>h.get? a=some o/\v5 H h a u
 |.tbl ps=>h.get? a=some {cls:=.none,data:=.fields ps}
 |.tab l c q=>∃ps,h.get? a=some {cls:=.none,data:=.fields ps}/\TabL H h a l c q ps.toList
 |.met f x=>h.get? a=some (PySem.W.methodObj (.ref f) (.ref x))
 |.ext φ=>φ h/\(∃o,h.get? a=some o)/\∀h1 h2:Heap,φ h1->(∀o,h1.get? a=some o->h2.get? a=some o)->φ h2
noncomputable def HOk(H:Hp)(h:Heap):Prop:=∀a o,H a=some o->v5 P w H h a o
end
section
variable{P:bQ}{w:bH}{H H' :Hp}{h h' :Heap}{a:aV}{o:HO}
theorem v5.lt(x:v5 P w H h a o):a<h.objs.size:=by
 cases o with
 |lst xs=>obtain⟨_,_,_,_,e⟩:=x;exact aC e
 |tup xs=>obtain⟨_,_,_,p⟩:=x;exact p.lt
 |dK kvs=>obtain⟨_,_,_,_,o,_,_,e,_⟩:=x;exact aC e
 |dT kvs=>obtain⟨_,_,_,_,o,_,_,e,_⟩:=x;exact aC e
 |set S n=>obtain⟨o,_,_,_,e,_⟩:=x;exact aC e
 |ins C dx fs=>obtain⟨_,_,_,e,_⟩:=x;exact aC e
 |own y=>obtain⟨_,e⟩:=x;exact aC e
 |xd fs=>obtain⟨_,⟨_,_,_,e,_⟩,_⟩:=x;exact aC e
 |rng lo hi=>obtain⟨_,_,_,e⟩:=x;exact aC e
 |frz ob u=>obtain⟨e,_⟩:=x;exact aC e
 |tbl ps=>exact aC (show h.get? a=some _ from x)
 |tab l c q=>obtain⟨_,e,_⟩:=x;exact aC e
 |met f y=>exact aC (show h.get? a=some _ from x)
 |ext φ=>obtain⟨_,⟨_,e⟩,_⟩:=x;exact aC e
theorem Paired.mapP{β:Type}{F G:α->β->Prop}:∀{l₁:List α} {l₂:List β},Paired F l₁ l₂->(∀a b,F a b->G a b)->Paired G l₁ l₂
 |_,_,.nil,_=>.nil
 |_,_,.cons r t,f=>.cons (f _ _ r) (Paired.mapP t f)
theorem v5.stay(x:v5 P w H h a o)(k:∀b u,(b=a\/H b=some (.own a))->h.get? b=some u->h'.get? b=some u)(ho:∀b,H b=some (.own a)->H' b=some (.own a))(ht:∀b xs,H b=some (.tup xs)->H' b=some (.tup xs)):v5 P w H' h' a o:=by
 induction o with
 |lst xs=>obtain⟨z,its,n,r,e⟩:=x;exact⟨z,its,n,r,k _ _ (.inl rfl) e⟩
 |tup xs=>obtain⟨z,its,r,ob,e,c⟩:=x;exact⟨z,its,r,ob,k _ _ (.inl rfl) e,c⟩
 |dK kvs=>obtain⟨z,y,vs,r,ob,es,ep,e,c⟩:=x;exact⟨z,y,vs,r,ob,es,ep,k _ _ (.inl rfl) e,c⟩
 | dT kvs=>
   obtain⟨z,y,xs,r,ob,es,ep,e,c⟩:=x;exact⟨z,y,xs,Paired.mapP r fun p q z=>⟨z.1,ht _ _ z.2.1,z.2.2⟩,ob,es,ep,k _ _ (.inl rfl) e,c⟩
 |set S n=>obtain⟨ob,es,ep,t,e,c⟩:=x;exact⟨ob,es,ep,t,k _ _ (.inl rfl) e,c⟩
 | ins C dx fs=>
   obtain⟨d,z,ne,e,mA,⟨od,es,ep,e2,c⟩,r⟩:=x;exact⟨ho _ d,z,ne,k _ _ (.inl rfl) e,mA,⟨od,es,ep,k _ _ (.inr d) e2,c⟩,r⟩
 |own y=>obtain⟨ob,e⟩:=x;exact⟨ob,k _ _ (.inl rfl) e⟩
 |xd fs=>obtain⟨mA,⟨od,es,ep,e,c⟩,r⟩:=x;exact⟨mA,⟨od,es,ep,k _ _ (.inl rfl) e,c⟩,r⟩
 |rng lo hi=>obtain⟨t,u,v,e⟩:=x;exact⟨t,u,v,k _ _ (.inl rfl) e⟩
 |frz ob u ih=>obtain⟨e,q⟩:=x;exact⟨k _ _ (.inl rfl) e,ih q⟩
 | tbl ps=>
   have e:h.get? a=some {cls:=.none,data:=.fields ps}:=x;show h'.get? a=some {cls:=.none,data:=.fields ps};exact k a _ (.inl rfl) e
 | tab l c q=>
   obtain⟨ps,e,t⟩:=x;refine⟨ps,k a _ (.inl rfl) e,?_⟩;rcases t with t|⟨c,co,fs,tq,h1,h2,h3,h4⟩
   ·exact .inl t
   ·exact .inr ⟨c,co,fs,tq,h1,ho c h2,k c co (.inr h2) h3,h4⟩
 | met f y=>
   have e:h.get? a=some (PySem.W.methodObj (.ref f) (.ref y)):=x;show h'.get? a=some (PySem.W.methodObj (.ref f) (.ref y));exact k a _ (.inl rfl) e
 |ext φ=>obtain⟨p,⟨o,e⟩,st⟩:=x;exact⟨st _ _ p fun o q=>k _ _ (.inl rfl) q,⟨o,k _ _ (.inl rfl) e⟩,st⟩
theorem HOk.lt(x:HOk P w H h)(e:H a=some o):a<h.objs.size:=(x a o e).lt
theorem HOk.fresh(x:HOk P w H h)(e:h.objs.size<=a):H a=none:=by
 cases q:H a with
 |none=>rfl
 |some u=>exact absurd (aF (x.lt q) e) (cF _)
theorem HOk.kept(x:HOk P w H h)(k:∀b u,h.get? b=some u->h'.get? b=some u):HOk P w H h' :=fun a o e=>
 (x a o e).stay (fun b u _ q=>k b u q) (fun _ q=>q) fun _ _ q=>q
theorem HOk.laid(x:HOk P w H h)(k:∀b u,h.get? b=some u->h'.get? b=some u)(hp:h.objs.size<=a)(new:v5 P w (upd H a o) h' a o):HOk P w (upd H a o) h' :=fun b u e=>by
 have hn:=x.fresh hp;by_cases hb:b=a
 ·subst hb;rw[upd_same]at e;cases e;exact new
 ·rw [qM hb] at e;exact(x b u e).stay (fun c v _ q=>k c v q) (fun c q=>by rw[qM (vI q hn)];exact q) fun c xs q=>by rw[qM (vI q hn)];exact q
end
noncomputable def Rd(H:Hp)(a:aV)(u:HO):Prop:=H a=some u\/∃o,H a=some (.frz o u)
theorem Rd.ok{P:bQ}{w:bH}{a:aV}{u:HO}(r:Rd H a u)(x:HOk P w H h):v5 P w H h a u:=by
 rcases r with r|⟨o,r⟩
 ·exact x a u r
 ·obtain⟨_,q⟩:=x a _ r;exact q
noncomputable def Mut:Option HO->Prop
 |some (.lst _)=>True
 |some (.dK _)=>True
 |some (.dT _)=>True
 |some (.set _ _)=>True
 |some (.ins _ _ _)=>True
 |some (.ext _)=>True
 |_=>False
section
variable{P:bQ}{w:bH}{H:Hp}{h h' :Heap}{x e:aV}{o' :HO}
theorem HOk.write(ok:HOk P w H h)(mu:Mut (H x))(he:e=x\/H e=some (.own x))(k:∀b u,b≠e->h.get? b=some u->h'.get? b=some u)(heo:∃u,h'.get? e=some u)(new:v5 P w (upd H x o') h' x o'):HOk P w (upd H x o') h' :=fun b u q=>by
 have nown:∀c y,H c=some (.own y)->c≠x:=fun c y r z=>by subst z;rw[r]at mu;exact mu
 have ntup:∀c xs,H c=some (.tup xs)->c≠x:=fun c xs r z=>by subst z;rw[r]at mu;exact mu
 by_cases hb:b=x
 ·subst hb;rw[upd_same]at q;cases q;exact new
 ·rw [qM hb] at q;by_cases hbe:b=e
  ·have q' :H b=some (.own x):=by
    rcases he with z|z
    ·exact absurd (hbe.trans z) hb
    ·rw[hbe];exact z
   rw[q]at q';cases q';obtain⟨v,hv⟩:=heo;exact⟨v,by rw[hbe];exact hv⟩
  ·refine(ok b u q).stay (fun c v hc r=>k c v ?_ r) (fun c r=>by rw [qM (nown c b r)];exact r) fun c xs r=>by rw [qM (ntup c xs r)];exact r
   rcases hc with rfl|hc
   ·exact hbe
   ·rintro rfl;rcases he with z|z
    ·exact nown c b hc z
    ·rw[hc]at z;cases z;exact hb rfl
end
structure Un(fs ex:List aV)(H H' :Hp)(h h' :Heap):Prop where
 keep:∀b o,h.get? b=some o->H b=none->b∉fs->b∉ex->h'.get? b=some o
 slot:∀b o,h.get? b=some o->H b=none->b∈fs->b∉ex->∃sl,h'.get? b=some {o with slots:=sl}
 free:∀b o,h.get? b=some o->H b=none->b∉ex->H' b=none
 there:∀b o,h.get? b=some o->b∉ex->∃o',h'.get? b=some o'
 tups:∀b xs,H b=some (.tup xs)->H' b=some (.tup xs)
 frzs:∀b o u,H b=some (.frz o u)->H' b=some (.frz o u)
 tbls:∀b ps,H b=some (.tbl ps)->∃more,H' b=some (.tbl (ps ++ more))
section
variable{fs fs' ex ex' :List aV}{H H1 H2:Hp}{h h1 h2 h' :Heap}{a x e:aV}{o:HO}
theorem Un.any(u:Un fs ex H H1 h h1){b:aV}{ob:Obj}(q:h.get? b=some ob)(n:H b=none)(hx:b∉ex):∃sl,h1.get? b=some {ob with slots:=sl}:=by
 by_cases hb:b∈fs
 ·exact u.slot b ob q n hb hx
 ·exact⟨ob.slots,u.keep b ob q n hb hx⟩
theorem Un.kept(k:∀b u,h.get? b=some u->h'.get? b=some u):Un fs ex H H h h' :=
 ⟨fun b ob q _ _ _=>k b ob q,fun b ob q _ _ _=>⟨ob.slots,k b ob q⟩,fun _ _ _ n _=>n,fun b ob q _=>⟨ob,k b ob q⟩,fun _ _ q=>q,fun _ _ _ q=>q,fun _ ps q=>⟨#[],by rw[q];simp⟩⟩
theorem Un.refl:Un fs ex H H h h:=Un.kept fun _ _ q=>q
theorem Un.laid(k:∀b u,h.get? b=some u->h'.get? b=some u)(hp:h.objs.size<=a)(hn:H a=none):Un fs ex H (upd H a o) h h' where
 keep:=fun b u q _ _ _=>k b u q
 slot:=fun b u q _ _ _=>⟨u.slots,k b u q⟩
 free:=fun b u q n _=>by rw[qM (bW (aF (aC q) hp))];exact n
 there:=fun b u q _=>⟨u,k b u q⟩
 tups:=fun b xs q=>by rw[qM (vI q hn)];exact q
 frzs:=fun b u xs q=>by rw[qM (vI q hn)];exact q
 tbls:=fun b ps q=>⟨#[],by rw[qM (vI q hn),q];simp⟩
theorem Un.write(mu:Mut (H x))(he:e=x\/H e=some (.own x))(k:∀b u,b≠e->h.get? b=some u->h'.get? b=some u)(heo:∃u,h'.get? e=some u):Un fs ex H (upd H x o) h h' :=by
 have hx:∀b,H b=none->b≠x:=fun b n z=>by subst z;rw[n]at mu;exact mu
 have hb:∀b,H b=none->b≠e:=fun b n z=>by
  grind
 have hm:∀b u,H b=some u->¬Mut (some u)->b≠x:=fun b u q nm z=>by subst z;rw[q]at mu;exact nm mu
 refine⟨fun b u q n _ _=>k b u (hb b n) q,fun b u q n _ _=>⟨u.slots,k b u (hb b n) q⟩,fun b u q n _=>by rw[qM (hx b n)];exact n,fun b u q _=>?_,
  fun b xs q=>by rw[qM (hm b _ q fun z=>z)];exact q,fun b u xs q=>by rw[qM (hm b _ q fun z=>z)];exact q,fun b ps q=>⟨#[],by rw[qM (hm b _ q fun z=>z),q];simp⟩⟩
 grind
end
noncomputable def trk(h:Heap)(H:Hp):List aV:=(List.range h.objs.size).filter fun a=>(H a).isSome
noncomputable def hidT(h:Heap)(H:Hp):Heap:=PySem.W.hideAll h (trk h H)
theorem zZl(h:Heap)(H:Hp):(hidT h H).objs.size=h.objs.size:=PySem.W.hideAll_size _ _
theorem zYq{b:aV}{o:Obj}(e:h.get? b=some o)(n:H b=none):(hidT h H).get? b=some o:=
 PySem.W.hideAll_get _ e fun hm=>by
  have q:(H b).isSome =true:=(List.mem_filter.mp hm).2;grind
theorem jQq{b:aV}{o:Obj}(e:(hidT h H).get? b=some o):h.get? b=some o/\H b=none:=by
 have e' :h.get? b=some o:=PySem.W.of_hideAll (trk h H) e;refine⟨e',?_⟩;cases q:H b with
 |none=>rfl
 | some x=>
   have hm:b∈trk h H:=List.mem_filter.mpr ⟨List.mem_range.mpr (aC e'),by simp[q]⟩;have z:(hidT h H).get? b=none:=PySem.W.hideAll_none (trk h H) hm;grind
structure Mod(K:aQ)(mg:Str->Option Value)(base:Heap):Prop where
 kin:K.In base
 glob:base.Ns cG mg
 blt:∃mb,base.Ns builtinsNs mb/\∀x:Str,x≠"__name__"->mb x=dQ x
 nolimit:base.NoLimit
structure Cx where
 prog:bQ
 w:bH
 K:aQ
 mg:Str->Option Value
 base:Heap
 A:cE
 N:List Str
 s₀:aX
 H₀:Hp
 env:Env
 outer:List Env
 stack:List Env
 ex:List aV
 fn:Str->Bool
 calm:Bool
 pn:List (aV×Obj)
 xe:Value->aX->Prop
def frs(l:List Env):List aV:=l.filterMap (·.frame)
noncomputable abbrev Cx.fs(X:Cx):List aV:=frs X.outer
noncomputable def Vis(sc:Scope)(x:Str):Prop:=sc.names.lookup x=some .local \/sc.names.lookup x=some .cell \/sc.names.lookup x=some .free
noncomputable def Loc(sc:Scope)(x:Str):Prop:=sc.names.lookup x=some .local \/sc.names.lookup x=some .cell
noncomputable def Look(env:Env)(h:Heap)(m:Str->Option Value)(x:Str)(u:Value):Prop:=
 (env.kindOf x=some .local /\m x=some u)\/((env.kindOf x=some .cell \/env.kindOf x=some .free)/\∃c,env.cells.lookup x=some c/\h.IsCell c (some u))
structure Cx.Ok(X:Cx):Prop where
 mod:Mod X.K X.mg X.base
 kind:X.env.scope.kind=.function
 glob:X.env.globals=cG
 blt:X.env.builtins=builtinsNs
 above:X.s₀.heap.objs.size<=X.env.locals
 inj:∀x y c,X.env.cells.lookup x=some c->X.env.cells.lookup y=some c->x=y
 has:∀x,(X.env.kindOf x=some .cell \/X.env.kindOf x=some .free)->∃c,X.env.cells.lookup x=some c
 cab:∀x c,X.fn x=true->X.env.cells.lookup x=some c->X.s₀.heap.objs.size<=c
 hd:X.calm=true->X.A.handled=none
 frames:X.A.frames=some X.stack
 stk:X.stack=X.outer\/(X.stack=X.env::X.outer/\X.env.frame=some X.env.locals)
 exf:∀b∈X.ex,b≠X.env.locals/\∀x c,X.env.cells.lookup x=some c->c≠b
 bs:∀b o,X.base.get? b=some o->X.s₀.heap.get? b=some o/\X.H₀ b=none
 bsz:X.base.objs.size<=X.s₀.heap.objs.size
 noex:∀b o,X.base.get? b=some o->b∉X.ex
 exfs:∀b∈X.ex,b∉X.fs
 funs:X.s₀.heap.FunFrames X.base X.outer
 frf:∀b∈X.fs,X.H₀ b=none
structure Inv(X:Cx)(pins:List (aV×Obj))(σ:List (Option V))(H:Hp)(s:aX):Prop where
 ok:X.Ok
 os:s.os=X.s₀.os
 bare:AllBare s.gens
 base:Un X.fs X.ex X.H₀ H X.s₀.heap s.heap
 loc:∃m,s.heap.Ns X.env.locals m/\∀(i:Nat) (x:Str) (v:V),X.N[i]?=some x->σ[i]?=some (some v)->Vis X.env.scope x->∃u,RelV v u/\Look X.env s.heap m x u
 cell:∀x c,X.env.cells.lookup x=some c->∃v,s.heap.IsCell c v
 free:H X.env.locals=none
 freeC:∀x c,X.env.cells.lookup x=some c->H c=none
 pin:∀p∈X.pn ++ pins,s.heap.get? p.1=some p.2/\H p.1=none/\p.1≠X.env.locals/\p.1∉X.fs/\∀v,p.2.data≠ .cell v
 hok:HOk X.prog X.w H s.heap
 len:σ.length=X.N.length
section
variable{X:Cx}{pins:List (aV×Obj)}{σ:List (Option V)}{H H' :Hp}{s:aX}{h' :Heap}
theorem Cx.Ok.nofr(ok:X.Ok){b:aV}{o:Obj}(e:X.base.get? b=some o):b∉X.fs:=fun hb=>by
 have:=(ok.funs.mem hb).1;grind
theorem Inv.bs(I:Inv X pins σ H s):∀b o,X.base.get? b=some o->s.heap.get? b=some o/\H b=none:=fun b o e=>
 ⟨I.base.keep b o (I.ok.bs b o e).1 (I.ok.bs b o e).2 (I.ok.nofr e) (I.ok.noex b o e),I.base.free b o (I.ok.bs b o e).1 (I.ok.bs b o e).2 (I.ok.noex b o e)⟩
theorem Inv.bk(I:Inv X pins σ H s):∀b o,X.base.get? b=some o->s.heap.get? b=some o:=fun b o e=>(I.bs b o e).1
theorem Inv.mod(I:Inv X pins σ H s):Mod X.K X.mg X.base:=I.ok.mod
theorem Inv.kIn(I:Inv X pins σ H s):X.K.In s.heap:=I.ok.mod.kin.keeps I.bk
theorem Inv.lt(I:Inv X pins σ H s):X.env.locals<s.heap.objs.size:=let ⟨_,hn,_⟩:=I.loc;hn.lt
theorem Inv.sz(I:Inv X pins σ H s):X.s₀.heap.objs.size<=s.heap.objs.size:=aS I.ok.above (Nat.le_of_lt I.lt)
theorem Inv.nofs(I:Inv X pins σ H s){a:aV}(h:s.heap.objs.size<=a):a∉X.fs:=fun hb=>by
 obtain⟨_,o,ho,_⟩:=I.ok.funs.mem hb;exact absurd (aF (aC ho) (aS I.sz h)) (cF _)
theorem Inv.cne(I:Inv X pins σ H s):∀x c,X.env.cells.lookup x=some c->c≠X.env.locals:=fun x c e z=>by
 obtain⟨v,o,ho,hd⟩:=I.cell x c e;obtain⟨m,⟨o',es,ep,ho',hd',_⟩,_⟩:=I.loc;grind
theorem Inv.funs(I:Inv X pins σ H s):s.heap.FunFrames X.base X.outer:=by
 have all:∀(l:List Env),(∀b∈frs l,b∈X.fs)->X.s₀.heap.FunFrames X.base l->s.heap.FunFrames X.base l:=by
  intro l;induction l with
  |nil=>intro _ _;trivial
  | cons env r ih=>
    intro hs hl;obtain⟨hk,⟨L,o,hf,hn,ho,hd⟩,hr⟩:=hl;have hL:L∈X.fs:=hs L (by unfold frs;rw[List.filterMap_cons,hf];exact aA);obtain⟨sl,e⟩:=I.base.slot L o ho (I.ok.frf L hL) hL fun z=>I.ok.exfs L z hL
    exact⟨hk,⟨L,_,hf,hn,e,hd⟩,ih (fun b hb=>hs b (by unfold frs;rw[List.filterMap_cons,hf];exact aK _ hb)) hr⟩
 exact all X.outer (fun _ hb=>hb) I.ok.funs
theorem Inv.stack(I:Inv X pins σ H s):s.heap.FunFrames X.base X.stack:=by
 rcases I.ok.stk with e|⟨e,hf⟩
 ·rw[e];exact I.funs
 ·rw [e];obtain⟨m,hn,_⟩:=I.loc;refine .cons (by rw[I.ok.kind];decide) hf hn ?_ I.funs;exact Heap.get?_none_of_le (aS I.ok.bsz I.ok.above)
theorem Inv.stkSub(I:Inv X pins σ H s):∀b∈frs X.stack,b∈X.env.locals::X.fs:=fun b hb=>by
 rcases I.ok.stk with e|⟨e,hf⟩
 ·grind
 ·rw [e] at hb;unfold frs at hb;rw[List.filterMap_cons,hf]at hb;exact hb
theorem Inv.stkFree(I:Inv X pins σ H s):∀b∈frs X.stack,H b=none:=fun b hb=>by
 rcases aH.mp (I.stkSub b hb) with e|hb
 ·rw[e];exact I.free
 ·obtain⟨_,o,ho,_⟩:=I.ok.funs.mem hb;exact I.base.free b o ho (I.ok.frf b hb) fun z=>I.ok.exfs b z hb
theorem Inv.step(I:Inv X pins σ H s)(hch:∀b∈ch,(b∈X.ex\/X.s₀.heap.objs.size<=b)/\b≠X.env.locals/\(∀x c,X.env.cells.lookup x=some c->c≠b)/\∀p∈X.pn ++ pins,p.1≠b)(keep:∀b o,b≠X.env.locals->b∉X.fs->b∉ch->s.heap.get? b=some o->H b=none->h'.get? b=some o)(slot:∀b o,b≠X.env.locals->b∈X.fs->b∉ch->s.heap.get? b=some o->H b=none->∃sl,h'.get? b=some {o with slots:=sl})(free:∀b o,b∉ch->s.heap.get? b=some o->H b=none->H' b=none)(there:∀b o,b∉ch->s.heap.get? b=some o->∃o',h'.get? b=some o')(tups:∀b xs,H b=some (.tup xs)->H' b=some (.tup xs))(frzs:∀b o u,H b=some (.frz o u)->H' b=some (.frz o u))(tbls:∀b ps,H b=some (.tbl ps)->∃more,H' b=some (.tbl (ps ++ more)))(ns:∀m,s.heap.Ns X.env.locals m->h'.Ns X.env.locals m)(hok:HOk X.prog X.w H' h')(hg:AllBare g'):
  Inv X pins σ H' {s with heap:=h',gens:=g',drawn:=d',toks:=t' }:=by
 have neL:∀b o,X.s₀.heap.get? b=some o->b≠X.env.locals:=fun b o e=>bW (aF (aC e) I.ok.above)
 have neC:∀b o,X.s₀.heap.get? b=some o->b∉X.ex->b∉ch:=fun b o e hx hb=>by
  rcases(hch b hb).1 with z|z
  ·exact hx z
  ·exact absurd (aF (aC e) z) (cF _)
 have cellK:∀x c,X.env.cells.lookup x=some c->∀v,s.heap.IsCell c v->h'.IsCell c v:=fun x c e v ⟨o,ho,hd⟩=>by
  have nch:c∉ch:=fun z=>(hch c z).2.2.1 x c e rfl
  by_cases hc:c∈X.fs
  ·obtain⟨sl,q⟩:=slot c o (I.cne x c e) hc nch ho (I.freeC x c e);exact⟨_,q,hd⟩
  ·exact⟨o,keep c o (I.cne x c e) hc nch ho (I.freeC x c e),hd⟩
 refine⟨I.ok,I.os,hg,⟨fun b o e n hb hx=>?_,fun b o e n hb hx=>?_,fun b o e n hx=>?_,fun b o e hx=>?_,fun b xs e=>tups b xs (I.base.tups b xs e),fun b o xs e=>frzs b o xs (I.base.frzs b o xs e),fun b ps e=>?_⟩,?_,fun x c e=>?_,?_,fun x c e=>?_,fun p hp=>?_,hok,I.len⟩
 ·exact keep b o (neL b o e) hb (neC b o e hx) (I.base.keep b o e n hb hx) (I.base.free b o e n hx)
 ·obtain⟨sl,e1⟩:=I.base.slot b o e n hb hx;obtain⟨sl',e2⟩:=slot b _ (neL b o e) hb (neC b o e hx) e1 (I.base.free b o e n hx);exact⟨sl',e2⟩
 ·obtain⟨o',e1⟩:=I.base.there b o e hx;exact free b o' (neC b o e hx) e1 (I.base.free b o e n hx)
 ·obtain⟨o',e1⟩:=I.base.there b o e hx;exact there b o' (neC b o e hx) e1
 ·obtain⟨m1,e1⟩:=I.base.tbls b ps e;obtain⟨m2,e2⟩:=tbls b _ e1;exact⟨m1 ++ m2,by rw[e2,Array.append_assoc]⟩
 ·obtain⟨m,hn,hl⟩:=I.loc;refine⟨m,ns m hn,fun i x v e1 e2 e3=>?_⟩;obtain⟨u,r,l⟩:=hl i x v e1 e2 e3;refine⟨u,r,?_⟩;rcases l with l|⟨k,c,e,z⟩
  ·exact .inl l
  ·exact .inr ⟨k,c,e,cellK x c e _ z⟩
 ·obtain⟨v,z⟩:=I.cell x c e;exact⟨v,cellK x c e v z⟩
 ·obtain⟨m,⟨o,_,_,ho,_⟩,_⟩:=I.loc;exact free _ o (fun z=>(hch _ z).2.1 rfl) ho I.free
 ·obtain⟨v,o,ho,hd⟩:=I.cell x c e;exact free c o (fun z=>(hch c z).2.2.1 x c e rfl) ho (I.freeC x c e)
 ·obtain⟨e,n,ne,nf,d⟩:=I.pin p hp;have nch:p.1∉ch:=fun z=>(hch p.1 z).2.2.2 p hp rfl
  exact⟨keep p.1 p.2 ne nf nch e n,free p.1 p.2 nch e n,ne,nf,d⟩
theorem Inv.un(I:Inv X pins σ H s)(u:Un X.fs [] H H' s.heap h')(hok:HOk X.prog X.w H' h'):Inv X pins σ H' {s with heap:=h',toks:=t' }:=by
 obtain⟨m,⟨o,es,ep,ho,r⟩,_⟩:=id I.loc;obtain⟨sl,hL⟩:=u.any ho I.free (by simp);exact I.step (g' :=s.gens) (d' :=s.drawn) (ch:=[]) (fun _ z=>nomatch z) (fun b o _ hb _ e n=>u.keep b o e n hb (by simp)) (fun b o _ hb _ e n=>u.slot b o e n hb (by simp)) (fun b o _ e n=>u.free b o e n (by simp)) (fun b o _ e=>u.there b o e (by simp)) u.tups u.frzs u.tbls (fun m' hm=>by
  obtain⟨o',es',ep',ho',r'⟩:=hm;rw[ho]at ho';cases ho';exact⟨_,es',ep',hL,r'⟩) hok I.bare
theorem Inv.call(I:Inv X pins σ H s)(u:Un (frs X.stack) ch H H' s.heap h')(hok:HOk X.prog X.w H' h')(hg:AllBare g')(hch:∀b∈ch,(b∈X.ex\/X.s₀.heap.objs.size<=b)/\b≠X.env.locals/\(∀x c,X.env.cells.lookup x=some c->c≠b)/\∀p∈X.pn ++ pins,p.1≠b):
  Inv X pins σ H' {s with heap:=h',gens:=g',drawn:=d',toks:=t' }:=by
 obtain⟨m,⟨o,es,ep,ho,r⟩,_⟩:=id I.loc;obtain⟨sl,hL⟩:=u.any ho I.free fun z=>(hch _ z).2.1 rfl
 exact I.step (ch:=ch) hch (fun b o hL hb hc e n=>u.keep b o e n (fun z=>(aH.mp (I.stkSub b z)).elim hL hb) hc) (fun b o _ _ hc e n=>u.any e n hc) (fun b o hc e n=>u.free b o e n hc) (fun b o hc e=>u.there b o e hc) u.tups u.frzs u.tbls (fun m' hm=>by
  obtain⟨o',es',ep',ho',r'⟩:=hm;rw[ho]at ho';cases ho';exact⟨_,es',ep',hL,r'⟩) hok hg
theorem Inv.turned(I:Inv X pins σ H s)(k:∀b o,b≠it->s.heap.get? b=some o->h'.get? b=some o)(hn:H it=none)(hL:it≠X.env.locals)(h1:it∈X.ex\/X.s₀.heap.objs.size<=it)(h2:∀x c,X.env.cells.lookup x=some c->c≠it)(h3:∀p∈X.pn ++ pins,p.1≠it):Inv X pins σ H {s with heap:=h',toks:=t' }:=by
 have nit:∀b u,H b=some u->b≠it:=fun b u e z=>by rw[z,hn]at e;cases e
 refine I.step (g' :=s.gens) (d' :=s.drawn) (ch:=[it]) (fun b hb=>?_) (fun b o _ _ hc e _=>k b o (fun z=>hc (by simp[z])) e) (fun b o _ _ hc e _=>⟨o.slots,k b o (fun z=>hc (by simp[z])) e⟩) (fun _ _ _ _ n=>n)
  (fun b o hc e=>⟨o,k b o (fun z=>hc (by simp[z])) e⟩) (fun _ _ e=>e) (fun _ _ _ e=>e) (fun b ps e=>⟨#[],by rw[e];simp⟩) (fun m hm=>?_) (fun b u e=>?_) I.bare
 ·have e:b=it:=by simpa using hb
  subst e;exact⟨h1,hL,h2,h3⟩
 ·obtain⟨o,es,ep,ho,r⟩:=hm;exact⟨o,es,ep,k _ o (Ne.symm hL) ho,r⟩
 ·refine(I.hok b u e).stay (fun c v hc q=>k c v ?_ q) (fun _ q=>q) fun _ _ q=>q
  rcases hc with z|z
  ·rw[z];exact nit b u e
  ·exact nit c _ z
theorem Inv.tok(I:Inv X pins σ H s)(t:Nat):Inv X pins σ H {s with toks:=t}:=I.un (h' :=s.heap) (t' :=t) Un.refl I.hok
theorem Inv.kept(I:Inv X pins σ H s)(k:∀b u,s.heap.get? b=some u->h'.get? b=some u):Inv X pins σ H {s with heap:=h',toks:=t' }:=I.un (Un.kept k) (I.hok.kept k)
theorem Inv.laid{a:aV}{o:HO}(I:Inv X pins σ H s)(k:∀b u,s.heap.get? b=some u->h'.get? b=some u)(hp:s.heap.objs.size<=a)(new:v5 X.prog X.w (upd H a o) h' a o):
  Inv X pins σ (upd H a o) {s with heap:=h',toks:=t' }:=I.un (Un.laid k hp (I.hok.fresh hp)) (I.hok.laid k hp new)
theorem Inv.write{x e:aV}{o:HO}(I:Inv X pins σ H s)(mu:Mut (H x))(he:e=x\/H e=some (.own x))(k:∀b u,b≠e->s.heap.get? b=some u->h'.get? b=some u)(heo:∃u,h'.get? e=some u)(new:v5 X.prog X.w (upd H x o) h' x o):Inv X pins σ (upd H x o) {s with heap:=h',toks:=t' }:=I.un (Un.write mu he k heo) (I.hok.write mu he k heo new)
theorem Inv.pins_of{pins' :List (aV×Obj)}(I:Inv X pins σ H s)(h:∀p∈pins',s.heap.get? p.1=some p.2/\H p.1=none/\p.1≠X.env.locals/\p.1∉X.fs/\∀v,p.2.data≠ .cell v):Inv X pins' σ H s:=
 ⟨I.ok,I.os,I.bare,I.base,I.loc,I.cell,I.free,I.freeC,fun p hp=>(bG.mp hp).elim (fun z=>I.pin p (List.mem_append_left _ z)) (h p),I.hok,I.len⟩
theorem vQv(hN:N.Nodup){x:Str}(a:N[i]?=some x)(b:N[j]?=some x):i=j:=by
 obtain⟨h1,e1⟩:=aB.mp a;obtain⟨h2,e2⟩:=aB.mp b;exact(List.getElem_inj hN).mp (e1.trans e2.symm)
theorem zVw{E:Value->aX->Prop}{x:Str}{v:V}{u:Value}{Q:Unit->aX->Prop}(I:Inv X pins σ H s)(hN:X.N.Nodup)(hi:X.N[i]?=some x)(hx:Loc X.env.scope x)(r:RelV v u)(h:∀s',Inv X pins (σ.set i (some v)) H s' ->(∃a,Heap.SameBut a s.heap s'.heap/\(a=X.env.locals\/X.env.cells.lookup x=some a))->Q () s')(hf:X.fn x=true\/X.env.scope.names.lookup x=some .local :=by first|exact .inl rfl|exact .inr rfl|assumption):aR M A (storeName X.env x u) Q E s:=by
 obtain⟨m,hn,hl⟩:=id I.loc;have hcls:(X.env.scope.kind ==.class || (X.env.scope.kind ==.module && X.env.locals != X.env.globals))=false:=by rw[I.ok.kind];rfl
 have hiσ:i < σ.length:=by rw[I.len];exact(aB.mp hi).1
 have cne:=I.cne;have tracked:∀{a:aV} {h' :Heap},(∃o,s.heap.get? a=some o/\H a=none)->Heap.SameBut a s.heap h' ->HOk X.prog X.w H h' :=fun {a h'} ha hs b ob e=>by
  obtain⟨_,_,hfree⟩:=ha;refine(I.hok b ob e).stay (fun c w' hc q=>(hs.2 c ?_).trans q) (fun _ q=>q) fun _ _ q=>q
  rintro rfl;rcases hc with rfl|hc
  ·rw[hfree]at e;cases e
  ·rw[hfree]at hc;cases hc
 rcases hx with hk|hk
 ·refine wpAny_storeName_local hk hn (fun h' hn' hs=>?_) hcls;obtain⟨oL,_,_,hoL,_⟩:=id hn;refine h _ ⟨I.ok,I.os,I.bare,⟨fun b o e n hb hx=>?_,fun b o e n hb hx=>?_,I.base.free,fun b o e hx=>?_,I.base.tups,I.base.frzs,I.base.tbls⟩,⟨_,hn',fun j y v' e1 e2 e3=>?_⟩,fun y c e=>?_,I.free,I.freeC,fun p hp=>?_,tracked ⟨oL,hoL,I.free⟩ hs,by simpa using I.len⟩ ⟨_,hs,.inl rfl⟩
  ·exact(hs.2 b (bW (aF (aC e) I.ok.above))).trans (I.base.keep b o e n hb hx)
  ·obtain⟨sl,e1⟩:=I.base.slot b o e n hb hx;exact⟨sl,(hs.2 b (bW (aF (aC e) I.ok.above))).trans e1⟩
  ·obtain⟨o',e1⟩:=I.base.there b o e hx;exact⟨o',(hs.2 b (bW (aF (aC e) I.ok.above))).trans e1⟩
  ·by_cases hj:j=i
   ·subst hj;rw[hi]at e1;cases e1;rw[dO hiσ]at e2;cases e2;exact⟨u,r,.inl ⟨hk,by simp⟩⟩
   ·rw [bY (Ne.symm hj)] at e2;obtain⟨u',r',q⟩:=hl j y v' e1 e2 e3;refine⟨u',r',?_⟩;rcases q with⟨k,e⟩|⟨k,c,e,z⟩
    ·refine .inl ⟨k,?_⟩;have:y≠x:=fun e=>hj (vQv hN e1 (e▸hi))
     simp[this,e]
    ·exact .inr ⟨k,c,e,z.sameBut hs (cne y c e)⟩
  ·obtain⟨w',z⟩:=I.cell y c e;exact⟨w',z.sameBut hs (cne y c e)⟩
  ·obtain⟨e,n,ne,nf,d⟩:=I.pin p hp;exact⟨(hs.2 p.1 ne).trans e,n,ne,nf,d⟩
 ·have hfn:X.fn x=true:=by
   rcases hf with z|z
   ·exact z
   ·rw[z]at hk;cases hk
  obtain⟨c,hc⟩:=I.ok.has x (.inl hk);obtain⟨w',z⟩:=I.cell x c hc;refine wpAny_storeName_cell I.ok.kind hk hc z (fun h' hc' hs=>?_);obtain⟨oc,hoc,hocd⟩:=id z;refine h {s with heap:=h' } ⟨I.ok,I.os,I.bare,⟨fun b o e n hb hx=>?_,fun b o e n hb hx=>?_,I.base.free,fun b o e hx=>?_,I.base.tups,I.base.frzs,I.base.tbls⟩,⟨m,hn.sameBut hs (Ne.symm (cne x c hc)),fun j y v' e1 e2 e3=>?_⟩,fun y c' e=>?_,I.free,I.freeC,fun p hp=>?_,tracked ⟨oc,hoc,I.freeC x c hc⟩ hs,by simpa using I.len⟩ ⟨c,hs,.inr hc⟩
  ·exact(hs.2 b (bW (aF (aC e) (I.ok.cab x c hfn hc)))).trans (I.base.keep b o e n hb hx)
  ·obtain⟨sl,e1⟩:=I.base.slot b o e n hb hx;exact⟨sl,(hs.2 b (bW (aF (aC e) (I.ok.cab x c hfn hc)))).trans e1⟩
  ·obtain⟨o',e1⟩:=I.base.there b o e hx;exact⟨o',(hs.2 b (bW (aF (aC e) (I.ok.cab x c hfn hc)))).trans e1⟩
  ·by_cases hj:j=i
   ·subst hj;rw[hi]at e1;cases e1;rw[dO hiσ]at e2;cases e2;exact⟨u,r,.inr ⟨.inl hk,c,hc,hc'⟩⟩
   ·rw [bY (Ne.symm hj)] at e2;obtain⟨u',r',q⟩:=hl j y v' e1 e2 e3;refine⟨u',r',?_⟩;rcases q with q|⟨k,c',e,z'⟩
    ·exact .inl q
    ·refine .inr ⟨k,c',e,z'.sameBut hs ?_⟩;rintro rfl;exact hj (vQv hN e1 (I.ok.inj _ _ _ e hc▸hi))
  ·by_cases hcc:c' =c
   ·subst hcc;exact⟨_,hc'⟩
   ·obtain⟨w2,z2⟩:=I.cell y c' e;exact⟨w2,z2.sameBut hs hcc⟩
  ·obtain⟨e,n,ne,nf,d⟩:=I.pin p hp;refine⟨(hs.2 p.1 ?_).trans e,n,ne,nf,d⟩;intro q;rw[q,hoc]at e;have q' :oc=p.2:=Option.some.inj e;exact d w' (by rw[←q'];exact hocd)
theorem qVn{E:Value->aX->Prop}{x:Str}{v:V}{u:Value}{Q:Unit->aX->Prop}(I:Inv X pins σ H s)(hN:X.N.Nodup)(hi:X.N[i]?=some x)(hx:Loc X.env.scope x)(r:RelV v u)(h:∀s',Inv X pins (σ.set i (some v)) H s' ->Q () s')(hf:X.fn x=true\/X.env.scope.names.lookup x=some .local :=by first|exact .inl rfl|exact .inr rfl|assumption):aR M A (storeName X.env x u) Q E s:=
 zVw I hN hi hx r (fun s' I' _=>h s' I') hf
theorem Inv.call'{s' :aX}(I:Inv X pins σ H s)(ho:s'.os=s.os)(u:Un (frs X.stack) ch H H' s.heap s'.heap)(hok:HOk X.prog X.w H' s'.heap)(hg:AllBare s'.gens)(hch:∀b∈ch,(b∈X.ex\/X.s₀.heap.objs.size<=b)/\b≠X.env.locals/\(∀x c,X.env.cells.lookup x=some c->c≠b)/\∀p∈X.pn ++ pins,p.1≠b):Inv X pins σ H' s' :=by
 obtain⟨h',g',d',t',o'⟩:=s';have e:o' =s.os:=ho;subst e;exact I.call (g' :=g') (t' :=t') (d' :=d') u hok hg hch
end
noncomputable abbrev XK:=Value->Option aV->Hp->Prop
noncomputable abbrev St:=List (Option V)
noncomputable abbrev VK:=V->Hp->Prop
noncomputable abbrev TE:=St->Hp->VK->Prop
noncomputable abbrev TT:=St->Hp->(Bool->Hp->Prop)->Prop
noncomputable abbrev TA:=St->Hp->(List V->Hp->Prop)->Prop
structure Ends where
 nx:St->Hp->Prop
 rt:VK
 bk:St->Hp->Prop:=fun _ _=>False
 ct:St->Hp->Prop:=fun _ _=>False
noncomputable abbrev TS:=Ends->St->Hp->Prop
noncomputable def EP(X:Cx)(pins:List (aV×Obj))(σ:St)(Q:VK)(u:Value)(s' :aX):Prop:=∃v H',Inv X pins σ H' s' /\RelV v u/\Q v H'
noncomputable def TP(X:Cx)(pins:List (aV×Obj))(σ:St)(Q:Bool->Hp->Prop)(b:Bool)(s' :aX):Prop:=∃H',Inv X pins σ H' s' /\Q b H'
noncomputable def AP(X:Cx)(pins:List (aV×Obj))(σ:St)(Q:List V->Hp->Prop)(us:List Value)(s' :aX):Prop:=∃vs H',Inv X pins σ H' s' /\Vals vs us/\Q vs H'
noncomputable def SP(X:Cx)(pins:List (aV×Obj))(D:Ends)(f:Flow)(s' :aX):Prop:=
 match f with
 |.next =>∃σ' H',Inv X pins σ' H' s' /\D.nx σ' H'
 |.brk =>∃σ' H',Inv X pins σ' H' s' /\D.bk σ' H'
 |.cont =>∃σ' H',Inv X pins σ' H' s' /\D.ct σ' H'
 |.ret u=>∃v σ' H',Inv X pins σ' H' s' /\RelV v u/\D.rt v H'
noncomputable def PE(X:Cx)(e:Expr)(t:TE):Prop:=
 ∀(pins:List (aV×Obj)) (s:aX) (σ:St) (H:Hp) (Q:VK),Inv X pins σ H s->t σ H Q->aR (model X.prog X.w) X.A (eval e X.env) (EP X pins σ Q) X.xe s
noncomputable def PT(X:Cx)(e:Expr)(t:TT):Prop:=
 ∀(pins:List (aV×Obj)) (s:aX) (σ:St) (H:Hp) (Q:Bool->Hp->Prop),Inv X pins σ H s->t σ H Q->aR (model X.prog X.w) X.A (isTrue e X.env (eval e X.env)) (TP X pins σ Q) X.xe s
noncomputable def PW(X:Cx)(e:Expr)(t:TT):Prop:=
 ∀(whole:Sem Value) (pins:List (aV×Obj)) (s:aX) (σ:St) (H:Hp) (Q:Bool->Hp->Prop),Inv X pins σ H s->t σ H Q->aR (model X.prog X.w) X.A (isTrue e X.env whole) (TP X pins σ Q) X.xe s
theorem PW.pt{e:Expr}{t:TT}(h:PW X e t):PT X e t:=h _
noncomputable def PA(X:Cx)(es:List Expr)(t:TA):Prop:=
 ∀(pos:Pos) (pins:List (aV×Obj)) (s:aX) (σ:St) (H:Hp) (Q:List V->Hp->Prop),Inv X pins σ H s->t σ H Q->aR (model X.prog X.w) X.A (spliced (cU pos (aJ es X.env))) (AP X pins σ Q) X.xe s
noncomputable def PS(X:Cx)(st:Stmt)(t:TS):Prop:=
 ∀(pins:List (aV×Obj)) (s:aX) (σ:St) (H:Hp) (D:Ends),Inv X pins σ H s->t D σ H->aR (model X.prog X.w) X.A (exec st X.env) (SP X pins D) X.xe s
noncomputable def PSs(X:Cx)(st:List Stmt)(t:TS):Prop:=
 ∀(pins:List (aV×Obj)) (s:aX) (σ:St) (H:Hp) (D:Ends),Inv X pins σ H s->t D σ H->aR (model X.prog X.w) X.A (execs st X.env) (SP X pins D) X.xe s
theorem thn{t:Sem α}{Q Q' :α->aX->Prop}{E:Value->aX->Prop}(h:aR M A t Q E s)(hQ:∀a s,Q a s->Q' a s):aR M A t Q' E s:=cZ h hQ fun _ _ x=>x
section
variable{X:Cx}
noncomputable def tVar(i:Nat):TE:=fun σ H Q=>∃v,σ[i]?=some (some v)/\Q v H
noncomputable def tC(v:V):TE:=fun _ H Q=>Q v H
theorem jJz{x:Str}(hN:X.N[i]?=some x)(hv:Vis X.env.scope x)(hd:(x == ("__debug__":Str))=false:=by decide)(hcd:(x == ("__classdict__":Str))=false:=by decide):PE X (.Name x pos) (tVar i):=by
 intro pins s σ H Q I h;obtain⟨v,e,h⟩:=h;obtain⟨m,hn,hl⟩:=I.loc;obtain⟨u,r,l⟩:=hl i x v hN e hv;have fin:EP X pins σ Q u s:=⟨v,H,I,r,h⟩
 rcases l with⟨hk,hm⟩|⟨hk,c,hc,hcell⟩
 ·exact wpAny_Name (wpAny_loadName_local I.ok.kind hk hn hm fin) hd
 ·rcases hk with hk | hk
  ·exact wpAny_Name (wpAny_loadName_cell I.ok.kind hk hc hcell fin) hd
  ·exact wpAny_Name (wpAny_loadName_free I.ok.kind hk hc hcell fin hcd) hd
theorem jJ4{i j pos}:PE X (.Constant (.int i) j pos) (tC (.int i)):=fun _ _ _ H _ I h=>wpAny_Constant_int ⟨.int i,H,I.tok _,⟨_,rfl⟩,h⟩
theorem jYa{b j pos}:PE X (.Constant (.bool b) j pos) (tC (.bl b)):=fun _ _ _ H _ I h=>Constant_bool ⟨.bl b,H,I,rfl,h⟩
theorem vYd{x j pos}:PE X (.Constant (.str x) j pos) (tC (.str x)):=fun _ _ _ H _ I h=>Calls.Constant_str ⟨.str x,H,I.tok _,⟨_,rfl⟩,h⟩
noncomputable def Gl(X:Cx)(x:Str):Prop:=X.env.kindOf x=some .globalImplicit
theorem qJ6{E:Value->aX->Prop}{σ:St}{x:Str}{u:Value}(I:Inv X pins σ H s)(hg:Gl X x)(hm:X.mg x=some u)(h:Q u s)(hd:(x == ("__debug__":Str))=false:=by decide):aR (model X.prog X.w) X.A (eval (.Name x pos) X.env) Q E s:=
 Calls.Name_function_global I.ok.kind hg (Calls.loadGlobal_global (by rw[I.ok.glob];exact I.mod.glob.keeps I.bk) hm h) hd
theorem qYh{E:Value->aX->Prop}{σ:St}{x:Str}{u:Value}(I:Inv X pins σ H s)(hg:Gl X x)(hm:X.mg x=none)(hv:dQ x=some u)(h:Q u s)(hn:x≠"__name__":=by decide)(hd:(x == ("__debug__":Str))=false:=by decide):aR (model X.prog X.w) X.A (eval (.Name x pos) X.env) Q E s:=by
 obtain⟨mb,h1,h2⟩:=I.mod.blt;exact Calls.Name_function_global I.ok.kind hg (Calls.loadGlobal_builtin (by rw[I.ok.glob];exact I.mod.glob.keeps I.bk) hm (by rw[I.ok.blt];exact h1.keeps I.bk) ((h2 x hn).trans hv) h) hd
theorem vH{x:Str}{v:V}{u:Value}(hg:Gl X x)(hm:X.mg x=some u)(r:RelV v u)(hd:(x == ("__debug__":Str))=false:=by decide):PE X (.Name x pos) (tC v):=
 fun _ _ _ H _ I h=>qJ6 I hg hm ⟨v,H,I,r,h⟩ hd
theorem zQr{x:Str}{v:V}{u:Value}(hg:Gl X x)(hm:X.mg x=none)(hv:dQ x=some u)(r:RelV v u)(hn:x≠"__name__":=by decide)(hd:(x == ("__debug__":Str))=false:=by decide):PE X (.Name x pos) (tC v):=
 fun _ _ _ H _ I h=>qYh I hg hm hv ⟨v,H,I,r,h⟩ hn hd
variable{a b:Expr}{ta tb:TE}{pos:Pos}
noncomputable def tB(t:TE):TT:=fun σ H Q=>t σ H fun x H1=>∃c,x=.bl c/\Q c H1
theorem jJm{e:Expr}{t:TE}(h:PE X e t)(he:∀whole,isTrue e X.env whole=(do let v ←whole;standAt e.pos;holding [v] (truthy v)):=by intro _;rfl):PT X e (tB t):=by
 intro pins s σ H Q I hw;refine isTrue_plain (thn (h pins s σ H _ I hw) fun v s1 ⟨x,H1,I1,r1,q1⟩=>?_) (he _);obtain⟨d,rfl,q⟩:=q1;cases r1;exact dJ ⟨H1,I1,q⟩
variable{tA tB' :TT}{rest:List Expr}
noncomputable def tAnd(t u:TT):TT:=fun σ H Q=>t σ H fun c H1=>if c=true then u σ H1 Q else Q false H1
noncomputable def tOr(t u:TT):TT:=fun σ H Q=>t σ H fun c H1=>if c=true then Q true H1 else u σ H1 Q
noncomputable def tNot(t:TT):TT:=fun σ H Q=>t σ H fun c H1=>Q (!c) H1
theorem zKy(ha:PT X a tA):PW X (.BoolOp .And [a] pos) tA:=by
 intro wh pins s σ H Q I h;refine isTrue_and (thn (ha pins s σ H Q I h) fun c s1 e=>?_);cases c with
 |true=>exact isTrue_and_nil e
 |false=>exact e
theorem jJk(ha:PT X a tA):PW X (.BoolOp .Or [a] pos) tA:=by
 intro wh pins s σ H Q I h;refine isTrue_or (thn (ha pins s σ H Q I h) fun c s1 e=>?_);cases c with
 |false=>exact isTrue_or_nil e
 |true=>exact e
theorem jJl(ha:PT X a tA)(hb:PW X (.BoolOp .And (b::rest) pos) tB'):PW X (.BoolOp .And (a::b::rest) pos) (tAnd tA tB'):=by
 intro wh pins s σ H Q I h;refine isTrue_and (thn (ha pins s σ H _ I h) fun c s1 ⟨H1,I1,q1⟩=>?_);cases c with
 |true=>exact hb wh pins s1 σ H1 Q I1 q1
 |false=>exact⟨H1,I1,q1⟩
theorem jX2(ha:PT X a tA)(hb:PW X (.BoolOp .Or (b::rest) pos) tB'):PW X (.BoolOp .Or (a::b::rest) pos) (tOr tA tB'):=by
 intro wh pins s σ H Q I h;refine isTrue_or (thn (ha pins s σ H _ I h) fun c s1 ⟨H1,I1,q1⟩=>?_);cases c with
 |true=>exact⟨H1,I1,q1⟩
 |false=>exact hb wh pins s1 σ H1 Q I1 q1
theorem jJn(ha:PT X a tA):PT X (.UnaryOp .Not a pos) (tNot tA):=by
 intro pins s σ H Q I h;exact isTrue_not (ha pins s σ H (fun c H1=>Q (!c) H1) I h)
noncomputable def jXx(ta tb:TE):TE:=fun σ H Q=>ta σ H fun x H1=>∃c,x=.bl c/\if c=true then tb σ H1 Q else Q (.bl false) H1
noncomputable def tOrV(ta tb:TE):TE:=fun σ H Q=>ta σ H fun x H1=>∃c,x=.bl c/\if c=true then Q (.bl true) H1 else tb σ H1 Q
noncomputable def jXu(ta:TE):TE:=fun σ H Q=>ta σ H fun x H1=>∃c,x=.bl c/\Q (.bl (!c)) H1
theorem jJ1{op}{t:TE}(h:PE X a t):PE X (.BoolOp op [a] pos) t:=fun pins s σ H Q I hw=>BoolOp_one (h pins s σ H Q I hw)
theorem jJ6(ha:PE X a ta)(hb:PE X (.BoolOp .And (b::rest) pos) tb):PE X (.BoolOp .And (a::b::rest) pos) (jXx ta tb):=by
 intro pins s σ H Q I h;refine BoolOp_and (thn (ha pins s σ H _ I h) fun v s1 ⟨x,H1,I1,r1,q1⟩=>?_);obtain⟨c,rfl,q1⟩:=q1;cases r1;refine dJ ?_
 cases c with
 |true=>exact hb pins s1 σ H1 Q I1 q1
 |false=>exact⟨.bl false,H1,I1,rfl,q1⟩
theorem jX8(ha:PE X a ta)(hb:PE X (.BoolOp .Or (b::rest) pos) tb):PE X (.BoolOp .Or (a::b::rest) pos) (tOrV ta tb):=by
 intro pins s σ H Q I h;refine BoolOp_or (thn (ha pins s σ H _ I h) fun v s1 ⟨x,H1,I1,r1,q1⟩=>?_);obtain⟨c,rfl,q1⟩:=q1;cases r1;refine dJ ?_
 cases c with
 |false=>exact hb pins s1 σ H1 Q I1 q1
 |true=>exact⟨.bl true,H1,I1,rfl,q1⟩
theorem jJ2(ha:PE X a ta):PE X (.UnaryOp .Not a pos) (jXu ta):=by
 intro pins s σ H Q I h;refine UnaryOp_ (thn (ha pins s σ H _ I h) fun v s1 ⟨x,H1,I1,r1,q1⟩=>?_);obtain⟨c,rfl,q1⟩:=q1;cases r1;exact not_of (dJ ⟨.bl (!c),H1,I1,rfl,q1⟩)
end
noncomputable def SqL(K:aQ)(H:Hp)(a:aV)(xs:List V):Prop:=
 Rd H a (.lst xs)\/
  ∃(o:Obj) (its:Array Value) (n:Nat),K.lookup a=some o/\o.cls=.type "list"/\o.dict=none/\o.data=.seq its n/\its.size<=aM/\Vals xs its.toList
noncomputable def SqT(K:aQ)(H:Hp)(a:aV)(xs:List V):Prop:=
 Rd H a (.tup xs)\/
  ∃(o:Obj) (its:Array Value) (n:Nat),K.lookup a=some o/\o.cls=.type "tuple"/\o.data=.seq its n/\its.size<=aM/\Vals xs its.toList
noncomputable def absV:Value->Option V
 |.none =>some .non
 |.bool b=>some (.bl b)
 |.int i _=>some (.int i)
 |.str x _=>some (.str x)
 |.bytes b _=>some (.byt b)
 |.float b _=>some (.flt b)
 |.ref a=>some (.ref a)
 |.type n=>some (.ty n)
 |_=>none
theorem RelV.abs{x:V}{u:Value}(r:RelV x u):absV u=some x:=by
 cases x with
 |non=>cases r;rfl
 |bl _=>cases r;rfl
 |int _=>obtain⟨t,rfl⟩:=r;rfl
 |str _=>obtain⟨t,rfl⟩:=r;rfl
 |byt _=>obtain⟨t,rfl⟩:=r;rfl
 |flt _=>obtain⟨t,rfl⟩:=r;rfl
 |ref _=>cases r;rfl
 |ty _=>cases r;rfl
theorem RelV.inj{x:V}{u:Value}(r:RelV x u)(q:RelV y u):x=y:=Option.some.inj (r.abs.symm.trans q.abs)
theorem Vals.inj:∀{xs ys:List V} {us:List Value},Vals xs us->Vals ys us->xs=ys
 |_,_,_,.nil,.nil =>rfl
 |_,_,_,.cons r t,.cons r' t' =>by rw[r.inj r',Vals.inj t t']
section
variable{X:Cx}{pins:List (aV×Obj)}{σ:St}{H:Hp}{s:aX}{a:aV}{xs ys:List V}
theorem SqL.of(h:H a=some (.lst xs)):SqL K H a xs:=.inl (.inl h)
theorem SqT.of(h:H a=some (.tup xs)):SqT K H a xs:=.inl (.inl h)
theorem Inv.list(I:Inv X pins σ H s)(h:SqL X.K H a xs):∃its:List Value,Vals xs its/\PlainL s.heap a its.toArray/\xs.length<=aM:=by
 rcases h with h|⟨o,its,n,hk,hc,hd,hs,hz,r⟩
 ·obtain⟨z,its,n,r,e⟩:=h.ok I.hok;exact⟨its,r,⟨_,n,e,rfl,rfl,rfl⟩,z⟩
 ·refine⟨its.toList,r,⟨o,n,I.kIn a o hk,hc,hd,by simpa using hs⟩,?_⟩;have e:=r.length;grind
theorem Inv.tuple(I:Inv X pins σ H s)(h:SqT X.K H a xs):∃its:List Value,Vals xs its/\IsTup s.heap a its.toArray/\xs.length<=aM:=by
 rcases h with h|⟨o,its,n,hk,hc,hs,hz,r⟩
 ·obtain⟨z,its,r,p⟩:=h.ok I.hok;grind
 ·refine⟨its.toList,r,⟨o,I.kIn a o hk,hc,n,by simpa using hs⟩,?_⟩;have e:=r.length;grind
theorem Inv.list_inj(I:Inv X pins σ H s)(h:SqL X.K H a xs)(h' :SqL X.K H a ys):xs=ys:=by
 obtain⟨its,r,⟨o,n,e,_,_,d⟩,_⟩:=I.list h;obtain⟨its',r',⟨o',n',e',_,_,d'⟩,_⟩:=I.list h';rw[e]at e';cases e';rw[d]at d';injection d' with d1 _
 have:its=its' :=by simpa using congrArg Array.toList d1
 subst this;exact r.inj r'
theorem Inv.tuple_inj(I:Inv X pins σ H s)(h:SqT X.K H a xs)(h' :SqT X.K H a ys):xs=ys:=by
 obtain⟨its,r,⟨o,e,_,n,d⟩,_⟩:=I.tuple h;obtain⟨its',r',⟨o',e',_,n',d'⟩,_⟩:=I.tuple h';rw[e]at e';cases e';rw[d]at d';injection d' with d1 _
 have:its=its' :=by simpa using congrArg Array.toList d1
 subst this;exact r.inj r'
end
section
variable{X:Cx}{st:Stmt}{rest:List Stmt}{t u:TS}{e:Expr}{te:TE}{pos:Pos}
noncomputable def tNext:TS:=fun D σ H=>D.nx σ H
noncomputable def tSeq(t u:TS):TS:=fun D σ H=>t {D with nx:=u D} σ H
theorem zQp:PSs X [] tNext:=fun _ _ σ H _ I h=>wpAny_execs_nil ⟨σ,H,I,h⟩
theorem vW7(h1:PS X st t)(h2:PSs X rest u):PSs X (st::rest) (tSeq t u):=by
 intro pins s σ H D I h;refine wpAny_execs_cons (thn (h1 pins s σ H {D with nx:=u D} I h) fun f s1 q=>?_);cases f with
 | next=>
   obtain⟨σ',H',I',q⟩:=q;exact h2 pins s1 σ' H' D I' q
 |ret v=>exact q
 |brk=>exact q
 |cont=>exact q
theorem zK1(h1:PS X st t):PSs X [st] t:=by
 intro pins s σ H D I h;refine wpAny_execs_cons (thn (h1 pins s σ H D I h) fun f s1 q=>?_);cases f with
 |next=>exact wpAny_execs_nil q
 |ret v=>exact q
 |brk=>exact q
 |cont=>exact q
theorem Inv.quiet{σ:St}(I:Inv X pins σ H s):interactive X.env=false:=by simp[interactive,I.ok.kind]
noncomputable def jXw(te:TE):TS:=fun D σ H=>te σ H fun _ H1=>D.nx σ H1
theorem zK4(he:PE X e te)(hs:swapsWith e none pos.line X.env=pure false:=by rfl):PS X (.Expr e pos) (jXw te):=by
 intro pins s σ H D I h;exact wpAny_Expr_any (thn (he pins s σ H _ I h) fun v s1 ⟨x,H1,I1,r1,q1⟩=>⟨σ,H1,I1,q1⟩) I.quiet hs
noncomputable def tRet(te:TE):TS:=fun D σ H=>te σ H D.rt
theorem jJp(he:PE X e te):PS X (.Return (some e) pos) (tRet te):=by
 intro pins s σ H D I h;exact wpAny_Return_some (thn (he pins s σ H _ I h) fun v s1 ⟨x,H1,I1,r1,q1⟩=>⟨x,σ,H1,I1,r1,q1⟩)
noncomputable def tIfS(c:TT)(t u:TS):TS:=fun D σ H=>c σ H fun b H1=>if b=true then t D σ H1 else u D σ H1
theorem jX4{c:Expr}{a b:List Stmt}{tc:TT}(hc:PT X c tc)(ha:PSs X a t)(hb:PSs X b u):PS X (.If c a b pos) (tIfS tc t u):=by
 intro pins s σ H D I h;refine wpAny_If (thn (hc pins s σ H _ I h) fun d s1 ⟨H1,I1,q1⟩=>?_);cases d with
 |true=>exact ha pins s1 σ H1 D I1 q1
 |false=>exact hb pins s1 σ H1 D I1 q1
end
noncomputable abbrev TG:=V->St->Hp->(St->Hp->Prop)->Prop
noncomputable abbrev TGs:=List V->St->Hp->(St->Hp->Prop)->Prop
noncomputable def PG(X:Cx)(target:Expr)(t:TG):Prop:=
 ∀(pins:List (aV×Obj)) (s:aX) (σ:St) (H:Hp) (v:V) (u:Value) (Q:St->Hp->Prop),Inv X pins σ H s->RelV v u->t v σ H Q->
  aR (model X.prog X.w) X.A (assign target X.env u) (fun _ s' =>∃σ' H',Inv X pins σ' H' s' /\Q σ' H') X.xe s
noncomputable def PGs(X:Cx)(ts:List Expr)(t:TGs):Prop:=
 ∀(pins:List (aV×Obj)) (s:aX) (σ:St) (H:Hp) (vs:List V) (us:List Value) (Q:St->Hp->Prop),Inv X pins σ H s->Vals vs us->t vs σ H Q->
  aR (model X.prog X.w) X.A (assignInOrder ((assignEach ts X.env).map (·.2)) us) (fun _ s' =>∃σ' H',Inv X pins σ' H' s' /\Q σ' H') X.xe s
noncomputable abbrev TSet:=V->V->V->Hp->(Hp->Prop)->Prop
noncomputable def PSet(X:Cx)(t:TSet):Prop:=
 ∀(pins:List (aV×Obj)) (s:aX) (σ:St) (H:Hp) (o i v:V) (ov iv u:Value) (Q:Hp->Prop),Inv X pins σ H s->RelV o ov->RelV i iv->RelV v u->t o i v H Q->
  aR (model X.prog X.w) X.A (setItem ov iv u) (fun _ s' =>∃H',Inv X pins σ H' s' /\Q H') X.xe s
noncomputable abbrev TIp:=V->V->Hp->VK->Prop
noncomputable def PIp(X:Cx)(op:Operator)(t:TIp):Prop:=
 ∀(pins:List (aV×Obj)) (s:aX) (σ:St) (H:Hp) (x y:V) (v u:Value) (Q:VK),Inv X pins σ H s->RelV x v->RelV y u->t x y H Q->
  aR (model X.prog X.w) X.A (inplaceOp op v u) (EP X pins σ Q) X.xe s
section
variable{X:Cx}{pos:Pos}
noncomputable def vK5(i:Nat):TG:=fun v σ H Q=>Q (σ.set i (some v)) H
theorem jQh{x:Str}(hN:X.N.Nodup)(hi:X.N[i]?=some x)(hx:Loc X.env.scope x)(hf:X.fn x=true\/X.env.scope.names.lookup x=some .local :=by first|exact .inl rfl|exact .inr rfl|assumption):PG X (.Name x pos) (vK5 i):=by
 intro pins s σ H v u Q I r h;exact wpAny_assign_Name (qVn I hN hi hx r (fun s' I' =>⟨_,H,I',h⟩) hf)
noncomputable def gNil:TGs:=fun vs σ H Q=>vs=[]/\Q σ H
noncomputable def jYy(t:TG)(u:TGs):TGs:=fun vs σ H Q=>∃v r,vs=v::r/\t v σ H fun σ' H' =>u r σ' H' Q
theorem jQg:PGs X [] gNil:=by
 intro pins s σ H vs us Q I r h;obtain⟨e,h⟩:=h;subst e;exact assignInOrder_nil ⟨σ,H,I,h⟩
theorem zXz{e:Expr}{t:TG}{u:TGs}(h1:PG X e t)(h2:PGs X es u)(hs:(assignEach (e::es) X.env).map (·.2)=assign e X.env::(assignEach es X.env).map (·.2):=by rfl):PGs X (e::es) (jYy t u):=by
 intro pins s σ H vs us Q I r h;obtain⟨v,vr,e1,h⟩:=h;subst e1;cases r with
 | cons r rr=>
   rw[hs];refine assignInOrder_cons (thn (h1 pins s σ H _ _ _ I r h) fun _ s1 ⟨σ1,H1,I1,q1⟩=>?_);exact h2 pins s1 σ1 H1 _ _ Q I1 rr q1
noncomputable def gTup(K:aQ)(n:Nat)(t:TGs):TG:=fun v σ H Q=>∃a xs,v=.ref a/\SqT K H a xs/\xs.length=n/\t xs σ H Q
theorem jJx{t:TGs}(hc:X.calm=true)(h:PGs X es t)(hn:(assignEach es X.env).length =n:=by rfl)(hst:(assignEach es X.env).findIdx? (·.1)=none:=by rfl):PG X (.Tuple es k pos) (gTup X.K n t):=by
 intro pins s σ H v u Q I r hw;obtain⟨a,xs,e1,hq,hl,hw⟩:=hw;subst e1;cases r;obtain⟨its,rv,ht,hz⟩:=I.tuple hq;refine assign_Tuple_tuple (I.ok.hd hc) ht (by simp[hn,←hl,rv.length]) hst fun h' hx=>?_
 have I1:Inv X pins σ H {s with heap:=h' }:=I.kept (t' :=s.toks) fun b o e=>hx b o (bW (aC e)) e
 exact h pins _ σ H xs _ Q I1 (by simpa using rv) hw
noncomputable def gSub(to ti:TE)(t:TSet):TG:=fun v σ H Q=>to σ H fun o H1=>ti σ H1 fun i H2=>t o i v H2 fun H3=>Q σ H3
theorem jJy{o i:Expr}{to ti:TE}{t:TSet}(ho:PE X o to)(hi:PE X i ti)(hs:PSet X t)(ha:∀v,assign (.Subscript o i pos) X.env v=(do
   let ov ←holding [v] (eval o X.env);let iv ←holding [v,ov] (eval i X.env);standAt pos;holding [v,ov,iv] (setItem ov iv v);release [v,ov,iv] []):=by intro _;rfl):PG X (.Subscript o i pos) (gSub to ti t):=by
 intro pins s σ H v u Q I r h;rw[ha];refine aZ (eK (thn (ho pins s σ H _ I h) fun ov s1 ⟨x,H1,I1,r1,q1⟩=>?_));refine aZ (eK (thn (hi pins s1 σ H1 _ I1 q1) fun iv s2 ⟨y,H2,I2,r2,q2⟩=>?_));refine aZ (wpAny_standAt (aZ (eK (thn (hs pins s2 σ H2 x y v ov iv u _ I2 r1 r2 r q2) fun _ s3 ⟨H3,I3,q3⟩=>?_))));exact wpAny_release ⟨σ,H3,I3,q3⟩
noncomputable def tAsg(te:TE)(g:TG):TS:=fun D σ H=>te σ H fun x H1=>g x σ H1 D.nx
theorem zWe{tg e:Expr}{te:TE}{g:TG}(he:PE X e te)(hg:PG X tg g)(hs:swapsWithSole [tg] e pos.line X.env=pure false:=by rfl)(hw:swappedStores [tg] e X.env=pure none:=by rfl)(h1:(assignEach [tg] X.env).map (·.2)=[assign tg X.env]:=by rfl):PS X (.Assign [tg] e pos) (tAsg te g):=by
 intro pins s σ H D I h;refine wpAny_Assign_stores (thn (he pins s σ H _ I h) fun v s1 ⟨x,H1,I1,r1,q1⟩=>?_) hs hw;rw[h1];exact thn (hg pins s1 σ H1 x v _ I1 r1 q1) fun _ s2 q=>q
theorem jJo{x:Str}{e:Expr}{te:TE}(hN:X.N.Nodup)(hi:X.N[i]?=some x)(hx:Loc X.env.scope x)(he:PE X e te)(hs:swapsWith e (some (.Name x pos')) pos.line X.env=pure false:=by rfl)(hf:X.fn x=true\/X.env.scope.names.lookup x=some .local :=by first|exact .inl rfl|exact .inr rfl|assumption):
  PS X (.Assign [.Name x pos'] e pos) (tAsg te (vK5 i)):=by
 intro pins s σ H D I h;refine wpAny_Assign_Name (thn (he pins s σ H _ I h) fun v s1 ⟨y,H1,I1,r1,q1⟩=>?_) hs;exact qVn I1 hN hi hx r1 (fun s2 I2=>⟨_,H1,I2,q1⟩) hf
noncomputable def tAug(i:Nat)(te:TE)(ti:TIp):TS:=fun D σ H=>∃x,σ[i]?=some (some x)/\te σ H fun y H1=>ti x y H1 fun z H2=>D.nx (σ.set i (some z)) H2
theorem jJs{x:Str}{e:Expr}{te:TE}{op:Operator}{ti:TIp}(hN:X.N.Nodup)(hi:X.N[i]?=some x)(hx:Loc X.env.scope x)(he:PE X e te)(ho:PIp X op ti)(hf:X.fn x=true\/X.env.scope.names.lookup x=some .local :=by first|exact .inl rfl|exact .inr rfl|assumption):
  PS X (.AugAssign (.Name x pos') op e pos) (tAug i te ti):=by
 intro pins s σ H D I h;obtain⟨v,e1,h⟩:=h;obtain⟨m,hn,hl⟩:=I.loc;have vis:Vis X.env.scope x:=by rcases hx with k|k;exact .inl k;exact .inr (.inl k)
 obtain⟨u,r,l⟩:=hl i x v hi e1 vis;refine wpAny_AugAssign_Name ?_
 have go:aR (model X.prog X.w) X.A (eval e X.env) (fun w s₂=>aR (model X.prog X.w) X.A (inplaceOp op u w) (fun r s₃=>aR (model X.prog X.w) X.A (storeName X.env x r) (fun _=>SP X pins D .next) X.xe s₃) X.xe s₂) X.xe s:=by
  refine thn (he pins s σ H _ I h) fun w s1 ⟨y,H1,I1,r1,q1⟩=>?_
  refine thn (ho pins s1 σ H1 v y u w _ I1 r r1 q1) fun z s2 ⟨zv,H2,I2,r2,q2⟩=>?_
  exact qVn I2 hN hi hx r2 (fun s3 I3=>⟨_,H2,I3,q2⟩) hf
 rcases l with⟨hk,hm⟩|⟨hk,c,hc,hcell⟩
 ·exact wpAny_loadName_local I.ok.kind hk hn hm go
 ·rcases hk with hk | hk
  ·exact wpAny_loadName_cell I.ok.kind hk hc hcell go
  ·rcases hx with k | k
   ·have:X.env.scope.names.lookup x=some .free :=hk;grind
   ·have:X.env.scope.names.lookup x=some .free :=hk;grind
noncomputable def ipI(f:Int->Int->Int):TIp:=fun x y H Q=>∃i j,x=.int i/\y=.int j/\Q (.int (f i j)) H
theorem vJe:PIp X .Add (ipI fun i j=>i+j):=by
 intro pins s σ H x y v u Q I r1 r2 h;obtain⟨i,j,e1,e2,q⟩:=h;subst e1;subst e2;obtain⟨t,rfl⟩:=r1;obtain⟨t',rfl⟩:=r2;exact iadd_int ⟨.int _,H,I.tok _,⟨_,rfl⟩,q⟩
theorem jW3:PIp X .Sub (ipI fun i j=>i - j):=by
 intro pins s σ H x y v u Q I r1 r2 h;obtain⟨i,j,e1,e2,q⟩:=h;subst e1;subst e2;obtain⟨t,rfl⟩:=r1;obtain⟨t',rfl⟩:=r2;exact isub_int ⟨.int _,H,I.tok _,⟨_,rfl⟩,q⟩
end
section
variable{X:Cx}{pos:Pos}
noncomputable def zJ3(c:TT)(tb:TS):TS:=fun D σ H=>∃W:Nat->St->Hp->Prop,(∃m,W m σ H)/\∀m σ H,W m σ H->
 c σ H fun b H1=>if b=true then∃N:St->Hp->Prop,(∀σ' H',N σ' H' ->∃m',m'<m/\W m' σ' H')/\tb {D with nx:=N,ct:=N,bk:=D.nx} σ H1 else D.nx σ H1
theorem zXw{c:Expr}{tc:TT}{tb:TS}(hp:PassesOwn (model X.prog X.w) X.A X.env X.xe)(hc:PT X c tc)(hb:PSs X body tb):PS X (.While c body [] pos) (zJ3 tc tb):=by
 intro pins s σ H D I h;obtain⟨W,⟨m0,w0⟩,turn⟩:=h;refine wpAny_While (codeAny_whileLoop (fun n s' =>∃σ' H',Inv X pins σ' H' s' /\W n σ' H') ?_ m0 ⟨σ,H,I,w0⟩);rintro n s1 ⟨σ1,H1,I1,w1⟩;refine eW hp (thn (hc pins s1 σ1 H1 _ I1 (turn n σ1 H1 w1)) fun b s2 ⟨H2,I2,q2⟩=>?_);cases b with
 | true=>
   obtain⟨N,hN,q2⟩:=q2;refine eW hp (thn (hb pins s2 σ1 H2 _ I2 q2) fun f s3 q3=>?_);cases f with
   | next=>
     obtain⟨σ3,H3,I3,n3⟩:=q3;grind
   | cont=>
     obtain⟨σ3,H3,I3,n3⟩:=q3;grind
   |brk=>exact q3
   |ret v=>exact q3
 | false=>
   exact wpAny_execs_nil ⟨σ1,H2,I2,q2⟩
end
structure It where
 go:Nat->Hp->Prop
 yld:Nat->Hp->V->Hp->Prop
 stop:Nat->Hp->Prop
noncomputable def FpOk(X:Cx)(pins:List (aV×Obj))(H:Hp)(b:aV):Prop:=
 H b=none/\b≠X.env.locals/\b∉X.fs/\(b∈X.ex\/X.s₀.heap.objs.size<=b)/\(∀x c,X.env.cells.lookup x=some c->c≠b)/\∀p∈X.pn ++ pins,p.1≠b
theorem Inv.fpOk{σ:St}{H':Hp}{b:aV}(I:Inv X pins σ H s)(hb:s.heap.objs.size<=b)(hn:H' b=none):FpOk X pins H' b:=by
 refine⟨hn,dR (aF I.lt hb),I.nofs hb,.inr (aS I.sz hb),fun x c e z=>?_,fun p hp z=>?_⟩
 ·obtain⟨v,q⟩:=I.cell x c e;exact absurd (aF q.lt (by rw[z];exact hb)) (cF _)
 ·exact absurd (aF (aC (I.pin p hp).1) (by rw[z];exact hb)) (cF _)
structure Turn(P:bQ)(w:bH)(K:aQ)(tg:Expr)(J:It)(fp:List aV)(it:aV)(tn:Nat->Heap->Prop):Prop where
 mem:it∈fp
 obj:∀i h,tn i h->∀b∈fp,∃o,h.get? b=some o/\∀v,o.data≠ .cell v
 keep:∀i h h',tn i h->(∀b∈fp,∀o,h.get? b=some o->h'.get? b=some o)->tn i h'
 item:∀(X:Cx),X.prog=P->X.w=w->X.K=K->X.calm=true->∀(i:Nat) (pins:List (aV×Obj)) (s:aX) (σ:St) (H:Hp) (E:Value->aX->Prop),Inv X pins σ H s->(∀b∈fp,FpOk X pins H b)->tn i s.heap->J.go i H->
  aR (model P w) X.A (pyNext (.ref it)) (fun r s1=>∃u,r=some u/\
   aR (model P w) X.A (letOwnedTupleGo tg (.ref it) u) (fun _ s2=>∃x H',Inv X pins σ H' s2/\RelV x u/\J.yld i H x H' /\tn (i+1) s2.heap/\∀b∈fp,H' b=none) E s1) E s
 done:∀(X:Cx),X.prog=P->X.w=w->X.K=K->X.calm=true->∀(i:Nat) (pins:List (aV×Obj)) (s:aX) (σ:St) (H:Hp) (E:Value->aX->Prop),Inv X pins σ H s->(∀b∈fp,FpOk X pins H b)->tn i s.heap->J.stop i H->
  aR (model P w) X.A (pyNext (.ref it)) (fun r s1=>r=none/\Inv X pins σ H s1) E s
 self:∀(A:cE) (i:Nat) (s:aX) (Q:Value->aX->Prop) (E:Value->aX->Prop),tn i s.heap->Q (.ref it) s->aR (model P w) A (pyIter (.ref it)) Q E s
noncomputable abbrev TI:=St->Hp->(It->Hp->Prop)->Prop
noncomputable def PIE(X:Cx)(pins:List (aV×Obj))(σ:St)(tg:Expr)(R:It->Hp->Prop)(itv:Value)(s2:aX):Prop:=
 ∃(it:aV) (fp:List aV) (tn:Nat->Heap->Prop) (J:It) (H' :Hp),itv=.ref it/\Inv X pins σ H' s2/\Turn X.prog X.w X.K tg J fp it tn/\tn 0 s2.heap/\(∀b∈fp,FpOk X pins H' b)/\R J H'
noncomputable def PI(X:Cx)(tg iter:Expr)(wi:TI):Prop:=
 ∀(pins:List (aV×Obj)) (s:aX) (σ:St) (H:Hp) (R:It->Hp->Prop),Inv X pins σ H s->wi σ H R->
  aR (model X.prog X.w) X.A (eval iter X.env) (fun v s1=>aR (model X.prog X.w) X.A (pyIter v) (PIE X pins σ tg R) X.xe s1) X.xe s
theorem vK4{E:Value->aX->Prop}{tg:Expr}{u:Value}{o:Obj}{n:String}{vs:Array Value}{Q:Unit->aX->Prop}(ho:s.heap.get? it=some o)(hc:o.cls=.type n)(hd:o.data=.fields vs)(hn: ["enumerate","zip","dict_itemiterator","dict_reverseitemiterator","odict_iterator","itertools.zip_longest","itertools.pairwise"].contains n=false)(hQ:Q () s):aR M A (letOwnedTupleGo tg (.ref it) u) Q E s:=by
 unfold letOwnedTupleGo
 cases tg <;> first
  |exact aL hQ
  | (cases u <;> first
    |exact aL hQ
    | (refine aZ (wpAny_load ho ?_)
       rw[hc,hd];show aR M A (if(["enumerate","zip","dict_itemiterator","dict_reverseitemiterator","odict_iterator","itertools.zip_longest","itertools.pairwise"].contains n && vs[0]? == some (rawInt _))=true then _ else _) Q E s;rw[if_neg (by intro h;rw[hn,Bool.false_and]at h;cases h)];exact aL hQ))
noncomputable def Itl(K:aQ)(a:aV):It:=
 ⟨fun i H=>∃xs x,SqL K H a xs/\xs[i]?=some x,fun i H x H' =>H' =H/\∀xs,SqL K H a xs->xs[i]?=some x,fun i H=>∃xs,SqL K H a xs/\xs.length<=i⟩
noncomputable def Itt(K:aQ)(a:aV):It:=
 ⟨fun i H=>∃xs x,SqT K H a xs/\xs[i]?=some x,fun i H x H' =>H' =H/\∀xs,SqT K H a xs->xs[i]?=some x,fun i H=>∃xs,SqT K H a xs/\xs.length<=i⟩
noncomputable def Itr(lo:Int)(n:Nat):It:=⟨fun i _=>i<n,fun i H x H' =>H' =H/\x=.int (lo+i),fun i _=>n<=i⟩
theorem zVs{P:bQ}{w:bH}{tg:Expr}(a it:aV):Turn P w K tg (Itl K a) [it] it (fun i h=>h.IsListIter it a i) where
 mem:=by simp
 obj:=fun i h st b hb=>by
  have e:b=it:=by simpa using hb
  subst e;obtain⟨o,e,c,d⟩:=st;grind
 keep:=fun i h h' st k=>st.at fun o e=>k it (by simp) o e
 item:=by
  intro X hP hw hK hc i pins s σ H E I hf st hg;subst hP hw hK;obtain⟨xs,x,hq,hx⟩:=hg;obtain⟨its,rv,p,hz⟩:=I.list hq;obtain⟨u,hu,ru⟩:=rv.get hx;obtain⟨f0,f1,f2,f3,f4,f5⟩:=hf it (by simp);refine wpAny_pyNext_list_item st p.isList (x:=u) (by simpa using hu) fun h' st' sb=>?_
  have I1:Inv X pins σ H {s with heap:=h' }:=I.turned (t' :=s.toks) (fun b o hb e=>(sb.2 b hb).trans e) f0 f1 f3 f4 f5;obtain⟨o,e,c,d⟩:=id st';exact⟨u,rfl,vK4 (s:={s with heap:=h' }) e c d (by decide) ⟨x,H,I1,ru,⟨rfl,fun ys hy=>by rw[I.list_inj hy hq];exact hx⟩,st',fun b hb=>(hf b hb).1⟩⟩
 done:=by
  intro X hP hw hK hc i pins s σ H E I hf st hg;subst hP hw hK;obtain⟨xs,hq,hx⟩:=hg;obtain⟨its,rv,p,hz⟩:=I.list hq;obtain⟨f0,f1,f2,f3,f4,f5⟩:=hf it (by simp);have hl:=rv.length;exact wpAny_pyNext_list_end (I.ok.hd hc) st p.isList (by simp;omega) fun h' eb=>⟨rfl,I.turned (t' :=s.toks) (fun b o hb e=>eb b o hb e) f0 f1 f3 f4 f5⟩
 self:=fun _ _ _ _ _ st h=>wpAny_pyIter_listiter st h
theorem vYt{P:bQ}{w:bH}{tg:Expr}(a it:aV):Turn P w K tg (Itt K a) [it] it (fun i h=>h.IsTupleIter it a i) where
 mem:=by simp
 obj:=fun i h st b hb=>by
  have e:b=it:=by simpa using hb
  subst e;obtain⟨o,e,c,d⟩:=st;grind
 keep:=fun i h h' st k=>st.at fun o e=>k it (by simp) o e
 item:=by
  intro X hP hw hK hc i pins s σ H E I hf st hg;subst hP hw hK;obtain⟨xs,x,hq,hx⟩:=hg;obtain⟨its,rv,p,hz⟩:=I.tuple hq;obtain⟨u,hu,ru⟩:=rv.get hx;obtain⟨f0,f1,f2,f3,f4,f5⟩:=hf it (by simp);refine wpAny_pyNext_tuple_item st (show s.heap.IsTuple a its.toArray from p) (x:=u) (by simpa using hu) fun h' st' sb=>?_
  have I1:Inv X pins σ H {s with heap:=h' }:=I.turned (t' :=s.toks) (fun b o hb e=>(sb.2 b hb).trans e) f0 f1 f3 f4 f5;obtain⟨o,e,c,d⟩:=id st';exact⟨u,rfl,vK4 (s:={s with heap:=h' }) e c d (by decide) ⟨x,H,I1,ru,⟨rfl,fun ys hy=>by rw[I.tuple_inj hy hq];exact hx⟩,st',fun b hb=>(hf b hb).1⟩⟩
 done:=by
  intro X hP hw hK hc i pins s σ H E I hf st hg;subst hP hw hK;obtain⟨xs,hq,hx⟩:=hg;obtain⟨its,rv,p,hz⟩:=I.tuple hq;obtain⟨f0,f1,f2,f3,f4,f5⟩:=hf it (by simp);have hl:=rv.length;exact wpAny_pyNext_tuple_end (I.ok.hd hc) st (show s.heap.IsTuple a its.toArray from p) (by simp;omega) fun h' eb=>⟨rfl,I.turned (t' :=s.toks) (fun b o hb e=>eb b o hb e) f0 f1 f3 f4 f5⟩
 self:=fun _ _ _ _ _ st h=>wpAny_pyIter_tupleiter st h
theorem vYu{P:bQ}{w:bH}{tg:Expr}(it:aV)(lo:Int)(n:Nat):Turn P w K tg (Itr lo n) [it] it (fun i h=>IsRangeIter h it (lo+(i:Nat) * 1) ((n:Int) - (i:Nat)) 1) where
 mem:=by simp
 obj:=fun i h st b hb=>by
  grind
 keep:=fun i h h' st k=>k it (by simp) _ st
 item:=by
  intro X hP hw hK hc i pins s σ H E I hf st hg;subst hP hw hK;obtain⟨f0,f1,f2,f3,f4,f5⟩:=hf it (by simp);have W:=Walks.range (prog:=X.prog) (w:=X.w) (I.ok.hd hc) it lo 1 n;refine W.item i s _ _ hg st fun v h' tk hv st' kk=>?_
  obtain⟨t,rfl⟩:=hv;have I1:Inv X pins σ H {s with heap:=h',toks:=tk}:=I.turned (fun b o hb e=>kk b o (by simpa using hb) e) f0 f1 f3 f4 f5;refine⟨_,rfl,vK4 (s:={s with heap:=h',toks:=tk}) (n:="range_iterator") st' rfl rfl (by decide) ⟨.int (lo+i),H,I1,⟨t,?_⟩,⟨rfl,rfl⟩,st',fun b hb=>(hf b hb).1⟩⟩;grind
 done:=by
  intro X hP hw hK hc i pins s σ H E I hf st hg;obtain⟨f0,f1,f2,f3,f4,f5⟩:=hf it (by simp);exact wpAny_pyNext_range_end (I.ok.hd hc) st (by have:n<=i:=hg;omega) fun h' eb=>⟨rfl,I.turned (t' :=s.toks) (fun b o hb e=>eb b o hb e) f0 f1 f3 f4 f5⟩
 self:=fun _ _ _ _ _ st h=>wpAny_pyIter_rangeiter st h
section
variable{X:Cx}{tg:Expr}
theorem zXu{σ:St}{R:It->Hp->Prop}{E:Value->aX->Prop}{lo hi:Int}{t u v:Tok}{tk:Nat}(I:Inv X pins σ H s)(h1: -(2 ^ 62)<=lo)(h2:lo<2 ^ 62)(h3: -(2 ^ 62)<=hi)(h4:hi<2 ^ 62)(q:R (Itr lo (hi - lo).toNat) H):aR (model X.prog X.w) X.A (pyIter (.ref s.heap.objs.size)) (PIE X pins σ tg R) E {s with heap:=s.heap.push {cls:=.type "range",data:=.fields #[.int lo t,.int hi u,.int 1 v]},toks:=tk}:=by
 refine wpAny_pyIter_range (IsRange.new ..) (small_one h1 h2 h3 h4) ?_
 have I1:Inv X pins σ H {s with heap:=s.heap.push {cls:=.type "range",data:=.fields #[.int lo t,.int hi u,.int 1 v]},toks:=tk}:=I.kept fun b o e=>aU _ e
 refine⟨(s.heap.push {cls:=.type "range",data:=.fields #[.int lo t,.int hi u,.int 1 v]}).objs.size,[(s.heap.push {cls:=.type "range",data:=.fields #[.int lo t,.int hi u,.int 1 v]}).objs.size],_,_,H,rfl,
  I1.kept (t' :=tk) fun b o e=>aU _ e,vYu _ lo (hi - lo).toNat,?_,fun b hb=>?_,q⟩
 ·have e1:lo + ((0:Nat):Int) * 1=lo:=by simp
  have e2:(((hi - lo).toNat :Nat):Int) - ((0:Nat):Int)=Builtin.Range.rangeSize lo hi 1:=by rw[rangeSize_one];split <;> omega
  show IsRangeIter _ _ (lo+((0:Nat):Int) * 1) ((((hi - lo).toNat :Nat):Int) - ((0:Nat):Int)) 1;rw[e1,e2];exact aN _ rfl
 ·have e:b=(s.heap.push {cls:= .type "range",data:= .fields #[.int lo t, .int hi u, .int 1 v]}).objs.size:=by simpa using hb
  subst e;exact I1.fpOk (aD _) (I1.hok.fresh (aD _))
noncomputable def jYw(ta:TA):TI:=fun σ H R=>ta σ H fun vs H1=>∃j:Int,vs=[.int j]/\ -(2 ^ 62)<=j/\j<2 ^ 62/\R (Itr 0 j.toNat) H1
theorem zV6{a:Expr}{ta:TA}{p:Pos}(hg:Gl X "range")(hm:X.mg "range"=none)(ha:PA X [a] ta)(hs:aJ [a] X.env=[(false,eval a X.env)]:=by rfl):PI X tg (.Call (.Name "range" p) [a] [] pos) (jYw ta):=by
 intro pins s σ H R I h;refine Call_ (qYh I hg hm boot_range (dL (thn (ha pos pins s σ H _ I h) fun us s1 ⟨vs,H1,I1,r1,q1⟩=>?_) hs rfl));obtain⟨j,e,q1,q2,q⟩:=q1;subst e;cases r1 with
 | cons r rr=>
   cases rr;obtain⟨t,rfl⟩:=r;exact call_range_1 (zXu I1 (by omega) (by omega) q1 q2 (by simpa using q))
noncomputable def tFor(wi:TI)(g:TG)(tb:TS):TS:=fun D σ H=>wi σ H fun J H1=>∃W:Nat->Nat->St->Hp->Prop,(∃m,W 0 m σ H1)/\∀i m σ H,W i m σ H->
 (J.stop i H/\D.nx σ H)\/(J.go i H/\∃N:St->Hp->Prop,(∀σ' H',N σ' H' ->∃m',m'<m/\W (i+1) m' σ' H')/\∀x H',J.yld i H x H' ->g x σ H' fun σ2 H2=>tb {D with nx:=N,ct:=N,bk:=D.nx} σ2 H2)
noncomputable def vQg(fp:List aV)(h:Heap):List (aV×Obj):=fp.filterMap fun b=>(h.get? b).map fun o=>(b,o)
theorem qV3{b:aV}{o:Obj}(hb:b∈fp)(e:h.get? b=some o):(b,o)∈vQg fp h:=cJ.mpr ⟨b,hb,by rw[e];rfl⟩
theorem zZb{p:aV×Obj}(hp:p∈vQg fp h):p.1∈fp/\h.get? p.1=some p.2:=by
 obtain⟨b,hb,e⟩:=cJ.mp hp;cases q:h.get? b with
 |none=>grind
 |some o=>grind
theorem Inv.pinned{σ:St}(I:Inv X pins σ H s)(hf:∀b∈fp,FpOk X pins H b)(ho:∀b∈fp,∃o,s.heap.get? b=some o/\∀v,o.data≠ .cell v):Inv X (pins ++ vQg fp s.heap) σ H s:=
 I.pins_of fun p hp=>(bG.mp hp).elim (fun z=>I.pin p (bI _ z)) fun z=>by
  obtain⟨hb,e⟩:=zZb z;obtain⟨f0,f1,f2,_⟩:=hf p.1 hb;grind
theorem Inv.unpinned{pl:List (aV×Obj)}{σ:St}(I:Inv X (pins ++ pl) σ H s):Inv X pins σ H s:=I.pins_of fun p hp=>I.pin p (bI _ (List.mem_append_left _ hp))
theorem jJq{iter:Expr}{wi:TI}{g:TG}{tb:TS}(hp:PassesOwn (model X.prog X.w) X.A X.env X.xe)(hc:X.calm=true)(hi:PI X tg iter wi)(hg:PG X tg g)(hb:PSs X body tb)(hs:∀x,foldedSetIterable iter X.env x=pure x:=by intro _;rfl):PS X (.For tg iter body [] pos) (tFor wi g tb):=by
 intro pins s σ H D I h;refine wpAny_For (thn (hi pins s σ H _ I h) fun v s1 h1=>thn h1 fun itv s2 h2=>?_) hs;obtain⟨it,fp,tn,J,H2,e,I2,T,st2,f2,W,⟨m0,w0⟩,turn⟩:=h2;subst e;have stat:∀{H' :Hp},(∀b∈fp,H' b=none)->∀b∈fp,FpOk X pins H' b:=fun hn b hb=>⟨hn b hb,(f2 b hb).2⟩
 refine codeAny_forLoop_any (fun n s' =>∃i σ' H',Inv X pins σ' H' s' /\tn i s'.heap/\(∀b∈fp,H' b=none)/\W i n σ' H') ?_ m0 ⟨0,σ,H2,I2,st2,fun b hb=>(f2 b hb).1,w0⟩;rintro n s3 ⟨i,σ3,H3,I3,st3,fr3,w3⟩;rcases turn i n σ3 H3 w3 with⟨stop,qn⟩|⟨go,N,hN,step⟩
 ·refine eW hp (thn (T.done X rfl rfl rfl hc i pins s3 σ3 H3 X.xe I3 (stat fr3) st3 stop) fun r s4 ⟨hr,I4⟩=>?_);subst hr;exact wpAny_execs_nil ⟨σ3,H3,I4,qn⟩
 ·refine eW hp (thn (T.item X rfl rfl rfl hc i pins s3 σ3 H3 X.xe I3 (stat fr3) st3 go) fun r s4 ⟨u,hr,h4⟩=>?_);subst hr;refine eW hp (thn h4 fun _ s5 ⟨x,H5,I5,r5,y5,st5,fr5⟩=>?_);have I5' :=I5.pinned (stat fr5) (T.obj _ _ st5);refine eW hp (thn (hg _ s5 σ3 H5 x u _ I5' r5 (step x H5 y5)) fun _ s6 ⟨σ6,H6,I6,q6⟩=>?_);refine eW hp (thn (hb _ s6 σ6 H6 _ I6 q6) fun f s7 q7=>?_);have again:∀{σ7:St} {H7:Hp},Inv X (pins ++ vQg fp s5.heap) σ7 H7 s7->N σ7 H7->∃m,m<n/\∃i σ' H',Inv X pins σ' H' s7/\tn i s7.heap/\(∀b∈fp,H' b=none)/\W i m σ' H' :=fun {σ7 H7} I7 n7=>by
   obtain⟨m',hm,w7⟩:=hN σ7 H7 n7;refine⟨m',hm,i+1,σ7,H7,I7.unpinned,T.keep _ _ _ st5 fun b hb o e=>(I7.pin (b,o) (bI _ (bI _ (qV3 hb e)))).1,fun b hb=>?_,w7⟩;obtain⟨o,e,d⟩:=T.obj _ _ st5 b hb;exact(I7.pin (b,o) (bI _ (bI _ (qV3 hb e)))).2.1
  cases f with
  |next=>obtain⟨σ7,H7,I7,n7⟩:=q7;exact again I7 n7
  |cont=>obtain⟨σ7,H7,I7,n7⟩:=q7;exact again I7 n7
  |brk=>obtain⟨σ7,H7,I7,q7⟩:=q7;exact⟨σ7,H7,I7.unpinned,q7⟩
  |ret v=>obtain⟨x7,σ7,H7,I7,r7,q7⟩:=q7;exact⟨x7,σ7,H7,I7.unpinned,r7,q7⟩
end
noncomputable abbrev R2:=V->V->Hp->VK->Prop
noncomputable def OpR(X:Cx)(f:Value->Value->Sem Value)(r:R2):Prop:=
 ∀(pins:List (aV×Obj)) (s:aX) (σ:St) (H:Hp) (x y:V) (v u:Value) (Q:VK),Inv X pins σ H s->RelV x v->RelV y u->r x y H Q->
  aR (model X.prog X.w) X.A (f v u) (EP X pins σ Q) X.xe s
noncomputable def UnR(X:Cx)(f:Value->Sem Value)(r:V->Hp->VK->Prop):Prop:=
 ∀(pins:List (aV×Obj)) (s:aX) (σ:St) (H:Hp) (x:V) (v:Value) (Q:VK),Inv X pins σ H s->RelV x v->r x H Q->
  aR (model X.prog X.w) X.A (f v) (EP X pins σ Q) X.xe s
noncomputable def jC(X:Cx)(f:Value)(r:List V->Hp->VK->Prop):Prop:=
 ∀(pins:List (aV×Obj)) (s:aX) (σ:St) (H:Hp) (xs:List V) (us:List Value) (Q:VK),Inv X pins σ H s->Vals xs us->r xs H Q->
  aR (model X.prog X.w) X.A (call f us) (EP X pins σ Q) X.xe s
noncomputable def tOp(r:R2)(ta tb:TE):TE:=fun σ H Q=>ta σ H fun x H1=>tb σ H1 fun y H2=>r x y H2 Q
noncomputable def tUn(r:V->Hp->VK->Prop)(ta:TE):TE:=fun σ H Q=>ta σ H fun x H1=>r x H1 Q
noncomputable def rI(C:Int->Int->Prop)(g:Int->Int->V):R2:=fun x y H Q=>∃i j,x=.int i/\y=.int j/\C i j/\Q (g i j) H
noncomputable def rI0(g:Int->Int->V):R2:=fun x y H Q=>∃i j,x=.int i/\y=.int j/\Q (g i j) H
noncomputable def rU(g:Int->V):V->Hp->VK->Prop:=fun x H Q=>∃i,x=.int i/\Q (g i) H
section
variable{X:Cx}{a b c:Expr}{ta tb tc:TE}{pos:Pos}
theorem binT(ha:PE X a ta)(hb:PE X b tb){σ:St}{R:V->V->Hp->Prop}(I:Inv X pins σ H s)(h:ta σ H fun x H1=>tb σ H1 fun y H2=>R x y H2){f:Value->Value->Sem Value}(hf:∀v u s2 x y H2,Inv X pins σ H2 s2->RelV x v->RelV y u->R x y H2->aR (model X.prog X.w) X.A (f v u) Q X.xe s2):
  aR (model X.prog X.w) X.A (eval a X.env) (fun v s₁=>aR (model X.prog X.w) X.A (eval b X.env) (fun u s₂=>aR (model X.prog X.w) X.A (f v u) Q X.xe s₂) X.xe s₁) X.xe s:=by
 refine thn (ha pins s σ H _ I h) fun v s1 ⟨x,H1,I1,r1,q1⟩=>?_
 refine thn (hb pins s1 σ H1 _ I1 q1) fun u s2 ⟨y,H2,I2,r2,q2⟩=>?_
 exact hf v u s2 x y H2 I2 r1 r2 q2
theorem zJi{op:Operator}{r:R2}(ho:OpR X (binaryOp op) r)(ha:PE X a ta)(hb:PE X b tb):PE X (.BinOp a op b pos) (tOp r ta tb):=by
 intro pins s σ H Q I h;exact wpAny_BinOp (binT ha hb I h fun v u s2 x y H2 I2 rx ry q=>ho pins s2 σ H2 x y v u Q I2 rx ry q)
theorem jX7{op:UnaryOp}{r:V->Hp->VK->Prop}(ho:UnR X (unaryOp op) r)(ha:PE X a ta):PE X (.UnaryOp op a pos) (tUn r ta):=by
 intro pins s σ H Q I h;exact UnaryOp_ (thn (ha pins s σ H _ I h) fun v s1 ⟨x,H1,I1,r1,q1⟩=>ho pins s1 σ H1 x v Q I1 r1 q1)
theorem opI{f:Value->Value->Sem Value}{C:Int->Int->Prop}(rule:∀(i j:Int) (t u:Tok) (s:aX) (Q:Value->aX->Prop) (E:Value->aX->Prop),C i j->Q (.int (g i j) s.toks) {s with toks:=s.toks+1}->aR (model X.prog X.w) X.A (f (.int i t) (.int j u)) Q E s):
  OpR X f (rI C fun i j=>.int (g i j)):=by
 intro pins s σ H x y v u Q I rx ry h;obtain⟨i,j,rfl,rfl,hc,q⟩:=h;obtain⟨t,rfl⟩:=rx;obtain⟨t',rfl⟩:=ry;exact rule i j t t' s _ _ hc ⟨.int (g i j),H,I.tok _,⟨_,rfl⟩,q⟩
theorem opI0{f:Value->Value->Sem Value}(rule:∀(i j:Int) (t u:Tok) (s:aX) (Q:Value->aX->Prop) (E:Value->aX->Prop),Q (.int (g i j) s.toks) {s with toks:=s.toks+1}->aR (model X.prog X.w) X.A (f (.int i t) (.int j u)) Q E s):
  OpR X f (rI0 fun i j=>.int (g i j)):=by
 intro pins s σ H x y v u Q I rx ry h;obtain⟨i,j,rfl,rfl,q⟩:=h;obtain⟨t,rfl⟩:=rx;obtain⟨t',rfl⟩:=ry;exact rule i j t t' s _ _ ⟨.int (g i j),H,I.tok _,⟨_,rfl⟩,q⟩
theorem opB0{f:Value->Value->Sem Value}{g:Int->Int->Bool}(rule:∀(i j:Int) (t u:Tok) (s:aX) (Q:Value->aX->Prop) (E:Value->aX->Prop),Q (.bool (g i j)) s->aR (model X.prog X.w) X.A (f (.int i t) (.int j u)) Q E s):
  OpR X f (rI0 fun i j=>.bl (g i j)):=by
 intro pins s σ H x y v u Q I rx ry h;obtain⟨i,j,rfl,rfl,q⟩:=h;obtain⟨t,rfl⟩:=rx;obtain⟨t',rfl⟩:=ry;exact rule i j t t' s _ _ ⟨.bl (g i j),H,I,rfl,q⟩
noncomputable def CPow(i j:Int):Prop:=0<=j/\j<=1000000/\i.natAbs<2 ^ 64
theorem jWd:OpR X (binaryOp .Add) (rI0 fun i j=>.int (i+j)):=opI0 fun _ _ _ _ _ _ _ q=>add_int q
theorem jJ8:OpR X (binaryOp .Sub) (rI0 fun i j=>.int (i - j)):=opI0 fun _ _ _ _ _ _ _ q=>sub_int q
theorem jWa:OpR X (binaryOp .Mod) (rI (fun _ j=>0<j) fun i j=>.int (i % j)):=opI fun i j _ _ _ _ _ hc q=>by
 have h1:(0:Int)<j:=hc;exact mod_int' (by omega) (by rw[Int.fmod_eq_emod_of_nonneg i (by omega)];exact q)
theorem jJ9:OpR X (binaryOp .Pow) (rI CPow fun i j=>.int (i ^ j.toNat)):=opI fun _ _ _ _ _ _ _ hc q=>pow_int_small hc.1 hc.2.1 hc.2.2 q
theorem unI{f:Value->Sem Value}{g:Int->Int}(rule:∀(i:Int) (t:Tok) (s:aX) (Q:Value->aX->Prop) (E:Value->aX->Prop),Q (.int (g i) s.toks) {s with toks:=s.toks+1}->aR (model X.prog X.w) X.A (f (.int i t)) Q E s):
  UnR X f (rU fun i=>.int (g i)):=by
 intro pins s σ H x v Q I rx h;obtain⟨i,rfl,q⟩:=h;obtain⟨t,rfl⟩:=rx;exact rule i t s _ _ ⟨.int (g i),H,I.tok _,⟨_,rfl⟩,q⟩
theorem jZ0:UnR X (unaryOp .USub) (rU fun i=>.int (-i)):=unI fun _ _ _ _ _ q=>neg_int q
end
noncomputable def scal:V->V->Bool
 |.non,.non =>true|.non,.int _=>true|.int _,.non =>true|.non,.bl _=>true|.bl _,.non =>true|.non,.str _=>true|.str _,.non =>true
 |.int _,.int _=>true|.bl _,.bl _=>true|.str _,.str _=>true|.byt _,.byt _=>true
 |.int _,.str _=>true|.str _,.int _=>true|.bl _,.str _=>true|.str _,.bl _=>true
 |_,_=>false
noncomputable def rEq:R2:=fun x y H Q=>scal x y=true/\Q (.bl (decide (x=y))) H
noncomputable def rNe:R2:=fun x y H Q=>scal x y=true/\Q (.bl (!decide (x=y))) H
theorem vJx{i j:Int}:decide (V.int i=V.int j)=(i == j):=by
 rw[cH];simp
theorem vYo{i j:Bool}:decide (V.bl i=V.bl j)=(i == j):=by
 grind
theorem zVg{i j:Str}:decide (V.str i=V.str j)=(i == j):=by
 rw[cH];simp
theorem zVh{i j:Array UInt8}:decide (V.byt i=V.byt j)=(i.toList == j.toList):=by
 rw[cH];simp_all
section
variable{X:Cx}{a b c:Expr}{ta tb tc:TE}{pos:Pos}
theorem vR{σ:St}{Q:VK}{k k' :Bool}(I:Inv X pins σ H s)(q:Q (.bl k) H)(e:k=k'):EP X pins σ Q (.bool k') s:=by
 subst e;exact⟨.bl k,H,I,rfl,q⟩
theorem jZe:OpR X (bA .Eq) rEq:=by
 intro pins s σ H x y v u Q I rx ry h;obtain⟨hs,q⟩:=h;cases x with
 | non=>
   cases rx;cases y with
   |non=>cases ry;exact PySem.EqNone.eq_none_none (vR I q (by simp))
   |bl j=>cases ry;exact PySem.EqNone.eq_none_bool (vR I q (by simp))
   |int j=>obtain⟨t',rfl⟩:=ry;exact PySem.EqNone.eq_none_int (vR I q (by simp))
   |str j=>obtain⟨t',rfl⟩:=ry;exact PySem.EqNone.eq_none_str (vR I q (by simp))
   |_=>exact absurd (show false=true from hs) aT
 | bl i=>
   cases rx;cases y with
   |non=>cases ry;exact PySem.EqNone.eq_bool_none (vR I q (by simp))
   |bl j=>cases ry;exact eq_bool (vR I q vYo)
   |str j=>obtain⟨t',rfl⟩:=ry;exact PySem.EqMixed.eq_bool_str (vR I q (by simp))
   |_=>exact absurd (show false=true from hs) aT
 | int i=>
   obtain⟨t,rfl⟩:=rx;cases y with
   |non=>cases ry;exact PySem.EqNone.eq_int_none (vR I q (by simp))
   |int j=>obtain⟨t',rfl⟩:=ry;exact eq_int (vR I q vJx)
   |str j=>obtain⟨t',rfl⟩:=ry;exact PySem.EqMixed.eq_int_str (vR I q (by simp))
   |_=>exact absurd (show false=true from hs) aT
 | str i=>
   obtain⟨t,rfl⟩:=rx;cases y with
   |non=>cases ry;exact PySem.EqNone.eq_str_none (vR I q (by simp))
   |bl j=>cases ry;exact PySem.EqMixed.eq_str_bool (vR I q (by simp))
   |int j=>obtain⟨t',rfl⟩:=ry;exact PySem.EqMixed.eq_str_int (vR I q (by simp))
   |str j=>obtain⟨t',rfl⟩:=ry;exact eq_str (vR I q zVg)
   |_=>exact absurd (show false=true from hs) aT
 | byt i=>
   obtain⟨t,rfl⟩:=rx;cases y with
   |byt j=>obtain⟨t',rfl⟩:=ry;exact PySem.W.eq_bytes (vR I q zVh)
   |_=>exact absurd (show false=true from hs) aT
 |_=>cases y <;> exact absurd (show false=true from hs) aT
theorem jZd:OpR X (bA .NotEq) rNe:=by
 intro pins s σ H x y v u Q I rx ry h;obtain⟨hs,q⟩:=h;cases x with
 | non=>
   cases rx;cases y with
   |non=>cases ry;exact PySem.EqNone.ne_none_none (vR I q (by simp))
   |bl j=>cases ry;exact PySem.EqNone.ne_none_bool (vR I q (by simp))
   |int j=>obtain⟨t',rfl⟩:=ry;exact PySem.EqNone.ne_none_int (vR I q (by simp))
   |str j=>obtain⟨t',rfl⟩:=ry;exact PySem.EqNone.ne_none_str (vR I q (by simp))
   |_=>exact absurd (show false=true from hs) aT
 | bl i=>
   cases rx;cases y with
   |non=>cases ry;exact PySem.EqNone.ne_bool_none (vR I q (by simp))
   |bl j=>cases ry;exact ne_bool (vR I q (congrArg not vYo))
   |str j=>obtain⟨t',rfl⟩:=ry;exact PySem.EqMixed.ne_bool_str (vR I q (by simp))
   |_=>exact absurd (show false=true from hs) aT
 | int i=>
   obtain⟨t,rfl⟩:=rx;cases y with
   |non=>cases ry;exact PySem.EqNone.ne_int_none (vR I q (by simp))
   |int j=>obtain⟨t',rfl⟩:=ry;exact ne_int (vR I q (congrArg not vJx))
   |str j=>obtain⟨t',rfl⟩:=ry;exact PySem.EqMixed.ne_int_str (vR I q (by simp))
   |_=>exact absurd (show false=true from hs) aT
 | str i=>
   obtain⟨t,rfl⟩:=rx;cases y with
   |non=>cases ry;exact PySem.EqNone.ne_str_none (vR I q (by simp))
   |bl j=>cases ry;exact PySem.EqMixed.ne_str_bool (vR I q (by simp))
   |int j=>obtain⟨t',rfl⟩:=ry;exact PySem.EqMixed.ne_str_int (vR I q (by simp))
   |str j=>obtain⟨t',rfl⟩:=ry;exact ne_str (vR I q (congrArg not zVg))
   |_=>exact absurd (show false=true from hs) aT
 | byt i=>
   obtain⟨t,rfl⟩:=rx;cases y with
   |byt j=>obtain⟨t',rfl⟩:=ry;exact PySem.W.ne_bytes (vR I q (congrArg not zVh))
   |_=>exact absurd (show false=true from hs) aT
 |_=>cases y <;> exact absurd (show false=true from hs) aT
theorem jYg:OpR X (bA .Lt) (rI0 fun i j=>.bl (decide (i<j))):=opB0 fun _ _ _ _ _ _ _ q=>lt_int q
theorem qXc:OpR X (bA .LtE) (rI0 fun i j=>.bl (decide (i<=j))):=opB0 fun _ _ _ _ _ _ _ q=>le_int q
theorem jYh:OpR X (bA .Gt) (rI0 fun i j=>.bl (decide (j<i))):=opB0 fun _ _ _ _ _ _ _ q=>gt_int q
theorem OpR.or{f:Value->Value->Sem Value}{r:R2}(h:OpR X f r)(h' :OpR X f r'):OpR X f (fun x y H Q=>r x y H Q\/r' x y H Q):=by
 intro pins s σ H x y v u Q I rx ry q;rcases q with q|q
 ·exact h pins s σ H x y v u Q I rx ry q
 ·exact h' pins s σ H x y v u Q I rx ry q
theorem qWr(b:Expr)(h:op≠ .In :=by decide)(h2:op≠ .NotIn :=by decide):behindInMarks op b=false:=by
 have e1:(op == CmpOp.In)=false:=by cases op <;> first|rfl|exact absurd rfl h
 have e2:(op == CmpOp.NotIn)=false:=by cases op <;> first|rfl|exact absurd rfl h2
 cases b <;> simp[behindInMarks,e1,e2]
theorem jQl{r:R2}(ho:OpR X (bA op) r)(ha:PE X a ta)(hb:PE X b tb)(hm:behindInMarks op b=false):PE X (.Compare a [op] [b] pos) (tOp r ta tb):=by
 intro pins s σ H Q I h;exact wpAny_Compare1 (binT ha hb I h fun v u s2 x y H2 I2 rx ry q=>ho pins s2 σ H2 x y v u Q I2 rx ry q) hm
noncomputable def jV0(t:TE):TT:=fun σ H Q=>t σ H fun x H' =>∃k,x=.bl k/\Q k H'
theorem zK0{r:R2}(ho:OpR X (bA op) r)(ha:PE X a ta)(hb:PE X b tb)(hm:behindInMarks op b=false):PT X (.Compare a [op] [b] pos) (jV0 (tOp r ta tb)):=by
 intro pins s σ H Q I h;refine wpAny_isTrue_Compare1 (thn (ha pins s σ H _ I h) fun v s1 ⟨x,H1,I1,r1,q1⟩=>thn (hb pins s1 σ H1 _ I1 q1) fun u s2 ⟨y,H2,I2,r2,q2⟩=>
  thn (ho pins s2 σ H2 x y v u _ I2 r1 r2 q2) fun c s3 ⟨z,H3,I3,r3,k,e,q3⟩=>?_) hm
 subst e;cases r3;exact dJ ⟨H3,I3,q3⟩
noncomputable def vX9(r r' :R2)(ta tb tc:TE):TE:=fun σ H Q=>ta σ H fun x H1=>tb σ H1 fun y H2=>r x y H2 fun z H3=>∃k,z=.bl k/\
 (if k=true then tc σ H3 fun w' H4=>r' y w' H4 Q else Q (.bl false) H3)
theorem zX1{r:R2}(ho:OpR X (bA op) r)(ho' :OpR X (bA op') r')(ha:PE X a ta)(hb:PE X b tb)(hc:PE X c tc)(hm:lastMarks [op,op'] [b,c]=false:=by with_unfolding_all rfl):PE X (.Compare a [op,op'] [b,c] pos) (vX9 r r' ta tb tc):=by
 intro pins s σ H Q I h;refine Compare_chain (thn (ha pins s σ H _ I h) fun v s1 ⟨x,H1,I1,r1,q1⟩=>chain_link (thn (hb pins s1 σ H1 _ I1 q1) fun u s2 ⟨y,H2,I2,r2,q2⟩=>
  thn (ho pins s2 σ H2 x y v u _ I2 r1 r2 q2) fun d s3 ⟨z,H3,I3,r3,k,e,q3⟩=>?_)) hm
 subst e;cases r3;refine dJ ?_
 cases k with
 |false=>exact ite_ff ⟨.bl false,H3,I3,rfl,q3⟩
 |true=>exact ite_tt (chain_last (thn (hc pins s3 σ H3 _ I3 q3) fun w' s4 ⟨z',H4,I4,r4,q4⟩=>ho' pins s4 σ H4 y z' u w' Q I4 r2 r4 q4))
theorem zXv{r:R2}(ho:OpR X (bA op) r)(ho' :OpR X (bA op') r')(ha:PE X a ta)(hb:PE X b tb)(hc:PE X c tc)(hm:lastMarks [op,op'] [b,c]=false:=by with_unfolding_all rfl):PT X (.Compare a [op,op'] [b,c] pos) (jV0 (vX9 r r' ta tb tc)):=by
 intro pins s σ H Q I h;refine isTrue_chain (thn (ha pins s σ H _ I h) fun v s1 ⟨x,H1,I1,r1,q1⟩=>test_link (thn (hb pins s1 σ H1 _ I1 q1) fun u s2 ⟨y,H2,I2,r2,q2⟩=>
  thn (ho pins s2 σ H2 x y v u _ I2 r1 r2 q2) fun d s3 ⟨z,H3,I3,r3,k,e,q3⟩=>?_)) hm
 subst e;cases r3;refine dJ ?_
 cases k with
 | false=>
   obtain⟨k',e',q'⟩:=q3;cases e';exact ite_ff ⟨H3,I3,q'⟩
 | true=>
   refine ite_tt (test_last (thn (hc pins s3 σ H3 _ I3 q3) fun w' s4 ⟨z',H4,I4,r4,q4⟩=>thn (ho' pins s4 σ H4 y z' u w' _ I4 r2 r4 q4) fun d' s5 ⟨z2,H5,I5,r5,k2,e2,q5⟩=>?_));subst e2;cases r5;exact dJ ⟨H5,I5,q5⟩
theorem qYf:(aM:Nat)<2 ^ 63:=by decide
theorem vY8:OpR X (binaryOp .Add) (fun x y H Q=>∃i j,x=.str i/\y=.str j/\i.length+j.length<=aM/\Q (.str (i ++ j)) H):=by
 intro pins s σ H x y v u Q I rx ry h;obtain⟨i,j,rfl,rfl,hz,q⟩:=h;obtain⟨t,rfl⟩:=rx;obtain⟨t',rfl⟩:=ry;exact add_str (fun t' tk=>⟨.str (i ++ j),H,I.tok _,⟨_,rfl⟩,q⟩) hz
theorem qQa{x:V}(r:Vals [x] us):∃u,us=[u]/\RelV x u:=by
 cases r with
 |cons r1 r2=>cases r2;exact⟨_,rfl,r1⟩
theorem vWi{x:V}(r:Vals [x,y] us):∃u w',us=[u,w']/\RelV x u/\RelV y w' :=by
 cases r with
 | cons r1 r2=>
   cases r2 with
   |cons r3 r4=>cases r4;exact⟨_,_,rfl,r1,r3⟩
theorem zZy(hc:X.calm=true):jC X (.builtin "max") (fun xs H Q=>∃i j,xs=[.int i,.int j]/\Q (.int (if j > i then j else i)) H):=by
 intro pins s σ H xs us Q I r h;obtain⟨i,j,rfl,q⟩:=h;obtain⟨u,w',rfl,⟨t,rfl⟩,⟨t',rfl⟩⟩:=vWi r;refine max_two_ints (I.ok.hd hc) fun h' tk k=>⟨_,H,I.kept k,?_,q⟩
 by_cases hj:j > i
 ·rw[if_pos hj,if_pos hj];exact⟨_,rfl⟩
 ·rw[if_neg hj,if_neg hj];exact⟨_,rfl⟩
theorem vWd:jC X (.type "str") (fun xs H Q=>∃i,xs=[.int i]/\i.natAbs.log2<1920/\Q (.str (toString i)) H):=by
 intro pins s σ H xs us Q I r h;obtain⟨i,rfl,hz,q⟩:=h;obtain⟨u,rfl,t,rfl⟩:=qQa r;exact PySem.P.str_of_int hz ⟨.str _,H,I.tok _,⟨_,rfl⟩,q⟩
end
structure ObjM(h:Heap)(x dx C:aV)(mA:Str->Option Value):Prop where
 obj:h.get? x=some (dB C dx)
 ns:h.Ns1 dx mA
 ne:dx≠x
theorem zZe{mA:Str->Option Value}(n:h.Ns1 dx mA):∃od,h.get? dx=some od/\∀name,PySem.W.lookIn name od=some (mA name):=by
 obtain⟨o,es,ep,ho,hd,hk,_,hm⟩:=n;refine⟨o,ho,fun name=>?_⟩;have e:=hm name;unfold nsFind findBy at e;rw[←Array.find?_toList]at e;unfold PySem.W.lookIn;rw[hd];dsimp only;split
 ·grind
 ·rename_i q;rw[q]at e;have a:es.toList.any (·.refKey)=false:=by
   rw[List.any_eq_false];intro y hy;obtain⟨z,t,hkey⟩:=hk y (Array.mem_toList_iff.mp hy);simp[DictEntry.refKey,hkey]
  grind
theorem ObjM.look{x:aV}{mA:Str->Option Value}(I:ObjM h x dx C mA):∃od,PySem.W.InstAt h x (dB C dx) C (some od)/\∀name,PySem.W.lookIn name od=some (mA name):=
 let ⟨od,ho,hl⟩:=zZe I.ns
 ⟨od,⟨I.obj,rfl,rfl,ho⟩,hl⟩
section
variable{prog:bQ}{w:bH}{A:cE}{E:Value->aX->Prop}{s:aX}{K:aQ}{x dx C f:aV}{mA:Str->Option Value}{name:Str}{v:Value}
theorem jVc{expr:Bool}(X:K.In s.heap)(I:ObjM s.heap x dx C mA)(hg:PySem.W.plainGet K C name=true)(hh:PySem.W.hasDictIn K C=true)(ha:bO K (.ref C) name=some none)(hv:mA name=some v)(hv' :PySem.W.handedIn v=true)(h:Q v {s with toks:=s.toks+1}):
  aR (model prog w) A (getAttr (.ref x) name expr) Q E s:=by
 obtain⟨od,J,hl⟩:=I.look;exact PySem.W.get_value X J (PySem.W.plainGet_of hg).1 (PySem.W.findObj_own hh ha rfl (by rw[hl,hv])) hv' h
theorem zYs{Q:Value×List Value->aX->Prop}(X:K.In s.heap)(I:ObjM s.heap x dx C mA)(hg:PySem.W.plainGet K C name=true)(hf:bO K (.ref C) name=some (some (.ref f)))(ht:PySem.W.isFn K (.ref f)=true)(hv:mA name=none)(h:Q (.ref f,[.ref x]) s):
  aR (model prog w) A (getMethod (.ref x) name pl) Q E s:=by
 obtain⟨od,J,hl⟩:=I.look;exact PySem.W.method_fn X J (PySem.W.plainGet_of hg).1 (PySem.W.plainGet_of hg).2 hf (beq_iff_eq.mp ht) (by show(PySem.W.lookIn name od).map (·.isSome)=some false;rw[hl,hv];rfl) h
theorem zKk{ns:List Str}{Q:Unit->aX->Prop}(X:K.In s.heap)(I:ObjM s.heap x dx C mA)(hs:bO K (.ref C) "__setattr__"=some (some (.builtin "object.__setattr__")))(hp:PySem.W.plainOver K C=true)(ht:PySem.W.takerIn K C name=some none)(hh:PySem.W.hasDictIn K C=true)(hw:PySem.Within mA ns)(hsz:ns.length<=aM)(h:∀h',ObjM h' x dx C (fun y=>if y=name then some v else mA y)->Heap.SameBut dx s.heap h' ->Q () {s with heap:=h',toks:=s.toks+2}):
  aR (model prog w) A (setAttr (.ref x) name v) Q E s:=by
 obtain⟨od,J,hl⟩:=I.look;refine PySem.W.set_plain X J hs (PySem.W.osa_open (s:={s with toks:=s.toks+1}) (r:=none) X J hp ht fun b=>?_);obtain⟨cd,hc,hd'⟩:=PySem.W.any_some hh;have hx:s.heap.get? x=some ⟨.ref C,some dx,.plain,#[]⟩:=I.obj;refine aZ (aL (aZ (aZ (wpAny_loadPart hx (aZ (PySem.W.Looks.here (s:={s with toks:=s.toks+1}) (PySem.W.looks_clsIn X hc) ?_))))));rw[hd'];refine aL (a:=some dx) (aZ (aL (aZ ?_)));refine wpAny_nsSet1 (s:={s with toks:=s.toks+1}) I.ns fun h' hn2 hs2=>?_
 obtain⟨oD,esD,epD,hoD,hdD,hcD⟩:=hn2.count (PySem.Within.cons name v hw);refine aZ (wpAny_lookBehind hoD (by rw[hdD];exact pastItsLine_dict (aS hcD (by rw[aY];omega))) ?_);exact aL (h _ ⟨(hs2.2 _ (Ne.symm I.ne)).trans I.obj,hn2,I.ne⟩ hs2)
theorem zYd{R:Result->aX->Prop}{vs:List Value}(X:K.In s.heap)(hm:PySem.W.makesIn K C=true)(hi:bO K (.ref C) "__init__"=some (some (.ref f)))(hf:PySem.W.typeIn K (.ref f)=some (.type "function"))(h:codeAny (model prog w) (A.under (.builtin "type.__call__" ⟨.ref C::vs,kw⟩)) (.call (.ref f) ⟨.ref (s.heap.objs.size+1)::vs,kw⟩) (PySem.W.InitBack (s.heap.objs.size+1) R)
   {s with heap:=(s.heap.push cL).push (dB C s.heap.objs.size)}):
  codeAny (model prog w) A (.call (.ref C) ⟨vs,kw⟩) R s:=by
 obtain⟨hh,g,d,t,os⟩:=s;exact PySem.W.make_core (PySem.W.makes_of X hm) (PySem.W.looks_findIn X hi) (fun self=>PySem.W.bind_fn X self hf) (.inl rfl) h
end
noncomputable def putF(f:Str)(v:V):List (Str×V)->List (Str×V)
 |[]=> [(f,v)]
 |(g,x)::r=>if g=f then(g,v)::r else(g,x)::putF f v r
theorem qKf(f g:Str)(v:V):∀fs:List (Str×V),(putF f v fs).lookup g=if g=f then some v else fs.lookup g
 | []=>by
   show List.lookup g [(f,v)]=_;grind
 | (k,x)::r=>by
   have ih:=qKf f g v r;rw[show putF f v ((k,x)::r)=(if k=f then(k,v)::r else(k,x)::putF f v r) from rfl];grind
theorem qYv(f:Str)(v:V):∀fs:List (Str×V),f∈(putF f v fs).map (·.1)/\∀g,g∈fs.map (·.1)->g∈(putF f v fs).map (·.1)
 |[]=>⟨by simp[putF],fun g h=>by simp at h⟩
 | (k,x)::r=>by
   obtain⟨i1,i2⟩:=qYv f v r;rw[show putF f v ((k,x)::r)=(if k=f then(k,v)::r else(k,x)::putF f v r) from rfl];grind
theorem qKg(f:Str)(v:V):∀fs:List (Str×V),(putF f v fs).length <=fs.length+1
 |[]=>by simp[putF]
 | (k,x)::r=>by
   have ih:=qKg f v r;rw[show putF f v ((k,x)::r)=(if k=f then(k,v)::r else(k,x)::putF f v r) from rfl];grind
theorem RelO.some_of{v:V}{o:Option Value}(r:RelO (some v) o):∃u,o=some u/\RelV v u:=by
 cases o with
 |none=>exact(show False from r).elim
 |some u=>exact⟨u,rfl,r⟩
theorem RelO.none_of{o:Option Value}(r:RelO none o):o=none:=by
 cases o with
 |none=>rfl
 |some u=>exact(show False from r).elim
theorem vZr{v:V}{u:Value}(r:RelV v u):PySem.W.handedIn u=true:=by
 cases v with
 |non=>cases(show u=Value.none from r);rfl
 |bl b=>cases(show u=Value.bool b from r);rfl
 |int i=>obtain⟨t,e⟩:=(show∃t,u=Value.int i t from r);cases e;rfl
 |str x=>obtain⟨t,e⟩:=(show∃t,u=Value.str x t from r);cases e;rfl
 |byt b=>obtain⟨t,e⟩:=(show∃t,u=Value.bytes b t from r);cases e;rfl
 |flt b=>obtain⟨t,e⟩:=(show∃t,u=Value.float b t from r);cases e;rfl
 |ref a=>cases(show u=Value.ref a from r);rfl
 |ty n=>cases(show u=Value.type n from r);rfl
section
variable{P:bQ}{w:bH}{H H' :Hp}{h h' :Heap}{a C dx:aV}{fs fs' :List (Str×V)}
theorem qKy(hok:HOk P w H h)(e:H a=some (.ins C dx fs)):∃mA,ObjM h a dx C mA/\(∀f,RelO (fs.lookup f) (mA f))/\PySem.Within mA (fs.map (·.1))/\fs.length<=1000/\H dx=some (.own a):=by
 obtain⟨d,z,ne,ob,mA,n,r,q⟩:=(show v5 P w H h a (.ins C dx fs) from hok a _ e)
 exact⟨mA,⟨ob,n,ne⟩,r,q,z,d⟩
end
structure Cls(K:aQ)(C:aV):Prop where
 pg:PySem.W.plainGet K C Str.empty=true
 hd:PySem.W.hasDictIn K C=true
 po:PySem.W.plainOver K C=true
 sa:bO K (.ref C) "__setattr__"=some (some (.builtin "object.__setattr__"))
theorem Cls.get(c:Cls K C)(f:Str):PySem.W.plainGet K C f=true:=c.pg
noncomputable def qQn(K:aQ)(C:aV)(f:Str):Prop:=bO K (.ref C) f=some none
theorem qQn.taker{f:Str}(n:qQn K C f):PySem.W.takerIn K C f=some none:=by
 unfold PySem.W.takerIn;rw[show bO K (.ref C) f=some none from n];rfl
structure Meth(K:aQ)(C:aV)(m:Str)(f:aV):Prop where
 at_:bO K (.ref C) m=some (some (.ref f))
 fn:PySem.W.isFn K (.ref f)=true
 kp:bT K (.ref f)=true
section
variable{X:Cx}{pins:List (aV×Obj)}{σ:St}{H:Hp}{s:aX}{a C dx:aV}{fs:List (Str×V)}{f:Str}{v:V}{A:cE}{E:Value->aX->Prop}
theorem vVe{b:Bool}(I:Inv X pins σ H s)(e:H a=some (.ins C dx fs))(c:Cls X.K C)(n:qQn X.K C f)(l:fs.lookup f=some v)(h:∀u s',Inv X pins σ H s' ->RelV v u->Q u s'):aR (model X.prog X.w) A (getAttr (.ref a) f b) Q E s:=by
 obtain⟨mA,O,r,_,_,_⟩:=qKy I.hok e;obtain⟨u,hu,ru⟩:=RelO.some_of (v:=v) (o:=mA f) (by rw[←l];exact r f);exact jVc I.kIn O (c.get f) c.hd n hu (vZr ru) (h u _ (I.tok _) ru)
theorem vVd{m:Str}{g:aV}{Q:Value×List Value->aX->Prop}(I:Inv X pins σ H s)(e:H a=some (.ins C dx fs))(c:Cls X.K C)(k:Meth X.K C m g)(l:fs.lookup m=none)(h:Q (.ref g,[.ref a]) s):aR (model X.prog X.w) A (getMethod (.ref a) m pl) Q E s:=by
 obtain⟨mA,O,r,_,_,_⟩:=qKy I.hok e;have hn:mA m=none:=RelO.none_of (by rw[←l];exact r m);exact zYs I.kIn O (c.get m) k.at_ k.fn hn h
theorem vQ8{u:Value}{Q:Unit->aX->Prop}(I:Inv X pins σ H s)(e:H a=some (.ins C dx fs))(c:Cls X.K C)(n:qQn X.K C f)(hl:fs.length<1000)(ry:RelV y u)(h:∀s',Inv X pins σ (upd H a (.ins C dx (putF f y fs))) s' ->Q () s'):aR (model X.prog X.w) A (setAttr (.ref a) f u) Q E s:=by
 obtain⟨mA,O,r,wi,_,ho⟩:=qKy I.hok e;have hz:(fs.map (·.1)).length <=aM:=by rw[aP,sizeLine_eq];omega
 refine zKk I.kIn O c.sa c.po n.taker c.hd wi hz fun h' O' sb=>h _ ?_
 have hd:∃o,h'.get? dx=some o:=let ⟨o,_,_,e',_⟩:=O'.ns;⟨o,e'⟩;refine I.write (x:=a) (e:=dx) (by rw[e];exact True.intro) (.inr ho) (fun b q hb z=>(sb.2 b hb).trans z) hd ?_
 refine⟨by rw[qM O.ne];exact ho,?_,O.ne,O'.obj,_,O'.ns,fun g=>?_,fun g hg=>?_⟩
 ·have:=qKg f y fs;omega
 ·show RelO ((putF f y fs).lookup g) (if g=f then some u else mA g);rw[qKf];by_cases q:g=f
  ·rw[if_pos q,if_pos q];exact ry
  ·grind
 ·by_cases q:g=f
  ·rw[q];exact(qYv f y fs).1
  ·refine(qYv f y fs).2 g (wi g fun z=>hg ?_);grind
theorem Inv.made(I:Inv X pins σ H s):Inv X pins σ (upd (upd H s.heap.objs.size (.own (s.heap.objs.size+1))) (s.heap.objs.size+1) (.ins C s.heap.objs.size []))
  {s with heap:=(s.heap.push cL).push (dB C s.heap.objs.size)}:=by
 have e1:(s.heap.push cL).get? s.heap.objs.size=some cL:=aN s.heap rfl;have e2:((s.heap.push cL).push (dB C s.heap.objs.size)).get? (s.heap.objs.size+1)=some (dB C s.heap.objs.size):=by
  have:=aN (s.heap.push cL) (o:=dB C s.heap.objs.size) rfl;rwa [cM]at this
 have e3:(s.heap.push cL).Ns s.heap.objs.size (fun _=>none):=⟨cL,#[],_,e1,rfl,(fun e he=>absurd he (by simp)),fun _=>rfl⟩
 have I1:=I.laid (a:=s.heap.objs.size) (o:=.own (s.heap.objs.size+1)) (h' :=s.heap.push cL) (t' :=s.toks) (fun b u q=>aU _ q) (aD _) ⟨_,e1⟩;refine I1.laid (a:=s.heap.objs.size+1) (o:=.ins C s.heap.objs.size []) (t' :=s.toks) (fun b u q=>aU _ q) (Nat.le_of_eq (cM _ _)) ?_
 have ne:s.heap.objs.size≠s.heap.objs.size+1:=bW (Nat.lt_succ_self _);refine⟨by rw[qM ne,upd_same],dF _,ne,e2,fun _=>none,(Heap.Ns1.of_empty e3).at fun o q=>aU _ q,fun _=>True.intro,fun y hy=>absurd rfl hy⟩
theorem zVn{prog:bQ}{w:bH}{env:Env}{e:Expr}{f:Str}(hb:attributeBase e f env (eval e env)=eval e env)(h:aR (model prog w) A (eval e env) (fun o s₁=>aR (model prog w) A (getAttr o f true) Q E s₁) E s):aR (model prog w) A (eval (.Attribute e f pos) env) Q E s:=
 Attribute_any_ h (by rw[arm_eval_Attribute,hb])
end
def tFld(K:aQ)(ta:TE)(f:Str):TE:=fun σ H Q=>ta σ H fun x H1=>∃a C dx fs v,x=.ref a/\H1 a=some (.ins C dx fs)/\Cls K C/\qQn K C f/\fs.lookup f=some v/\Q v H1
noncomputable def sFld(K:aQ)(ta tv:TE)(f:Str):TS:=fun D σ H=>tv σ H fun y H1=>ta σ H1 fun x H2=>∃a C dx fs,x=.ref a/\H2 a=some (.ins C dx fs)/\Cls K C/\qQn K C f/\fs.length<1000/\
 D.nx σ (upd H2 a (.ins C dx (putF f y fs)))
noncomputable def InOp(X:Cx)(op:Operator)(rd:V->V->Hp->VK->Prop):Prop:=
 ∀(pins:List (aV×Obj)) (s:aX) (σ:St) (H:Hp) (x y:V) (u v:Value) (Q:VK),Inv X pins σ H s->RelV x u->RelV y v->rd x y H Q->aR (model X.prog X.w) X.A (inplaceOp op u v) (EP X pins σ Q) X.xe s
noncomputable def zKq(K:aQ)(ta tv:TE)(rd:V->V->Hp->VK->Prop)(f:Str):TS:=fun D σ H=>ta σ H fun x H1=>∃a C dx fs v,x=.ref a/\H1 a=some (.ins C dx fs)/\Cls K C/\qQn K C f/\fs.lookup f=some v/\
 tv σ H1 fun y H2=>rd v y H2 fun z H3=>∃dx' fs',H3 a=some (.ins C dx' fs')/\fs'.length<1000/\D.nx σ (upd H3 a (.ins C dx' (putF f z fs')))
section
variable{X:Cx}{o e value:Expr}{f:Str}{pos pos' tpos:Pos}{ta tv:TE}
theorem jJ5(he:PE X e ta)(hb:attributeBase e f X.env (eval e X.env)=eval e X.env):PE X (.Attribute e f pos) (tFld X.K ta f):=by
 intro pins s σ H Q I h;refine zVn hb (thn (he pins s σ H _ I h) fun u s1 ⟨x,H1,I1,rx,a,C,dx,fs,v,ex,ea,c,n,l,q⟩=>?_);subst ex;obtain rfl:u=Value.ref a:=rx;exact vVe I1 ea c n l fun u' s2 I2 ru=>⟨v,H1,I2,ru,q⟩
theorem jJr(ha:PE X o ta)(hv:PE X value tv)(hs:swapsWith value (some (.Attribute o f pos')) pos.line X.env=pure false):PS X (.Assign [.Attribute o f pos'] value pos) (sFld X.K ta tv f):=by
 intro pins s σ H D I h;refine plainObj_wpAny_Assign_Attribute (thn (hv pins s σ H _ I h) fun u s1 ⟨y,H1,I1,ry,q⟩=>thn (ha pins s1 σ H1 _ I1 q) fun ov s2 ⟨x,H2,I2,rx,a,C,dx,fs,ex,ea,c,n,l,q2⟩=>?_) hs;subst ex;obtain rfl:ov=Value.ref a:=rx;exact vQ8 I2 ea c n l ry fun s3 I3=>⟨σ,_,I3,q2⟩
theorem zV3{op:Operator}{rd:V->V->Hp->VK->Prop}(ha:PE X o ta)(hv:PE X value tv)(hop:InOp X op rd):PS X (.AugAssign (.Attribute o f tpos) op value pos) (zKq X.K ta tv rd f):=by
 intro pins s σ H D I h;refine wpAny_AugAssign_AttributeAny (thn (ha pins s σ H _ I h) fun ov s1 ⟨x,H1,I1,rx,a,C,dx,fs,v,ex,ea,c,n,l,q⟩=>?_);subst ex;obtain rfl:ov=Value.ref a:=rx;refine vVe I1 ea c n l fun u s2 I2 ru=>thn (hv pins s2 σ H1 _ I2 q) fun w3 s3 ⟨y,H2,I3,ry,q3⟩=>thn (hop pins s3 σ H2 v y u w3 _ I3 ru ry q3) fun w4 s4 ⟨z,H3,I4,rz,dx',fs',ea',l',q4⟩=>?_
 exact vQ8 I4 ea' c n l' rz fun s5 I5=>⟨σ,_,I5,q4⟩
end
section
variable{X:Cx}{pins:List (aV×Obj)}{σ:St}{H:Hp}{s:aX}{A:cE}{E:Value->aX->Prop}{Q:Value->aX->Prop}{c:Value}{b:Bool}
inductive TyOf(K:aQ)(H:Hp):V->Value->Prop where
 |non:TyOf K H .non (.type "NoneType")
 |bl (x:Bool):TyOf K H (.bl x) (.type "bool")
 |int (i:Int):TyOf K H (.int i) (.type "int")
 |str (x:Str):TyOf K H (.str x) (.type "str")
 |flt (x:UInt64):TyOf K H (.flt x) (.type "float")
 |lst {a:aV} {xs:List V} (e:H a=some (.lst xs)):TyOf K H (.ref a) (.type "list")
 |frz {a:aV} {o:Obj} {xs:List V} (e:H a=some (.frz o (.lst xs))):TyOf K H (.ref a) (.type "list")
 |tup {a:aV} {xs:List V} (e:H a=some (.tup xs)):TyOf K H (.ref a) (.type "tuple")
 |dK {a:aV} {kvs:List (Key×V)} (e:H a=some (.dK kvs)):TyOf K H (.ref a) (.type "dict")
 |dZ {a:aV} {o:Obj} {kvs:List (Key×V)} (e:H a=some (.frz o (.dK kvs))):TyOf K H (.ref a) (.type "dict")
 |dT {a:aV} {kvs:List (List Key×V)} (e:H a=some (.dT kvs)):TyOf K H (.ref a) (.type "dict")
 | ins {a C dx:aV} {fs:List (Str×V)} (e:H a=some (.ins C dx fs)) (cl:Cls K C) (ha:bO K (.ref C) "__class__"=some (some (.builtin "object.__class__")))
   (hn:PySem.W.specialIn K (.builtin "object.__class__") "__get__"=some (some (.builtin "getset_descriptor.__get__"))) (htk:PySem.W.takesIn K (.builtin "object.__class__")=some true)
   (hm:PySem.W.mroIn K C (.type "object")=some true):TyOf K H (.ref a) (.ref C)
theorem zZi{x:V}{u t:Value}(I:Inv X pins σ H s)(rx:RelV x u)(ty:TyOf X.K H x t)(e:bK X.K t c=some b)(h:∀tk,Q (.bool b) {s with toks:=tk}):
  aR (model X.prog X.w) A (call (.builtin "isinstance") [u,c]) Q E s:=by
 cases ty with
 |non=>cases(show u=Value.none from rx);exact bR PySem.W.kitx_none I.kIn True.intro e (fun z=>nomatch z) h
 |bl y=>cases(show u=Value.bool y from rx);exact bR PySem.W.kitx_bool I.kIn True.intro e (fun z=>nomatch z) h
 |int i=>obtain⟨t,q⟩:=(show∃t,u=Value.int i t from rx);cases q;exact bR PySem.W.kitx_int I.kIn True.intro e (fun z=>nomatch z) h
 |str y=>obtain⟨t,q⟩:=(show∃t,u=Value.str y t from rx);cases q;exact bR PySem.W.kitx_str I.kIn True.intro e (fun z=>nomatch z) h
 |flt y=>obtain⟨t,q⟩:=(show∃t,u=Value.float y t from rx);cases q;exact bR PySem.W.kitx_float I.kIn True.intro e (fun z=>nomatch z) h
 | @lst a xs ea=>
   cases(show u=Value.ref a from rx);obtain⟨_,_,n,_,h1⟩:=(show v5 X.prog X.w H s.heap a (.lst xs) from I.hok a _ ea)
   exact bR PySem.W.kitx_list I.kIn ⟨_,h1,rfl⟩ e (fun z=>nomatch z) h
 | @frz a ob xs ea=>
   cases(show u=Value.ref a from rx);obtain⟨_,_,_,n,_,h1⟩:=(show v5 X.prog X.w H s.heap a (.frz ob (.lst xs)) from I.hok a _ ea)
   exact bR PySem.W.kitx_list I.kIn ⟨_,h1,rfl⟩ e (fun z=>nomatch z) h
 | @tup a xs ea=>
   cases(show u=Value.ref a from rx);obtain⟨_,_,_,p⟩:=(show v5 X.prog X.w H s.heap a (.tup xs) from I.hok a _ ea)
   obtain⟨o,h1,h2,_⟩:=p;exact bR PySem.W.kitx_tuple I.kIn ⟨o,h1,h2⟩ e (fun z=>nomatch z) h
 | @dK a kvs ea=>
   cases(show u=Value.ref a from rx);obtain⟨_,_,vs,_,p⟩:=(show v5 X.prog X.w H s.heap a (.dK kvs) from I.hok a _ ea)
   obtain⟨o,es,ep,h1,h2,_⟩:=p;exact bR PySem.W.kitx_dict I.kIn ⟨o,h1,h2.1⟩ e (fun z=>nomatch z) h
 | @dZ a ob kvs ea=>
   cases(show u=Value.ref a from rx);obtain⟨_,_,_,vs,_,p⟩:=(show v5 X.prog X.w H s.heap a (.frz ob (.dK kvs)) from I.hok a _ ea)
   obtain⟨o,es,ep,h1,h2,_⟩:=p;exact bR PySem.W.kitx_dict I.kIn ⟨o,h1,h2.1⟩ e (fun z=>nomatch z) h
 | @dT a kvs ea=>
   cases(show u=Value.ref a from rx);obtain⟨_,_,xs,_,o,es,ep,h1,h2,_⟩:=(show v5 X.prog X.w H s.heap a (.dT kvs) from I.hok a _ ea)
   exact bR PySem.W.kitx_dict I.kIn ⟨o,h1,h2.1⟩ e (fun z=>nomatch z) h
 | @ins a C dx fs ea cl ha hn htk hm=>
   cases(show u=Value.ref a from rx);obtain⟨mA,O,_⟩:=qKy I.hok ea;obtain⟨od,J,_⟩:=O.look;exact bR (PySem.W.kitx_own (cl.get _) cl.hd ha hn htk hm) I.kIn J e (fun z=>nomatch z) h
end
structure Room(k:Nat)(A:cE):Prop where
 hd:A.handled=none
 dp:A.depth+3 * k+5<recursionLimit
 un:A.units+16 * k+200<cLine
 gd:A.guards=some []
theorem Room.mono(r:Room k A)(h:j<=k):Room j A:=⟨r.hd,by have:=r.dp;omega,by have:=r.un;omega,r.gd⟩
theorem Room.deeper(r:Room (k+1) A)(env:Env):Room k (A.deeper env):=
 ⟨r.hd,by have:=r.dp;show A.depth+1+3 * k+5<_;omega,by have:=r.un;show A.units+3+16 * k+200<_;omega,r.gd⟩
theorem vKb:(A.under (.builtin "type.__call__" ⟨.ref C::us,kw⟩)).depth =A.depth+1:=by
 first|rfl|simp[guardIds]
theorem vKa:(A.under (.builtin "type.__call__" ⟨.ref C::us,kw⟩)).units =A.units+1:=by
 first|rfl|simp[Code.frames]
theorem vXx:(A.under (.builtin "type.__call__" ⟨.ref C::us,kw⟩)).guards =A.guards:=by
 first|rfl|simp[guardIds]
theorem Room.make(r:Room (k+1) A)(C:aV)(us:List Value)(kw:List (Str×Value)):Room k (A.under (.builtin "type.__call__" ⟨.ref C::us,kw⟩)):=
 ⟨r.hd,by have:=r.dp;rw[vKb];omega,by have:=r.un;rw[vKa];omega,by rw[vXx];exact r.gd⟩
theorem Room.depth(r:Room k A):A.depth<recursionLimit:=by have:=r.dp;omega
theorem Room.units(r:Room k A):A.units+64<cLine:=by have:=r.un;omega
noncomputable def tNil:TA:=fun _ H Q=>Q [] H
noncomputable def qY5(ta:TE)(tr:TA):TA:=fun σ H Q=>ta σ H fun x H1=>tr σ H1 fun xs H2=>Q (x::xs) H2
section
variable{X:Cx}{e:Expr}{es:List Expr}{te:TE}{t:TA}{pos:Pos}
theorem qVa:PA X [] tNil:=fun _ _ _ _ H Q I h=>Calls.spliced_nil ⟨[],H,I,.nil,h⟩
theorem wC(ha:PE X e te)(hr:PA X es t)(hs:aJ (e::es) X.env=(false,eval e X.env)::aJ es X.env:=by rfl):PA X (e::es) (qY5 te t):=by
 intro pos pins s σ H Q I h;rw[hs];refine Calls.spliced_cons (thn (ha pins s σ H _ I h) fun u s1 ⟨x,H1,I1,r1,q1⟩=>?_);exact thn (hr pos pins s1 σ H1 _ I1 q1) fun us s2 ⟨xs,H2,I2,r2,q2⟩=>⟨x::xs,H2,I2,.cons r1 r2,q2⟩
noncomputable def tTup(t:TA):TE:=fun σ H Q=>t σ H fun xs H1=>xs.length<=aM/\∀p,H1 p=none->Q (.ref p) (upd H1 p (.tup xs))
noncomputable def tLst(t:TA):TE:=fun σ H Q=>t σ H fun xs H1=>xs.length<=aM/\∀p,H1 p=none->Q (.ref p) (upd H1 p (.lst xs))
theorem jJ0{x1}(h:PA X es t):PE X (.Tuple es x1 pos) (tTup t):=by
 intro pins s σ H Q I hq;refine wpAny_Tuple_spliced (thn (h pos pins s σ H _ I hq) fun us s1 ⟨xs,H1,I1,r,z,q⟩=>⟨by rw[←r.length];exact z,?_⟩);have hf:H1 s1.heap.objs.size=none:=I1.hok.fresh (aD _);refine⟨.ref s1.heap.objs.size,upd H1 s1.heap.objs.size (.tup xs),I1.laid (t' :=s1.toks) (fun b u e=>aU _ e) (aD _) ?_,rfl,q _ hf⟩;exact⟨z,us,r,⟨_,aN _ rfl,rfl,_,rfl⟩⟩
theorem jJ3(h:PA X es t):PE X (.List es pos) (tLst t):=by
 intro pins s σ H Q I hq;refine wpAny_List_spliced (thn (h pos pins s σ H _ I hq) fun us s1 ⟨xs,H1,I1,r,z,q⟩=>⟨by rw[←r.length];exact z,?_⟩);have hf:H1 s1.heap.objs.size=none:=I1.hok.fresh (aD _);refine⟨.ref s1.heap.objs.size,upd H1 s1.heap.objs.size (.lst xs),I1.laid (t' :=s1.toks) (fun b u e=>aU _ e) (aD _) ?_,rfl,q _ hf⟩;exact⟨z,us,0,r,aN _ rfl⟩
end
noncomputable abbrev Sp:=List V->Hp->VK->XK->Prop
noncomputable abbrev CXT:=List Env->Hp->aX->XK->Value->aX->Prop
structure Env0(P:bQ)(w:bH)(K:aQ)(mg:Str->Option Value)(base:Heap)(A:cE)(outer:List Env)(s:aX)(H:Hp):Prop where
 frames:A.frames=some outer
 mod:Mod K mg base
 bs:∀b o,base.get? b=some o->s.heap.get? b=some o/\H b=none
 bsz:base.objs.size<=s.heap.objs.size
 funs:s.heap.FunFrames base outer
 frf:∀b∈frs outer,H b=none
 hok:HOk P w H s.heap
 bare:AllBare s.gens
noncomputable def CE(outer:List Env)(P:bQ)(w:bH)(H:Hp)(s:aX)(Q:VK)(u:Value)(s' :aX):Prop:=
 ∃v H',s'.os=s.os/\AllBare s'.gens/\Un (frs outer) [] H H' s.heap s'.heap/\HOk P w H' s'.heap/\RelV v u/\Q v H'
noncomputable def CR(CX:CXT)(outer:List Env)(P:bQ)(w:bH)(H:Hp)(s:aX)(Q:VK)(E:XK)(r:Result)(s' :aX):Prop:=
 match r with
 |.ok (.ret u)=>CE outer P w H s Q u s'
 |.ok _=>False
 |.error e=>CX outer H s E e s'
structure FnOk(P:bQ)(w:bH)(K:aQ)(mg:Str->Option Value)(base:Heap)(CX:CXT)(k:Nat)(f:aV)(fd:aG)(ps:List Str)(sp:Sp):Prop where
 len:∀vs H Q E,sp vs H Q E->vs.length=ps.length
 run:∀(A:cE) (outer:List Env) (s:aX) (H:Hp) (args:Args) (us:List Value) (vs:List V) (Q:VK) (E:XK),Room k A->Env0 P w K mg base A outer s H->BindsTo s fd args (ps.zip us)->Vals vs us->sp vs H Q E->
  codeAny (model P w) A (.call (.ref f) args) (CR CX outer P w H s Q E) s
theorem FnOk.imp{P:bQ}{w:bH}{f:aV}{sp':Sp}(F:FnOk P w K mg base CX k f fd ps sp)(h:∀vs H Q E,sp' vs H Q E->sp vs H Q E):FnOk P w K mg base CX k f fd ps sp' :=
 ⟨fun vs H Q E q=>F.len vs H Q E (h _ _ _ _ q),fun A outer s H args us vs Q E hr he hb hv hs=>F.run A outer s H args us vs Q E hr he hb hv (h _ _ _ _ hs)⟩
theorem Env0.make{P:bQ}{w:bH}(e:Env0 P w K mg base A outer s H)(C:aV)(us:List Value)(kw:List (Str×Value)):
  Env0 P w K mg base (A.under (.builtin "type.__call__" ⟨.ref C::us,kw⟩)) outer s H:=⟨by first|exact e.frames|(simpa[Around.under,Code.envs,Code.isFrame,pushEnvs] using e.frames),e.mod,e.bs,e.bsz,e.funs,e.frf,e.hok,e.bare⟩
section
variable{X:Cx}{pins:List (aV×Obj)}{σ:St}{H:Hp}{s s' :aX}
theorem Inv.env0(I:Inv X pins σ H s):Env0 X.prog X.w X.K X.mg X.base X.A X.stack s H:=
 ⟨I.ok.frames,I.ok.mod,I.bs,aS I.ok.bsz I.sz,I.stack,I.stkFree,I.hok,I.bare⟩
theorem Inv.after{Q:VK}{u:Value}(I:Inv X pins σ H s)(h:CE X.stack X.prog X.w H s Q u s'):EP X pins σ Q u s' :=by
 obtain⟨v,H',os,bare,un,hok,r,q⟩:=h;obtain⟨hh,g,d,t,os'⟩:=s';obtain rfl:os' =s.os:=os;exact⟨v,H',I.call (h' :=hh) (g' :=g) (d' :=d) (t' :=t) (ch:=[]) un hok bare (fun b z=>absurd z (by simp)),r,q⟩
end
noncomputable def vKr(sp:Sp)(dvs:List V)(E:XK)(t:TA):TE:=fun σ H Q=>t σ H fun vs H1=>sp (vs ++ dvs) H1 Q E
noncomputable def zJc(C:aV)(m:Str)(sp:Sp)(dvs:List V)(E:XK)(ta:TE)(t:TA):TE:=fun σ H Q=>ta σ H fun x H1=>∃a dx fs,x=.ref a/\H1 a=some (.ins C dx fs)/\fs.lookup m=none/\
 t σ H1 fun vs H2=>sp (x::(vs ++ dvs)) H2 Q E
noncomputable def jV1(C:aV)(sp:Sp)(dvs:List V)(E:XK)(t:TA):TE:=fun σ H Q=>t σ H fun vs H1=>∀x dx,H1 x=none->H1 dx=none->dx≠x->
 sp (.ref x::(vs ++ dvs)) (upd (upd H1 dx (.own x)) x (.ins C dx [])) (fun v H2=>v=.non /\Q (.ref x) H2) E
noncomputable def j8(K:aQ)(fd:aG)(ps:List Str)(ds:List Value):Prop:=
 ∀(s:aX) (us:List Value),K.In s.heap->(us ++ ds).length =ps.length->BindsTo s fd ⟨us,[]⟩ (ps.zip (us ++ ds))
theorem j8.all(h:∀us:List Value,us.length=ps.length->bindArgs fd ⟨us,[]⟩=pure (ps.zip us)):j8 K fd ps []:=fun s us _ hl=>by
 rw[bM]at hl⊢;exact .of_eq (h us hl)
noncomputable def jS(CX:CXT)(X:Cx)(E:XK):Prop:=∀(pins:List (aV×Obj)) (σ:St) (H:Hp) (s:aX) (e:Value) (s' :aX),Inv X pins σ H s->CX X.stack H s E e s' ->X.xe e s'
section
variable{X:Cx}{CX:CXT}{k:Nat}{f C:aV}{fd:aG}{ps:List Str}{sp:Sp}{dvs:List V}{ds:List Value}{E:XK}{x m:Str}{p pos apos:Pos}{e o:Expr}{es:List Expr}{ta:TE}{t:TA}
theorem vZ5{σ:St}{Q:VK}(F:FnOk X.prog X.w X.K X.mg X.base CX k f fd ps sp)(hr:Room k X.A)(hb:j8 X.K fd ps ds)(hd:Vals dvs ds)(hx:jS CX X E)(I:Inv X pins σ H s)(r:Vals vs us)(h:sp (vs ++ dvs) H Q E):aR (model X.prog X.w) X.A (call (.ref f) us) (EP X pins σ Q) X.xe s:=by
 have r2:Vals (vs ++ dvs) (us ++ ds):=r.append hd;have hl:(us ++ ds).length =ps.length:=by rw[←r2.length];exact F.len _ _ _ _ h
 refine wpAny_call (codeAny_mono (F.run X.A X.stack s H ⟨us,[]⟩ (us ++ ds) (vs ++ dvs) Q E hr I.env0 (hb s us I.kIn hl) r2 h) fun r s' hq=>?_);cases r with
 |error e=>exact hx pins σ H s e s' I hq
 | ok fl=>
   cases fl with
   |ret u=>exact I.after hq
   |next=>exact False.elim hq
   |brk=>exact False.elim hq
   |cont=>exact False.elim hq
theorem zQq(F:FnOk X.prog X.w X.K X.mg X.base CX k f fd ps sp)(hr:Room k X.A)(hg:Gl X x)(hm:X.mg x=some (.ref f))(hk:bT X.K (.ref f)=true)(hb:j8 X.K fd ps ds)(hd:Vals dvs ds)(hx:jS CX X E)(ha:PA X (e::es) t)(hdb:(x == ("__debug__":Str))=false:=by decide)(he:aJ (e::es) X.env=(false,eval e X.env)::aJ es X.env:=by rfl)(hpl:(cU pos (aJ es X.env)).any (·.1)=false:=by rfl):
  PE X (.Call (.Name x p) (e::es) [] pos) (vKr sp dvs E t):=by
 intro pins s σ H Q I h;refine eY (qJ6 I hg hm ?_ hdb);refine PySem.W.callWith_K (h₀:=X.base) I.ok.mod.kin hk (thn (ha pos pins s σ H _ I h) fun us s1 ⟨vs,H1,I1,r,q⟩=>⟨I1.kIn,?_⟩) he hpl;exact vZ5 F hr hb hd hx I1 r q
theorem jQi(he:PE X o ta)(c:Cls X.K C)(hm:Meth X.K C m f)(F:FnOk X.prog X.w X.K X.mg X.base CX k f fd ps sp)(hr:Room k X.A)(hb:j8 X.K fd ps ds)(hd:Vals dvs ds)(hx:jS CX X E)(ha:PA X (e::es) t)(hst:aJ (e::es) X.env=(false,eval e X.env)::aJ es X.env:=by rfl)(hpl:(cU pos (aJ es X.env)).any (·.1)=false:=by rfl)(ht:eval (.Call (.Attribute o m apos) (e::es) [] pos) X.env=(do
   let ov ←eval o X.env;standAt apos.atName;let (f,first) ←holding [ov] (getMethod ov m pl);callWith pos f first (cU pos (aJ (e::es) X.env)) (backToKw pos (keywordEach [] X.env))):=by rfl):
  PE X (.Call (.Attribute o m apos) (e::es) [] pos) (zJc C m sp dvs E ta t):=by
 intro pins s σ H Q I h;refine PySem.W.methodCall_KW (pl:=pl) (thn (he pins s σ H _ I h) fun u s1 ⟨x,H1,I1,rx,a,dx,fs,ex,ea,l,q⟩=>?_) ht;subst ex;obtain rfl:u=Value.ref a:=rx;refine vVd I1 ea c hm l ?_
 refine PySem.W.callWith_K (first:=[.ref a]) (h₀:=X.base) I.ok.mod.kin hm.kp (thn (ha pos pins s1 σ H1 _ I1 q) fun us s2 ⟨vs,H2,I2,r,q2⟩=>⟨I2.kIn,?_⟩) hst hpl;exact vZ5 (us:=.ref a::us) (vs:=.ref a::vs) F hr hb hd hx I2 (.cons rfl r) q2
theorem zX0(he:PE X o ta)(c:Cls X.K C)(hm:Meth X.K C m f)(F:FnOk X.prog X.w X.K X.mg X.base CX k f fd ps sp)(hr:Room k X.A)(hb:j8 X.K fd ps ds)(hd:Vals dvs ds)(hx:jS CX X E)(ht:eval (.Call (.Attribute o m apos) [] [] pos) X.env=(do
   let ov ←eval o X.env;standAt apos.atName;let (f,first) ←holding [ov] (getMethod ov m pl);callWith pos f first (cU pos (aJ [] X.env)) (backToKw pos (keywordEach [] X.env))):=by rfl):
  PE X (.Call (.Attribute o m apos) [] [] pos) (zJc C m sp dvs E ta tNil):=by
 intro pins s σ H Q I h;refine PySem.W.methodCall_KW (pl:=pl) (thn (he pins s σ H _ I h) fun u s1 ⟨x,H1,I1,rx,a,dx,fs,ex,ea,l,q⟩=>?_) ht;subst ex;obtain rfl:u=Value.ref a:=rx;refine vVd I1 ea c hm l ?_
 exact PySem.W.callWith_K0 (first:=[.ref a]) I1.kIn hm.kp (vZ5 (us:=[.ref a]) (vs:=[.ref a]) F hr hb hd hx I1 (.cons rfl .nil) q)
structure Mk(K:aQ)(C f:aV):Prop where
 makes:PySem.W.makesIn K C=true
 init:bO K (.ref C) "__init__"=some (some (.ref f))
 fn:PySem.W.isFn K (.ref f)=true
 kp:bT K (.ref C)=true
theorem zXn{σ:St}{Q:VK}(M:Mk X.K C f)(F:FnOk X.prog X.w X.K X.mg X.base CX k f fd ps sp)(hr:Room (k+1) X.A)(hb:j8 X.K fd ps ds)(hd:Vals dvs ds)(hx:jS CX X E)(I:Inv X pins σ H s)(r:Vals vs us)(h:∀x dx,H x=none->H dx=none->dx≠x->sp (.ref x::(vs ++ dvs)) (upd (upd H dx (.own x)) x (.ins C dx [])) (fun v H2=>v=.non /\Q (.ref x) H2) E):
  aR (model X.prog X.w) X.A (call (.ref C) us) (EP X pins σ Q) X.xe s:=by
 have hq:=h (s.heap.objs.size+1) s.heap.objs.size (I.hok.fresh (Nat.le_succ _)) (I.hok.fresh (aD _)) (bW (Nat.lt_succ_self _));have I2:=Inv.made (C:=C) I;have r2:Vals (V.ref (s.heap.objs.size+1)::(vs ++ dvs)) (Value.ref (s.heap.objs.size+1)::(us ++ ds)):=.cons rfl (r.append hd);have hl:(Value.ref (s.heap.objs.size+1)::us ++ ds).length =ps.length:=by
  have e:=r2.length;rw[F.len _ _ _ _ hq]at e;exact e.symm
 refine wpAny_call (zYd (f:=f) I.kIn M.makes M.init (beq_iff_eq.mp M.fn) (codeAny_mono (F.run _ X.stack _ _ ⟨Value.ref (s.heap.objs.size+1)::us,[]⟩ (Value.ref (s.heap.objs.size+1)::(us ++ ds)) _ _ E (hr.make C us [])
  (I2.env0.make C us []) (hb _ (Value.ref (s.heap.objs.size+1)::us) I2.kIn hl) r2 hq) fun r s' hq' =>?_))
 cases r with
 |error e=>exact hx pins σ _ _ e s' I2 hq'
 | ok fl=>
   cases fl with
   | ret u=>
     obtain⟨v,H',I3,rv,ev,q3⟩:=I2.after hq';subst ev;exact⟨rv,⟨V.ref (s.heap.objs.size+1),H',I3,rfl,q3⟩⟩
   |next=>exact False.elim hq'
   |brk=>exact False.elim hq'
   |cont=>exact False.elim hq'
theorem jQj(M:Mk X.K C f)(F:FnOk X.prog X.w X.K X.mg X.base CX k f fd ps sp)(hr:Room (k+1) X.A)(hg:Gl X x)(hm:X.mg x=some (.ref C))(hb:j8 X.K fd ps ds)(hd:Vals dvs ds)(hx:jS CX X E)(ha:PA X (e::es) t)(hdb:(x == ("__debug__":Str))=false:=by decide)(he:aJ (e::es) X.env=(false,eval e X.env)::aJ es X.env:=by rfl)(hpl:(cU pos (aJ es X.env)).any (·.1)=false:=by rfl):
  PE X (.Call (.Name x p) (e::es) [] pos) (jV1 C sp dvs E t):=by
 intro pins s σ H Q I h;refine eY (qJ6 I hg hm ?_ hdb);refine PySem.W.callWith_K (h₀:=X.base) I.ok.mod.kin M.kp (thn (ha pos pins s σ H _ I h) fun us s1 ⟨vs,H1,I1,r,q⟩=>⟨I1.kIn,?_⟩) he hpl;exact zXn M F hr hb hd hx I1 r q
end
structure FnScope(N P:List Str)(sc:Scope):Prop where
 kind:sc.kind=.function
 co:sc.isCoroutine=false
 gen:sc.isGenerator=false
 nd:N.Nodup
 pre:N.take P.length=P
 par:∀x∈P,sc.names.lookup x=some .local \/sc.names.lookup x=some .cell
 nofree:∀y∈sc.names,y.2≠ .free
theorem vZx{x:Str}:∀{binds:List (Str×Value)} {m:Str->Option Value},(∀v,(x,v)∉binds)->bindL kindOf binds m x=m x
 |[],_,_=>rfl
 | (n,v)::r,m,h=>by
   unfold bindL;rw[vZx fun w hw=>h w (aK _ hw)];split
   ·grind
   ·rfl
theorem vZz{x:Str}:∀{binds:List (Str×Value)} {m:Str->Option Value},(∀v,(x,v)∉binds)->bindC kindOf binds m x=m x
 |[],_,_=>rfl
 | (n,v)::r,m,h=>by
   unfold bindC;rw[vZz fun w hw=>h w (aK _ hw)];split
   ·rfl
   ·grind
theorem vZy{x:Str}{v:Value}:∀{P:List Str} {vs:List Value} {i:Nat} {m:Str->Option Value},P.Nodup->P[i]?=some x->vs[i]?=some v->kindOf x=some .local ->
  bindL kindOf (P.zip vs) m x=some v
 |[],_,_,_,_,h,_,_=>by simp at h
 |_::_,[],_,_,_,_,h,_=>by simp at h
 | p::P,w::vs,0,m,nd,h1,h2,hk=>by
   simp at h1 h2;subst h1;subst h2;show bindL kindOf ((p,w)::P.zip vs) m p=_;unfold bindL;rw[vZx fun v hv=>(eQ.mp nd).1 (List.of_mem_zip hv).1,if_pos hk];simp
 | p::P,w::vs,i + 1,m,nd,h1,h2,hk=>by
   unfold bindL;exact vZy (i:=i) (eQ.mp nd).2 (by simpa using h1) (by simpa using h2) hk
theorem vZ0{x:Str}{v:Value}:∀{P:List Str} {vs:List Value} {i:Nat} {m:Str->Option Value},P.Nodup->P[i]?=some x->vs[i]?=some v->kindOf x≠some .local ->
  bindC kindOf (P.zip vs) m x=some v
 |[],_,_,_,_,h,_,_=>by simp at h
 |_::_,[],_,_,_,_,h,_=>by simp at h
 | p::P,w::vs,0,m,nd,h1,h2,hk=>by
   simp at h1 h2;subst h1;subst h2;show bindC kindOf ((p,w)::P.zip vs) m p=_;unfold bindC;rw[vZz fun v hv=>(eQ.mp nd).1 (List.of_mem_zip hv).1,if_neg hk];simp
 | p::P,w::vs,i + 1,m,nd,h1,h2,hk=>by
   unfold bindC;exact vZ0 (i:=i) (eQ.mp nd).2 (by simpa using h1) (by simpa using h2) hk
noncomputable def qZw(N:List Str)(vs:List V):St:=vs.map some ++ List.replicate (N.length - vs.length) none
noncomputable def cxOf(CX:CXT)(P:bQ)(w:bH)(K:aQ)(mg:Str->Option Value)(base:Heap)(N:List Str)(qual:Str)(scope:Scope)(f:aV)(cd:Value)(A:cE)(outer:List Env)(s:aX)(H:Hp)(E:XK):Cx where
 prog:=P;w:=w;K:=K;mg:=mg;base:=base;A:=A.deeper (envOfC qual scope s.heap.objs.size f cd);N:=N;s₀:=s;H₀:=H;env:=envOfC qual scope s.heap.objs.size f cd;outer:=outer;stack:=envOfC qual scope s.heap.objs.size f cd::outer;ex:=[]
 calm:=true;fn:=fun _=>true
 pn:=[]
 xe:=fun e s' =>aR (model P w) (A.deeper (envOfC qual scope s.heap.objs.size f cd)) (leaving (envOfC qual scope s.heap.objs.size f cd) e) (fun _ s'' =>CX outer H s E e s'') (fun e' s'' =>CX outer H s E e' s'') s'
theorem cell_has{sc:Scope}{x:Str}(h:sc.names.lookup x=some .cell):∃c,(cellsFrom n sc.names []).lookup x=some c:=by
 have q:=PySem.W.cellsFrom_some sc.names n [] (.inl h);exact Option.isSome_iff_exists.mp q
theorem zZj{P:bQ}{w:bH}{f:aV}{cd:Value}{s1:aX}{E:XK}(S:FnScope N ps scope)(hd:A.handled=none)(e0:Env0 P w K mg base A outer s H)(hl:vs.length=ps.length)(r:Vals vs us)(x:InCallC s s.heap.objs.size (bindL (envOfC qual scope s.heap.objs.size f cd).kindOf (ps.zip us) fun _=>none) (cellsFrom (s.heap.objs.size+1) scope.names []) (bindC (envOfC qual scope s.heap.objs.size f cd).kindOf (ps.zip us) fun _=>none) s1):
  Inv (cxOf CX P w K mg base N qual scope f cd A outer s H E) [] (qZw N vs) H s1:=by
 have hpl:ps.length<=N.length:=by have:=congrArg List.length S.pre;rw[dG]at this;omega
 obtain⟨h1,tk,rfl,hk⟩:=x.done;have noA:∀b:aV,b∉(cxOf CX P w K mg base N qual scope f cd A outer s H E).ex :=fun b z=>absurd (show b∈([]:List aV) from z) (by simp)
 refine⟨⟨e0.mod,S.kind,rfl,rfl,aD _,fun y z c h1 h2=>?_,fun y hy=>?_,fun y c _ h=>?_,fun _=>hd,Around.frames_deeper e0.frames,.inr ⟨rfl,rfl⟩,fun b z=>absurd z (noA b),e0.bs,e0.bsz,fun b _ _=>noA b,fun b z=>absurd z (noA b),e0.funs,e0.frf⟩,
  rfl,e0.bare,Un.kept hk,⟨_,x.toInCall.ns,fun i y v h1 h2 h3=>?_⟩,fun y c h=>⟨_,x.cell y c h⟩,e0.hok.fresh (aD _),fun y c h=>?_,fun p hp=>absurd (show p∈([]:List (aV×Obj)) from hp) (by simp),e0.hok.kept hk,?_⟩
 ·exact name_of_addr x.apart (cD h1) (cD h2)
 ·have hy:scope.names.lookup y=some .cell \/scope.names.lookup y=some .free :=hy;rcases hy with hy|hy
  ·exact cell_has hy
  ·exact absurd rfl (S.nofree _ (cD hy))
 ·exact Nat.le_of_lt (x.above y c (cD h))
 ·have hi:i<vs.length:=by
   unfold qZw at h2;by_cases hi:i<vs.length
   ·exact hi
   ·rw [cS (by simpa using hi)] at h2;rw[List.getElem?_replicate]at h2;split at h2 <;> cases h2
  have ha:vs[i]?=some v:=by
   unfold qZw at h2;rw[cC (by simpa using hi),cN]at h2;cases e:vs[i]? with
   |none=>rw[e]at h2;cases h2
   |some a=>rw[e]at h2;cases h2;rfl
  obtain⟨u,hu,rv⟩:=r.get ha;have hp:ps[i]?=some y:=by
   rw[←S.pre,List.getElem?_take_of_lt (by omega)];exact h1
  have ndP:ps.Nodup:=by rw[←S.pre];exact S.nd.sublist (List.take_sublist _ _)
  refine⟨u,rv,?_⟩;rcases S.par y (List.mem_of_getElem? hp) with k|k
  ·exact .inl ⟨k,vZy ndP hp hu k⟩
  ·obtain⟨c,e⟩:=cell_has (n:=s.heap.objs.size + 1) k;refine .inr ⟨.inl k,c,e,?_⟩;have q:=x.cell y c e;rw[vZ0 ndP hp hu (by show scope.names.lookup y≠_;rw[k];decide)]at q;exact q
 ·exact e0.hok.fresh (Nat.le_of_lt (x.above y c (cD h)))
 ·unfold qZw;show _=N.length;rw[aW,aP,eZ];omega
theorem jYz{P:bQ}{w:bH}{f:aV}{name:Str}{params:Arguments}{dV kV doc pm cdv ct oc:Value}{an od:Option aV}{osl:Array (Option Value)}(lk:K.lookup f=some ⟨oc,od,.func (cB name qual params body scope dV kV doc pm an cdv ct),osl⟩)(hcd:PySem.W.codeIn K cdv qual=true)(S:FnScope N ps scope)(len:∀vs H Q E,sp vs H Q E->vs.length=ps.length)(hbody:∀(A:cE) (outer:List Env) (s:aX) (H:Hp) (vs:List V) (Q:VK) (E:XK),Room k (A.deeper (envOfC qual scope s.heap.objs.size f cdv))->sp vs H Q E->
   ∃t,PSs (cxOf CX P w K mg base N qual scope f cdv A outer s H E) body t/\t {nx:=fun _ H' =>Q .non H',rt:=Q} (qZw N vs) H):
  FnOk P w K mg base CX (k+1) f (cB name qual params body scope dV kV doc pm an cdv ct) ps sp:=by
 refine⟨len,fun A outer s H args us vs Q E hr e0 hb r hsp=>?_⟩;have hl:=len _ _ _ _ hsp;have KX:K.In s.heap:=e0.mod.kin.keeps fun b o e=>(e0.bs b o e).1
 have lim:s.heap.NoLimit:=e0.mod.nolimit.keeps fun b o e=>(e0.bs b o e).1
 have hkind:∀y∈ps.zip us,scope.names.lookup y.1=some .local \/(scope.names.lookup y.1=some .cell /\((cellsFrom (s.heap.objs.size+1) scope.names []).lookup y.1).isSome =true):=fun⟨n,v⟩ hy=>by
  rcases S.par n (List.of_mem_zip hy).1 with q|q
  ·exact .inl q
  ·exact .inr ⟨q,PySem.W.cellsFrom_some _ _ _ (.inl q)⟩
 refine codeAny_call_function hr.depth (KX _ _ lk) rfl S.co S.gen rfl (PySem.W.codeRec_of KX hcd) (hb _ _ _ _ ?_);refine wpAny_newFunctionEnv_cells S.kind hkind fun env he s1 x=>?_
 subst he;refine⟨lim.keeps x.toInCall.keep,codeAny_func ?_⟩;obtain⟨t,ht,hq⟩:=hbody A outer s H vs Q E (hr.deeper _) hsp;have I:Inv (cxOf CX P w K mg base N qual scope f cdv A outer s H E) [] (qZw N vs) H s1:=zZj S hr.hd e0 hl r x;refine cZ (ht [] s1 (qZw N vs) H _ I hq) (fun fl s' hs=>?_) fun e s' hs=>hs
 have fin:∀{σ' :St} {H' :Hp} {v:V} {u:Value},Inv (cxOf CX P w K mg base N qual scope f cdv A outer s H E) [] σ' H' s' ->RelV v u->Q v H' ->CE outer P w H s Q u s' :=
  fun {σ' H' v u} J rv q=>⟨v,H',J.os,J.bare,J.base,J.hok,rv,q⟩
 cases fl with
 | ret u=>
   obtain⟨v,σ',H',J,rv,q⟩:=hs;exact fin J rv q
 | next=>
   obtain⟨σ',H',J,q⟩:=hs;exact fin (v:=V.non) (u:=Value.none) J rfl q
 | brk=>
   obtain⟨_,_,_,q⟩:=hs;exact False.elim q
 | cont=>
   obtain⟨_,_,_,q⟩:=hs;exact False.elim q
section
variable{X:Cx}{x:Str}{p pos:Pos}{e:Expr}{es:List Expr}{t:TA}{id T:String}{r:List V->Hp->VK->Prop}
noncomputable def tCB(r:List V->Hp->VK->Prop)(t:TA):TE:=fun σ H Q=>t σ H fun vs H1=>r vs H1 Q
theorem qXx(hc:jC X (.builtin id) r)(hg:Gl X x)(hm:X.mg x=none)(hv:dQ x=some (.builtin id))(ha:PA X (e::es) t)(hn:x≠"__name__":=by decide)(hdb:(x == ("__debug__":Str))=false:=by decide)(he:aJ (e::es) X.env=(false,eval e X.env)::aJ es X.env:=by rfl)(hpl:(cU pos (aJ es X.env)).any (·.1)=false:=by rfl):PE X (.Call (.Name x p) (e::es) [] pos) (tCB r t):=by
 intro pins s σ H Q I h;refine eY (qYh I hg hm hv ?_ hn hdb);exact PyProof.Rows.callWith_builtin1 (thn (ha pos pins s σ H _ I h) fun us s1 ⟨vs,H1,I1,r1,q1⟩=>hc pins s1 σ H1 vs us Q I1 r1 q1) he hpl
theorem qJ8(hc:jC X (.type T) r)(hg:Gl X x)(hm:X.mg x=none)(hv:dQ x=some (.type T))(ha:PA X (e::es) t)(hn:x≠"__name__":=by decide)(hdb:(x == ("__debug__":Str))=false:=by decide)(he:aJ (e::es) X.env=(false,eval e X.env)::aJ es X.env:=by rfl)(hpl:(cU pos (aJ es X.env)).any (·.1)=false:=by rfl):PE X (.Call (.Name x p) (e::es) [] pos) (tCB r t):=by
 intro pins s σ H Q I h;refine eY (qYh I hg hm hv ?_ hn hdb);exact dL (thn (ha pos pins s σ H _ I h) fun us s1 ⟨vs,H1,I1,r1,q1⟩=>hc pins s1 σ H1 vs us Q I1 r1 q1) he hpl
end
end L2
namespace HT
open PySem PyProof.Rows
section
variable{prog:bQ}{w:bH}{A:cE}{E:Value->aX->Prop}{s:aX}
noncomputable def sIx(n d:Nat):Option Int->Nat
 |none=>d
 |some v=>if v<0 then(v+(n:Int)).toNat else min v.toNat n
theorem zKp(n d k:Nat):sIx n d (some (k:Int))=min k n:=by
 show(if(k:Int)<0 then((k:Int)+(n:Int)).toNat else min (k:Int).toNat n)=min k n;rw[if_neg (by omega),Int.toNat_natCast]
end
end HT
namespace L2
open PySem PySem.Spec PyProof.Rows
variable{n j t':Nat}{i:Int}{α:Type}{v u:Value}{pins:List (aV×Obj)}{σ:St}{H:Hp}{s:aX}{p:aV}{its its':List Value}{A:cE}{y:V}
noncomputable abbrev TO:=St->Hp->(Option Int->Hp->Prop)->Prop
noncomputable def PO(X:Cx)(e:Option Expr)(t:TO):Prop:=
 ∀(pins:List (aV×Obj)) (s:aX) (σ:St) (H:Hp) (Q:Option Int->Hp->Prop),Inv X pins σ H s->t σ H Q->
  aR (model X.prog X.w) X.A (evalPart e X.env) (fun u s' =>∃o H',Inv X pins σ H' s' /\IsPart u o/\Q o H') X.xe s
noncomputable def tNoPart:TO:=fun _ H Q=>Q none H
noncomputable def jXt(t:TE):TO:=fun σ H Q=>t σ H fun x H1=>∃i,x=.int i/\Q (some i) H1
section
variable{X:Cx}{e:Expr}{te:TE}{lo hi:Option Expr}{tl th:TO}{pos p2:Pos}
theorem jQd:PO X none tNoPart:=by
 intro pins s σ H Q I h;exact aL ⟨none,H,I,.none,h⟩
theorem jQc(h:PE X e te):PO X (some e) (jXt te):=by
 intro pins s σ H Q I hw;refine thn (h pins s σ H _ I hw) fun u s1 ⟨x,H1,I1,r1,q1⟩=>?_
 obtain⟨i,rfl,q⟩:=q1;obtain⟨t,rfl⟩:=r1;exact⟨some i,H1,I1,.int i t,q⟩
noncomputable def SlR(X:Cx)(r:V->Option Int->Option Int->Hp->VK->Prop):Prop:=
 ∀(pins:List (aV×Obj)) (s:aX) (σ:St) (H:Hp) (x:V) (v vl vu:Value) (lo hi:Option Int) (sl:aV) (Q:VK),Inv X pins σ H s->RelV x v->s.heap.IsSliceOf sl vl vu .none ->IsPart vl lo->IsPart vu hi->r x lo hi H Q->
  ∃T id,typeLookup (.type T) "__getitem__"=pure (some (.builtin id))/\s.TypeIs v T/\aR (model X.prog X.w) X.A (getItem v (.ref sl)) (EP X pins σ Q) X.xe s
noncomputable def tSl(r:V->Option Int->Option Int->Hp->VK->Prop)(te:TE)(tl th:TO):TE:=fun σ H Q=>te σ H fun x H1=>tl σ H1 fun l H2=>th σ H2 fun u H3=>r x l u H3 Q
theorem vW8{r:V->Option Int->Option Int->Hp->VK->Prop}(hr:SlR X r)(he:PE X e te)(hl:PO X lo tl)(hu:PO X hi th):PE X (.Subscript e (.Slice lo hi none p2) pos) (tSl r te tl th):=by
 intro pins s σ H Q I h;refine Subscript_ (thn (he pins s σ H _ I h) fun v s1 ⟨x,H1,I1,r1,q1⟩=>?_);refine wpAny_Slice (thn (hl pins s1 σ H1 _ I1 q1) fun vl s2 ⟨l,H2,I2,pl,q2⟩=>thn (hu pins s2 σ H2 _ I2 q2) fun vu s3 ⟨u,H3,I3,pu,q3⟩=>?_);rw[evalPart_none];refine aL ?_
 have I4:Inv X pins σ H3 {s3 with heap:=s3.heap.push {cls:=.type "slice",data:=.fields #[vl,vu,.none]}}:=I3.kept (t' :=s3.toks) fun b ob q=>aU _ q
 obtain⟨T,id,hT,ht,hg⟩:=hr pins {s3 with heap:=s3.heap.push {cls:=.type "slice",data:=.fields #[vl,vu,.none]}} σ H3 x v vl vu l u s3.heap.objs.size Q I4 r1 (Heap.IsSliceOf.new ..) pl pu q3;show aR (model X.prog X.w) X.A (subscriptTail e (.Slice lo hi none p2) v (.ref s3.heap.objs.size)) (EP X pins σ Q) X.xe {s3 with heap:=s3.heap.push {cls:=.type "slice",data:=.fields #[vl,vu,.none]}};exact tail_any (ops:=[.ref s3.heap.objs.size,v]) ht hT hg (by with_unfolding_all rfl)
noncomputable def cutV(xs:List V)(lo hi:Option Int):List V:=(xs.drop (HT.sIx xs.length 0 lo)).take (HT.sIx xs.length xs.length hi - HT.sIx xs.length 0 lo)
theorem vX4(xs:List V)(lo hi:Option Int):(cutV xs lo hi).length <=xs.length:=by
 unfold cutV;rw[dG,cY];omega
end
def ixN(n:Nat)(i:Int):Option Nat:=if 0<=i then(if i<n then some i.toNat else none) else if -(n:Int)<=i then some (i+n).toNat else none
def atI{α:Type}(xs:List α)(i:Int):Option α:=(ixN xs.length i).bind fun j=>xs[j]?
theorem vJp(h:ixN n i=some j):seqIndex? i n=some j/\j<n/\ -(n:Int)<=i/\i<n:=by
 unfold ixN at h;by_cases h0:0<=i
 ·rw [if_pos h0] at h;by_cases h1:i<n
  ·rw [if_pos h1] at h;have e:i.toNat=j:=Option.some.inj h;exact⟨by rw[seqIndex_of h0 h1,e],by omega,by omega,h1⟩
  ·rw[if_neg h1]at h;cases h
 ·rw [if_neg h0] at h;by_cases h1: -(n:Int)<=i
  ·rw [if_pos h1] at h;have e:(i+n).toNat =j:=Option.some.inj h;exact⟨by rw[seqIndex_neg (by omega) h1,e],by omega,h1,by omega⟩
  ·rw[if_neg h1]at h;cases h
theorem vJz{xs:List α}{v:α}(h:atI xs i=some v):∃j,seqIndex? i xs.length=some j/\xs[j]?=some v/\j<xs.length/\ -(xs.length:Int)<=i/\i<xs.length:=by
 unfold atI at h;cases e:ixN xs.length i with
 |none=>rw[e]at h;cases h
 | some j=>
   rw[e]at h;obtain⟨h1,h2,h3,h4⟩:=vJp e;exact⟨j,h1,h,h2,h3,h4⟩
theorem vJy{xs:List α}{v:α}(h:xs[j]?=some v):atI xs (j:Int)=some v:=by
 have hj:j<xs.length:=(aB.mp h).1;have e:ixN xs.length (j:Int)=some j:=by
  unfold ixN;rw[if_pos (by omega),if_pos (by omega)];simp
 unfold atI;rw[e];exact h
noncomputable def vJ1(b:Expr):Prop:=∀o i,subscripted b false o i=operate [o,i] (getItem o i)
noncomputable def IxR(X:Cx)(r:R2):Prop:=
 ∀(value slice:Expr) (pins:List (aV×Obj)) (s:aX) (σ:St) (H:Hp) (x y:V) (v u:Value) (Q:VK),Inv X pins σ H s->RelV x v->RelV y u->r x y H Q->
  subscripted slice false v u=operate [v,u] (getItem v u)->aR (model X.prog X.w) X.A (subscriptTail value slice v u) (EP X pins σ Q) X.xe s
noncomputable def MtR(X:Cx)(id:String)(r:V->List V->Hp->VK->Prop):Prop:=
 ∀(pins:List (aV×Obj)) (s:aX) (σ:St) (H:Hp) (x:V) (xs:List V) (v:Value) (us:List Value) (Q:VK),Inv X pins σ H s->RelV x v->Vals xs us->r x xs H Q->
  aR (model X.prog X.w) X.A (call (.builtin id) (v::us)) (EP X pins σ Q) X.xe s
section
variable{X:Cx}{a b:Expr}{ta tb:TE}{pos:Pos}
theorem IxR.or{r r' :R2}(h:IxR X r)(h' :IxR X r'):IxR X (fun x y H Q=>r x y H Q\/r' x y H Q):=by
 intro value slice pins s σ H x y v u Q I rx ry q hs;rcases q with q|q
 ·exact h value slice pins s σ H x y v u Q I rx ry q hs
 ·exact h' value slice pins s σ H x y v u Q I rx ry q hs
theorem jX9{r:R2}(hr:IxR X r)(ha:PE X a ta)(hb:PE X b tb)(hs:vJ1 b):PE X (.Subscript a b pos) (tOp r ta tb):=by
 intro pins s σ H Q I h;exact Subscript_ (binT ha hb I h fun v u s2 x y H2 I2 rx ry q=>hr a b pins s2 σ H2 x y v u Q I2 rx ry q (hs _ _))
noncomputable def rIxL(K:aQ):R2:=fun x y H Q=>∃p xs i v,x=.ref p/\y=.int i/\SqL K H p xs/\atI xs i=some v/\Q v H
noncomputable def rIxT(K:aQ):R2:=fun x y H Q=>∃p xs i v,x=.ref p/\y=.int i/\SqT K H p xs/\atI xs i=some v/\Q v H
noncomputable def rIxS:R2:=fun x y H Q=>∃z i c,x=.str z/\y=.int i/\z.length<=aM/\atI z.cps.toList i=some c/\Q (.str ⟨#[c]⟩) H
theorem jQ3:IxR X (rIxL X.K):=by
 intro value slice pins s σ H x y v u Q I rx ry h hs;obtain⟨p,xs,i,z,rfl,rfl,hq,he,q⟩:=h;cases rx;obtain⟨t,rfl⟩:=ry;obtain⟨its,r,pl,hz⟩:=I.list hq;obtain⟨j,h1,h2,h3,h4,h5⟩:=vJz he;obtain⟨w,ew,rw'⟩:=r.get h2;have hl:=r.length;have hn:=qYf;have fin:EP X pins σ Q w s:=⟨z,H,I,rw',q⟩
 by_cases h0:0<=i
 ·have hj:i.toNat=j:=by
   rw[seqIndex_of h0 h5]at h1;exact Option.some.inj h1
  exact item_listR pl.isList h0 (by omega) (by rw[hj];simpa using ew) fin hs
 ·have hj:(i+(its.toArray.size:Int)).toNat =j:=by
   rw[seqIndex_neg (by omega) h4]at h1;rw[bV,←hl];exact Option.some.inj h1
  exact subscriptTail_builtinR (x:=w) pl.isList.typeIs slot_list_getitem.lookup
   (wpAny_getItem_list_neg (Q:=fun r s' =>r=w/\EP X pins σ Q r s') pl.isList (by omega) (by rw[bV] <;> omega) (by omega) (by rw[hj];simpa using ew) ⟨rfl,fin⟩) hs
theorem jWx:IxR X (rIxT X.K):=by
 intro value slice pins s σ H x y v u Q I rx ry h hs;obtain⟨p,xs,i,z,rfl,rfl,hq,he,q⟩:=h;cases rx;obtain⟨t,rfl⟩:=ry;obtain⟨its,r,pl,hz⟩:=I.tuple hq;obtain⟨j,h1,h2,h3,h4,h5⟩:=vJz he;obtain⟨w,ew,rw'⟩:=r.get h2;have hl:=r.length;have hn:=qYf;have fin:EP X pins σ Q w s:=⟨z,H,I,rw',q⟩
 exact subscriptTail_builtinR (x:=w) pl.typeIs slot_tuple_getitem.lookup
  (getItem_tuple (j:=j) (Q:=fun r s' =>r=w/\EP X pins σ Q r s') pl (by omega) (by omega) (by rw[bV,←hl];exact h1) (by simpa using ew) ⟨rfl,fin⟩) hs
theorem jWy:IxR X rIxS:=by
 intro value slice pins s σ H x y v u Q I rx ry h hs;obtain⟨z,i,c,rfl,rfl,hz,he,q⟩:=h;obtain⟨t,rfl⟩:=rx;obtain⟨t',rfl⟩:=ry;obtain⟨j,h1,h2,h3,h4,h5⟩:=vJz he;have hl:z.cps.toList.length=z.length:=by simp[Str.length]
 rw[hl]at h1 h4 h5;have hn:=qYf;exact tail_any (eJ s z t) slot_str_getitem.lookup (getItem_str (c:=c) (by
  have e1:decide (i < -(2 ^ 63:Int))=false:=decide_eq_false (by omega);have e2:decide (i≥2 ^ 63)=false:=decide_eq_false (by omega);rw[e1,e2,Bool.or_false]) (by rw[h1];simpa using h2) ⟨.str ⟨#[c]⟩,H,I.tok _,⟨_,rfl⟩,q⟩) hs
noncomputable def rIx(K:aQ):R2:=fun x y H Q=>rIxL K x y H Q\/rIxT K x y H Q\/rIxS x y H Q
theorem jWz:IxR X (rIx X.K):=jQ3.or (jWx.or jWy)
theorem vY9(its:List Value)(n j:Nat)(u:Value):Obj.mapSeq (·.setIfInBounds j u) {cls:=.type "list",data:=.seq its.toArray n}={cls:=.type "list",data:=.seq (its.set j u).toArray n}:=by
 simp[Obj.mapSeq]
theorem Inv.lst{xs:List V}(I:Inv X pins σ H s)(h:H p=some (.lst xs)):
  ∃(its:List Value) (n:Nat),Vals xs its/\s.heap.get? p=some {cls:=.type "list",data:=.seq its.toArray n}/\xs.length<=aM:=by
 obtain⟨z,its,n,r,e⟩:=I.hok p _ h;exact⟨its,n,r,e,z⟩
theorem Inv.lstUpd{xs ys:List V}{n':Nat}{f:Obj->Obj}(I:Inv X pins σ H s)(h:H p=some (.lst xs))(ho:s.heap.get? p=some {cls:=.type "list",data:=.seq its.toArray n})(hf:f {cls:=.type "list",data:=.seq its.toArray n}={cls:=.type "list",data:=.seq its'.toArray n' })(r:Vals ys its')(hz:ys.length<=aM)(t:Nat):
  Inv X pins σ (upd H p (.lst ys)) {s with heap:=s.heap.update p f,toks:=t}:=by
 have e:(s.heap.update p f).get? p=some {cls:=.type "list",data:=.seq its'.toArray n' }:=by
  rw[Heap.get?_update_self f ho (by rw[hf] <;> rfl),hf]
 refine I.write (x:=p) (e:=p) (by rw[h];trivial) (.inl rfl) (fun b u hb q=>(Heap.get?_update_other _ _ (Ne.symm hb)).trans q) ⟨_,e⟩ ?_
 exact⟨hz,its',n',r,e⟩
noncomputable def rSetL:V->V->V->Hp->(Hp->Prop)->Prop:=fun o i v H Q=>∃p xs k j,o=.ref p/\i=.int k/\H p=some (.lst xs)/\ixN xs.length k=some j/\Q (upd H p (.lst (xs.set j v)))
theorem zXl:PSet X rSetL:=by
 intro pins s σ H o i v ov iv u Q I ro ri rv h;obtain⟨p,xs,k,j,rfl,rfl,hp,hj,q⟩:=h;cases ro;obtain⟨t,rfl⟩:=ri;obtain⟨its,n,r,ho,hz⟩:=I.lst hp;obtain⟨h1,h2,h3,h4⟩:=vJp hj;have hl:=r.length;have hn:=qYf;have I' :Inv X pins σ (upd H p (.lst (xs.set j v))) {s with heap:=s.heap.update p (Obj.mapSeq (·.setIfInBounds j u))}:=
  I.lstUpd hp ho (vY9 its n j u) (r.set rv j) (by rw[cV];exact hz) s.toks
 by_cases h0:0<=k
 ·have hk:k.toNat=j:=by
   rw[seqIndex_of h0 h4]at h1;exact Option.some.inj h1
  exact PySem.W.ki_setAt ho h0 (by omega) (by rw[bV,←hl];exact h4) (by rw[hk];exact⟨_,I',q⟩)
 ·have hk:(k+(its.toArray.size:Int)).toNat =j:=by
   rw[seqIndex_neg (by omega) h3]at h1;rw[bV,←hl];exact Option.some.inj h1
  exact PySem.W.ki_setBack ho (by omega) (by rw[bV,←hl];exact h3) (by omega) (by rw[hk];exact⟨_,I',q⟩)
theorem vJ3(lo hi:Option Int)(n:Nat):(sliceBounds lo hi none n).1=((HT.sIx n 0 lo:Nat):Int)/\(sliceBounds lo hi none n).2.1=((HT.sIx n n hi:Nat):Int)/\(sliceBounds lo hi none n).2.2=1:=by
 refine⟨?_,?_,rfl⟩
 ·cases lo with
  |none=>simp[sliceBounds,HT.sIx]
  | some i=>
    simp only[sliceBounds,HT.sIx,Option.getD_none,show(1:Int) > 0 by decide,if_true];by_cases h:i<0
    ·simp only[h,if_true] <;> omega
    ·simp only[h,if_false] <;> omega
 ·cases hi with
  |none=>simp[sliceBounds,HT.sIx]
  | some i=>
    simp only[sliceBounds,HT.sIx,Option.getD_none,show(1:Int) > 0 by decide,if_true];by_cases h:i<0
    ·simp only[h,if_true] <;> omega
    ·simp only[h,if_false] <;> omega
theorem vVq(its:List Value)(lo hi:Option Int):slicePick its.toArray lo hi none=((its.drop (HT.sIx its.length 0 lo)).take (HT.sIx its.length its.length hi - HT.sIx its.length 0 lo)).toArray :=by
 obtain⟨h1,h2,h3⟩:=vJ3 lo hi its.toArray.size;unfold slicePick;rw[h1,h2,h3];simp only[sliceRange_one,pick_run] <;> rfl
noncomputable def rSlL(K:aQ):V->Option Int->Option Int->Hp->VK->Prop:=fun x lo hi H Q=>∃a xs,x=.ref a/\SqL K H a xs/\∀p,H p=none->Q (.ref p) (upd H p (.lst (cutV xs lo hi)))
theorem zKj:SlR X (rSlL X.K):=by
 intro pins s σ H x v vl vu lo hi sl Q I rx hs pl pu h;obtain⟨a,xs,rfl,hx,q⟩:=h;cases rx;obtain⟨its,r,ht,hz⟩:=I.list hx;have hlen:=r.length;refine⟨"list",_,slot_list_getitem.lookup,ht.isList.typeIs,?_⟩;refine wpAny_getItem_list_slice ht.isList hs pl pu .none (by simp) ?_ (by rw[bV] <;> omega)
 rw[vVq,←hlen];refine⟨.ref s.heap.objs.size,_,I.laid (t' :=s.toks) (o:=.lst (cutV xs lo hi)) (fun b ob q=>aU _ q) (aD _) ?_,rfl,q _ (I.hok.fresh (aD _))⟩;exact⟨aS (vX4 xs lo hi) hz,_,0,(r.drop (HT.sIx xs.length 0 lo)).take (HT.sIx xs.length xs.length hi - HT.sIx xs.length 0 lo),aN _ rfl⟩
noncomputable def qWg:V->Bool
 |.non =>true
 |.bl _=>true
 |.int _=>true
 |.str _=>true
 |_=>false
noncomputable def eqV:V->V->Bool
 |.non,.non =>true
 |.bl a,.bl b=>a == b
 |.bl a,.int b=>(if a then 1 else 0) == b
 |.int a,.bl b=>a == (if b then 1 else 0)
 |.int a,.int b=>a == b
 |.str a,.str b=>a == b
 |_,_=>false
theorem jXe{x:V}(ry:RelV y u)(rx:RelV x v)(fy:qWg y=true)(fx:qWg x=true):SeqAt.EqAt A s u v (eqV y x):=by
 cases y with
 | non=>
   cases ry;cases x with
   |non=>cases rx;exact SeqAt.EqAt.same _
   |bl b=>cases rx;exact SeqAt.EqAt.none_bool b
   |int b=>obtain⟨t,rfl⟩:=rx;exact SeqAt.EqAt.none_int b t
   |str b=>obtain⟨t,rfl⟩:=rx;exact SeqAt.EqAt.none_str b t
   |_=>exact absurd (show false=true from fx) aT
 | bl a=>
   cases ry;cases x with
   |non=>cases rx;exact SeqAt.EqAt.bool_none a
   |bl b=>cases rx;exact SeqAt.EqAt.bool_bool a b
   |int b=>obtain⟨t,rfl⟩:=rx;exact SeqAt.EqAt.bool_int a b t
   |str b=>obtain⟨t,rfl⟩:=rx;exact SeqAt.EqAt.bool_str a b t
   |_=>exact absurd (show false=true from fx) aT
 | int a=>
   obtain⟨t',rfl⟩:=ry;cases x with
   |non=>cases rx;exact SeqAt.EqAt.int_none a t'
   |bl b=>cases rx;exact SeqAt.EqAt.int_bool a t' b
   |int b=>obtain⟨t,rfl⟩:=rx;exact SeqAt.EqAt.int_int a t' b t
   |str b=>obtain⟨t,rfl⟩:=rx;exact SeqAt.EqAt.int_str a t' b t
   |_=>exact absurd (show false=true from fx) aT
 | str a=>
   obtain⟨t',rfl⟩:=ry;cases x with
   |non=>cases rx;exact SeqAt.EqAt.str_none a t'
   |bl b=>cases rx;exact SeqAt.EqAt.str_bool a t' b
   |int b=>obtain⟨t,rfl⟩:=rx;exact SeqAt.EqAt.str_int a t' b t
   |str b=>obtain⟨t,rfl⟩:=rx;exact SeqAt.EqAt.str_str a t' b t
   |_=>exact absurd (show false=true from fx) aT
 |_=>exact absurd (show false=true from fy) aT
noncomputable def eqU(x:V)(u:Value):Bool:=match u with
 |.none =>eqV .non x
 |.bool b=>eqV (.bl b) x
 |.int i _=>eqV (.int i) x
 |.str z _=>eqV (.str z) x
 |_=>false
theorem zWz{x:V}(r:RelV y u)(f:qWg y=true):eqU x u=eqV y x:=by
 cases y with
 |non=>cases r;rfl
 |bl b=>cases r;rfl
 |int i=>obtain⟨t,rfl⟩:=r;rfl
 |str z=>obtain⟨t,rfl⟩:=r;rfl
 |_=>exact absurd (show false=true from f) aT
theorem qXs{x:V}:∀{xs:List V} {us:List Value},Vals xs us->xs.all qWg=true->us.any (eqU x)=xs.any fun y=>eqV y x
 |_,_,.nil,_=>rfl
 | y::xs,u::us, .cons r t,f=>by
   rw[List.all_cons,aE]at f;rw[List.any_cons,List.any_cons,zWz r f.1,qXs t f.2]
theorem qZ7{x:V}(rx:RelV x v)(fx:qWg x=true):∀{xs:List V} {us:List Value},Vals xs us->xs.all qWg=true->∀u∈us,SeqAt.EqAt A s u v (eqU x u)
 |_,_,.nil,_=>fun u hu=>by cases hu
 | y::xs,u::us, .cons r t,f=>fun u' hu=>by
   rw[List.all_cons,aE]at f;rcases aH.mp hu with rfl|hu
   ·rw[zWz r f.1];exact jXe r rx f.1 fx
   ·exact qZ7 rx fx t f.2 u' hu
noncomputable def inV(x:V)(xs:List V):Bool:=xs.any fun y=>eqV y x
noncomputable def rIn(K:aQ)(neg:Bool):R2:=fun x y H Q=>∃p xs,y=.ref p/\(SqL K H p xs\/SqT K H p xs)/\qWg x=true/\xs.all qWg=true/\Q (.bl (if neg then !inV x xs else inV x xs)) H
theorem zV9:OpR X (bA .In) (rIn X.K false):=by
 intro pins s σ H x y v u Q I rx ry h;obtain⟨p,xs,rfl,hq,fx,fs,q⟩:=h;cases ry;rcases hq with hq|hq
 ·obtain⟨its,r,pl,hz⟩:=I.list hq;refine SeqAt.in_listAt (eqU x) pl.isList (fun w hw=>qZ7 rx fx r fs w (by simpa using hw)) ⟨.bl _,H,I,rfl,?_⟩;rw[show its.toArray.any (eqU x)=its.any (eqU x) by simp,qXs r fs];exact q
 ·obtain⟨its,r,pl,hz⟩:=I.tuple hq;refine SeqAt.in_tupleAt (eqU x) pl (fun w hw=>qZ7 rx fx r fs w (by simpa using hw)) ⟨.bl _,H,I,rfl,?_⟩;rw[show its.toArray.any (eqU x)=its.any (eqU x) by simp,qXs r fs];exact q
theorem vJ7:OpR X (bA .NotIn) (rIn X.K true):=by
 intro pins s σ H x y v u Q I rx ry h;obtain⟨p,xs,rfl,hq,fx,fs,q⟩:=h;cases ry;rcases hq with hq|hq
 ·obtain⟨its,r,pl,hz⟩:=I.list hq;refine SeqAt.notIn_listAt (eqU x) pl.isList (fun w hw=>qZ7 rx fx r fs w (by simpa using hw)) ⟨.bl _,H,I,rfl,?_⟩;rw[show its.toArray.any (eqU x)=its.any (eqU x) by simp,qXs r fs];exact q
 ·obtain⟨its,r,pl,hz⟩:=I.tuple hq;refine SeqAt.notIn_tupleAt (eqU x) pl (fun w hw=>qZ7 rx fx r fs w (by simpa using hw)) ⟨.bl _,H,I,rfl,?_⟩;rw[show its.toArray.any (eqU x)=its.any (eqU x) by simp,qXs r fs];exact q
theorem vWg:jC X (.builtin "len") (fun xs H Q=>∃p ys,xs=[.ref p]/\(SqL X.K H p ys\/SqT X.K H p ys)/\Q (.int ys.length) H):=by
 intro pins s σ H xs us Q I r h;obtain⟨p,ys,rfl,hq,q⟩:=h;obtain⟨u,rfl,rx⟩:=qQa r;cases rx;have hn:=qYf;rcases hq with hq|hq
 ·obtain⟨its,r',pl,hz⟩:=I.list hq;have hlen:=r'.length;exact Calls.call_len_list pl.isList (by simp only[bV] <;> omega) ⟨.int ys.length,H,I.tok _,⟨s.toks+1,by rw[bV,hlen]⟩,q⟩
 ·obtain⟨its,r',pl,hz⟩:=I.tuple hq;have hlen:=r'.length;exact len_tuple pl (by simp only[bV] <;> omega) ⟨.int ys.length,H,I.tok _,⟨s.toks+1,by rw[bV,hlen]⟩,q⟩
theorem vWf:jC X (.builtin "len") (fun xs H Q=>∃z,xs=[.str z]/\z.length<=aM/\Q (.int z.length) H):=by
 intro pins s σ H xs us Q I r h;obtain⟨z,rfl,hz,q⟩:=h;obtain⟨u,rfl,t,rfl⟩:=qQa r;have hn:=qYf;exact len_str (by omega) ⟨.int z.length,H,I.tok _,⟨_,rfl⟩,q⟩
theorem jC.or{f:Value}{r r' :List V->Hp->VK->Prop}(h:jC X f r)(h' :jC X f r'):jC X f (fun xs H Q=>r xs H Q\/r' xs H Q):=by
 intro pins s σ H xs us Q I rs q;rcases q with q|q
 ·exact h pins s σ H xs us Q I rs q
 ·exact h' pins s σ H xs us Q I rs q
theorem vWe:jC X (.type "list") (fun xs H Q=>∃p ys,xs=[.ref p]/\(SqL X.K H p ys\/SqT X.K H p ys)/\∀l,H l=none->Q (.ref l) (upd H l (.lst ys))):=by
 intro pins s σ H xs us Q I r h;obtain⟨p,ys,rfl,hq,q⟩:=h;obtain⟨u,rfl,rx⟩:=qQa r;cases rx
 have fin:∀(its:List Value),Vals ys its->ys.length<=aM->∀(h' :Heap) (c' :Nat),(∀b o',s.heap.get? b=some o' ->h'.get? b=some o')->
   h'.get? s.heap.objs.size=some {cls:=.type "list",dict:=none,data:=.seq its.toArray c',slots:=#[]}->EP X pins σ Q (.ref s.heap.objs.size) {s with heap:=h' }:=fun its r' hz h' c' kp e=>
  ⟨.ref s.heap.objs.size,_,I.laid (t' :=s.toks) kp (aD _) (show v5 X.prog X.w _ h' _ (.lst ys) from⟨hz,its,c',r',e⟩),rfl,q _ (I.hok.fresh (aD _))⟩
 rcases hq with hq|hq
 ·obtain⟨its,r',pl,hz⟩:=I.list hq;have hlen:=r'.length;obtain⟨o,ho,hc,n,hd⟩:=pl.isList;exact call_list_seq p (.inl rfl) ho hc hd (fun h' c' kp e=>fin its r' hz h' c' kp e) (by simp only[bV] <;> omega)
 ·obtain⟨its,r',pl,hz⟩:=I.tuple hq;have hlen:=r'.length;obtain⟨o,ho,hc,n,hd⟩:=pl;exact call_list_seq p (.inr rfl) ho hc hd (fun h' c' kp e=>fin its r' hz h' c' kp e) (by simp only[bV] <;> omega)
theorem vVx:jC X (.type "tuple") (fun xs H Q=>∃p ys,xs=[.ref p]/\((SqL X.K H p ys/\∀l,H l=none->Q (.ref l) (upd H l (.tup ys)))\/(SqT X.K H p ys/\Q (.ref p) H))):=by
 intro pins s σ H xs us Q I r h;obtain⟨p,ys,rfl,h⟩:=h;obtain⟨u,rfl,rx⟩:=qQa r;cases rx;rcases h with⟨hq,q⟩|⟨hq,q⟩
 ·obtain⟨its,r',pl,hz⟩:=I.list hq;have hlen:=r'.length;refine call_tuple_list pl.isList (fun h' kp=>?_) (by simp only[bV] <;> omega);have I1:Inv X pins σ H {s with heap:=h' }:=I.kept (t' :=s.toks) kp;have I2:Inv X pins σ (upd H h'.objs.size (.tup ys)) {s with heap:=h'.push {cls:=.type "tuple",data:=.seq its.toArray}}:=
   I1.laid (t' :=s.toks) (fun b o e=>aU _ e) (aD _) (show v5 X.prog X.w _ _ _ (.tup ys) from⟨hz,its,r',IsTup.new _ _⟩)
  exact⟨.ref h'.objs.size,_,I2,rfl,q _ (I1.hok.fresh (aD _))⟩
 ·obtain⟨its,r',pl,hz⟩:=I.tuple hq;exact call_tuple_same pl ⟨.ref p,H,I,rfl,q⟩
noncomputable def tyV(K:aQ)(T:String)(x:V)(H:Hp):Prop:=match x with
 |.str _=>T="str"
 |.int _=>T="int"
 | .ref p=>(T="list"/\∃xs,SqL K H p xs)\/(T="tuple"/\∃o,K.lookup p=some o/\o.cls= .type "tuple"/\o.dict=none)\/
   (T="dict"/\((∃kvs,H p=some (.dK kvs))\/∃kvs,H p=some (.dT kvs)))\/(T="set"/\∃S n,H p=some (.set S n))
 |_=>False
theorem jZ1{T:String}{x:V}(I:Inv X pins σ H s)(r:RelV x v)(ty:tyV X.K T x H):
  s.TypeIs v T/\∀a,v=.ref a->∃ob,s.heap.get? a=some ob/\ob.dict=none:=by
 cases x with
 | str z=>
   obtain⟨t,rfl⟩:=r;cases(show T="str" from ty);exact⟨eJ s z t,fun _ e=>nomatch e⟩
 | int i=>
   obtain⟨t,rfl⟩:=r;cases(show T="int" from ty);exact⟨typeIs_int s i t,fun _ e=>nomatch e⟩
 | ref p=>
   cases r;rcases ty with⟨rfl,xs,hq⟩|⟨rfl,o,hk,hc,hd⟩|⟨rfl,hk⟩|⟨rfl,S,n,hk⟩
   ·obtain⟨its,_,pl,_⟩:=I.list hq;refine⟨pl.isList.typeIs,fun a e=>?_⟩;cases e;obtain⟨o,n,e,c,hd,_⟩:=pl;grind
   ·refine⟨⟨o,I.kIn p o hk,hc⟩,fun a e=>?_⟩;cases e;exact⟨o,I.kIn _ o hk,hd⟩
   ·have z:∃o,s.heap.get? p=some o/\o.ExactDict:=by
     rcases hk with⟨kvs,hk⟩|⟨kvs,hk⟩
     ·obtain⟨_,_,_,_,o,_,_,e,ex,_⟩:=I.hok p _ hk;grind
     ·obtain⟨_,_,_,_,o,_,_,e,ex,_⟩:=I.hok p _ hk;grind
    obtain⟨o,e,ex⟩:=z;refine⟨⟨o,e,ex.1⟩,fun a e2=>?_⟩;cases e2;exact⟨o,e,ex.2.1⟩
   ·obtain⟨o,_,_,_,e,ex,_⟩:=I.hok p _ hk;refine⟨⟨o,e,ex.1⟩,fun a e2=>?_⟩;cases e2;exact⟨o,e,ex.2.1⟩
 |_=>exact False.elim ty
noncomputable def tBM(K:aQ)(T:String)(r:V->List V->Hp->VK->Prop)(to:TE)(t:TA):TE:=fun σ H Q=>to σ H fun x H1=>tyV K T x H1/\t σ H1 fun xs H2=>r x xs H2 Q
variable{o e:Expr}{es:List Expr}{to:TE}{t:TA}{name:Str}{apos cpos:Pos}{T id:String}{r:V->List V->Hp->VK->Prop}
theorem zJj(pa:PlainAttrs T)(slot:Slot T name id)(hty:typeOf (.builtin id)=pure (.type "method_descriptor"))(hm:MtR X id r)(ho:PE X o to)(ha:PA X (e::es) t)(hbase:attributeBase o name X.env (eval o X.env)=eval o X.env:=by rfl)(hfew:((cU cpos (aJ (e::es) X.env)).all (fun x=>!x.1) && (backToKw cpos (keywordEach [] X.env)).all (fun x=>x.1.isSome)
   && decide ((e::es).length+([]:List Keyword).length+(if([]:List Keyword).isEmpty then 0 else 1)<30))=true:=by rfl)(hline:(apos.endLine == cpos.line)=true:=by rfl)(hs:aJ (e::es) X.env=(false,eval e X.env)::aJ es X.env:=by rfl)(hplain:(cU cpos (aJ es X.env)).any (·.1)=false:=by rfl):
  PE X (.Call (.Attribute o name apos) (e::es) [] cpos) (tBM X.K T r to t):=by
 intro pins s σ H Q I h;refine wpAny_Call_method_late hbase hfew hline rfl (thn (ho pins s σ H _ I h) fun v s1 ⟨x,H1,I1,r1,ty,q1⟩=>?_);obtain⟨h1,h2⟩:=jZ1 I1 r1 ty;refine⟨T,id,pa,slot,hty,h1,h2,?_⟩;have hA:=ha cpos pins s1 σ H1 _ I1 q1;rw[hs]at hA⊢;refine Calls.callWith_builtin (by show(false || (cU cpos (aJ es X.env)).any (·.1))=false;rw[hplain] <;> rfl) (Calls.evalArgs_plain ?_);exact thn hA fun us s2 ⟨vs,H2,I2,r2,q2⟩=>hm pins s2 σ H2 x vs v us Q I2 r1 r2 q2
end
noncomputable def MtM(X:Cx)(id:String)(r:V->List V->Hp->VK->Prop):Prop:=
 ∀(pins:List (aV×Obj)) (s:aX) (σ:St) (H:Hp) (x:V) (xs:List V) (v:Value) (us:List Value) (Q:VK),Inv X pins σ H s->RelV x v->Vals xs us->r x xs H Q->
  aR (model X.prog X.w) X.A (call (.builtin id) (v::us)) (EP X pins σ Q) X.xe s
theorem Vals.one:∀{x:V} {us:List Value},Vals [x] us->∃u,us=[u]/\RelV x u
 |_,_,.cons r .nil =>⟨_,rfl,r⟩
section
variable{X:Cx}{pins:List (aV×Obj)}{σ:St}{H:Hp}{s:aX}{l b:aV}{xs ys zs:List V}
theorem Inv.lset{f:Array Value->Array Value}(I:Inv X pins σ H s)(hH:H l=some (.lst xs))(e:s.heap.get? l=some {cls:=.type "list",data:=.seq its.toArray n})(hf:f its.toArray=its'.toArray)(hv:Vals ys its')(hz:ys.length<=aM):
  Inv X pins σ (upd H l (.lst ys)) {s with heap:=s.heap.update l (Obj.mapSeq f),toks:=t' }:=by
 have q:=PySem.IsL.update e f;rw[hf]at q;refine I.write (x:=l) (e:=l) (by rw[hH];exact trivial) (.inl rfl) (fun b' u hb hu=>(Heap.get?_update_other s.heap (Obj.mapSeq f) (Ne.symm hb)).trans hu) ⟨_,q⟩ ?_
 exact⟨hz,its',_,hv,q⟩
theorem Inv.lnew(I:Inv X pins σ H s)(hv:Vals ys its)(hz:ys.length<=aM):
  Inv X pins σ (upd H s.heap.objs.size (.lst ys)) {s with heap:=s.heap.push {cls:=.type "list",data:=.seq its.toArray},toks:=t' }:=
 I.laid (fun _ _ q=>aU _ q) (aD _) ⟨hz,its,0,hv,aN _ rfl⟩
theorem Inv.fresh(I:Inv X pins σ H s):H s.heap.objs.size=none:=I.hok.fresh (aD _)
theorem Inv.lstM(I:Inv X pins σ H s)(hH:H l=some (.lst xs)):xs.length<=aM/\∃(its:List Value) (n:Nat),Vals xs its/\xs.length=its.length/\s.heap.get? l=some {cls:=.type "list",data:=.seq its.toArray n}:=by
 obtain⟨z,its,n,r,e⟩:=I.hok l _ hH;exact⟨z,its,n,r,r.length,e⟩
end
section
variable{X:Cx}
noncomputable def rAppend:V->List V->Hp->VK->Prop:=fun x vs H Q=>∃l xs y,x=.ref l/\vs=[y]/\H l=some (.lst xs)/\xs.length<aM/\Q .non (upd H l (.lst (xs ++ [y])))
theorem vZk:MtM X "list.append" rAppend:=by
 intro pins s σ H x vs v us Q I rx rv h;obtain⟨l,xs,y,rfl,rfl,hH,hz,q⟩:=h;cases rx;obtain⟨u,rfl,ru⟩:=rv.one;obtain⟨z,its,n,r,hl,e⟩:=I.lstM hH;refine call_meets F.slot_list_append ⟨_,e,rfl⟩ F.entry_list_append (F.args_list_append_2 _ _) (PySem.list_append l its.toArray n u (by rw[bV];omega)) ⟨e,?_⟩;refine⟨.non,_,I.lset (its' :=its ++ [u]) hH e (by simp) (r.append (.cons ru .nil)) ?_,rfl,q⟩;grind
end
end L2
namespace Att
open PySem PySem.W PySem.Calls PyProof.Rows
variable{P:Params}{h:Heap}{l:OpenLaw}{n:Nat}
theorem qKp:∀(ns:List Int) (vs:List Value),WellAll P h vs (ns.map WData.int)->IntsAre vs ns:=by
 intro ns;induction ns with
 | nil=>
   intro vs w;cases w;exact .nil
 | cons n ns ih=>
   intro vs w;cases w with
   | cons a b=>
     cases a;exact .cons _ _ (ih _ b)
theorem zV0(hn:l.most=some n){args:List WData}{vals:List Value}(hpre:l.row.toRowW.claim.pre args=true)(hwl:WellAll P h vals args):
  ∃a vs ns,vals=[Value.ref a]/\args=[WData.list (ns.map WData.int)]/\h.get? a=some {cls:=.type "list",data:=.seq vs.toArray}/\IntsAre vs ns/\ns.length<=n:=by
 have hsh:WShape.hasAll [] args [.list .int]=true:=(pre_splitW hpre).1;have hc:l.pre.holds [] {args:=args}=true:=(pre_splitW hpre).2;obtain⟨d,r,rfl,h1,h2⟩:=hasAllW_cons hsh;obtain rfl:=hasAllW_nil h2;obtain⟨xs,rfl,h3⟩:=hasW_list h1;obtain⟨ns,rfl⟩:=items_int h3;have hlen:ns.length<=n:=by
  have h4:(WTm.not (.lt (.lit (.int (n:Int))) (.len (.arg 0)))).holds [] {args:=[.list (ns.map .int)]}=true:=by
   have h4:=(holds_andW hc).1;grind
  have h5:=condW_of h4 (w_not (w_lt w_lit (w_len_list (w_arg rfl))));grind
 cases hwl with
 | cons w1 w2=>
   cases w2;cases w1 with
   |list ho hall=>exact⟨_,_,ns,rfl,rfl,ho,qKp ns _ hall,hlen⟩
theorem zV5(l:OpenLaw)(args:List WData):l.row.toRowW.claim.post args (.bool true) args=true:=
 postW_of (r:=l.row.toRowW) (X:=(true == true))
  (show WShape.has [] (.bool true) .bool =true by first|rfl|decide|simp[WShape.has,WShape.arms,WShape.armsAll])
  (show(WTm.eq .res (.lit (.bool true))).value [] {args:=args,res:=some (.bool true),after:=args}=some (.bool (true == true)) from w_eq_bool (w_res rfl) w_lit) rfl
theorem vX6{q:bQ}{loose:List Str}{XP:(Str->Option Value)->Heap->Prop}{YP:bH->Heap->Prop}{d:DefRec}(hn:l.most=some n)(hdf:d.params.defaults=[])(call:∀(w:bH) (s₀ s₁:aX) (mg mb:Str->Option Value) (fa:aV) (o:Obj) (pm cd doc:Value) (a:aV) (vs:List Value) (ns:List Int),
   Ground q loose [] XP w s₀ mg mb s₁.heap->YP w s₁.heap->
   s₁.heap.get? fa=some o->o.data=.func (docDef d.name d.params d.body d.scope pm cd doc)->s₁.heap.CodeRec cd d.name->mg d.name=some (.ref fa)->
   s₁.heap.get? a=some {cls:=.type "list",data:=.seq vs.toArray}->IntsAre vs ns->ns.length<=n->s₁.gens=#[]->
   codeAny (model l.prog w) callerA (.call (.ref fa) ⟨[.ref a],[]⟩) (fun r s' =>r=.ok (.ret (.bool true))/\OldK s₁.heap s'.heap/\s'.os=s₁.os/\AllBare s'.gens) s₁):
  WalkO q loose XP YP l.row.toRowW d [] (fun f vs=>PySem.call f vs):=by
 intro w s₀ s₁ mg mb G Y fa o pm cd doc dV kV ho hd hcd hD hmg hg args vals as hpre hlay hrd hwl hlo
 obtain rfl:dV=.none :=Dflts.none hD hdf
 obtain rfl:kV=.none :=Dflts.noKw hD
 obtain⟨a,vs,ns,rfl,rfl,hobj,hints,hlen⟩:=zV0 hn hpre hwl
 refine enter_call (codeAny_mono (call w s₀ s₁ mg mb fa o pm cd doc a vs ns G Y ho (fd_plain hd) hcd hmg hobj hints hlen hg) fun r s' hq=>?_)
 obtain⟨rfl,h2,h3,h4⟩:=hq
 exact⟨.inl ⟨.bool true,.bool true,[],rfl,fun _=>rfl,.bool true,zV5 l _,fun _=>⟨List.Pairwise.nil,fun _ hm=>(nomatch hm)⟩⟩,h2,h3,h4⟩
end Att
namespace L2
open PySem PySem.Spec PyProof.Rows
variable{P:bQ}{w:bH}{K:aQ}{mg:Str->Option Value}{k n t' i:Nat}{a f p C:aV}{fd:aG}{qual:Str}{ps:List Str}{oc doc pm cdv ct:Value}{od an:Option aV}{osl:Array (Option Value)}{A:cE}{pos:Pos}{H H1 H2:Hp}{h:Heap}{s:aX}{pins:List (aV×Obj)}{σ:St}{fp ch:List aV}{E:Value->aX->Prop}
theorem vZa:∀{vs:List Value} {ns:List Int},IntsAre vs ns->Vals (ns.map V.int) vs
 |_,_,.nil =>.nil
 |_,_,.cons n t h=>.cons ⟨t,rfl⟩ (vZa h)
noncomputable def Only(H:Hp):Prop:=∀b,H b=none\/∃o xs,H b=some (.frz o (.lst xs))
theorem zYh{mb:Str->Option Value}{CX:CXT}{fa:aV}{x:Str}{sp:Sp}{s₁:aX}{vs:List Value}{ns:List Int}(KX:K.In s₁.heap)(hns:s₁.heap.Ns cG mg)(hb:s₁.heap.Ns builtinsNs mb)(hbb:∀x:Str,x≠"__name__"->mb x=dQ x)(hlim:s₁.heap.NoLimit)(hg:s₁.gens=#[])(ha:s₁.heap.get? a=some {cls:=.type "list",data:=.seq vs.toArray})(hi:IntsAre vs ns)(hl:ns.length<=aM)(hr:Room k callerA)(F:∀base:Heap,K.In base->base.Ns cG mg->FnOk P w K mg base CX k fa fd [x] sp)(hbind:∀(s:aX) (u:Value),BindsTo s fd ⟨[u],[]⟩ [(x,u)])(hsp:∀H:Hp,Only H->SqL K H a (ns.map V.int)->sp [.ref a] H (fun v _=>v=.bl true) fun _ _ _=>False)(hCX:∀H e s',CX [] H s₁ (fun _ _ _=>False) e s' ->False):
  codeAny (model P w) callerA (.call (.ref fa) ⟨[.ref a],[]⟩) (fun r s' =>r=.ok (.ret (.bool true))/\OldK s₁.heap s'.heap/\s'.os=s₁.os/\AllBare s'.gens) s₁:=by
 have rv:=vZa hi;have lenV:=hi.length
 have core:∀H:Hp,Only H->SqL K H a (ns.map V.int)->HOk P w H s₁.heap->(∀b,H b≠none->b=a)->(H a≠none->K.lookup a=none)->
   codeAny (model P w) callerA (.call (.ref fa) ⟨[.ref a],[]⟩) (fun r s' =>r=.ok (.ret (.bool true))/\OldK s₁.heap s'.heap/\s'.os=s₁.os/\AllBare s'.gens) s₁:=by
  intro H hO hS hok hA hK;have base_of:∀{b:aV} {o:Obj},s₁.heap.get? b=some o->H b=none->(hidT s₁.heap H).get? b=some o:=fun e n=>zYq e n
  have noA:∀{b:aV} {o:Obj} {es:Array DictEntry} {ep:Nat},s₁.heap.get? b=some o->o.data=.dict es ep->H b=none:=fun {b o es ep} e d=>by
   cases q:H b with
   |none=>rfl
   | some u=>
     have e' :b=a:=hA b (by rw[q];simp);subst e';rw[ha]at e;cases e;have d' :Data.seq vs.toArray _=Data.dict es ep:=d;cases d'
  have nsK:∀{b:aV} {m:Str->Option Value},s₁.heap.Ns b m->(hidT s₁.heap H).Ns b m:=fun {b m} ⟨o,es,ep,e,d,r⟩=>⟨o,es,ep,base_of e (noA e d),d,r⟩
  have hKb:K.In (hidT s₁.heap H):=fun b o e=>base_of (KX b o e) (by
   cases q:H b with
   |none=>rfl
   | some u=>
     have e' :b=a:=hA b (by rw[q];simp);subst e';rw[hK (by rw[q];simp)]at e;cases e)
  have hM:Mod K mg (hidT s₁.heap H):=⟨hKb,nsK hns,⟨mb,nsK hb,hbb⟩,let ⟨mc,h1,h2⟩:=hlim;⟨mc,nsK h1,h2⟩⟩
  have e0:Env0 P w K mg (hidT s₁.heap H) callerA [] s₁ H:=⟨rfl,hM,fun b o e=>jQq e,Nat.le_of_eq (zZl _ _),trivial,fun b hb=>absurd (show b∈([]:List aV) from hb) (by simp),hok,.of_eq hg⟩
  refine codeAny_mono ((F _ hKb (nsK hns)).run callerA [] s₁ H ⟨[.ref a],[]⟩ [.ref a] [.ref a] _ _ hr e0 (hbind s₁ (.ref a)) (.cons rfl .nil) (hsp H hO hS)) fun r s' h=>?_
  cases r with
  |error e=>exact(hCX H e s' h).elim
  | ok fl=>
    cases fl with
    |next=>exact False.elim h
    |brk=>exact False.elim h
    |cont=>exact False.elim h
    | ret u=>
      obtain⟨v,H',os,bare,un,hok',r',q⟩:=h;have q' :v=.bl true:=q;subst q';obtain rfl:u=Value.bool true:=r';refine⟨rfl,OldK.of_keep fun b o e=>?_,os,bare⟩;cases q:H b with
      |none=>exact un.keep b o e q (by intro z;exact absurd (show b∈([]:List aV) from z) (by simp)) (by simp)
      | some u=>
        rcases hO b with z|⟨ob,xs,z⟩
        ·rw[q]at z;cases z
        ·have z2:=un.frzs b ob _ z;obtain⟨e1,_⟩:=hok b _ z;obtain⟨e2,_⟩:=hok' b _ z2;rw[e]at e1;cases e1;exact e2
 cases hk:K.lookup a with
 | some o=>
   have e:=KX a o hk;rw[ha]at e;cases e;refine core (fun _=>none) (fun _=>.inl rfl) (.inr ⟨_,vs.toArray,_,hk,rfl,rfl,rfl,by rw[bV,lenV];exact hl,by simpa using rv⟩) (fun b u z=>by have z' :(none:Option HO)=some u:=z;cases z') (fun b z=>absurd rfl z) fun z=>absurd rfl z
 | none=>
   refine core (fun b=>if b=a then some (.frz {cls:=.type "list",data:=.seq vs.toArray} (.lst (ns.map V.int))) else none) (fun b=>?_) (.inl (.inr ⟨{cls:=.type "list",data:=.seq vs.toArray},if_pos rfl⟩)) (fun b u z=>?_) (fun b z=>?_) fun _=>hk
   ·by_cases hb:b=a
    ·exact .inr ⟨_,_,if_pos hb⟩
    ·exact .inl (if_neg hb)
   ·by_cases hb:b=a
    ·have z' :=(if_pos hb).symm.trans z;cases z';subst hb;exact⟨ha,by rw[aP];exact hl,vs,_,rv,ha⟩
    ·have z' :=(if_neg hb).symm.trans z;cases z'
   ·by_cases hb:b=a
    ·exact hb
    ·exact absurd (if_neg hb) z
theorem zKb{l:PySem.W.OpenLaw}{q:bQ}{loose:List Str}{XP:(Str->Option Value)->Heap->Prop}{YP:bH->Heap->Prop}{d:DefRec}{K:Params->aQ}{CX:bH->CXT}{sp:bH->Sp}{x:Str}(hn:l.most=some n)(hn2:n<=aM)(hdf:d.params.defaults=[])(hr:Room k callerA)(hY:∀(w:bH) (h:Heap),YP w h->(K w.params).In h)(F:∀(w:bH) (mg:Str->Option Value) (fa:aV) (h:Heap),(K w.params).In h->h.Ns cG mg->mg d.name=some (.ref fa)->
   ∃fd:aG,(∀(s:aX) (u:Value),BindsTo s fd ⟨[u],[]⟩ [(x,u)])/\
    ∀base:Heap,(K w.params).In base->base.Ns cG mg->FnOk l.prog w (K w.params) mg base (CX w) k fa fd [x] (sp w))(hsp:∀(w:bH) (H:Hp) (a:aV) (ns:List Int),ns.length<=n->Only H->SqL (K w.params) H a (ns.map V.int)->sp w [.ref a] H (fun v _=>v=.bl true) fun _ _ _=>False)(hCX:∀(w:bH) (H:Hp) (s:aX) (e:Value) (s' :aX),CX w [] H s (fun _ _ _=>False) e s' ->False):
  PySem.W.WalkO q loose XP YP l.row.toRowW d [] (fun f vs=>PySem.call f vs):=by
 refine Att.vX6 hn hdf fun w s₀ s₁ mg mb fa o pm cd doc a vs ns G Y ho hd hcd hmg hobj hints hlen hg=>?_
 have KX:=hY w _ Y;obtain⟨fd,hb,hF⟩:=F w mg fa _ KX G.T.g hmg;exact zYh KX G.T.g G.T.b G.T.builtins G.T.nolimit hg hobj hints (aS hlen hn2) hr hF hb (fun H hO hS=>hsp w H a ns hlen hO hS) fun H e s' =>hCX w H s₁ e s'
noncomputable abbrev E0:XK:=fun _ _ _=>False
structure Fun(K:aQ)(x qual:Str)(st:Stmt)(f:aV)(fd:aG):Prop where
 ex:∃(oc:Value) (od:Option aV) (kV doc pm:Value) (an:Option aV) (cdv ct:Value) (osl:Array (Option Value)),
  fd=cB x qual (j6 st) (jY st) (qW st) .none kV doc pm an cdv ct/\K.lookup f=some ⟨oc,od,.func fd,osl⟩/\PySem.W.codeIn K cdv qual=true
 kp:bT K (.ref f)=true
section
variable{P:bQ}{w:bH}{K:aQ}{mg:Str->Option Value}{base:Heap}
theorem Fun.binds{x:Str}{st:Stmt}(F:Fun K x qual st f fd)(h:∀(kV doc pm:Value) (an:Option aV) (cdv ct:Value) (us:List Value),us.length=ps.length->bindArgs (cB x qual (j6 st) (jY st) (qW st) .none kV doc pm an cdv ct) ⟨us,[]⟩=pure (ps.zip us)):j8 K fd ps []:=by
 obtain⟨oc,od,kV,doc,pm,an,cdv,ct,osl,rfl,lk,hcd⟩:=F.ex;exact .all (h kV doc pm an cdv ct)
theorem vJf{x:Str}{st:Stmt}{kV:Value}(l:K.lookup f=some ⟨oc,od,.func (cB x qual (j6 st) (jY st) (qW st) .none kV doc pm an cdv ct),osl⟩)(c:PySem.W.codeIn K cdv qual=true)(k:bT K (.ref f)=true):Fun K x qual st f (cB x qual (j6 st) (jY st) (qW st) .none kV doc pm an cdv ct):=⟨⟨oc,od,kV,doc,pm,an,cdv,ct,osl,rfl,l,c⟩,k⟩
end
theorem zJp(hr:Room k A):A.units+1<cLine:=dA (Nat.add_le_add_left (by decide:1<=64) _) hr.units
theorem zVy(h:n<=1000):n<aM:=dA h (by decide)
section
variable{X:Cx}
theorem pv(i:Nat){x:Str}(hN:X.N[i]?=some x:=by rfl)(hv:Vis X.env.scope x:=by first|exact Or.inl rfl|exact Or.inr (Or.inl rfl)|exact Or.inr (Or.inr rfl))(hd:(x == ("__debug__":Str))=false:=by decide)(hcd:(x == ("__classdict__":Str))=false:=by decide):PE X (.Name x pos) (tVar i):=jJz hN hv hd hcd
end
noncomputable def Same(H H' :Hp):Prop:=∀b o,H b=some o->H' b=some o
theorem Same.refl(H:Hp):Same H H:=fun _ _ h=>h
theorem Same.trans(a:Same H H1)(b:Same H1 H2):Same H H2:=fun c o h=>b c o (a c o h)
structure FnAt(K:aQ)(mg:Str->Option Value)(x:Str)(st:Stmt)(ps:List Str)(f:aV)(fd:aG):Prop where
 F:Fun K x x st f fd
 b:j8 K fd ps []
 m:mg x=some (.ref f)
theorem Same.upd{o:HO}(h:H p=Option.none):Same H (upd H p o):=fun b u e=>by
 rw[qM (vI e h)];exact e
theorem Same.tup{H':Hp}{xs:List V}(e:Same H H')(h:SqT K H a xs):SqT K H' a xs:=by
 rcases h with(h|⟨o,h⟩)|h
 ·exact .inl (.inl (e _ _ h))
 ·exact .inl (.inr ⟨o,e _ _ h⟩)
 ·exact .inr h
theorem zJx:(2:Nat)<=aM:=by decide
theorem jVe{x:Str}{st:Stmt}{kV:Value}(X:K.In h)(G:h.Ns cG mg)(a:PySem.W.nsIn K cG x=some (some (.ref f)))(l:K.lookup f=some ⟨oc,od,.func (cB x x (j6 st) (jY st) (qW st) .none kV doc pm an cdv ct),osl⟩)(c:PySem.W.codeIn K cdv x=true)(k:bT K (.ref f)=true)(b:∀(kV doc pm:Value) (an:Option aV) (cdv ct:Value) (us:List Value),us.length=ps.length->bindArgs (cB x x (j6 st) (jY st) (qW st) .none kV doc pm an cdv ct) ⟨us,[]⟩=pure (ps.zip us)):
  FnAt K mg x st ps f (cB x x (j6 st) (jY st) (qW st) .none kV doc pm an cdv ct):=
 ⟨vJf l c k,(vJf l c k).binds b,PySem.W.mg_of X G a⟩
section
variable{X:Cx}
theorem jQn:OpR X (binaryOp .Mult) (rI IntMulOk fun i j=>.int (i * j)):=opI fun _ _ _ _ _ _ _ hc q=>mul_int q hc
noncomputable def qQe(_ j:Int):Prop:=0<j/\j.natAbs.log2<9000
theorem zX5:OpR X (binaryOp .FloorDiv) (rI qQe fun i j=>.int (i / j)):=opI fun i j _ _ _ _ _ hc q=>by
 have h0:(0:Int)<j:=hc.1;refine floordiv_int (by omega) ?_ (.inl (PyProof.noPylong_of_log2 hc.2))
 rw[Int.fdiv_eq_ediv_of_nonneg _ (Int.le_of_lt h0)];exact q
noncomputable def rIsi(K:aQ):List V->Hp->VK->Prop:=fun xs H Q=>∃x n t b,xs=[x,.ty n]/\TyOf K H x t/\bK K t (.type n)=some b/\Q (.bl b) H
theorem zY7:jC X (.builtin "isinstance") (rIsi X.K):=by
 intro pins s σ H xs us Q I r h;obtain⟨x,n,t,b,rfl,ty,e,q⟩:=h;obtain⟨u,w',rfl,r1,r2⟩:=vWi r;cases(show w' =Value.type n from r2);exact zZi I r1 ty e fun tk=>⟨.bl b,H,I.tok tk,rfl,q⟩
end
noncomputable def cCx(X:Cx)(scope:Scope)(cl:List (Str×aV))(C:aV)(Nc:List Str)(s:aX)(H:Hp)(fp:List aV):Cx where
 prog:=X.prog;w:=X.w;K:=X.K;mg:=X.mg;base:=X.base;A:=X.A;N:=Nc;s₀:=s;H₀:=H;env:=compEnvC scope cl C X.env;outer:=X.stack;stack:=X.stack;ex:=fp;fn:=fun _=>false
 calm:=X.calm;pn:=[]
 xe:=fun _ _=>False
noncomputable def PTs(X:Cx)(ifs:List Expr)(t:TT):Prop:=
 ∀(pins:List (aV×Obj)) (s:aX) (σ:St) (H:Hp) (Q:Bool->Hp->Prop),Inv X pins σ H s->t σ H Q->
  aR (model X.prog X.w) X.A (forIn ifs true fun c r=>if r=true then do let ok ←isTrue c X.env (eval c X.env);pure (ForInStep.yield ok) else pure (ForInStep.yield r)) (TP X pins σ Q) X.xe s
noncomputable def tTrue:TT:=fun _ H Q=>Q true H
theorem zKz{X:Cx}:PTs X [] tTrue:=fun _ _ _ H _ I h=>wpAny_tests_nil ⟨H,I,h⟩
theorem vKm{prog:bQ}{R:Result->aX->Prop}{elt target iter:Expr}{ifs:List Expr}{scope:Scope}{it acc:Value}{env:Env}(I:Nat->aX->Prop)(turn:∀n s,I n s->aR (model prog w) A (pyNext it) (fun r s₁=>match r with
   |none=>R (.ok .next) s₁
   | some v=>aR (model prog w) A (letOwnedTupleGo target it v) (fun _ s₂=>aR (model prog w) A (assign target env v) (fun _ s₃=>
     aR (model prog w) A (forIn ifs true fun c r=>if r=true then do let ok ←isTrue c env (eval c env);pure (ForInStep.yield ok) else pure (ForInStep.yield r)) (fun ok s₄=>
      if ok=true then aR (model prog w) A (eval elt env) (fun x s₅=>
       aR (model prog w) A (call (.builtin "list.append") [acc,x]) (fun _ s₆=>∃m,m<n/\I m s₆) (fun _ _=>False) s₅) (fun _ _=>False) s₄
      else∃m,m<n/\I m s₄) (fun _ _=>False) s₃) (fun _ _=>False) s₂) (fun _ _=>False) s₁) (fun _ _=>False) s)(n:Nat)(h:I n s):
  codeAny (model prog w) A (.compLoop (.ListComp elt [⟨target,iter,ifs,0⟩] scope pos) 0 it acc env) R s:=by
 refine codeAny_loop rfl I (fun n s hI=>?_) n h;refine wpAny_noted ?_
 refine aZ (wpAny_standAt (aZ (cZ (turn n s hI) (fun r s₁ h₁=>?_) fun _ _ h' =>h'.elim)));cases r with
 |none=>exact aL h₁
 | some v=>
   refine aZ (cZ h₁ (fun _ s₂ h₂=>aZ (cZ h₂ (fun _ s₃ h₃=>aZ (cZ h₃ (fun ok s₄ h₄=>?_) fun _ _ h' =>h'.elim)) fun _ _ h' =>h'.elim)) fun _ _ h' =>h'.elim);cases ok with
   |false=>exact aL ⟨rfl,h₄⟩
   | true=>
     exact aZ (aZ (cZ h₄ (fun x s₅ h₅=>aZ (cZ h₅ (fun _ s₆ h₆=>aL (aL ⟨rfl,h₆⟩)) fun _ _ h' =>h'.elim)) fun _ _ h' =>h'.elim))
noncomputable def jZw(J:It)(g:TG)(tt:TT)(te:TE)(σ0:St)(Q:VK)(D:aV)(H1:Hp):Prop:=
 ∃W:Nat->Nat->St->List V->Hp->Prop,(∃m,W 0 m σ0 [] H1)/\∀i m σ2 ys H2,W i m σ2 ys H2->H2 D=some (.lst ys)/\ys.length<aM/\
  ((J.stop i H2/\Q (.ref D) H2)\/(J.go i H2/\∀x H3,J.yld i H2 x H3->g x σ2 H3 fun σ4 H4=>tt σ4 H4 fun b H5=>
    if b=true then te σ4 H5 fun v H6=>H6 D=some (.lst ys)/\∃m',m'<m/\W (i+1) m' σ4 (ys ++ [v]) (upd H6 D (.lst (ys ++ [v])))
    else∃m',m'<m/\W (i+1) m' σ4 ys H5))
noncomputable def tComp(wi:TI)(g:TG)(tt:TT)(te:TE)(σc:St->St):TE:=fun σ H Q=>wi σ H fun J H1=>∀D,H1 D=none->jZw J g tt te (σc σ) Q D (upd H1 D (.lst []))
structure Caps(X:Cx)(scope:Scope)(cl:List (Str×aV))(Nc:List Str)(σc:St->St):Prop where
 clos:closureFor scope X.env=pure cl
 kind:scope.kind=.function
 nocell:∀y∈scope.names,y.2≠ .cell
 names:∀y∈scope.names,y.2=.local ->scope.names.lookup y.1=some .local
 cells:∀x c,cl.lookup x=some c->X.env.cells.lookup x=some c
 has:∀x,((relabel scope X.env).names.lookup x=some .cell \/(relabel scope X.env).names.lookup x=some .free)->∃c,cl.lookup x=some c
 len:∀σ,(σc σ).length =Nc.length
 cap:∀σ (i:Nat) x v,Nc[i]?=some x->(σc σ)[i]?=some (some v)->Vis (relabel scope X.env) x->
  ((relabel scope X.env).names.lookup x=some .cell \/(relabel scope X.env).names.lookup x=some .free)/\
  (X.env.kindOf x=some .cell \/X.env.kindOf x=some .free)/\∃j:Nat,X.N[j]?=some x/\σ[j]?=some (some v)/\Vis X.env.scope x
section
variable{X:Cx}{tg iter elt:Expr}{ifs:List Expr}{scope:Scope}{cl:List (Str×aV)}{Nc:List Str}{σc:St->St}{pos:Pos}{wi:TI}{g:TG}{tt:TT}{te:TE}
theorem zW5(I:Inv X pins σ H s)(c:Caps X scope cl Nc σc)(hC:s.heap.objs.size<=C)(hf:∀b∈fp,FpOk X pins H b)(hlt:∀b∈fp,b<s.heap.objs.size):
  (cCx X scope cl C Nc s H fp).Ok where
 mod:=I.ok.mod;kind:=c.kind;glob:=I.ok.glob;blt:=I.ok.blt;above:=hC;inj:=fun x y a h1 h2=>I.ok.inj x y a (c.cells x a h1) (c.cells y a h2)
 has:=c.has;cab:=fun _ _ h _=>absurd (show false=true from h) aT
 hd:=I.ok.hd;frames:=I.ok.frames;stk:=.inl rfl;exf:=fun b hb=>⟨fun z=>absurd (aF (hlt b hb) hC) (by
    have z' :b=C:=z;rw[z'];exact cF _),fun x a h z=>(hf b hb).2.2.2.2.1 x a (c.cells x a h) z⟩
 bs:=I.bs;bsz:=aS I.ok.bsz I.sz;noex:=fun b o e hb=>by
  rcases(hf b hb).2.2.2.1 with z|z
  ·exact I.ok.noex b o e z
  ·exact absurd (aF (aC e) (aS I.ok.bsz z)) (cF _)
 exfs:=fun b hb z=>by
  rcases aH.mp (I.stkSub b z) with q|q
  ·exact(hf b hb).2.1 q
  ·exact(hf b hb).2.2.1 q
 funs:=I.stack;frf:=I.stkFree
theorem jVt{h' :Heap}{m:Str->Option Value}(I:Inv X pins σ H s)(c:Caps X scope cl Nc σc)(hC:s.heap.objs.size<=C)(hf:∀b∈fp,FpOk X pins H b)(hlt:∀b∈fp,b<s.heap.objs.size)(hk:∀b o,s.heap.get? b=some o->h'.get? b=some o)(hn:h'.Ns C m):
  Inv (cCx X scope cl C Nc s H fp) [] (σc σ) H {s with heap:=h',toks:=t' }:=by
 refine⟨zW5 I c hC hf hlt,rfl,I.bare,Un.kept hk,⟨m,hn,fun i x v e1 e2 e3=>?_⟩,fun x a h=>?_,I.hok.fresh hC,fun x a h=>I.freeC x a (c.cells x a h),fun p hp=>absurd (show p∈([]:List (aV×Obj)) from hp) (by simp),I.hok.kept hk,c.len σ⟩
 ·obtain⟨k1,k2,j,n1,n2,n3⟩:=c.cap σ i x v e1 e2 e3;obtain⟨m0,_,hl⟩:=I.loc;obtain⟨u,ru,lk⟩:=hl j x v n1 n2 n3;refine⟨u,ru,.inr ⟨k1,?_⟩⟩;rcases lk with⟨z,_⟩|⟨_,a,ha,hcell⟩
  ·rcases k2 with k2|k2 <;> rw[k2]at z <;> cases z
  ·obtain⟨a',ha'⟩:=c.has x k1;have e:=c.cells x a' ha';rw[ha]at e;cases e;obtain⟨o,ho,hd⟩:=hcell;exact⟨a,ha',⟨o,hk _ _ ho,hd⟩⟩
 ·obtain⟨v,o,ho,hd⟩:=I.cell x a (c.cells x a h);exact⟨v,o,hk _ _ ho,hd⟩
theorem vVi{Q:VK}{J:It}{it:aV}{tn:Nat->Heap->Prop}{RR:Value->aV->Result->aX->Prop}(hc:X.calm=true)(c:Caps X scope cl Nc σc)(hg:∀C s H fp,PG (cCx X scope cl C Nc s H fp) tg g)(ht:∀C s H fp,PTs (cCx X scope cl C Nc s H fp) ifs tt)(he:∀C s H fp,PE (cCx X scope cl C Nc s H fp) elt te)(I:Inv X pins σ H s)(T:Turn X.prog X.w X.K tg J fp it tn)(st:tn 0 s.heap)(hf:∀b∈fp,FpOk X pins H b)(h:∀D,H D=none->jZw J g tt te (σc σ) Q D (upd H D (.lst [])))(hRR:∀D C H' s' m,Inv X pins σ H' s' ->H' C=none->s.heap.objs.size<=C->s'.heap.Ns C m->Q (.ref D) H' ->RR (.ref D) C (.ok .next) s'):
  aR (model X.prog X.w) X.A (newList []) (fun acc s₃=>aR (model X.prog X.w) X.A (newFunctionEnv scope X.env.globals cl [] X.env.qual none .none (some X.env)) (fun cenv s₄=>
   codeAny (model X.prog X.w) X.A (.compStart (.ListComp elt [⟨tg,iter,ifs,0⟩] scope pos) 0 (.ref it) acc {cenv with scope:=relabel scope X.env}) (RR acc cenv.locals) s₄) E s₃) E s:=by
 have fit:∀b∈fp,b<s.heap.objs.size:=fun b hb=>by
  obtain⟨o,e,_⟩:=T.obj _ _ st b hb;exact aC e
 obtain⟨W,⟨m0,w0⟩,turn⟩:=h s.heap.objs.size (I.hok.fresh (aD _));refine wpAny_newObj_type (wpAny_newFunctionEnv c.nocell (by intro y hy;simp at hy) (fun h₁ hns₁ hsb₁=>?_) c.kind);dsimp only at hns₁ hsb₁⊢;have I1:Inv X pins σ (upd H s.heap.objs.size (.lst [])) {s with heap:=s.heap.push {cls:=.type "list",dict:=none,data:=.seq ([]:List Value).toArray }}:=
  I.laid (t' :=s.toks) (fun b u e=>aU _ e) (aD _) ⟨dF _,[],0,.nil,aN _ rfl⟩
 generalize hH2:s.heap.push {cls:=.type "list",dict:=none,data:=.seq ([]:List Value).toArray }=G at hns₁ hsb₁ I1⊢;have hG:G.objs.size=s.heap.objs.size+1:=by rw[←hH2,cM]
 have old:∀b o,G.get? b=some o->h₁.get? b=some o:=fun b o e=>hsb₁.extBut b o (bW (aC e)) (aU _ e)
 have hf1:∀b∈fp,FpOk X pins (upd H s.heap.objs.size (.lst [])) b:=fun b hb=>
  ⟨by rw[qM (bW (fit b hb))];exact(hf b hb).1,(hf b hb).2⟩
 have hlt1:∀b∈fp,b<G.objs.size:=fun b hb=>aF (fit b hb) (by rw[hG];exact Nat.le_succ _)
 have I2:=jVt (C:=G.objs.size) (t' :=s.toks+([]:List (Str×Value)).length) I1 c (aD _) hf1 hlt1 old hns₁;have st1:tn 0 h₁:=T.keep _ _ _ st fun b hb o e=>old b o (by rw[←hH2];exact aU _ e)
 have fpB:∀{H' :Hp},(∀b∈fp,H' b=none)->∀b∈fp,FpOk (cCx X scope cl G.objs.size Nc {s with heap:=G} (upd H s.heap.objs.size (.lst [])) fp) [] H' b:=fun {H'} hn b hb=>by
  have ok:=zW5 (C:=G.objs.size) I1 c (aD _) hf1 hlt1;obtain⟨e1,e2⟩:=ok.exf b hb;exact⟨hn b hb,e1,ok.exfs b hb,.inl hb,e2,fun p hp=>absurd (show p∈([]:List (aV×Obj)) from hp) (by simp)⟩
 have loop:∀s₃:aX,s₃={s with heap:=h₁,toks:=s.toks+([]:List (Str×Value)).length }->
   codeAny (model X.prog X.w) X.A (.compLoop (.ListComp elt [⟨tg,iter,ifs,0⟩] scope pos) 0 (.ref it) (.ref s.heap.objs.size) (compEnvC scope cl G.objs.size X.env))
    (RR (.ref s.heap.objs.size) G.objs.size) s₃:=by
  rintro s₃ rfl
  refine vKm (fun n s' =>∃i σ' ys H',Inv (cCx X scope cl G.objs.size Nc {s with heap:=G} (upd H s.heap.objs.size (.lst [])) fp) [] σ' H' s' /\tn i s'.heap/\(∀b∈fp,H' b=none)/\W i n σ' ys H') ?_ m0
   ⟨0,σc σ,[],_,I2,st1,fun b hb=>(hf1 b hb).1,w0⟩
  rintro n s5 ⟨i,σ5,ys,H5,I5,st5,fr5,w5⟩;obtain⟨hD,hsz,alt⟩:=turn i n σ5 ys H5 w5;rcases alt with⟨stop,q⟩|⟨go,step⟩
  ·refine thn (T.done (cCx X scope cl G.objs.size Nc {s with heap:=G} (upd H s.heap.objs.size (.lst [])) fp) rfl rfl rfl hc i [] s5 σ5 H5 _ I5 (fpB fr5) st5 stop) fun r s6 ⟨hr,I6⟩=>?_
   subst hr;obtain⟨m6,n6,_⟩:=I6.loc;have I7:Inv X pins σ H5 s6:=I1.call' I6.os I6.base I6.hok I6.bare fun b hb=>⟨(hf1 b hb).2.2.2.1,(hf1 b hb).2.1,(hf1 b hb).2.2.2.2.1,(hf1 b hb).2.2.2.2.2⟩
   exact hRR _ _ H5 s6 m6 I7 I6.free (by rw[hG];exact Nat.le_succ _) n6 q
  ·refine thn (T.item (cCx X scope cl G.objs.size Nc {s with heap:=G} (upd H s.heap.objs.size (.lst [])) fp) rfl rfl rfl hc i [] s5 σ5 H5 _ I5 (fpB fr5) st5 go) fun r s6 ⟨u,hr,h6⟩=>?_
   subst hr;refine thn h6 fun _ s7 ⟨x,H7,I7,r7,y7,st7,fr7⟩=>?_
   have I7' :=I7.pinned (fpB fr7) (T.obj _ _ st7);refine thn (hg _ _ _ _ _ s7 σ5 H7 x u _ I7' r7 (step x H7 y7)) fun _ s8 ⟨σ8,H8,I8,q8⟩=>?_
   refine thn (ht _ _ _ _ _ s8 σ8 H8 _ I8 q8) fun ok s9 ⟨H9,I9,q9⟩=>?_
   have again:∀{σ' :St} {H' :Hp} {s' :aX} {ys' :List V} {m' :Nat},Inv (cCx X scope cl G.objs.size Nc {s with heap:=G} (upd H s.heap.objs.size (.lst [])) fp) ([] ++ vQg fp s7.heap) σ' H' s' ->m'<n->W (i+1) m' σ' ys' H' ->
     ∃m,m<n/\∃i σ' ys H',Inv (cCx X scope cl G.objs.size Nc {s with heap:=G} (upd H s.heap.objs.size (.lst [])) fp) [] σ' H' s' /\tn i s'.heap/\(∀b∈fp,H' b=none)/\W i m σ' ys H' :=fun {σ' H' s' ys' m'} J7 hm hw=>by
    refine⟨m',hm,i+1,σ',ys',H',J7.unpinned,T.keep _ _ _ st7 fun b hb o e=>(J7.pin (b,o) (bI _ (bI _ (qV3 hb e)))).1,fun b hb=>?_,hw⟩;obtain⟨o,e,d⟩:=T.obj _ _ st7 b hb;exact(J7.pin (b,o) (bI _ (bI _ (qV3 hb e)))).2.1
   cases ok with
   | false=>
     rw[if_neg aT]at q9⊢;obtain⟨m',hm,hw⟩:=q9;exact again I9 hm hw
   | true=>
     rw[if_pos rfl]at q9⊢;refine thn (he _ _ _ _ _ s9 σ8 H9 _ I9 q9) fun v s10 ⟨y,H10,I10,r10,hD10,m',hm,hw⟩=>?_
     refine thn (vZk _ s10 σ8 H10 (.ref s.heap.objs.size) [y] (.ref s.heap.objs.size) [v] (fun _ H' =>H' =upd H10 s.heap.objs.size (.lst (ys ++ [y]))) I10 rfl (.cons r10 .nil) ⟨_,ys,y,rfl,rfl,hD10,hsz,rfl⟩) fun _ s11 ⟨z,H11,I11,_,e11⟩=>?_
     subst e11;exact again I11 hm hw
 exact codeAny_compStart_list (loop _ rfl) (T.self _ 0 _ _ _ st1 (loop _ rfl))
theorem jQk(hc:X.calm=true)(c:Caps X scope cl Nc σc)(hi:PI X tg iter wi)(hg:∀C s H fp,PG (cCx X scope cl C Nc s H fp) tg g)(ht:∀C s H fp,PTs (cCx X scope cl C Nc s H fp) ifs tt)(he:∀C s H fp,PE (cCx X scope cl C Nc s H fp) elt te)(hs:∀x,foldedSetIterable iter X.env x=pure x:=by intro _;rfl):PE X (.ListComp elt [⟨tg,iter,ifs,0⟩] scope pos) (tComp wi g tt te σc):=by
 intro pins s σ H Q I h;rw[eval_ListComp];refine wpAny_comprehension_free (use:=none) rfl hs c.clos c.kind c.names (thn (hi pins s σ H _ I h) fun v s1 h1=>thn h1 fun itv s2 h2=>?_);obtain⟨it,fp,tn,J,H2,rfl,I2,T,st2,f2,W⟩:=h2;refine vVi (Q:=Q) hc c hg ht he I2 T st2 f2 W ?_
 intro D C H' s' m I' hC hCs hn q;refine⟨m,hn,fun h' sb=>⟨.ref D,H',?_,rfl,q⟩⟩;have nl:C≠X.env.locals:=dR (aF I2.lt hCs);refine I'.turned (t' :=s'.toks) (it:=C) (fun b o hb e=>sb.extBut b o hb e) hC nl (.inr (aS I2.sz hCs)) (fun x a e z=>?_) (fun p hp z=>?_)
 ·obtain⟨v,q⟩:=I2.cell x a e;exact absurd (aF q.lt hCs) (by rw[z];exact cF _)
 ·exact absurd (aF (aC (I2.pin p hp).1) hCs) (by rw[z];exact cF _)
theorem zK5{y:Str}{py spos:Pos}(hc:X.calm=true)(hN:X.N.Nodup)(hiy:X.N[i]?=some y)(hy:Loc X.env.scope y)(c:Caps X scope cl Nc σc)(hi:PI X tg iter wi)(hg:∀C s H fp,PG (cCx X scope cl C Nc s H fp) tg g)(ht:∀C s H fp,PTs (cCx X scope cl C Nc s H fp) ifs tt)(he:∀C s H fp,PE (cCx X scope cl C Nc s H fp) elt te)(hsw:swapsWith (.ListComp elt [⟨tg,iter,ifs,0⟩] scope pos) (some (.Name y py)) spos.line X.env=pure true:=by rfl)(hs:∀x,foldedSetIterable iter X.env x=pure x:=by intro _;rfl)(hf:X.fn y=true\/X.env.scope.names.lookup y=some .local :=by first|exact .inl rfl|exact .inr rfl|assumption):
  PS X (.Assign [.Name y py] (.ListComp elt [⟨tg,iter,ifs,0⟩] scope pos) spos) (tAsg (tComp wi g tt te σc) (vK5 i)):=by
 intro pins s σ H D I h;rw[exec_Assign_Name_used _ _ _ _ hsw];refine aZ (wpAny_standAt (aZ ?_));show aR _ X.A (do let _ ←comprehension (.ListComp elt [⟨tg,iter,ifs,0⟩] scope pos) scope X.env _ (newList []) false (eval iter X.env) (some (assign (.Name y py) X.env))) _ _ s
 refine aZ (cZ (wpAny_comprehension_free (use:=some (assign (.Name y py) X.env)) (Q:=fun _ s' =>SP X pins D .next s') rfl hs c.clos c.kind c.names
  (thn (hi pins s σ H _ I h) fun v s1 h1=>thn h1 fun itv s2 h2=>?_)) (fun _ s' hq=>aL (aL hq)) fun _ _ e=>e)
 obtain⟨it,fp,tn,J,H2,rfl,I2,T,st2,f2,W⟩:=h2;refine vVi (Q:=fun v H' =>D.nx (σ.set i (some v)) H') hc c hg ht he I2 T st2 f2 W ?_
 intro L C H' s' m I' hC hCs hn q;have nl:C≠X.env.locals:=dR (aF I2.lt hCs);have nfs:C∉X.fs:=I2.nofs hCs;obtain⟨oC,es,ep,hoC,hdC,hrC⟩:=id hn;have ncell:∀v,oC.data≠ .cell v:=fun v z=>by rw[hdC]at z;cases z
 have I'' :Inv X (pins ++ [(C,oC)]) σ H' s' :=I'.pins_of fun p hp=>by
  rcases bG.mp hp with z|z
  ·exact I'.pin p (bI _ z)
  ·have e:p=(C,oC):=by simpa using z
   subst e;exact⟨hoC,hC,nl,nfs,ncell⟩
 show aR _ X.A (assign (.Name y py) X.env (.ref L)) _ _ _;refine wpAny_assign_Name (qVn I'' hN hiy hy (v:=.ref L) rfl (fun s3 I3=>?_) hf);have hn3:s3.heap.Ns C m:=⟨oC,es,ep,(I3.pin (C,oC) (by simp)).1,hdC,hrC⟩
 refine⟨m,hn3,fun h' sb=>⟨σ.set i (some (.ref L)),H',?_,q⟩⟩;refine I3.unpinned.turned (t' :=s3.toks) (it:=C) (fun b o hb e=>sb.extBut b o hb e) hC nl (.inr (aS I2.sz hCs)) (fun x a e z=>?_) (fun p hp z=>?_)
 ·obtain⟨v,q⟩:=I2.cell x a e;exact absurd (aF q.lt hCs) (by rw[z];exact cF _)
 ·exact absurd (aF (aC (I2.pin p hp).1) hCs) (by rw[z];exact cF _)
theorem jY7(hk:scope.kind=.function)(hfree:∀x∈scope.names,x.2≠ .free)(hcell:∀x∈scope.names,x.2≠ .cell)(hnames:∀y∈scope.names,y.2=.local ->scope.names.lookup y.1=some .local):
  Caps X scope [] Nc (fun _=>List.replicate Nc.length none) where
 clos:=closureFor_none hfree;kind:=hk;nocell:=hcell;names:=hnames;cells:=fun x c e=>by cases e
 has:=fun x h=>by
  have hm:(relabel scope X.env).names =scope.names:=by
   unfold relabel;refine map_eq_self fun y hy=>?_
   obtain⟨n,k⟩:=y;have:(k == NameKind.free)=false:=by simpa using hfree _ hy
   simp[this]
  rw[hm]at h;rcases h with h|h
  ·exact absurd rfl (hcell _ (cD h))
  ·exact absurd rfl (hfree _ (cD h))
 len:=fun _=>by simp
 cap:=fun σ i x v _ e _=>by
  rw[List.getElem?_replicate]at e;split at e <;> cases e
end
section
variable{X:Cx}{pins:List (aV×Obj)}{σ:St}{H:Hp}{s:aX}{h' :Heap}
theorem Inv.turnedLaid{o:HO}(I:Inv X pins σ H s)(k:∀b u,b∉ch->s.heap.get? b=some u->h'.get? b=some u)(hf:∀b∈ch,FpOk X pins H b)(hp:s.heap.objs.size<=p)(new:v5 X.prog X.w (upd H p o) h' p o):Inv X pins σ (upd H p o) {s with heap:=h',toks:=t' }:=by
 have hn:=I.hok.fresh hp;have nch:∀b u,H b=some u->b∉ch:=fun b u e z=>by rw[(hf b z).1]at e;cases e
 refine I.call (g' :=s.gens) (d' :=s.drawn) (ch:=ch) ⟨fun b u e _ _ hc=>k b u hc e,fun b u e _ _ hc=>⟨u.slots,k b u hc e⟩,fun b u e n _=>?_,fun b u e hc=>⟨u,k b u hc e⟩,fun b xs e=>?_,fun b u xs e=>?_,fun b ps e=>?_⟩ (fun b u e=>?_) I.bare
  fun b hb=>⟨(hf b hb).2.2.2.1,(hf b hb).2.1,(hf b hb).2.2.2.2.1,(hf b hb).2.2.2.2.2⟩
 ·rw [qM (bW (aF (aC e) hp))];exact n
 ·rw [qM (vI e hn)];exact e
 ·rw [qM (vI e hn)];exact e
 ·exact⟨#[],by rw[qM (vI e hn),e];simp⟩
 ·by_cases hb:b=p
  ·subst hb;rw[upd_same]at e;cases e;exact new
  ·rw [qM hb] at e;refine(I.hok b u e).stay (fun c v hc q=>k c v ?_ q) (fun c q=>by rw[qM (vI q hn)];exact q) fun c xs q=>by rw[qM (vI q hn)];exact q
   rcases hc with z|z
   ·rw [z];exact nch b u e
   ·exact nch c _ z
theorem Inv.turnedAll(I:Inv X pins σ H s)(k:∀b u,b∉ch->s.heap.get? b=some u->h'.get? b=some u)(hf:∀b∈ch,FpOk X pins H b):Inv X pins σ H {s with heap:=h',toks:=t' }:=by
 have nch:∀b u,H b=some u->b∉ch:=fun b u e z=>by rw[(hf b z).1]at e;cases e
 refine I.call (g' :=s.gens) (d' :=s.drawn) (ch:=ch) ⟨fun b u e _ _ hc=>k b u hc e,fun b u e _ _ hc=>⟨u.slots,k b u hc e⟩,fun b u e n _=>n,fun b u e hc=>⟨u,k b u hc e⟩,fun b xs e=>e,fun b u xs e=>e,fun b ps e=>⟨#[],by rw[e];simp⟩⟩ (fun b u e=>?_) I.bare
  fun b hb=>⟨(hf b hb).2.2.2.1,(hf b hb).2.1,(hf b hb).2.2.2.2.1,(hf b hb).2.2.2.2.2⟩
 refine(I.hok b u e).stay (fun c v hc q=>k c v ?_ q) (fun c q=>q) fun c xs q=>q
 rcases hc with z|z
 ·rw [z];exact nch b u e
 ·exact nch c _ z
end
theorem v5.there{o:HO}(x:v5 P w H h a o):∃ob,h.get? a=some ob:=by
 cases o with
 |lst xs=>obtain⟨_,_,_,_,e⟩:=x;exact⟨_,e⟩
 |tup xs=>obtain⟨_,_,_,_,e,_⟩:=x;exact⟨_,e⟩
 |dK kvs=>obtain⟨_,_,_,_,o,_,_,e,_⟩:=x;exact⟨_,e⟩
 |dT kvs=>obtain⟨_,_,_,_,o,_,_,e,_⟩:=x;exact⟨_,e⟩
 |set S n=>obtain⟨o,_,_,_,e,_⟩:=x;exact⟨_,e⟩
 |ins C dx fs=>obtain⟨_,_,_,e,_⟩:=x;exact⟨_,e⟩
 |own y=>exact x
 |xd fs=>obtain⟨_,⟨_,_,_,e,_⟩,_⟩:=x;exact⟨_,e⟩
 |rng lo hi=>obtain⟨_,_,_,e⟩:=x;exact⟨_,e⟩
 |frz ob u=>obtain⟨e,_⟩:=x;exact⟨_,e⟩
 |tbl ps=>exact⟨_,(show h.get? a=some _ from x)⟩
 |tab l c q=>obtain⟨_,e,_⟩:=x;exact⟨_,e⟩
 |met f y=>exact⟨_,(show h.get? a=some _ from x)⟩
 |ext φ=>obtain⟨_,e,_⟩:=x;exact e
theorem HOk.there{o:HO}(x:HOk P w H h)(e:H a=some o):∃ob,h.get? a=some ob:=(x a o e).there
theorem HOk.untracked(x:HOk P w H h)(e:h.get? a=none):H a=none:=by
 cases q:H a with
 |none=>rfl
 | some u=>
   obtain⟨ob,z⟩:=x.there q;grind
noncomputable abbrev Cx.marked(X:Cx)(ea:aV):Cx:={X with A:=X.A.mark (some (.ref ea)),calm:=false,xe:=fun _ _=>False}
section
variable{X:Cx}{pins:List (aV×Obj)}{σ:St}{H:Hp}{s:aX}{ea:aV}
theorem Inv.marked(I:Inv X pins σ H s)(ea:aV):Inv (X.marked ea) pins σ H s:=
 ⟨⟨I.ok.mod,I.ok.kind,I.ok.glob,I.ok.blt,I.ok.above,I.ok.inj,I.ok.has,I.ok.cab,fun h=>absurd (show false=true from h) aT,I.ok.frames,I.ok.stk,I.ok.exf,I.ok.bs,I.ok.bsz,I.ok.noex,I.ok.exfs,I.ok.funs,I.ok.frf⟩,
   I.os,I.bare,I.base,I.loc,I.cell,I.free,I.freeC,I.pin,I.hok,I.len⟩
theorem Inv.unmarked(I:Inv (X.marked ea) pins σ H s)(hd:X.calm=true->X.A.handled=none):Inv X pins σ H s:=
 ⟨⟨I.ok.mod,I.ok.kind,I.ok.glob,I.ok.blt,I.ok.above,I.ok.inj,I.ok.has,I.ok.cab,hd,I.ok.frames,I.ok.stk,I.ok.exf,I.ok.bs,I.ok.bsz,I.ok.noex,I.ok.exfs,I.ok.funs,I.ok.frf⟩,
   I.os,I.bare,I.base,I.loc,I.cell,I.free,I.freeC,I.pin,I.hok,I.len⟩
theorem Inv.adopt{o:HO}(I:Inv X pins σ H s)(hn:H p=none)(h0:X.s₀.heap.get? p=none)(hL:p≠X.env.locals)(hc:∀x c,X.env.cells.lookup x=some c->c≠p)(hp:∀q∈X.pn ++ pins,q.1≠p)(new:v5 X.prog X.w (upd H p o) s.heap p o):Inv X pins σ (upd H p o) s:=by
 refine⟨I.ok,I.os,I.bare,⟨I.base.keep,I.base.slot,fun b u e n hx=>?_,I.base.there,fun b xs e=>?_,fun b u xs e=>?_,fun b ps e=>?_⟩,I.loc,I.cell,?_,fun x c e=>?_,fun q hq=>?_,fun b u e=>?_,I.len⟩
 ·rw [qM (fun z=>by rw [z,h0] at e;cases e)];exact I.base.free b u e n hx
 ·have z:=I.base.tups b xs e;rw[qM (vI z hn)];exact z
 ·have z:=I.base.frzs b u xs e;rw[qM (vI z hn)];exact z
 ·obtain⟨more,z⟩:=I.base.tbls b ps e;exact⟨more,by rw[qM (vI z hn)];exact z⟩
 ·rw [qM hL.symm];exact I.free
 ·rw [qM (hc x c e)];exact I.freeC x c e
 ·obtain⟨a1,a2,a3⟩:=I.pin q hq;exact⟨a1,by rw[qM (hp q hq)];exact a2,a3⟩
 ·by_cases hb:b=p
  ·subst hb;rw[upd_same]at e;cases e;exact new
  ·rw [qM hb] at e;exact(I.hok b u e).stay (fun c v _ q=>q) (fun c q=>by rw[qM (vI q hn)];exact q) fun c xs q=>by rw[qM (vI q hn)];exact q
theorem vZb{M:Model}{x:Str}{Q:Unit->aX->Prop}(I:Inv X pins σ H s)(hN:X.N.Nodup)(hi:X.N[i]?=some x)(hx:X.env.scope.names.lookup x=some .local)(h:∀s',Inv X pins (σ.set i none) H s' ->Q () s'):aR M A (do bindName X.env x .none;unbindBehindTheSuite X.env x pos) Q E s:=by
 refine aZ (wpAny_bindName (qVn I hN hi (Or.inl hx) (v:=.non) rfl (fun s1 I1=>?_) (.inr hx)));have hkind:(X.env.scope.kind ==.class || (X.env.scope.kind ==.module && X.env.locals != X.env.globals))=false:=by rw[I.ok.kind];rfl
 obtain⟨m,hn,hl⟩:=I1.loc;have hlen:i<(σ.set i (some V.non)).length :=by
  rw[I1.len];exact(aB.mp hi).1
 obtain⟨u,ru,lk⟩:=hl i x .non hi (by rw[cV]at hlen;simp[hlen]) (Or.inl hx);have hm:m x=some u:=by
  rcases lk with⟨_,z⟩|⟨z,_⟩
  ·exact z
  ·have hx' :X.env.kindOf x=some .local :=hx;rcases z with z|z <;> rw[hx']at z <;> cases z
 unfold unbindBehindTheSuite;refine wpAny_onRaise (wpAny_unbindName_local hx hn hm hkind fun h' v hn' sb=>?_);refine h _ ?_
 have tracked:HOk X.prog X.w H h' :=fun b ob e=>by
  refine(I1.hok b ob e).stay (fun c w' hc q=>(sb.2 c ?_).trans q) (fun _ q=>q) fun _ _ q=>q
  rintro rfl;rcases hc with z|hc
  ·rw[←z,I1.free]at e;cases e
  ·rw[I1.free]at hc;cases hc
 refine⟨I.ok,I1.os,I1.bare,⟨fun b o e n hb hx=>?_,fun b o e n hb hx=>?_,I1.base.free,fun b o e hx=>?_,I1.base.tups,I1.base.frzs,I1.base.tbls⟩,⟨_,hn',fun j y v' e1 e2 e3=>?_⟩,fun y c e=>?_,I1.free,I1.freeC,fun p hp=>?_,tracked,by rw[cV];exact I.len⟩
 ·exact(sb.2 b (bW (aF (aC e) I.ok.above))).trans (I1.base.keep b o e n hb hx)
 ·obtain⟨sl,e1⟩:=I1.base.slot b o e n hb hx;exact⟨sl,(sb.2 b (bW (aF (aC e) I.ok.above))).trans e1⟩
 ·obtain⟨o',e1⟩:=I1.base.there b o e hx;exact⟨o',(sb.2 b (bW (aF (aC e) I.ok.above))).trans e1⟩
 ·have hj:j≠i:=fun z=>by
   subst z;rw[List.getElem?_set]at e2;split at e2
   ·split at e2 <;> cases e2
   ·rename_i z;exact absurd rfl z
  rw[bY (Ne.symm hj)]at e2;obtain⟨u',r',q⟩:=hl j y v' e1 (by rw[bY (Ne.symm hj)];exact e2) e3;refine⟨u',r',?_⟩;rcases q with⟨k,e⟩|⟨k,c,e,z⟩
  ·refine .inl ⟨k,?_⟩;have:y≠x:=fun e=>hj (vQv hN e1 (e▸hi))
   simp[this,e]
  ·exact .inr ⟨k,c,e,z.sameBut sb (I1.cne y c e)⟩
 ·obtain⟨w',z⟩:=I1.cell y c e;exact⟨w',z.sameBut sb (I1.cne y c e)⟩
 ·obtain⟨e,n,ne,nf,d⟩:=I1.pin p hp;exact⟨(sb.2 p.1 ne).trans e,n,ne,nf,d⟩
theorem vXn{s1 s' :aX}{cls a0:Value}{B h5:Heap}(I1:Inv X pins σ H1 s1)(os:s'.os=s1.os)(bare:AllBare s'.gens)(un:Un (frs X.stack) [] H1 H2 s1.heap s'.heap)(hok:HOk X.prog X.w H2 s'.heap)(fl:Heap.FlyingW B X.stack ea cls a0 h5)(cov:∀b o,s'.heap.get? b=some o->b∉frs X.stack->(H2 b≠none\/s1.heap.get? b≠none)->B.get? b=some o)(sm:s'.heap.UpToSlots h5):Inv X pins σ H2 {s' with heap:=h5}:=by
 have nx:∀b,b∉([]:List aV):=fun b=>by simp
 have k5:∀b o,s'.heap.get? b=some o->b∉frs X.stack->(H2 b≠none\/s1.heap.get? b≠none)->h5.get? b=some o:=fun b o e n1 n2=>fl.1 b o (cov b o e n1 n2)
 have slt:∀b o,s1.heap.get? b=some o->b∈frs X.stack->∃sl,h5.get? b=some {o with slots:=sl}:=fun b o e hb=>by
  obtain⟨_,o',ho',hd⟩:=I1.stack.mem hb;rw[e]at ho';cases ho';obtain⟨sl,e1⟩:=un.slot b o e (I1.stkFree b hb) hb (nx b);obtain⟨sl',e2⟩:=sm b _ e1 hd;exact⟨sl',e2⟩
 have fr2:∀b u,H2 b=some u->b∉frs X.stack:=fun b u e hb=>by
  obtain⟨_,o',ho',hd⟩:=I1.stack.mem hb;rw[un.free b o' ho' (I1.stkFree b hb) (nx b)]at e;cases e
 refine I1.call' (s' :={s' with heap:=h5}) (ch:=[]) os ⟨fun b o e n hb _=>?_,fun b o e n hb _=>slt b o e hb,un.free,fun b o e hx=>?_,un.tups,un.frzs,un.tbls⟩ (fun b u e=>?_) bare fun b hb=>absurd hb (nx b)
 ·exact k5 b o (un.keep b o e n hb (nx b)) hb (.inr (by rw[e];simp))
 ·by_cases hb:b∈frs X.stack
  ·obtain⟨sl,z⟩:=slt b o e hb;exact⟨_,z⟩
  ·obtain⟨o',e1⟩:=un.there b o e hx;exact⟨o',k5 b o' e1 hb (.inr (by rw[e];simp))⟩
 ·refine(hok b u e).stay (fun c v hc q=>?_) (fun _ q=>q) fun _ _ q=>q
  rcases hc with z|z
  ·subst z;exact k5 c v q (fr2 c u e) (.inl (by rw[e];simp))
  ·exact k5 c v q (fr2 c _ z) (.inl (by rw[z];simp))
noncomputable def jKb(p:aV)(cls:Value)(h:Heap):Prop:=∃o,h.get? p=some o/\o.cls=cls
end
end L2
namespace L2
open PySem PySem.Spec PySem.W PySem.Calls PyProof.Rows
variable{M:Model}{R:Result->aX->Prop}{tk:Tok}
structure ExcKit(K:Frag)(C:aV):Prop where
 ga:findIn K (.ref C) "__getattribute__"=some (some (.builtin "BaseException.__getattribute__"))
 gx:findIn K (.ref C) "__getattr__"=some none
 cl:findIn K (.ref C) "__class__"=some (some (.builtin "object.__class__"))
 mo:mroIn K C (.type "object")=some true
 mb:mroIn K C (.type "BaseException")=some true
section
variable{prog:bQ}{w:bH}{A:cE}{E:Value->aX->Prop}{h:Heap}{g:Array GenState}{d:Drawn}{t:Nat}{os:OsState}{a C:aV}{o:Obj}{K:Frag}
theorem vYl(hx:h.get? a=some o)(hc:o.cls=.ref C):Looks M h (typeOf (.ref a)) (.ref C):=hc▸(Looks.ld hx).andThen .now
open Builtin Builtin.ObjectAttr Builtin.Getset_descriptor in
theorem jVj{tp:Value}(X:K.In h)(k:ExcKit K C)(hx:h.get? a=some o)(hc:o.cls=.ref C)(hq:R (.ok (.ret (.ref C))) ⟨h,g,d,t,os⟩):
  codeAny (model prog w) A (.call (.builtin "getset_descriptor.__get__") ⟨[.builtin "object.__class__",.ref a,tp],[]⟩) R ⟨h,g,d,t,os⟩:=by
 have L0:=vYl (M:=model prog w) hx hc;have L1:=looks_mroIn (M:=model prog w) X k.mo;refine eP KF.slot_gs.plain KF.entry_gs (KF.slot_gs.check _ _ _ _ _ _ _ _ KF.type_class (KF.args_gs _ _ _) ?_);unfold Builtin.«getset_descriptor.__get__» descrGet;rw[dga_obj];refine aZ (aL ?_);unfold descrGetter descrCheckInstance descrNameAndClass isInstance;simp only[KF.owner_class];repeat lk
 refine⟨Code.quiet_builtin _ (by decide +kernel),codeAny_builtin KF.entry_class ?_⟩;unfold Builtin.«object.__class__» shownTypeOf;repeat lk
 exact hq
theorem zZo{Q:Fin->aX->Prop}(X:K.In h)(k:ExcKit K C)(hx:h.get? a=some o)(hc:o.cls=.ref C)(hq:Q (.done (.ret (.ref C))) ⟨h,g,d,t,os⟩):
  aR (model prog w) A (Builtin.«object.__getattribute__» ⟨[.ref a,.str "__class__" tk],[]⟩) Q E ⟨h,g,d,t,os⟩:=by
 have f5:=F.typeOf_object_class;have f6:=F.slot_gs_get.lookup;have f7:=F.slot_gs_set.lookup;have L3:=looks_findIn (M:=model prog w) X k.cl;repeat (any_goals (first|assumption|with_reducible refine L3.at ?_|(with_reducible refine cI hx ?_;rw[hc])|wp_step))
 refine jVj X k hx hc ?_
 repeat (any_goals (first|assumption|wp_step))
theorem vZs{nameV:Value}{Q:Unit->aX->Prop}(X:K.In h)(k:ExcKit K C)(hx:h.get? a=some o)(hc:o.cls=.ref C)(hq:Q () ⟨h,g,d,t,os⟩):
  aR M A (checkBuiltinCall "BaseException.__getattribute__" ⟨[.ref a,nameV],[]⟩) Q E ⟨h,g,d,t,os⟩:=by
 have hk:builtinKind "BaseException.__getattribute__"=some .slot :=by decide +kernel
 have hsplit:splitId "BaseException.__getattribute__"=some ("BaseException","__getattribute__"):=by decide +kernel
 have L0:=vYl (M:=M) hx hc;have L1:=looks_mroIn (M:=M) X k.mb;simp only[checkBuiltinCall,hsplit];repeat (first|with_reducible refine L0.at ?_|with_reducible refine L1.at ?_|wp_step)
 exact hq
theorem zY0(X:K.In h)(k:ExcKit K C)(hx:h.get? a=some o)(hc:o.cls=.ref C)(hq:R (.ok (.ret (.ref C))) ⟨h,g,d,t,os⟩):
  codeAny (model prog w) A (.call (.builtin "BaseException.__getattribute__") ⟨[.ref a,.str "__class__" tk],[]⟩) R ⟨h,g,d,t,os⟩:=
 eP F.attrBase_ValueError.ga.plain F.entry_bexc_ga (vZs X k hx hc (zZo X k hx hc hq))
theorem jXc{fill expr:Bool}{Q:Value->aX->Prop}(X:K.In h)(k:ExcKit K C)(hx:h.get? a=some o)(hc:o.cls=.ref C)(hq:Q (.ref C) ⟨h,g,d,t,os⟩):
  aR (model prog w) A (getAttrBy (.ref a) (.str "__class__" tk) fill expr) Q E ⟨h,g,d,t,os⟩:=by
 have f3:=F.attrBase_ValueError.ga.bind (.ref a);have hx0:(expr && onTheHeap (Value.builtin "BaseException.__getattribute__"))=false:=by cases expr <;> rfl
 have hx2:(Value.builtin "BaseException.__getattribute__" == Value.builtin "object.__getattribute__")=false:=by decide +kernel
 have L1:=looks_findIn (M:=model prog w) X k.ga;have L2:=looks_findIn (M:=model prog w) X k.gx;repeat (any_goals (first|assumption|with_reducible refine L1.at ?_|with_reducible refine L2.at ?_|(with_reducible refine cI hx ?_;rw[hc])|wp_step))
 refine zY0 X k hx hc ?_
 repeat (any_goals (first|assumption|wp_step))
theorem zY1{Q:Option Value->aX->Prop}(X:K.In h)(k:ExcKit K C)(hx:h.get? a=some o)(hc:o.cls=.ref C)(hq:Q (some (.ref C)) ⟨h,g,d,t+1,os⟩):
  aR (model prog w) A (getAttr? (.ref a) "__class__") Q E ⟨h,g,d,t,os⟩:=by
 repeat (any_goals (first|assumption|with_reducible apply jXc X k hx hc|wp_step))
theorem zYi(k:ExcKit K C):KitX K (.ref a) (.ref C) (jKb a (.ref C)) where
 ty:=fun _ _ _ ⟨_,e,c⟩=>vYl e c
 it:=fun _ _ X _=>by
  obtain⟨cdD,hcD,_⟩:=Option.bind_eq_some_iff.mp k.mo;unfold clsIn at hcD;split at hcD
  ·rename_i c' d' cd' sl' ho;intro A' Q' E' s' k q;exact aZ (wpAny_loadPart (k _ _ (X _ _ ho)) (aL q))
  ·cases hcD
 ne:=fun h tp dd its n sl X htp=>by
  obtain⟨cdD,hcD,_⟩:=Option.bind_eq_some_iff.mp k.mo;refine Bool.eq_false_iff.mpr fun q=>?_
  have e:C=tp:=Value.ref.inj (beq_iff_eq.mp q);subst e;unfold clsIn at hcD;split at hcD
  ·rename_i c' d' cd' sl' ho;have z:=(X _ _ ho).symm.trans htp;cases z
  ·cases hcD
 ca:=fun {_ _ _ _ _ s} X ⟨o,e,c⟩ q=>by
  exact zY1 X k e c q
end
section
variable{X:Cx}
theorem zXq{c:V}{u v:Value}(h:(∃n,c=.ty n)\/∃a,c=.ref a)(r:RelV c u)(q:RelV c v):u=v:=by
 rcases h with⟨n,rfl⟩|⟨n,rfl⟩
 ·exact(show u=Value.type n from r).trans (show v=Value.type n from q).symm
 ·exact(show u=Value.ref n from r).trans (show v=Value.ref n from q).symm
end
end L2
namespace L2
open PySem PySem.Spec PyProof.Rows
variable{Q:Option Value->aX->Prop}
section
variable{X:Cx}
noncomputable def rLeS:R2:=fun x y H Q=>∃i j,x=.str i/\y=.str j/\Q (.bl (!decide (j.cps.toList<i.cps.toList))) H
theorem jM:OpR X (bA .LtE) rLeS:=by
 intro pins s σ H x y v u Q I rx ry h;obtain⟨i,j,rfl,rfl,q⟩:=h;obtain⟨t,rfl⟩:=rx;obtain⟨t',rfl⟩:=ry;exact PySem.P.le_str (vR I q rfl)
theorem vY7:OpR X (binaryOp .Mult) (fun x y H Q=>∃z n,x=.str z/\y=.int n/\MulOk z n/\Q (.str (Txt.mul z n)) H):=by
 intro pins s σ H x y v u Q I rx ry h;obtain⟨z,n,rfl,rfl,hm,q⟩:=h;obtain⟨t,rfl⟩:=rx;obtain⟨t',rfl⟩:=ry;exact SB.mul hm fun t' k=>⟨.str (Txt.mul z n),H,I.tok _,⟨_,rfl⟩,q⟩
end
section
variable{X:Cx}{pins:List (aV×Obj)}{σ:St}{H:Hp}{s:aX}
theorem zZ1:jC X (.builtin "isinstance") (fun xs H Q=>∃a vs n b,xs=[.ref a,.ty n]/\SqT X.K H a vs/\bK X.K (.type "tuple") (.type n)=some b/\Q (.bl b) H):=by
 intro pins s σ H xs us Q I r h;obtain⟨a,vs,n,b,rfl,ht,e,q⟩:=h;obtain⟨u,w',rfl,r1,r2⟩:=vWi r;cases(show u=Value.ref a from r1);cases(show w' =Value.type n from r2);obtain⟨its,_,⟨o,h1,h2,_⟩,_⟩:=I.tuple ht;exact bR PySem.W.kitx_tuple I.kIn ⟨o,h1,h2⟩ e (fun z=>nomatch z) fun tk=>⟨.bl b,H,I.tok tk,rfl,q⟩
end
structure Feed(i l:aV)(P:Nat->Heap->Prop)(f:Nat->Option Value):Prop where
 obj:∀k h,P k h->∃o,h.get? i=some o/\∀v,o.data≠ .cell v
 keep:∀k (h g:Heap),P k h->(∀b o,b=i\/b=l->h.get? b=some o->g.get? b=some o)->P k g
 item:∀{prog:bQ} {w:bH} {A:cE} {E:Value->aX->Prop} {s:aX} {k:Nat} {x:Value} {Q:Value->aX->Prop},P k s.heap->f k=some x->
  (∀g,P (k+1) g->Heap.SameBut i s.heap g->Q x {s with heap:=g})->aR (model prog w) A (Builtin.SmallTypes.nextOf (.ref i)) Q E s
 stop:∀{prog:bQ} {w:bH} {A:cE} {E:Value->aX->Prop} {s:aX} {k:Nat} {Q:Value->aX->Prop},A.handled=none->P k s.heap->f k=none->
  (∀g e,Heap.ExtBut i s.heap g->(∃o,g.get? e=some o/\o.cls=.type "StopIteration")->E (.ref e) {s with heap:=g})->aR (model prog w) A (Builtin.SmallTypes.nextOf (.ref i)) Q E s
section
variable{prog:bQ}{w:bH}{A:cE}{E:Value->aX->Prop}{s:aX}
theorem vKc{i l:aV}(hil:l≠i)(xs:Array Value):Feed i l (fun k h=>h.IsTupleIter i l k/\h.IsTuple l xs) (fun k=>xs[k]?) where
 obj:=fun k h p=>by
  obtain⟨⟨o,e,_,d⟩,_⟩:=p;exact⟨o,e,fun v z=>by rw[d]at z;cases z⟩
 keep:=fun k h g p q=>⟨p.1.at fun o e=>q i o (.inl rfl) e,by
  obtain⟨o,e,r⟩:=p.2;exact⟨o,q l o (.inr rfl) e,r⟩⟩
 item:=by
  intro prog w A E s k x Q p hx hQ;obtain⟨⟨oi,ei,ci,di⟩,⟨ol,el,cl,nl,dl⟩⟩:=id p;unfold Builtin.SmallTypes.nextOf;refine aZ (wpAny_callSpecial?_slot (name:=Str.ofString "__next__") p.1.typeIs dD (wpAny_call_entry dD p.1.typeIs PySem.F.entry_tuple_iterator_next ?_ (PySem.F.args_tuple_iterator_next_1 _)));show aR _ _ (field (.ref i) 0 >>=_) _ _ s;refine aZ (dU ei di (x:=.ref l) rfl ?_);show aR _ _ (if(Value.ref l == Value.none)=true then _ else _) _ _ s;rw[if_neg (show¬((Value.ref l == Value.none)=true) from aT)];show aR _ _ (field (.ref i) 1 >>=_) _ _ s;refine aZ (dU ei di (x:=.int k 0) rfl ?_);show aR _ _ (seqItems? (.ref l) >>=_) _ _ s;refine aZ (dS el dl ?_);have hx' :xs[k]?=some x:=hx;simp only[Int.toNat_natCast,hx'];refine aZ (wpAny_setField ei di (by simp) (aL ⟨x,rfl,aL (hQ _ ⟨?_,?_⟩ (Heap.SameBut.update ..))⟩))
  ·exact⟨_,Heap.get?_update_self _ ei (Obj.isFreed_of_fields (Obj.data_mapFields di _)),(Obj.cls_mapFields ..).trans ci,by rw[Obj.data_mapFields di];simp[rawInt]⟩
  ·exact⟨ol,((Heap.SameBut.update ..).2 l hil).trans el,cl,nl,dl⟩
 stop:=by
  intro prog w A E s k Q hh p hx hE;obtain⟨⟨oi,ei,ci,di⟩,⟨ol,el,cl,nl,dl⟩⟩:=id p;unfold Builtin.SmallTypes.nextOf;refine aZ (wpAny_callSpecial?_slot (name:=Str.ofString "__next__") p.1.typeIs dD (wpAny_call_entry dD p.1.typeIs PySem.F.entry_tuple_iterator_next ?_ (PySem.F.args_tuple_iterator_next_1 _)));show aR _ _ (field (.ref i) 0 >>=_) _ _ s;refine aZ (dU ei di (x:=.ref l) rfl ?_);show aR _ _ (if(Value.ref l == Value.none)=true then _ else _) _ _ s;rw[if_neg (show¬((Value.ref l == Value.none)=true) from aT)];show aR _ _ (field (.ref i) 1 >>=_) _ _ s;refine aZ (dU ei di (x:=.int k 0) rfl ?_);show aR _ _ (seqItems? (.ref l) >>=_) _ _ s;refine aZ (dS el dl ?_);have hx' :xs[k]?=none:=hx;simp only[Int.toNat_natCast,hx'];refine aZ (wpAny_rule (aZ (wpAny_setField ei di (by simp) ?_)));show aR _ _ (newExc (.type "StopIteration") [] >>=_) _ _ _;refine aZ ?_
  simp only[newExc,newTuple];refine aZ (wpAny_newObj_type ?_ (by size_fits));refine aZ (m:=firstArgMember _ _) (wpAny_of_eq (a:=Value.none) (by first|rfl|(simp only[firstArgMember];rfl)) (wpAny_newObj_type ?_ (by size_fits)));simp only[raiseNew];refine aZ (wpAny_handled ?_);first|rw[show A.in1.handled=none from hh]|rw[hh]
  refine aZ (aL (wpAny_throw ?_));exact hE _ _ (((Heap.SameBut.update ..).extBut.push _).push _) ⟨_,aN _ rfl,rfl⟩
variable{z TI TO i1 i2 l1 l2:aV}{P1 P2:Nat->Heap->Prop}{f1 f2:Nat->Option Value}{k1 k2:Nat}{x y a b:Value}
theorem zVr(F1:Feed i1 l1 P1 f1)(F2:Feed i2 l2 P2 f2)(D:ZipApart z TI TO i1 i2 l1 l2)(hz:IsZip s.heap z TI TO .none)(hI:IsPair s.heap TI (.ref i1) (.ref i2))(hO:IsPair s.heap TO a b)(p1:P1 k1 s.heap)(p2:P2 k2 s.heap)(hx:f1 k1=some x)(hy:f2 k2=some y)(hQ:∀g,IsZip g z TI TO (rawInt s.heap.objs.size)->IsPair g TO x y->P1 (k1+1) g->P2 (k2+1) g->IsPair g s.heap.objs.size x y->
   (∀c o,c≠z->c≠TO->c≠i1->c≠i2->s.heap.get? c=some o->g.get? c=some o)->Q (some (.ref s.heap.objs.size)) {s with heap:=g}):
  aR (model prog w) A (pyNext (.ref z)) Q E s:=by
 have ty:s.TypeIs (.ref z) "zip":=⟨_,hz,rfl⟩
 unfold pyNext;refine aZ (wpAny_attempt (wpAny_callSpecial?_slot (name:=Str.ofString "__next__") ty PySem.F.slot_zip_next (wpAny_call_entry PySem.F.slot_zip_next ty PySem.F.entry_zip_next ?_ (PySem.F.args_zip_next_1 _))));show aR _ _ (field (.ref z) 2 >>=_) _ _ _;refine aZ (dU hz rfl (x:=.bool false) rfl ?_);show aR _ _ (field (.ref z) 3 >>=_) _ _ _;refine aZ (dU hz rfl (x:=.ref TI) rfl (aZ (dS hI rfl ?_)));show aR _ _ (Builtin.SmallTypes.ownedTupleIsFree (.ref z) >>=_) _ _ _;refine aZ ?_
 unfold Builtin.SmallTypes.ownedTupleIsFree;refine aZ (dU hz rfl (x:=.none) rfl (aL ?_));simp only[if_true];refine aZ (wpAny_rule (aZ (dU hz rfl (x:=.ref TO) rfl ?_)));refine aZ (eX hz (by simp) fun g1 z1 b1=>?_);replace z1:IsZip g1 z TI TO .ellipsis :=z1;refine aZ ?_
 simp only[List.zipIdx_cons,List.zipIdx_nil,List.forIn_cons,List.forIn_nil];refine aZ (aZ (wpAny_onRaise ?_));show aR _ _ (Builtin.SmallTypes.nextOf (.ref i1) >>=_) _ _ _;have q1:P1 k1 g1:=F1.keep _ _ _ p1 fun c o hc e=>b1.extBut _ _ (by rcases hc with rfl|rfl;exact D.i1z;exact D.l1z) e
 refine aZ (F1.item q1 hx fun g2 r1 b2=>aL ?_);have O2:IsPair g2 TO a b:=b2.extBut _ _ D.TOi1 (b1.extBut _ _ D.TOz hO);refine aZ (dS O2 rfl (aZ (wpAny_updateSeq_pair O2 fun g3 O3 b3=>?_)));replace O3:IsPair g3 TO x b:=O3;refine aZ (wpAny_letGo (aL (aZ (aZ (wpAny_onRaise ?_)))));show aR _ _ (Builtin.SmallTypes.nextOf (.ref i2) >>=_) _ _ _;have q2:P2 k2 g3:=F2.keep _ _ _ p2 fun c o hc e=>b3.extBut _ _ (by rcases hc with rfl|rfl;exact D.TOi2.symm;exact D.l2TO) (b2.extBut _ _ (by rcases hc with rfl|rfl;exact D.i12.symm;exact D.l2i1) (b1.extBut _ _ (by rcases hc with rfl|rfl;exact D.i2z;exact D.l2z) e))
 refine aZ (F2.item q2 hy fun g4 r2 b4=>aL ?_);have O4:IsPair g4 TO x b:=b4.extBut _ _ D.TOi2 O3;refine aZ (dS O4 rfl (aZ (wpAny_updateSeq_pair O4 fun g5 O5 b5=>?_)));replace O5:IsPair g5 TO x y:=O5;refine aZ (wpAny_letGo (aL (aL (aZ (dS O5 rfl (aZ (wpAny_newTuple ?_)))))));have sz:g5.objs.size=s.heap.objs.size:=by rw[b5.1,b4.1,b3.1,b2.1,b1.1]
 have z5:IsZip g5 z TI TO .ellipsis :=b5.extBut _ _ D.TOz.symm (b4.extBut _ _ D.i2z.symm (b3.extBut _ _ D.TOz.symm (b2.extBut _ _ D.i1z.symm z1)));have all5:∀c o,c≠z->c≠TO->c≠i1->c≠i2->s.heap.get? c=some o->g5.get? c=some o:=fun c o n1 n2 n3 n4 e=>
  b5.extBut _ _ n2 (b4.extBut _ _ n4 (b3.extBut _ _ n2 (b2.extBut _ _ n3 (b1.extBut _ _ n1 e))))
 have s1:P1 (k1+1) g5:=F1.keep _ _ _ r1 fun c o hc e=>b5.extBut _ _ (by rcases hc with rfl|rfl;exact D.TOi1.symm;exact D.l1TO) (b4.extBut _ _ (by rcases hc with rfl|rfl;exact D.i12;exact D.l1i2) (b3.extBut _ _ (by rcases hc with rfl|rfl;exact D.TOi1.symm;exact D.l1TO) e))
 have s2:P2 (k2+1) g5:=F2.keep _ _ _ r2 fun c o hc e=>b5.extBut _ _ (by rcases hc with rfl|rfl;exact D.TOi2.symm;exact D.l2TO) e
 have ltz:z<g5.objs.size:=aC z5;show aR _ _ (Builtin.SmallTypes.ownedTupleHandOut (.ref z) (.ref g5.objs.size) >>=_) _ _ _;refine aZ ?_
 unfold Builtin.SmallTypes.ownedTupleHandOut;have z6:IsZip (g5.push {cls:=.type "tuple",data:=.seq #[x,y]}) z TI TO .ellipsis :=aU _ z5;refine aZ (eX z6 (by simp) fun g7 z7 b7=>?_);replace z7:IsZip g7 z TI TO (rawInt g5.objs.size):=z7;refine eX z7 (by simp) fun g8 z8 b8=>?_
 replace z8:IsZip g8 z TI TO (rawInt g5.objs.size):=z8;have up:∀c o,c≠z->g5.get? c=some o->g8.get? c=some o:=fun c o n e=>b8.extBut _ _ n (b7.extBut _ _ n (aU _ e))
 have T8:IsPair g8 g5.objs.size x y:=b8.extBut _ _ (dR ltz) (b7.extBut _ _ (dR ltz) (aN _ rfl));rw[sz]at z8 T8;refine aL ⟨_,rfl,aL ?_⟩;show Q (some (.ref g5.objs.size)) _;rw[sz]
 exact hQ g8 z8 (up _ _ D.TOz O5) (F1.keep _ _ _ s1 fun c o hc e=>up c o (by rcases hc with rfl|rfl;exact D.i1z;exact D.l1z) e) (F2.keep _ _ _ s2 fun c o hc e=>up c o (by rcases hc with rfl|rfl;exact D.i2z;exact D.l2z) e) T8
  fun c o n1 n2 n3 n4 e=>up c o n1 (all5 c o n1 n2 n3 n4 e)
theorem zW8(hh:A.handled=none)(F1:Feed i1 l1 P1 f1)(F2:Feed i2 l2 P2 f2)(D:ZipApart z TI TO i1 i2 l1 l2)(hz:IsZip s.heap z TI TO .none)(hI:IsPair s.heap TI (.ref i1) (.ref i2))(hO:IsPair s.heap TO a b)(p1:P1 k1 s.heap)(p2:P2 k2 s.heap)(ends:f1 k1=none\/f2 k2=none)(hQ:∀g,(∀c o,c≠z->c≠TO->c≠i1->c≠i2->s.heap.get? c=some o->g.get? c=some o)->Q none {s with heap:=g}):aR (model prog w) A (pyNext (.ref z)) Q E s:=by
 have ty:s.TypeIs (.ref z) "zip":=⟨_,hz,rfl⟩
 have last:∀(g:Heap) (e:aV),(∀c o,c≠z->c≠TO->c≠i1->c≠i2->s.heap.get? c=some o->g.get? c=some o)->(∃o,g.get? e=some o/\o.cls=.type "StopIteration")->
   aR (model prog w) A (do let b ←isInstance (.ref e) (.type "StopIteration");if b=true then pure none else throw (.ref e)) Q E {s with heap:=g}:=fun g e k1 k2=>by
  obtain⟨o,ho,hc⟩:=k2;refine aZ (wpAny_isInstance (T:="StopIteration") (b:=true) ⟨o,ho,hc⟩ isSubtype_stop ?_);exact aL (hQ g k1)
 unfold pyNext;refine aZ (wpAny_attempt (wpAny_callSpecial?_slot (name:=Str.ofString "__next__") ty PySem.F.slot_zip_next (wpAny_call_entry PySem.F.slot_zip_next ty PySem.F.entry_zip_next ?_ (PySem.F.args_zip_next_1 _))));show aR _ _ (field (.ref z) 2 >>=_) _ _ _;refine aZ (dU hz rfl (x:=.bool false) rfl ?_);show aR _ _ (field (.ref z) 3 >>=_) _ _ _;refine aZ (dU hz rfl (x:=.ref TI) rfl (aZ (dS hI rfl ?_)));show aR _ _ (Builtin.SmallTypes.ownedTupleIsFree (.ref z) >>=_) _ _ _;refine aZ ?_
 unfold Builtin.SmallTypes.ownedTupleIsFree;refine aZ (dU hz rfl (x:=.none) rfl (aL ?_));simp only[if_true];refine aZ (wpAny_rule (aZ (dU hz rfl (x:=.ref TO) rfl ?_)));refine aZ (eX hz (by simp) fun g1 z1 b1=>?_);replace z1:IsZip g1 z TI TO .ellipsis :=z1;refine aZ ?_
 simp only[List.zipIdx_cons,List.zipIdx_nil,List.forIn_cons,List.forIn_nil];refine aZ (aZ (wpAny_onRaise ?_));show aR _ _ (Builtin.SmallTypes.nextOf (.ref i1) >>=_) _ _ _;have q1:P1 k1 g1:=F1.keep _ _ _ p1 fun c o hc e=>b1.extBut _ _ (by rcases hc with rfl|rfl;exact D.i1z;exact D.l1z) e
 cases hx:f1 k1 with
 | none=>
   refine aZ (F1.stop hh q1 hx fun g2 e b2 he=>?_);obtain⟨oe,hoe,hce⟩:=he;have z2:IsZip g2 z TI TO .ellipsis :=b2 _ _ D.i1z.symm z1;have ez:e≠z:=fun q=>by subst q;rw[z2]at hoe;cases hoe;simp at hce
   exact eX z2 (by simp) fun g3 _ b3=>last g3 e (fun c o n1 _ n3 _ q=>b3.extBut _ _ n1 (b2 _ _ n3 (b1.extBut _ _ n1 q))) ⟨oe,b3.extBut _ _ ez hoe,hce⟩
 | some x=>
   have hy:f2 k2=none:=by
    rcases ends with q|q
    ·rw[hx]at q;cases q
    ·exact q
   refine aZ (F1.item q1 hx fun g2 r1 b2=>aL ?_);have O2:IsPair g2 TO a b:=b2.extBut _ _ D.TOi1 (b1.extBut _ _ D.TOz hO);refine aZ (dS O2 rfl (aZ (wpAny_updateSeq_pair O2 fun g3 O3 b3=>?_)));refine aZ (wpAny_letGo (aL (aZ (aZ (wpAny_onRaise ?_)))));show aR _ _ (Builtin.SmallTypes.nextOf (.ref i2) >>=_) _ _ _;have q2:P2 k2 g3:=F2.keep _ _ _ p2 fun c o hc e=>b3.extBut _ _ (by rcases hc with rfl|rfl;exact D.TOi2.symm;exact D.l2TO) (b2.extBut _ _ (by rcases hc with rfl|rfl;exact D.i12.symm;exact D.l2i1) (b1.extBut _ _ (by rcases hc with rfl|rfl;exact D.i2z;exact D.l2z) e))
   refine aZ (F2.stop hh q2 hy fun g4 e b4 he=>?_);obtain⟨oe,hoe,hce⟩:=he;have z4:IsZip g4 z TI TO .ellipsis :=b4 _ _ D.i2z.symm (b3.extBut _ _ D.TOz.symm (b2.extBut _ _ D.i1z.symm z1));have ez:e≠z:=fun q=>by subst q;rw[z4]at hoe;cases hoe;simp at hce
   exact eX z4 (by simp) fun g5 _ b5=>last g5 e (fun c o n1 n2 n3 n4 q=>b5.extBut _ _ n1 (b4 _ _ n4 (b3.extBut _ _ n2 (b2.extBut _ _ n3 (b1.extBut _ _ n1 q))))) ⟨oe,b5.extBut _ _ ez hoe,hce⟩
end
end L2
namespace SG
open PySem PySem.Spec PyProof.Rows L2
variable{prog:bQ}{w:bH}{h:Heap}{a:aV}{Q:Value->aX->Prop}
theorem zYl{k:L2.Key}{v:Value}(h:(jJ prog w).is k v=true):v.scannable=true:=by
 rcases zE h with⟨i,t,rfl,rfl⟩|⟨x,t,rfl,rfl⟩ <;> rfl
instance decMem(k:L2.Key)(l:List L2.Key):Decidable (k∈l):=by
 letI:BEq L2.Key:=instBEqOfDecidableEq;exact inferInstance
noncomputable def fmK(val:Nat->L2.Key):Nat->List L2.Key
 | 0=> []
 |i+1=>if val i∈fmK val i then fmK val i else fmK val i ++ [val i]
theorem vJv(val:Nat->L2.Key):∀i,(fmK val i).length <=i
 | 0=>aD _
 | i + 1=>by
   have:=vJv val i;unfold fmK;split
   ·omega
   ·rw[aW];show _+1<=_;omega
theorem zWy(val:Nat->L2.Key)(i:Nat)(j:L2.Key):(decide (j∈fmK val i) || decide (j=val i))=decide (j∈fmK val (i+1)):=by
 rw[←Bool.decide_or];refine decide_eq_decide.mpr ?_
 show _↔j∈(if val i∈fmK val i then fmK val i else fmK val i ++ [val i]);grind
theorem zYv(val:Nat->L2.Key)(i:Nat):(if decide (val i∈fmK val i)=true then(fmK val i).length else(fmK val i).length+1)=(fmK val (i+1)).length :=by
 show _=(if val i∈fmK val i then fmK val i else fmK val i ++ [val i]).length;grind
theorem jY6{S S' :L2.Key->Bool}{n n' :Nat}(g:h.SetOf (jJ prog w) a S n)(e:∀k,S k=S' k)(en:n=n'):h.SetOf (jJ prog w) a S' n' :=by
 cases en;cases(funext e:S=S');exact g
noncomputable abbrev SetK(prog:bQ)(w:bH)(a:aV)(l:List L2.Key)(h:Heap):Prop:=h.SetOf (jJ prog w) a (fun j=>decide (j∈l)) l.length
theorem SetK.at{l:List L2.Key}{h':Heap}(g:SetK prog w a l h)(k:∀o,h.get? a=some o->h'.get? a=some o):SetK prog w a l h' :=by
 obtain⟨o,es,ep,t,e,r⟩:=g;exact⟨o,es,ep,t,k _ e,r⟩
section
variable{prog:bQ}{w:bH}{A:cE}{R:Result->aX->Prop}{I:aV}{fp wr:List aV}{G:Array GenState->Array GenState->Prop}{n:Nat}{P:Nat->Value->Prop}{St:Nat->aX->Prop}
theorem jZk(W:WalksS prog w A.in1 I fp wr G n P St)(S:aV)(off:S∉fp)(val:Nat->L2.Key)(hv:∀i v,P i v->qXf (val i) v=true)(few:n+1<scanBound):
  ∀(k i:Nat) (s:aX),n - i=k->i<=n->St i s->SetK prog w S (fmK val i) s.heap->
   (∀s',Moved (S::wr) G s s' ->SetK prog w S (fmK val n) s'.heap->R (.ok (.ret .none)) s')->
   codeAny (model prog w) A (.builtin "set.update.loop" ⟨[.ref S,.ref I],[]⟩) R s:=by
 have ow:S∉wr:=fun z=>off (W.sub _ z)
 have up:∀b∈wr,b∈S::wr:=fun b z=>aK _ z
 intro k
 induction k with
 | zero=>
   intro i s hk hi st g hR
   obtain rfl:i=n:=by omega
   refine codeAny_builtin F.entry_set_update_loop ?_
   refine aZ (m:=pyNext (.ref I)) (W.done s _ _ st fun s' m=>?_)
   exact aL (hR s' (m.mono up) (g.at fun o e=>m.heap S _ ow e))
 | succ k ih=>
   intro i s hk hi st g hR
   have lt:i<n:=by omega
   refine codeAny_builtin F.entry_set_update_loop ?_
   refine aZ (m:=pyNext (.ref I)) (W.item i s _ _ lt st fun v s' p st' m=>?_)
   have hk:(jJ prog w).is (val i) v=true:=hv i v p
   have g' :=g.at (h' :=s'.heap) fun o e=>m.heap S _ ow e
   refine aZ (m:=holding [v] (setAdd S v)) (eK ?_)
   refine eK (aZ ((jJ prog w).pyHash (k:=val i) hk ?_))
   refine wpAny_setAddHashed_of (knd:=jJ prog w) (s:={s' with toks:=s'.toks+1}) hk (zYl hk) g' (by have:=vJv val i;omega) fun h2 sb g2=>?_
   have g3:SetK prog w S (fmK val (i+1)) h2:=jY6 g2 (fun j=>zWy val i j) (zYv val i)
   refine aL ⟨plainId_quiet F.plain_set_update_loop _,ih (i+1) _ (by omega) lt (W.frame _ s' _ _ st' (Nat.le_succ _) fun b hb o e=>?_) g3 fun s2 m2 g4=>?_⟩
   ·rw[sb.2 b fun z=>off (by rw[←z];exact hb)];exact e
   ·refine hR s2 (Moved.trans W.gtrans ((m.mono up).then_heap (Nat.le_succ _) fun b o hb e=>?_) m2) g4
    rw[sb.2 b fun z=>hb (by rw[z];exact aA)];exact e
end
section
variable{prog:bQ}{w:bH}{A:cE}{E:Value->aX->Prop}{s:aX}
noncomputable abbrev newS(w:bH):Obj:={cls:=.type "set",dict:=none,data:=.set #[] 0 (.fresh 0 0 (!w.params.followText "set-order"))}
theorem newG(a:Value)(h:Q (.ref s.heap.objs.size) {s with heap:=s.heap.push (newS w)}):
  codeAny (model prog w) A (.call (.builtin "set.__new__") ⟨[.type "set",a],[]⟩) (wants Q E) s:=by
 refine codeAny_of_tree ?_
 show aR _ A.in1 (do checkBuiltinCall "set.__new__" ⟨[.type "set",a],[]⟩;again (.builtin "set.__new__" ⟨[.type "set",a],[]⟩)) _ _ s;refine aZ (wpAny_of_eq (PySem.F.newCall_set_1 a) (aL ⟨plainId_quiet PySem.F.plain_set_new _,codeAny_builtin PySem.F.entry_set_new ?_⟩));rw[Around.under_plainId PySem.F.plain_set_new _];unfold Builtin.«set.__new__» Builtin.Frozenset.newClass;have hsub:=sub_set_self;obtain⟨hp,g,d,tk,os⟩:=s;dsimp only;wp_walk;refine wpAny_askSetting (aL ?_);dsimp only;simp only[newObj];exact aZ (wpAny_alloc (aL (aL h)))
theorem zX7(w:bH)(s:aX):(s.heap.push (newS w)).get? s.heap.objs.size=some (newS w):=aN _ rfl
abbrev vK(xs:List L2.Key)(i:Nat):L2.Key:=xs.getD i (.inl 0)
noncomputable def zVq(vs:List Value)(xs:List L2.Key):Prop:=∀(i:Nat) (v:Value),vs[i]?=some v->qXf (vK xs i) v=true
theorem zWl(prog:bQ)(w:bH)(e:h.get? a=some (newS w)):SetK prog w a [] h:=
 ⟨newS w,#[],0,_,e,⟨rfl,rfl,rfl⟩,rfl,fun e he=>by simp at he,fun k=>by simp,by decide,by rfl,rfl⟩
set_option maxHeartbeats 3200000 in
theorem zZx{l:aV}{its:Array Value}{xs:List L2.Key}(hh:A.handled=none)(b:Bool)(hl:cond b (s.heap.IsList l its) (s.heap.IsTuple l its))(hi:zVq its.toList xs)(few:its.size+1<scanBound)(h:∀(h' :Heap) (tk:Nat),SetK prog w s.heap.objs.size (fmK (vK xs) its.size) h' ->(∀b o,b<s.heap.objs.size->s.heap.get? b=some o->h'.get? b=some o)->Q (.ref s.heap.objs.size) {s with heap:=h',toks:=tk}):
  aR (model prog w) A (call (.type "set") [.ref l]) Q E s:=by
 obtain⟨c,tl,hmro⟩:=dX.mro;have hmade:=dX.made;have hsub:=dX.sub;refine wpAny_call (codeAny_of_tree ?_);show aR _ _ (callAny (.type "set") _) _ _ _;refine aL ⟨Code.quiet_builtin _ (by decide +kernel),codeAny_builtin PySem.F.entry_type_call ?_⟩;rw[Around.under_plain (weight_type_call_type "set" [.ref l] []) rfl];have h1:=dX.notType;have h2:=dX.canCreate;have hct:=PySem.F.typeCall_set_1 (.ref l);repeat (any_goals (first|assumption|wp_step))
 refine codeAny_mono (newG (.ref l) (E:=E) (Q:=fun u z=>u=.ref s.heap.objs.size/\z={s with heap:=s.heap.push (newS w)}) ⟨rfl,rfl⟩) fun r z hr=>?_
 cases r with
 |error e=>exact hr
 | ok fl=>
   cases fl with
   | ret u=>
     obtain⟨rfl,rfl⟩:=hr;have hS:=zX7 w s;have hT:Shared.TypeIs {s with heap:=s.heap.push (newS w)} (.ref s.heap.objs.size) "set":=⟨_,hS,rfl⟩
     have hli:=dX.init.lookup;have hbi:=dX.init.bind (.ref s.heap.objs.size);repeat (any_goals (first|assumption|wp_step))
     refine codeAny_mono (eP (R:=wants (fun r z=>r=.none /\∃h' tk,z={s with heap:=h',toks:=tk}/\SetK prog w s.heap.objs.size (fmK (vK xs) its.size) h' /\∀b o,b<s.heap.objs.size->s.heap.get? b=some o->h'.get? b=some o) E)
      dX.init.plain PySem.F.entry_set_init (check_set_init_1 hT ?_)) fun r2 z2 hr2=>?_
     ·cases b
      all_goals
       obtain⟨ol,hol,hcl,nl,hdl⟩:=hl;obtain⟨ocls,odict,odata,oslots⟩:=ol;simp only at hcl hdl;subst hcl;subst hdl;have hol' :=aU (newS w) hol;have h3:=PySem.F.sub_list_set;have h4:=PySem.F.sub_list_frozenset;have h5:=PySem.F.sub_tuple_set;have h6:=PySem.F.sub_tuple_frozenset;have hne:(Value.type "list" == Value.type "dict")=false:=by decide
       have hnt:(Value.type "tuple" == Value.type "dict")=false:=by decide
       have lS:l<s.heap.objs.size:=aC hol;have lI:l≠(s.heap.push (newS w)).objs.size:=by rw[cM];exact bW (Nat.lt_succ_of_lt lS)
       have off:s.heap.objs.size∉ [(s.heap.push (newS w)).objs.size,l]:=by
        rw[cM];intro z;rcases aH.mp z with z|z
        ·exact absurd z (bW (Nat.lt_succ_self _))
        ·exact absurd (bU.mp z) (dR lS)
       unfold Builtin.«set.__init__» noKeywords Builtin.Frozenset.updateFrom;generalize hPI:pyIter=PI;wp_walk;subst hPI
       first
        | have hl1:(s.heap.push (newS w)).IsList l its:=⟨_,hol',rfl,nl,rfl⟩
          refine wpAny_pyIter_list hl1 (aZ (wpAny_runValue ?_))
          refine jZk ((Walks.list (show A.in1.in1.in1.handled=none by simp[hh]) _ l lI its).toS) s.heap.objs.size off (vK xs) (fun i v q=>hi i v (by rw[Array.getElem?_toList];exact q)) few (its.size - 0) 0 _ (by omega) (dF _)
           ⟨⟨_,aN _ rfl,rfl,rfl⟩,hl1.push _⟩ (zWl prog w (aU _ hS)) fun z m g=>?_
        | have hl1:(s.heap.push (newS w)).IsTuple l its:=⟨_,hol',rfl,nl,rfl⟩
          refine wpAny_pyIter_tuple hl1 (aZ (wpAny_runValue ?_))
          refine jZk ((Walks.tuple (show A.in1.in1.in1.handled=none by simp[hh]) _ l lI its).toS) s.heap.objs.size off (vK xs) (fun i v q=>hi i v (by rw[Array.getElem?_toList];exact q)) few (its.size - 0) 0 _ (by omega) (dF _)
           ⟨⟨_,aN _ rfl,rfl,rfl⟩,hl1.push _⟩ (zWl prog w (aU _ hS)) fun z m g=>?_
       obtain⟨h',g',d',tk',os'⟩:=z;obtain rfl:g' =s.gens:=m.gens;obtain rfl:d' =s.drawn:=m.drawn;obtain rfl:os' =s.os:=m.os;refine aL ?_
       show aR _ _ (ret Value.none) _ _ _;refine aL ⟨rfl,h',tk',rfl,g,fun b o hb e=>m.heap b o (fun z=>?_) (aU _ (aU _ e))⟩;rcases aH.mp z with z|z
       ·exact absurd z (bW hb)
       ·have z:=bU.mp z;rw[cM]at z;exact absurd z (bW (Nat.lt_succ_of_lt hb))
     ·cases r2 with
      |error e=>exact hr2
      | ok f2=>
        cases f2 with
        | ret r=>
          obtain⟨rfl,h',tk,rfl,g,k⟩:=hr2;repeat (any_goals (first|assumption|wp_step))
          exact h _ _ g k
        |_=>exact hr2.elim
   |_=>exact hr.elim
end
end SG
namespace L2
open PySem PySem.Spec PyProof.Rows
variable{P:bQ}{w:bH}{H:Hp}{Q:Value->aX->Prop}
section
variable{κ:Type}[DecidableEq κ]
noncomputable def valV(kvs:List (κ×V))(k:κ):Option V:=(kvs.find? fun kv=>decide (kv.1=k)).map (·.2)
theorem vQo{p:κ×V}{r:List (κ×V)}{k:κ}(e:p.1=k):valV (p::r) k=some p.2:=by simp[valV,List.find?_cons,e]
theorem vQp{p:κ×V}{r:List (κ×V)}{k:κ}(e:¬p.1=k):valV (p::r) k=valV r k:=by simp[valV,List.find?_cons,e]
theorem RelO.isSome_eq{o:Option V}{u:Option Value}(r:RelO o u):o.isSome=u.isSome:=by
 cases o with
 | none=>cases u with
   |none=>rfl
   |some _=>exact(show False from r).elim
 | some _=>cases u with
   |none=>exact(show False from r).elim
   |some _=>rfl
theorem KV.val{kvs:List (κ×V)}{vs:List (κ×Value)}(r:KV kvs vs)(k:κ):RelO (valV kvs k) (valueAt vs k):=by
 unfold KV at r;induction r with
 |nil=>exact True.intro
 | @cons p q ps qs h t ih=>
   obtain⟨h1,h2⟩:=h;by_cases e:p.1=k
   ·have e' :q.1=k:=h1.symm.trans e;have b:valueAt (q::qs) k=some q.2:=by simp[valueAt,List.find?_cons,e']
    rw[vQo e,b];exact h2
   ·have e' :¬q.1=k:=fun z=>e (h1.trans z)
    have b:valueAt (q::qs) k=valueAt qs k:=by simp[valueAt,List.find?_cons,e']
    rw[vQp e,b];exact ih
theorem KV.length{kvs:List (κ×V)}{vs:List (κ×Value)}(r:KV kvs vs):kvs.length=vs.length:=Paired.length r
end
theorem vK2{k:Key}{u:Value}(r:RelV (kV k) u):(jJ P w).is k u=true:=by
 cases k with
 |inl i=>obtain⟨t,e⟩:=(show∃t,u=Value.int i t from r);subst e;exact vXw P w i t
 |inr x=>obtain⟨t,e⟩:=(show∃t,u=Value.str x t from r);subst e;exact vXv P w x t
theorem vZp:∀{ks:List Key} {us:List Value},Vals (ks.map kV) us->ItemsAre (jJ P w) ks us
 |[],_,r=>by rw[List.map_nil]at r;cases r;exact .nil
 | k::ks,_,r=>by
   cases r with
   |cons h t=>exact .cons (vK2 h) (vZp t)
noncomputable abbrev KT(H:Hp):List (List Key×V)->List (List Key×aV×Value)->Prop:=Paired fun p q=>p.1=q.1/\H q.2.1=some (.tup (p.1.map kV))/\RelV p.2 q.2.2
theorem KT.val{kvs:List (List Key×V)}{xs:List (List Key×aV×Value)}(r:KT H kvs xs)(k:List Key):RelO (valV kvs k) ((atKey xs k).map (·.2)):=by
 induction r with
 |nil=>exact True.intro
 | @cons p q ps qs h t ih=>
   obtain⟨h1,_,h2⟩:=h;by_cases e:p.1=k
   ·have e' :q.1=k:=h1.symm.trans e;have b:atKey (q::qs) k=some q.2:=by simp[atKey,e']
    rw[vQo e,b];exact h2
   ·have e' :¬q.1=k:=fun z=>e (h1.trans z)
    have b:atKey (q::qs) k=atKey qs k:=by simp[atKey,e']
    rw[vQp e,b];exact ih
section
variable{P:bQ}{w:bH}{H:Hp}{h:Heap}{a:aV}
theorem jV6{u:HO}(ok:HOk P w H h)(e:Rd H a u):v5 P w H h a u:=e.ok ok
theorem vWo{kvs:List (Key×V)}(ok:HOk P w H h)(e:Rd H a (.dK kvs)):kvs.length<=aM/\(a == sysModules)=false/\∃vs,KV kvs vs/\h.DictOf (jJ P w) a vs:=
 show v5 P w H h a (.dK kvs) from jV6 ok e
theorem vJc{ks:List Key}(ok:HOk P w H h)(e:H a=some (.tup (ks.map kV))):(tupleKind (jJ P w)).is h ks a:=by
 obtain⟨_,its,r,o,h1,h2,n,h3⟩:=(show v5 P w H h a (.tup (ks.map kV)) from ok a _ e)
 exact⟨o,its.toArray,n,h1,h2,h3,by simpa using vZp r⟩
theorem vK8{kvs:List (List Key×V)}(ok:HOk P w H h)(e:Rd H a (.dT kvs)):kvs.length<=aM/\(a == sysModules)=false/\
  ∃xs,KT H kvs xs/\h.DictOfH (tupleKind (jJ P w)) a xs:=by
 obtain⟨z,y,xs,r,o,es,ep,h1,h2,h3,h4,h5⟩:=(show v5 P w H h a (.dT kvs) from jV6 ok e)
 refine⟨z,y,xs,r,o,es,ep,h1,h2,h3,h4,fun x hx=>?_,h5⟩;have all:∀{l:List (List Key×V)} {m:List (List Key×aV×Value)},KT H l m->∀x∈m,(tupleKind (jJ P w)).is h x.1 x.2.1:=by
  intro l m q;induction q with
  |nil=>intro x hx;exact nomatch hx
  | @cons p q ps qs hq t ih=>
    intro x hx;rcases aH.mp hx with e|hx
    ·subst e;exact vJc ok (by rw[←hq.1];exact hq.2.1)
    ·exact ih x hx
 exact all r x hx
end
noncomputable def DGet(H:Hp)(a:aV)(y:V)(r:Option V):Prop:=
 (∃kvs k,Rd H a (.dK kvs)/\y=kV k/\r=valV kvs k)\/∃kvs k b,Rd H a (.dT kvs)/\y=.ref b/\H b=some (.tup (k.map kV))/\r=valV kvs k
section
variable{X:Cx}{pins:List (aV×Obj)}{σ:St}{H:Hp}{s:aX}{a:aV}{y v:V}{u r:Value}{o:Option V}{A:cE}{E:Value->aX->Prop}
theorem zZw(hu:A.units+1<cLine)(I:Inv X pins σ H s)(g:DGet H a y (some v))(ry:RelV y u)(h:∀w' s',Inv X pins σ H s' ->RelV v w' ->Q w' s'):
  aR (model X.prog X.w) A (getItem (.ref a) u) Q E s:=by
 rcases g with⟨kvs,k,e,ey,l⟩|⟨kvs,k,b,e,ey,eb,l⟩
 ·subst ey;obtain⟨z,hd,vs,rel,dd⟩:=vWo I.hok e;obtain⟨w',hw,rw'⟩:=RelO.some_of (v:=v) (o:=valueAt vs k) (by rw[l];exact rel.val k);exact wpAny_getItem_of (vK2 ry) dd.mapOf hw (h w' _ (I.tok _) rw')
 ·subst ey;cases(show u=Value.ref b from ry);obtain⟨z,hd,xs,rel,dd⟩:=vK8 I.hok e;obtain⟨w',hw,rw'⟩:=RelO.some_of (v:=v) (o:=(atKey xs k).map (·.2)) (by rw[l];exact rel.val k);obtain⟨p,hp,hp2⟩:=bL.mp hw;refine wpAny_getItem_heap (tupleKind_room_in1 hu) (vJc I.hok eb) dd hp ?_
  rw[hp2];exact h w' _ (I.tok _) rw'
theorem d_in(hu:A.units+1<cLine)(I:Inv X pins σ H s)(g:DGet H a y o)(ry:RelV y u)(h:∀s',Inv X pins σ H s' ->Q (.bool o.isSome) s'):
  aR (model X.prog X.w) A (bA .In u (.ref a)) Q E s:=by
 rcases g with⟨kvs,k,e,ey,l⟩|⟨kvs,k,b,e,ey,eb,l⟩
 ·subst ey;obtain⟨z,hd,vs,rel,dd⟩:=vWo I.hok e;refine wpAny_in_of (vK2 ry) hd dd.mapOf ?_
  rw[←(rel.val k).isSome_eq,←l];exact h _ (I.tok _)
 ·subst ey;cases(show u=Value.ref b from ry);obtain⟨z,hd,xs,rel,dd⟩:=vK8 I.hok e;refine wpAny_in_heap (tupleKind_room_in1 hu) (vJc I.hok eb) hd dd ?_
  have q:=(rel.val k).isSome_eq;rw[Option.isSome_map]at q;rw[←q,←l];exact h _ (I.tok _)
theorem jVs(hu:A.units+1<cLine)(I:Inv X pins σ H s)(g:DGet H a y o)(ry:RelV y u)(h:∀s',Inv X pins σ H s' ->Q (.bool (!o.isSome)) s'):
  aR (model X.prog X.w) A (bA .NotIn u (.ref a)) Q E s:=by
 rcases g with⟨kvs,k,e,ey,l⟩|⟨kvs,k,b,e,ey,eb,l⟩
 ·subst ey;obtain⟨z,hd,vs,rel,dd⟩:=vWo I.hok e;refine wpAny_notIn_of (vK2 ry) hd dd.mapOf ?_
  rw[←(rel.val k).isSome_eq,←l];exact h _ (I.tok _)
 ·subst ey;cases(show u=Value.ref b from ry);obtain⟨z,hd,xs,rel,dd⟩:=vK8 I.hok e;refine wpAny_notIn_heap (tupleKind_room_in1 hu) (vJc I.hok eb) hd dd ?_
  have q:=(rel.val k).isSome_eq;rw[Option.isSome_map]at q;rw[←q,←l];exact h _ (I.tok _)
end
section
variable{X:Cx}{pins:List (aV×Obj)}{σ:St}{H:Hp}{s:aX}{a:aV}{kvs:List (Key×V)}{k:Key}{u:Value}{A:cE}{E:Value->aX->Prop}
theorem jY4(I:Inv X pins σ H s)(e:Rd H a (.dK kvs))(h:∀t s',Inv X pins σ H s' ->Q (.int kvs.length t) s'):aR (model X.prog X.w) A (call (.builtin "len") [.ref a]) Q E s:=by
 obtain⟨z,hd,vs,rel,dd⟩:=vWo I.hok e;refine call_len_dict hd dd (by rw[←rel.length];rw[sizeLine_eq]at z;omega) ?_
 rw[←rel.length];exact h _ _ (I.tok _)
end
theorem vX0{X:Cx}{pins:List (aV×Obj)}{σ:St}{s:aX}{a:aV}{y:V}{o:Option V}(I:Inv X pins σ H s)(g:DGet H a y o):s.TypeIs (.ref a) "dict":=by
 rcases g with⟨kvs,k,e,_,_⟩|⟨kvs,k,b,e,_,_,_⟩
 ·obtain⟨_,_,vs,_,dd⟩:=vWo I.hok e;exact dd.typeIs
 ·obtain⟨_,_,xs,_,dd⟩:=vK8 I.hok e;exact dd.typeIs
structure M1(X:Cx)(o:Expr)(m:Str)(apos:Pos)(e:Expr)(cpos:Pos):Prop where
 base:attributeBase o m X.env (eval o X.env)=eval o X.env
 few:((cU cpos (aJ [e] X.env)).all (fun x=>!x.1) && (backToKw cpos (keywordEach [] X.env)).all (fun x=>x.1.isSome)
  && decide (([e]:List Expr).length+([]:List Keyword).length+(if([]:List Keyword).isEmpty then 0 else 1)<30))=true
 line:(apos.endLine == cpos.line)=true
 trees:cU cpos (aJ [e] X.env)=[(false,eval e X.env)]
theorem zZn{i l:aV}(hil:l≠i)(xs:Array Value):Feed i l (fun k h=>h.IsListIter i l k/\h.IsList l xs) (fun k=>xs[k]?) where
 obj:=fun k h p=>by
  obtain⟨⟨o,e,_,d⟩,_⟩:=p;exact⟨o,e,fun v z=>by rw[d]at z;cases z⟩
 keep:=fun k h g p q=>⟨p.1.at fun o e=>q i o (.inl rfl) e,by
  obtain⟨o,e,r⟩:=p.2;exact⟨o,q l o (.inr rfl) e,r⟩⟩
 item:=fun p hx hQ=>wpAny_nextOf_list_item p.1 p.2 hx fun g h1 h2=>hQ g ⟨h1,p.2.extBut h2.extBut hil⟩ h2
 stop:=fun hh p hx hE=>wpAny_nextOf_list_end hh p.1 p.2 hx hE
end L2
namespace L2
open PySem PySem.Spec PySem.W PyProof.Rows
section
variable{X:Cx}
theorem jWb(hu:X.A.units+1<cLine):OpR X (bA .In) (fun x y H Q=>∃a o,y=.ref a/\DGet H a x o/\Q (.bl o.isSome) H):=by
 intro pins s σ H x y u v Q I ru rv h;obtain⟨a,o,rfl,g,q⟩:=h;cases(show v=Value.ref a from rv);exact d_in hu I g ru fun s' I' =>⟨.bl _,H,I',rfl,q⟩
theorem zV7(hu:X.A.units+1<cLine):OpR X (bA .NotIn) (fun x y H Q=>∃a o,y=.ref a/\DGet H a x o/\Q (.bl (!o.isSome)) H):=by
 intro pins s σ H x y u v Q I ru rv h;obtain⟨a,o,rfl,g,q⟩:=h;cases(show v=Value.ref a from rv);exact jVs hu I g ru fun s' I' =>⟨.bl _,H,I',rfl,q⟩
end
end L2
namespace L2
open PySem PySem.Spec PyProof.Rows
variable{pos:Pos}{a:aV}{M:Model}
noncomputable def Ite(K:aQ)(a:aV):It:=
 ⟨fun i H=>∃xs x,SqL K H a xs/\xs[i]?=some x,
  fun i H v H' =>∃p,v=.ref p/\H p=none/\∀xs x,SqL K H a xs->xs[i]?=some x->H' =upd H p (.tup [.int (i:Int),x]),
  fun i H=>∃xs,SqL K H a xs/\xs.length<=i⟩
theorem zVt{P:bQ}{w:bH}{K:aQ}{elts:List Expr}{kk:Nat}(a e it:aV)(hne:e≠it):
  Turn P w K (.Tuple elts kk pos) (Ite K a) [e,it] e (fun i h=>(∃old,IsEnum h e it (i:Int) old)/\h.IsListIter it a i) where
 mem:=by simp
 obj:=fun i h st c hc=>by
  obtain⟨⟨old,he⟩,⟨o2,e2,c2,d2⟩⟩:=st;grind
 keep:=fun i h h' st k=>by
  obtain⟨⟨old,he⟩,h2⟩:=st;exact⟨⟨old,k e (by simp) _ he⟩,h2.at fun o e' =>k it (by simp) o e'⟩
 item:=by
  intro X hP hw hK hc i pins s σ H E I hf st hg;subst hP hw hK;obtain⟨xs,x,hq,hx⟩:=hg;obtain⟨its,rv,p1,hz1⟩:=I.list hq;obtain⟨u,hu,ru⟩:=rv.get hx;obtain⟨⟨old,he⟩,hit⟩:=st;refine wpAny_pyNext_enum_item he hit p1.isList (x:=u) (by simpa using hu) hne fun h' a1 a2 a3 a4 hk=>?_
  refine⟨_,rfl,wpAny_letOwnedTupleGo_enum a1 fun h'' hz'' sb=>?_⟩;have nz:s.heap.objs.size≠e:=dR (aC he);have hk2:∀c o,c∉ [e,it]->s.heap.get? c=some o->h''.get? c=some o:=fun c o hc e' =>by
   simp only[aH,List.not_mem_nil,or_false,not_or]at hc;exact sb.extBut c o hc.1 (hk c o hc.1 hc.2 e')
  refine⟨.ref s.heap.objs.size,upd H s.heap.objs.size (.tup [.int (i:Int),x]),I.turnedLaid (t' :=s.toks+1) hk2 hf (aD _) ⟨zJx,[.int (i:Int) s.toks,u],.cons ⟨_,rfl⟩ (.cons ru .nil),⟨_,sb.extBut _ _ nz a3,rfl,_,rfl⟩⟩,rfl,
   ⟨_,rfl,I.hok.fresh (aD _),fun xs' x' e1 e3=>?_⟩,⟨⟨_,hz''⟩,a2.extBut sb.extBut hne.symm⟩,fun c hc=>?_⟩
  ·rw [I.list_inj e1 hq,hx] at e3;grind
  ·obtain⟨o,e',_⟩:∃o,s.heap.get? c=some o/\True:=by
    have hc' :c=e\/c=it:=by simpa using hc
    obtain⟨o2,e2,_⟩:=hit;grind
   rw[qM (bW (aC e'))];exact(hf c hc).1
 done:=by
  intro X hP hw hK hc i pins s σ H E I hf st hg;subst hP hw hK;obtain⟨xs,hq,hend⟩:=hg;obtain⟨its,rv,p1,hz1⟩:=I.list hq;obtain⟨⟨old,he⟩,hit⟩:=st;have l1:=rv.length;refine wpAny_pyNext_enum_end (I.ok.hd hc) he hit p1.isList (by simp;omega) fun h' hk=>⟨rfl,I.turnedAll (t' :=s.toks) (ch:=[e,it]) (fun c o hc e' =>?_) hf⟩
  simp only[aH,List.not_mem_nil,or_false,not_or]at hc;exact hk c o hc.2 e'
 self:=fun _ _ _ _ _ st h=>let ⟨_,he⟩:=st.1;wpAny_pyIter_enum he h
section
variable{X:Cx}{elts:List Expr}{kk:Nat}{tpos:Pos}
noncomputable def jYx(K:aQ)(ta:TA):TI:=fun σ H R=>ta σ H fun vs H1=>∃a,vs=[.ref a]/\(∃xs,SqL K H1 a xs)/\R (Ite K a) H1
theorem jQf{e1:Expr}{ta:TA}{p:Pos}(hg:Gl X "enumerate")(hm:X.mg "enumerate"=none)(ha:PA X [e1] ta)(hs:aJ [e1] X.env=[(false,eval e1 X.env)]:=by rfl)(hs2:aJ [] X.env=[]:=by rfl):PI X (.Tuple elts kk tpos) (.Call (.Name "enumerate" p) [e1] [] pos) (jYx X.K ta):=by
 intro pins s σ H R I h;refine Call_ (qYh I hg hm Boot.«enumerate» (dL (thn (ha pos pins s σ H _ I h) fun us s1 ⟨vs,H1,I1,r1,q1⟩=>?_) (by rw[hs,hs2]) (by rw[hs2];rfl)));obtain⟨a,e,⟨xs,hx⟩,q⟩:=q1;subst e;obtain⟨u,rfl,r⟩:=qQa r1;cases(show u=Value.ref a from r);obtain⟨its,rv,p1,hz1⟩:=I1.list hx;refine call_enumerate_list p1.isList fun h' he hit hsz hk=>?_
 refine wpAny_pyIter_enum he ?_
 refine⟨s1.heap.objs.size+1,[s1.heap.objs.size+1,s1.heap.objs.size],_,_,H1,rfl,I1.kept (t' :=s1.toks) hk,zVt a _ _ (Nat.succ_ne_self _),⟨⟨_,he⟩,hit⟩,fun c hc=>?_,q⟩;have hc' :s1.heap.objs.size<=c:=by
  grind
 exact I1.fpOk hc' (I1.hok.fresh hc')
end
noncomputable def DkH(h h' :Heap):Prop:=∀b o,h.get? b=some o->∃o',h'.get? b=some o' /\o'.dict=o.dict
theorem DkH.refl(h:Heap):DkH h h:=fun _ o e=>⟨o,e,rfl⟩
theorem DkH.trans{h1 h2 h3:Heap}(x:DkH h1 h2)(y:DkH h2 h3):DkH h1 h3:=fun b o e=>by
 obtain⟨o1,e1,d1⟩:=x b o e;obtain⟨o2,e2,d2⟩:=y b o1 e1;grind
theorem DkH.push(h:Heap)(o:Obj):DkH h (h.push o):=fun _ u e=>⟨u,aU _ e,rfl⟩
noncomputable def TmF(f:Obj->Obj):Prop:=∀o:Obj,(f o).dict =o.dict/\(o.isFreed=false->(f o).isFreed =false)
theorem DkH.update{h:Heap}{f:Obj->Obj}(hf:TmF f):DkH h (h.update a f):=fun b o e=>by
 by_cases hb:a=b
 ·subst hb;exact⟨f o,Heap.get?_update_self f e ((hf o).2 (Heap.get?_some_iff.mp e).2),(hf o).1⟩
 ·exact⟨o,(Heap.get?_update_other h f hb).trans e,rfl⟩
inductive Tm{α:Type}:Sem α->Prop
 |pure (a:α):Tm (.pure a)
 |raise (e:Value):Tm (.raise e)
 |unsupported (w:String):Tm (.unsupported w)
 |load {a:aV} {p:Option Value} {k:Obj->Sem α} (h:∀o,Tm (k o)):Tm (.load a p k)
 |update {a:aV} {p:Option Value} {f:Obj->Obj} {k:Unit->Sem α} (hf:TmF f) (h:Tm (k ())):Tm (.update a p f k)
 |alloc {o:Obj} {k:aV->Sem α} (h:∀a,Tm (k a)):Tm (.alloc o k)
 |ask {k:Setting->Sem α} (h:∀a,Tm (k a)):Tm (.ask k)
 |rule {t:String} {k:Unit->Sem α} (h:Tm (k ())):Tm (.rule t k)
 |stack {k:List (Code×Pos)->Sem α} (h:∀l,Tm (k l)):Tm (.stack k)
section
variable{α β:Type}
theorem Tm.bind{m:Sem α}{f:α->Sem β}(h:Tm m)(k:∀a,Tm (f a)):Tm (m.bind f):=by
 induction h with
 |pure a=>exact k a
 |raise e=>exact .raise e
 |unsupported w=>exact .unsupported w
 |load _ ih=>exact .load ih
 |update hf _ ih=>exact .update hf ih
 |alloc _ ih=>exact .alloc ih
 |ask _ ih=>exact .ask ih
 |rule _ ih=>exact .rule ih
 |stack _ ih=>exact .stack ih
theorem Tm.bind'{m:Sem α}{f:α->Sem β}(h:Tm m)(k:∀a,Tm (f a)):Tm (m >>=f):=h.bind k
theorem Tm.wp{Γ:PySem.Ctx}{m:Sem α}(h:Tm m):∀{Q:α->Pos->aX->Prop} {E:Value->Pos->aX->Prop} {p:Pos} {s:aX},Sem.wp M Γ m Q E p s->
  Sem.wp M Γ m (fun a p' s' =>Q a p' s' /\DkH s.heap s'.heap) (fun e p' s' =>E e p' s' /\DkH s.heap s'.heap) p s:=by
 induction h with
 |pure a=>intro Q E p s w;rw[Sem.wp_pure]at w⊢;exact⟨w,.refl _⟩
 |raise e=>intro Q E p s w;rw[Sem.wp_raise]at w⊢;exact⟨w,.refl _⟩
 |unsupported w=>simp_all
 | load _ ih=>
   intro Q E p s w;rw[Sem.wp_load]at w⊢;grind
 | update hf _ ih=>
   intro Q E p s w;exact⟨w.1,Sem.wp_mono M Γ _ (fun _ _ _ q=>⟨q.1,(DkH.update hf).trans q.2⟩) (fun _ _ _ q=>⟨q.1,(DkH.update hf).trans q.2⟩) _ _ (ih w.2)⟩
 | alloc _ ih=>
   intro Q E p s w;exact Sem.wp_mono M Γ _ (fun _ _ _ q=>⟨q.1,(DkH.push _ _).trans q.2⟩) (fun _ _ _ q=>⟨q.1,(DkH.push _ _).trans q.2⟩) _ _ (ih _ w)
 |ask _ ih=>simp_all
 |rule _ ih=>simp_all
 |stack _ ih=>simp_all
theorem Tm.any{A:cE}{m:Sem α}{Q:α->aX->Prop}{E:Value->aX->Prop}{s:aX}(h:Tm m)(w:aR M A m Q E s):
  aR M A m (fun a s' =>Q a s' /\DkH s.heap s'.heap) (fun e s' =>E e s' /\DkH s.heap s'.heap) s:=fun Γ p hΓ=>h.wp (w Γ p hΓ)
end
theorem vYv(f:Array Value->Array Value):TmF (Obj.mapFields f):=fun o=>by
 obtain⟨c,d,dt,sl⟩:=o;cases dt <;> exact⟨rfl,fun h=>h⟩
theorem vJh(a:aV):Tm (load a):=.load fun o=>.pure o
theorem vZc{f:Obj->Obj}(h:TmF f):Tm (update a f):=.update h (.pure ())
theorem zXc(o:Obj):Tm (alloc o):=.alloc fun a=>.pure a
theorem vXr(v:Value):Tm (fieldsOf v):=by
 unfold fieldsOf;split
 ·refine .bind' (vJh _) fun o=>?_
  split <;> first|exact .pure _|exact .unsupported _
 ·exact .unsupported _
theorem qXt(v:Value)(i:Nat):Tm (field v i):=by
 refine .bind' (vXr v) fun vs=>?_
 split <;> first|exact .pure _|exact .unsupported _
theorem qJe(v:Value)(i:Nat)(x:Value):Tm (setField v i x):=by
 unfold setField;split
 ·unfold updateField;refine .bind' (vJh _) fun o=>?_
  split
  ·split
   ·exact vZc (vYv _)
   ·exact .unsupported _
  ·exact .unsupported _
 ·exact .unsupported _
theorem qV5(e:Value)(f:Option aV):Tm (setFlight e f):=by
 refine .bind' (qXt _ _) fun tb=>?_
 split
 ·exact qJe _ _ _
 ·exact .pure _
theorem qJw:∀l:List Env,Tm (readyFrames l)
 |[]=>.pure _
 | env::outer=>by
   unfold readyFrames;split
   ·refine .bind' (vJh _) fun o=>?_
    split
    ·exact .pure _
    ·refine .bind' ?_ fun _=> .bind' ?_ fun _=> .bind' (vZc fun o=>⟨rfl,fun h=>?_⟩) fun _=>qJw outer
     ·unfold behindIsImport;split
      ·exact .pure _
      ·split
       ·exact .pure _
       ·exact .bind' (qXt _ _) fun _=>.pure _
     ·unfold keptBack;split
      ·split
       ·exact .pure _
       ·unfold underTheClaimsCaller;exact .bind' (.bind' (.stack fun _=>.pure _) fun _=>.pure _) fun _=>.pure _
      ·exact .pure _
     ·obtain⟨c,d,dt,sl⟩:=o;cases dt <;> first|rfl|exact h
   ·exact .unsupported _
theorem vYw(env:Env):Tm (PySem.frameOf env):=by
 refine .bind' (.bind' (.stack fun _=>.pure _) fun _=>.pure _) fun l=>.bind' ?_ fun o=>?_
 ·unfold frameObject;split
  ·exact .pure _
  ·exact .bind' (qJw _) fun _=>.pure _
 ·split <;> first|exact .pure _|exact .unsupported _
theorem vJ2(t:String)(vs:List Value):Tm (newFields t vs):=by
 unfold newFields newObj;dsimp only;have k:Tm (newObjAsIs (.type t) (.fields vs.toArray)):=by
  exact .bind' (zXc _) fun _=>.pure _
 split
 ·exact .bind' (.unsupported _) fun _=>k
 ·exact k
theorem qX5(e:Value)(env:Env):Tm (noteFrame e env):=by
 unfold noteFrame;split
 ·refine .bind' (qXt _ _) fun head=>?_
  have rest:∀f,Tm (do setField e 1 (←EntryCells.newEntry head (←PySem.frameOf env) .none (rawInt f) .none (←entryPlaceOf f (head !=.none)))):=fun f=>by
   refine .bind' (vYw _) fun fr=>.bind' ?_ fun pl=>.bind' ?_ fun t=>qJe _ _ _
   ·unfold entryPlaceOf;refine .bind' (.stack fun _=>.pure _) fun acts=>?_
    split <;> exact .pure _
   ·unfold EntryCells.newEntry;exact vJ2 _ _
  split
  ·refine .bind' (qXt _ _) fun x=>?_
   split
   ·exact .pure _
   ·exact .bind' (qJe _ _ _) fun _=>rest _
  ·exact rest _
 ·exact .unsupported _
theorem vQ7(env:Env)(e:Value):Tm (leaving env e):=.bind' (qX5 _ _) fun _=>qV5 _ _
end L2
namespace L2
open PySem PySem.Spec PySem.W PySem.Calls PyProof.Rows
variable{rest:List Value}{w:bH}{C fI:aV}{pos:Pos}{h:Heap}
abbrev vErr:List Value:=[.type "ValueError",.type "Exception",.type "BaseException",.type "object"]
structure IniCls(K:Frag)(C fI:aV):Prop where
 ob:∃nm q N bs bm hdct sn sub ab col dd k0 k1 k2 k3 k5,K.lookup C=some (excClassObj nm q C N bs bm hdct sn sub ab col dd k0 k1 k2 k3 k5 "ValueError.__new__")/\tailIn K vErr bm=true
 ini:findIn K (.ref C) "__init__"=some (some (.ref fI))
 fn:typeIn K (.ref fI)=some (.type "function")
 sa:findIn K (.ref C) "__setattr__"=some (some (.builtin "object.__setattr__"))
 hd:hasDictIn K C=true
section
variable{prog:bQ}{w:bH}{A:cE}{E:Value->aX->Prop}{h:Heap}{g:Array GenState}{d:Drawn}{t:Nat}{os:OsState}{K:Frag}{C fI:aV}
theorem vVv{Q:Fin->aX->Prop}(X:K.In h)(k:IniCls K C fI)(hq:∀h' e,Heap.MadeExcOf h h' e (.ref C) rest->aR (model prog w) A (call (.ref fI) (.ref e::rest)) (fun r s' =>r=.none /\Q (.done (.ret (.ref e))) s') E ⟨h',g,d,t,os⟩)(hrest:rest.length<=aM):
  aR (model prog w) A (Builtin.«type.__call__» ⟨.ref C::rest,[]⟩) Q E ⟨h,g,d,t,os⟩:=by
 obtain⟨nm,q,N,bs,bm,hdct,sn,sub,ab,col,dd,k0,k1,k2,k3,k5,ho,ht⟩:=k.ob;have hC:=X _ _ ho;have T:=tail_of_in X ht;have F:=PySem.F.excBase_ValueError;repeat (first|with_reducible refine cI hC ?_|with_reducible refine wpAny_madeBy_exc hC ?_|wp_step)
 refine codeAny_call_builtin_code (Code.quiet_builtin _ F.quiet) (wpAny_check_new_subT F T hC ?_);refine codeAny_exc_new_subT F T hC ?_ hrest;generalize hh1:(h.push {cls:=.type "tuple",data:=.seq rest.toArray}).push {cls:=.ref C,data:=.fields #[.ref h.objs.size,.none,.none,.none,.bool false,.none]}=h1;have keep:∀b o,h.get? b=some o->h1.get? b=some o:=fun b o e=>by rw[←hh1];exact aU _ (aU _ e)
 have hget:h1.get? (h.objs.size+1)=some {cls:=.ref C,data:=.fields #[.ref h.objs.size,.none,.none,.none,.bool false,.none]}:=by rw[←hh1];heap_get
 have htup:h1.get? h.objs.size=some {cls:=.type "tuple",data:=.seq rest.toArray}:=by rw[←hh1];exact aU _ (Heap.get?_push_at rfl rfl)
 have X1:K.In h1:=fun a o e=>keep a o (X a o e)
 have L3:=looks_findIn (M:=model prog w) X1 k.ini;have L4:=bind_fn (M:=model prog w) X1 (.ref (h.objs.size+1)) k.fn;have hcC:(Value.ref C::bm).contains (.ref C)=true:=by simp
 repeat (first|with_reducible refine cI hget ?_|(with_reducible refine wpAny_isSubtype_exc (keep _ _ hC) ?_;rw[hcC])|wp_step)
 refine L3.at ?_
 refine eK (aZ (L4.at ?_));refine aZ (cZ (hq h1 (h.objs.size+1) ⟨keep,Heap.get?_none_of_le (Nat.le_succ _),h.objs.size,hget,Heap.get?_none_of_le (aD _),htup⟩) (fun r s' hr=>?_) fun _ _ x=>x);obtain⟨rfl,hQ⟩:=hr;wp_walk;exact hQ
theorem zYp{Q:Value->aX->Prop}(X:K.In h)(k:IniCls K C fI)(hq:∀h' e,Heap.MadeExcOf h h' e (.ref C) rest->aR (model prog w) (A.under (.builtin "type.__call__" ⟨.ref C::rest,[]⟩)) (call (.ref fI) (.ref e::rest)) (fun r s' =>r=.none /\Q (.ref e) s') E ⟨h',g,d,t,os⟩)(hrest:rest.length<=aM):
  aR (model prog w) A (call (.ref C) rest) Q E ⟨h,g,d,t,os⟩:=by
 obtain⟨nm,q,N,bs,bm,hdct,sn,sub,ab,col,dd,k0,k1,k2,k3,k5,ho,ht⟩:=k.ob;have hC:=X _ _ ho;have f1:=tc_lookup;have f2:=tc_bind (.ref C);refine wpAny_call (codeAny_of_tree ?_);repeat (any_goals (first|assumption|with_reducible refine cI hC ?_|wp_step))
 refine⟨rfl,?_⟩;exact codeAny_call_builtin_at (Code.quiet_builtin _ (by decide +kernel)) entry_typeCall (wpAny_check_type_call_sub hC (vVv X k hq hrest))
end
noncomputable def ExcR(e:aV)(cls:Value)(t:aV)(dx:Option aV):Heap->Prop:=fun h=>∃o,h.get? e=some o/\o.cls=cls/\o.data=.fields #[.ref t,.none,.none,.none,.bool false,.none]/\o.dict=dx
theorem zZk{prog:bQ}{A:cE}{E:Value->aX->Prop}{s:aX}{env:Env}{K:Frag}{x:Str}{np cpos:Pos}{args:List Expr}{Q:Flow->aX->Prop}(k:IniCls K C fI)(hh:A.handled=none)(hplain:(cU cpos (aJ args env)).any (·.1)=false)(h:aR (model prog w) A (eval (.Name x np) env) (fun f s₁=>f=.ref C/\aR (model prog w) A (evalArgs (.ref C) true (cU cpos (aJ args env)) [])
   (fun a s₂=>a.kw=[]/\a.pos.length<=aM/\K.In s₂.heap/\
    ∀h' e,Heap.MadeExcOf s₂.heap h' e (.ref C) a.pos->aR (model prog w) (A.under (.builtin "type.__call__" ⟨.ref C::a.pos,[]⟩)) (call (.ref fI) (.ref e::a.pos))
     (fun r s' =>r=.none /\K.In s'.heap/\(∃t dx,ExcR e (.ref C) t dx s'.heap)/\E (.ref e) s') E {s₂ with heap:=h' }) E s₁) E s):
  aR (model prog w) A (exec (.Raise (some (.Call (.Name x np) args [] cpos)) none pos) env) Q E s:=by
 obtain⟨nm,q,N,bs,bm,hdct,sn,sub,ab,col,dd,k0,k1,k2,k3,k5,ho,ht⟩:=k.ob;have F:=PySem.F.excBase_ValueError;rw[arm_exec_Raise];refine aZ (wpAny_standAt ?_);unfold raiseStmt;refine aZ (aZ (cZ (wpAny_Call_ofName (Q:=fun v s₃=>K.In s₃.heap/\∃e t dx,v=.ref e/\ExcR e (.ref C) t dx s₃.heap/\E (.ref e) s₃) (cZ h (fun f s₁ h₁=>?_) fun _ _ x=>x)) (fun v s₃ h₃=>aZ (wpAny_standAt (aL ?_))) fun _ _ x=>x))
 ·obtain⟨rfl,h₁⟩:=h₁;unfold callWith;refine aZ (eK (cZ h₁ (fun a s₂ h₂=>aZ (wpAny_standAt ?_)) fun _ _ x=>x));obtain⟨apos,akw⟩:=a;obtain⟨hkw,hlen,X2,h₂⟩:=h₂;obtain rfl:akw=[]:=hkw;obtain⟨hp,g,d,tk,os⟩:=s₂;simp only[hplain];refine aZ (wpAny_keeperOf_exc (X2 _ _ ho) ?_);refine aZ (zYp X2 k (fun h' e hm=>cZ (h₂ h' e hm) (fun r s' hr=>⟨hr.1,aZ (eK (wpAny_point (aL ?_)))⟩) fun _ _ x=>x) hlen);obtain⟨_,X3,⟨t,dx,hx⟩,hE⟩:=hr;exact⟨X3,e,t,dx,rfl,hx,hE⟩
 ·obtain⟨X3,e,t,dx,rfl,⟨o,he,hc,hd,_⟩,hE⟩:=h₃;have T:=tail_of_in X3 ht;have hC:=X3 _ _ ho;obtain⟨hp,g,d,tk,os⟩:=s₃;have hcB:(Value.ref C::bm).contains (.type "BaseException")=true:=by rw[bF,T.hasType F.hasBase,Bool.or_true]
  obtain⟨oc,od,odt,osl⟩:=o;dsimp only at hc hd;subst hc hd;repeat (first|with_reducible refine cI he ?_|with_reducible refine cI hC ?_|(with_reducible refine wpAny_isSubtype_exc hC ?_;rw[hcB])|wp_step)
  exact wpAny_raiseNew_none hh hE
theorem vXt{l:List Value}(self:Value)(T:OwnTail h vErr l):refuseLoop self "__setattr__" l=pure ():=by
 induction T with
 |base=>exact PySem.F.store_ValueError.passes self
 |own _ _ _ _ ih=>rw[refuseLoop_ref];exact ih
section
variable{prog:bQ}{w:bH}{A:cE}{E:Value->aX->Prop}{s:aX}{K:Frag}{C fI x t:aV}{name:Str}{v:Value}
theorem jQ8{Q:Unit->aX->Prop}(X:K.In s.heap)(k:IniCls K C fI)(hn:findIn K (.ref C) name=some none)(hx:ExcR x (.ref C) t none s.heap)(h:∀h',ExcR x (.ref C) t (some s.heap.objs.size) h' ->h'.Ns1 s.heap.objs.size (fun y=>if y=name then some v else none)->(∀b o,b≠x->s.heap.get? b=some o->h'.get? b=some o)->h'.objs.size=s.heap.objs.size+1->Q () {s with heap:=h',toks:=s.toks+2}):
  aR (model prog w) A (setAttr (.ref x) name v) Q E s:=by
 obtain⟨nm,q,N,bs,bm,hdct,sn,sub,ab,col,dd,k0,k1,k2,k3,k5,ho,ht⟩:=k.ob;obtain⟨o,he,hc,hd,hdict⟩:=hx;obtain⟨oc,od,odt,osl⟩:=o;subst hc hd hdict;have SF:=PySem.F.store_object;have I:InstAt s.heap x _ C none:=⟨he,rfl,rfl,trivial⟩
 have T:=tail_of_in X ht;obtain⟨cd,hcl,hmro⟩:∃cd,clsIn K C=some cd/\cd.mro=.ref C::bm:=⟨_,by unfold clsIn;rw[ho],rfl⟩
 have hdd:cd.hasDict=true:=by
  obtain⟨cd',hcd,hdd⟩:=any_some k.hd;grind
 have hm:Looks (model prog w) s.heap (mroOf (.ref C)) (.ref C::bm):=hmro▸(looks_clsIn X hcl).andThen .now;have hobj:(Value.ref C::bm).contains (.type "object")=true:=by rw[bF,T.hasType (show vErr.contains (.type "object")=true by decide),Bool.or_true]
 have sub' :Looks (model prog w) s.heap (isInstance (.ref x) (.type "object")) true:=I.type.andThen (looks_mroIn X (by unfold mroIn;rw[hcl,Option.bind_some,hmro];exact congrArg some hobj));refine set_plain X I k.sa ?_
 refine eP SF.slot.plain SF.entry (@check_slot (model prog w) _ _ {s with toks:=s.toks+1} "object.__setattr__" "object" "__setattr__" (.ref x) [.str name s.toks,v] [] _ SF.kind SF.split sub' (SF.args (.ref x) (.str name s.toks) v) ?_);rw[osa_eq,refuse_eq];refine aZ (aZ (I.type.here (s:={s with toks:=s.toks+1}) (aZ (hm.here (s:={s with toks:=s.toks+1}) ?_))));rw[refuseLoop_ref,vXt _ T];refine aL (aZ (I.type.here (s:={s with toks:=s.toks+1}) (aZ ((looks_findIn X hn).here (s:={s with toks:=s.toks+1}) (aZ (aL ?_))))));have hxs:x≠s.heap.objs.size:=bW (aC he);have hx₁:=aU (h:=s.heap) {cls:=.type "dict",data:=.dict #[]} he;refine aZ (aL (aZ ?_));refine aZ (wpAny_loadPart he (aZ ((looks_clsIn X hcl).here (s:={s with toks:=s.toks+1}) ?_)));rw[hdd];refine aZ (wpAny_alloc' (aZ (wpAny_update' hx₁ ?_)));generalize hh1:(s.heap.push {cls:=.type "dict",data:=.dict #[]}).update x (fun o=> {o with dict:=some s.heap.objs.size})=h1;have gd:h1.get? s.heap.objs.size=some {cls:=.type "dict",data:=.dict #[]}:=by rw[←hh1];exact(Heap.get?_update_ne _ _ _ _ hxs.symm).trans (Heap.get?_push_at rfl rfl)
 have gx:h1.get? x=some {cls:=.ref C,dict:=some s.heap.objs.size,data:=.fields #[.ref t,.none,.none,.none,.bool false,.none],slots:=osl}:=by rw[←hh1];exact Heap.get?_update_self _ hx₁ rfl
 have gb:∀b o,b≠x->s.heap.get? b=some o->h1.get? b=some o:=fun b o n e=>by rw[←hh1];exact(Heap.get?_update_ne _ _ _ _ n).trans (aU _ e)
 have nd:h1.Ns s.heap.objs.size (fun _=>none):=⟨_,#[],_,gd,rfl,fun e he=>absurd he (by simp),fun _=>rfl⟩
 have sz:h1.objs.size=s.heap.objs.size+1:=by rw[←hh1,Heap.size_update,cM]
 refine aL (a:=some s.heap.objs.size) (aZ (aL (aZ (wpAny_nsSet1 (s:={s with heap:=h1,toks:=s.toks+1}) (Heap.Ns1.of_empty nd) fun h2 hn2 hs2=>?_))));obtain⟨oD,esD,epD,hoD,hdD,hcD⟩:=hn2.count (Within.cons name v Within.nil);refine aZ (wpAny_lookBehind hoD (by rw[hdD];exact pastItsLine_dict (aS hcD (by rw[aY,List.length_nil,sizeLine_eq];omega))) ?_);refine aL (h h2 ⟨_,(hs2.2 x hxs).trans gx,rfl,rfl,rfl⟩ hn2 (fun b o n e=>(hs2.2 b (bW (aC e))).trans (gb b o n e)) (hs2.1.trans sz))
end
noncomputable def sXF(K:Frag)(C:aV)(ta tv:TE)(f:Str):TS:=fun D σ H=>tv σ H fun y H1=>ta σ H1 fun x H2=>∃e t,x=.ref e/\H2 e=some (.ext (ExcR e (.ref C) t none))/\findIn K (.ref C) f=some none/\
 ∀dx,H2 dx=none->D.nx σ (upd (upd H2 e (.ext (ExcR e (.ref C) t (some dx)))) dx (.xd [(f,y)]))
theorem vXj{P:bQ}{H:Hp}{e t:aV}{cls:Value}{dx:Option aV}(x:ExcR e cls t dx h):v5 P w H h e (.ext (ExcR e cls t dx)):=by
 obtain⟨o,a,b,c,d⟩:=x;exact⟨⟨o,a,b,c,d⟩,⟨o,a⟩,fun h1 h2 ⟨o,a,b,c,d⟩ k=>⟨o,k o a,b,c,d⟩⟩
theorem zK2{X:Cx}{o value:Expr}{ta tv:TE}{f:Str}{pos':Pos}(k:IniCls X.K C fI)(ha:PE X o ta)(hv:PE X value tv)(hs:swapsWith value (some (.Attribute o f pos')) pos.line X.env=pure false):
  PS X (.Assign [.Attribute o f pos'] value pos) (sXF X.K C ta tv f):=by
 intro pins s σ H D I h;refine plainObj_wpAny_Assign_Attribute (thn (hv pins s σ H _ I h) fun u s1 ⟨y,H1,I1,ry,q⟩=>thn (ha pins s1 σ H1 _ I1 q) fun ov s2 ⟨x,H2,I2,rx,e,t,ex,he,hf,q2⟩=>?_) hs;subst ex;obtain rfl:ov=Value.ref e:=rx;obtain⟨φ,_,_⟩:=(show v5 X.prog X.w H2 s2.heap e _ from I2.hok e _ he)
 refine jQ8 I2.kIn k hf φ fun h' x1 n1 k1 sz=>?_
 have fr:H2 s2.heap.objs.size=none:=I2.hok.fresh (aD _);have ne:e≠s2.heap.objs.size:=vI he fr;refine⟨σ,_,?_,q2 _ fr⟩;have I3:=I2.write (x:=e) (e:=e) (o:=.ext (ExcR e (.ref C) t (some s2.heap.objs.size))) (h' :=h') (t' :=s2.toks+2) (by rw[he];exact True.intro) (.inl rfl) k1 (let ⟨o,a,_⟩:=x1;⟨o,a⟩) (vXj x1);have lt:∀b o,s2.heap.get? b=some o->s2.heap.objs.size≠b:=fun b o z=>dR (aC z)
 refine I3.adopt (by rw[qM ne.symm];exact fr) ?_ ?_ (fun y c z=>?_) (fun p hp=>?_) ?_
 ·cases q:X.s₀.heap.get? s2.heap.objs.size with
  |none=>rfl
  | some o=>
    exact absurd (aF (aC q) I2.sz) (cF _)
 ·obtain⟨m,⟨o,_,_,z,_⟩,_⟩:=I2.loc;grind
 ·obtain⟨v,o,z,_⟩:=I2.cell y c z;grind
 ·exact(lt _ _ (I2.pin p hp).1).symm
 ·refine⟨_,n1,fun g=>?_⟩;by_cases z:g=f
  ·subst z;simp only[List.lookup,beq_self_eq_true];exact ry
  ·have z' :(g == f)=false:=by simpa using z
   rw[if_neg z];simp only[List.lookup,z'];exact True.intro
end L2
namespace L2
open PySem PySem.Spec PyProof.Rows
variable{P:bQ}{w:bH}{X:Cx}{H:Hp}{a b f C:aV}{K:aQ}{mg:Str->Option Value}{base:Heap}{N ps:List Str}{qual:Str}{scope:Scope}{cdv cls:Value}{A:cE}{outer:List Env}{s:aX}{E:XK}{fd:aG}{k:Nat}{sp:Sp}
noncomputable def CXd(P:bQ)(w:bH):CXT:=fun outer H s E e s' =>∃(ea:aV) (cls a0:Value) (H' :Hp) (B:Heap) (ox:Option aV),
 e=.ref ea/\s'.os=s.os/\AllBare s'.gens/\Un (frs outer) [] H H' s.heap s'.heap/\HOk P w H' s'.heap/\Heap.FlyingW B outer ea cls a0 s'.heap/\
 (∀b o,s'.heap.get? b=some o->b∉frs outer->(H' b≠none\/s.heap.get? b≠none)->B.get? b=some o)/\H' ea=none/\s.heap.get? ea=none/\(∃oe,s'.heap.get? ea=some oe/\oe.dict=ox)/\E cls ox H'
theorem jYc:jS (CXd P w) X E0:=fun _ _ _ _ _ _ _ h=>by
 obtain⟨_,_,_,_,_,_,_,_,_,_,_,_,_,_,_,_,z⟩:=h;exact z.elim
noncomputable def but1(H:Hp)(a:aV):Hp:=fun b=>if b=a then none else H b
theorem qYy:but1 H a a=none:=if_pos rfl
theorem qK2(h:b≠a):but1 H a b=H b:=if_neg h
theorem vZw{o:HO}(h:but1 H a b=some o):b≠a/\H b=some o:=by
 by_cases z:b=a
 ·subst z;rw[qYy]at h;cases h
 ·exact⟨z,by rwa [qK2 z]at h⟩
theorem vXy{pins:List (aV×Obj)}{σ:St}{H1:Hp}{s2:aX}{h' :Heap}{ea t:aV}{ox:Option aV}(I:Inv (cxOf (CXd P w) P w K mg base N qual scope f cdv A outer s H E) pins σ H1 s2)(kp:∀b o,s2.heap.get? b=some o->h'.get? b=some o)(sea:s.heap.get? ea=none)(hL:ea≠s.heap.objs.size)(hx:ExcR ea cls t ox h')(ne:H1 ea=none\/∃φ,H1 ea=some (.ext φ))(he:E cls ox (but1 H1 ea)):
  (cxOf (CXd P w) P w K mg base N qual scope f cdv A outer s H E).xe (.ref ea) {s2 with heap:=h' }:=by
 obtain⟨oe,hoe,hcls,hdat,hdic⟩:=hx;have fr:(A.deeper (envOfC qual scope s.heap.objs.size f cdv)).frames =some (envOfC qual scope s.heap.objs.size f cdv::outer):=I.ok.frames;have hin:∀env∈(envOfC qual scope s.heap.objs.size f cdv::outer),∀b,env.frame=some b->b∈frs (envOfC qual scope s.heap.objs.size f cdv::outer):=fun env he b hb=>cJ.mpr ⟨env,he,hb⟩
 have hfs:∀b,b∈frs (envOfC qual scope s.heap.objs.size f cdv::outer)->b=s.heap.objs.size\/b∈frs outer:=fun b hb=>by
  obtain⟨env,he,hf⟩:=cJ.mp hb;rcases aH.mp he with rfl|he
  ·exact .inl (Option.some.inj hf).symm
  ·exact .inr (cJ.mpr ⟨env,he,hf⟩)
 have old:∀b o,s.heap.get? b=some o->b≠s.heap.objs.size:=fun b o e=>bW (aC e)
 have nx:∀b,b∉([]:List aV):=fun b=>by simp
 have nfr:∀b,b∈frs (envOfC qual scope s.heap.objs.size f cdv::outer)->b≠ea:=fun b hb z=>by
  rcases hfs b hb with q|q
  ·exact hL (z.symm.trans q)
  ·obtain⟨_,o',ho',_⟩:=I.ok.funs.mem q;rw[z]at ho';have q2:s.heap.get? ea=some o' :=ho';rw[sea]at q2;cases q2
 have k2:∀b o,h'.get? b=some o->b∉frs (envOfC qual scope s.heap.objs.size f cdv::outer)->b≠ea->(PySem.W.hideAll h' (ea::frs (envOfC qual scope s.heap.objs.size f cdv::outer))).get? b=some o:=fun b o e n1 n2=>
  PySem.W.hideAll_get _ e fun z=>(aH.mp z).elim n2 n1
 have ff:h'.FunFrames (PySem.W.hideAll h' (ea::frs (envOfC qual scope s.heap.objs.size f cdv::outer))) (envOfC qual scope s.heap.objs.size f cdv::outer):=
  PySem.W.funFrames_hide (h:=h') (I.stack.of_keeps fun b o e hn=>⟨o,kp b o e,rfl⟩) fun env he b hb=>aK _ (hin env he b hb)
 show aR _ _ (leaving _ _) _ _ _;refine cZ ((vQ7 _ _).any (wpAny_leaving_firstW (s:={s2 with heap:=h' }) (base:=PySem.W.hideAll h' (ea::frs (envOfC qual scope s.heap.objs.size f cdv::outer))) (a0:=.ref t) fr ff rfl hoe (fun b o q=>PySem.W.of_hideAll _ q) ?_ hdat rfl rfl (E:=fun _ _=>False) (Q:=fun _ s' =>∃h'',s' ={s2 with heap:=h'' }/\Heap.LeftW (PySem.W.hideAll h' (ea::frs (envOfC qual scope s.heap.objs.size f cdv::outer))) (envOfC qual scope s.heap.objs.size f cdv::outer) ea oe.cls (.ref t) h' h'') fun h'' hL' =>⟨h'',rfl,hL'⟩)) (fun _ s' hq=>?_) fun _ _ z=>z.1.elim
 ·cases q:(PySem.W.hideAll h' (ea::frs (envOfC qual scope s.heap.objs.size f cdv::outer))).get? ea with
  |none=>rfl
  |some o=>rw[PySem.W.hideAll_none _ aA]at q;cases q
 obtain⟨⟨h'',rfl,b1,⟨_,_,b2⟩,b3,sm⟩,dk⟩:=hq;have hB:∀b o,s2.heap.get? b=some o->b∉frs outer->b≠s.heap.objs.size->b≠ea->h''.get? b=some o:=fun b o e n1 n2 n3=>b1 b o (k2 b o (kp b o e) (fun z=>(hfs b z).elim n2 n1) n3)
 have ksl:∀b o,s2.heap.get? b=some o->b∈frs outer->∃sl,h''.get? b=some {o with slots:=sl}:=fun b o e hb=>by
  obtain⟨_,o',ho',hd⟩:=I.funs.mem hb;rw[e]at ho';cases ho';exact sm b o (kp b o e) hd
 have trk:∀b u,H1 b=some u->b∉frs outer/\b≠s.heap.objs.size:=fun b u e=>by
  refine⟨fun z=>?_,fun z=>?_⟩
  ·have:=I.stkFree b (cJ.mpr (by
    obtain⟨env,he,hf⟩:=cJ.mp z;exact⟨env,aK _ he,hf⟩))
   rw[this]at e;cases e
  ·have z' :H1 s.heap.objs.size=none:=I.free;rw[z,z']at e;cases e
 have nea:∀b o,s.heap.get? b=some o->b≠ea:=fun b o e z=>by rw[z,sea]at e;cases e
 have keepE:∀{b:aV} {u:HO},H1 b=some u->(∀φ,u≠ .ext φ)->but1 H1 ea b=some u:=fun {b u} e hn=>by
  rw[qK2]
  ·exact e
  ·rintro rfl;rcases ne with z|⟨φ,z⟩ <;> rw[z]at e <;> cases e
   exact hn φ rfl
 obtain⟨oe',q1,q2⟩:=dk ea oe hoe;refine⟨ea,cls,.ref t,but1 H1 ea,PySem.W.hideAll h' (ea::frs (envOfC qual scope s.heap.objs.size f cdv::outer)),ox,rfl,I.os,I.bare,⟨fun b o e n hb _=>?_,fun b o e n hb _=>?_,fun b o e n hx=>?_,fun b o e hx=>?_,fun b xs e=>keepE (I.base.tups b xs e) fun _ z=>(nomatch z),fun b o u e=>keepE (I.base.frzs b o u e) fun _ z=>(nomatch z),fun b ps e=>?_⟩,
  fun b u e=>?_,⟨b1,PySem.W.hideAll_none _ aA,b2,hcls▸b3⟩,fun b o e nb hh=>?_,qYy,sea,⟨oe',q1,q2.trans hdic⟩,he⟩
 ·exact hB b o (I.base.keep b o e n hb (nx b)) hb (old b o e) (nea b o e)
 ·obtain⟨sl,e1⟩:=I.base.slot b o e n hb (nx b);obtain⟨sl',e2⟩:=ksl b _ e1 hb;exact⟨sl',e2⟩
 ·rw[qK2 (nea b o e)];exact I.base.free b o e n hx
 ·obtain⟨o',e1⟩:=I.base.there b o e hx;by_cases hb:b∈frs outer
  ·obtain⟨sl,e2⟩:=ksl b o' e1 hb;exact⟨_,e2⟩
  ·exact⟨o',hB b o' e1 hb (old b o e) (nea b o e)⟩
 ·obtain⟨more,z⟩:=I.base.tbls b ps e;exact⟨more,keepE z fun _ z=>(nomatch z)⟩
 ·obtain⟨n0,e⟩:=vZw e;refine(I.hok b u e).stay (fun c v hc q=>?_) (fun c q=>keepE q fun _ z=>(nomatch z)) fun c xs q=>keepE q fun _ z=>(nomatch z)
  rcases hc with z|z
  ·subst z;exact hB c v q (trk c u e).1 (trk c u e).2 n0
  ·refine hB c v q (trk c _ z).1 (trk c _ z).2 ?_
   rintro rfl;rcases ne with y|⟨φ,y⟩ <;> rw[y]at z <;> cases z
 ·have e2:(∃o2,s2.heap.get? b=some o2)/\b≠s.heap.objs.size/\b≠ea:=by
   rcases hh with z|z
   ·cases q:but1 H1 ea b with
    |none=>exact absurd q z
    | some u=>
      obtain⟨n0,q⟩:=vZw q;exact⟨I.hok.there q,(trk b u q).2,n0⟩
   ·cases q:s.heap.get? b with
    |none=>exact absurd q z
    |some o1=>exact⟨I.base.there b o1 q (nx b),old b o1 q,nea b o1 q⟩
  obtain⟨⟨o2,e2⟩,nL,n3⟩:=e2;have e3:=hB b o2 e2 nb nL n3;rw[e]at e3;cases e3;exact k2 b _ (kp b _ e2) (fun z=>(hfs b z).elim nL nb) n3
theorem jL:
  jS (CXd P w) (cxOf (CXd P w) P w K mg base N qual scope f cdv A outer s H E) E:=by
 intro pins σ H1 s1 e s' I hcx;obtain⟨ea,cls,a0,H2,B,ox,rfl,hos,bare,un,hok,fl,cov,hea,sea,⟨oe,hoe,hdic⟩,he⟩:=hcx;have fr:(A.deeper (envOfC qual scope s.heap.objs.size f cdv)).frames =some (envOfC qual scope s.heap.objs.size f cdv::outer):=I.ok.frames;have hfs:∀b,b∈frs (envOfC qual scope s.heap.objs.size f cdv::outer)->b=s.heap.objs.size\/b∈frs outer:=fun b hb=>by
  obtain⟨env,he,hf⟩:=cJ.mp hb;rcases aH.mp he with rfl|he
  ·exact .inl (Option.some.inj hf).symm
  ·exact .inr (cJ.mpr ⟨env,he,hf⟩)
 have hof:∀b,b∈frs outer->b∈frs (envOfC qual scope s.heap.objs.size f cdv::outer):=fun b hb=>by
  obtain⟨env,he,hf⟩:=cJ.mp hb;exact cJ.mpr ⟨env,aK _ he,hf⟩
 have old:∀b o,s.heap.get? b=some o->b≠s.heap.objs.size:=fun b o e=>bW (aC e)
 have nx:∀b,b∉([]:List aV):=fun b=>by simp
 have u1:Un (frs outer) [] H H1 s.heap s1.heap:=I.base;have u2:Un (frs (envOfC qual scope s.heap.objs.size f cdv::outer)) [] H1 H2 s1.heap s'.heap:=un;refine cZ ((vQ7 _ _).any (wpAny_leaves_onW fr rfl fl (E:=fun _ _=>False) (Q:=fun _ t' =>∃h'',t' ={s' with heap:=h'' }/\Heap.FlyingW B outer ea cls a0 h'' /\s'.heap.UpToSlots h'') fun h'' fl2 sm=>⟨h'',rfl,fl2,sm⟩)) (fun _ t' hq=>?_) fun _ _ z=>z.1.elim
 obtain⟨⟨h'',rfl,fl2,sm⟩,dk⟩:=hq;obtain⟨oe',q1,q2⟩:=dk ea oe hoe;have k2:∀b o,s'.heap.get? b=some o->b∉frs (envOfC qual scope s.heap.objs.size f cdv::outer)->(H2 b≠none\/s1.heap.get? b≠none)->h''.get? b=some o:=fun b o e n1 n2=>fl2.1 b o (cov b o e n1 n2)
 have slt:∀b o,s1.heap.get? b=some o->b∈frs (envOfC qual scope s.heap.objs.size f cdv::outer)->∃sl,h''.get? b=some {o with slots:=sl}:=fun b o e hb=>by
  obtain⟨_,o',ho',hd⟩:=I.stack.mem hb;rw[e]at ho';cases ho';obtain⟨sl,e1⟩:=u2.slot b o e (I.stkFree b hb) hb (nx b);obtain⟨sl',e2⟩:=sm b _ e1 hd;grind
 have fr2:∀b u,H2 b=some u->b∉frs (envOfC qual scope s.heap.objs.size f cdv::outer):=fun b u e hb=>by
  obtain⟨_,o',ho',hd⟩:=I.stack.mem hb;rw[u2.free b o' ho' (I.stkFree b hb) (nx b)]at e;cases e
 have nof:∀b o,s.heap.get? b=some o->b∉frs outer->b∉frs (envOfC qual scope s.heap.objs.size f cdv::outer):=fun b o e n z=>(hfs b z).elim (old b o e) n
 have thr:∀b o,s.heap.get? b=some o->∃o',h''.get? b=some o' :=fun b o e=>by
  obtain⟨o1,e1⟩:=u1.there b o e (nx b);by_cases hb:b∈frs (envOfC qual scope s.heap.objs.size f cdv::outer)
  ·grind
  ·obtain⟨o2,e2⟩:=u2.there b o1 e1 (nx b);grind
 refine⟨ea,cls,a0,H2,B,ox,rfl,hos.trans I.os,bare,⟨fun b o e n hb _=>?_,fun b o e n hb _=>?_,fun b o e n _=>?_,fun b o e _=>thr b o e,fun b xs e=>u2.tups b xs (u1.tups b xs e),fun b o u e=>u2.frzs b o u (u1.frzs b o u e),fun b ps e=>?_⟩,fun b u e=>?_,fl2,fun b o e nb hh=>?_,hea,?_,⟨oe',q1,q2.trans hdic⟩,he⟩
 ·have e1:=u1.keep b o e n hb (nx b);have n1:=u1.free b o e n (nx b);have hb2:=nof b o e hb;exact k2 b o (u2.keep b o e1 n1 hb2 (nx b)) hb2 (.inr (by rw[e1];simp))
 ·obtain⟨sl,e1⟩:=u1.slot b o e n hb (nx b);grind
 ·obtain⟨o1,e1⟩:=u1.there b o e (nx b);exact u2.free b o1 e1 (u1.free b o e n (nx b)) (nx b)
 ·obtain⟨m1,e1⟩:=u1.tbls b ps e;obtain⟨m2,e2⟩:=u2.tbls b _ e1;grind
 ·refine(hok b u e).stay (fun c v hc q=>?_) (fun _ q=>q) fun _ _ q=>q
  grind
 ·have st:b∉frs (envOfC qual scope s.heap.objs.size f cdv::outer)/\(H2 b≠none\/s1.heap.get? b≠none)/\∃o2,s'.heap.get? b=some o2:=by
   rcases hh with z|z
   ·cases q:H2 b with
    |none=>grind
    |some u=>exact⟨fr2 b u q,.inl (by simp),hok.there q⟩
   ·cases q:s.heap.get? b with
    |none=>grind
    | some o1=>
      obtain⟨o3,e3⟩:=u1.there b o1 q (nx b);exact⟨nof b o1 q nb,.inr (by rw[e3];simp),u2.there b o3 e3 (nx b)⟩
  obtain⟨n1,n2,o2,e2⟩:=st;have e3:=k2 b o2 e2 n1 n2;rw[e]at e3;cases e3;exact cov b _ e2 n1 n2
 ·cases q:s.heap.get? ea with
  |none=>rfl
  | some o=>
    obtain⟨o',e1⟩:=u1.there ea o q (nx ea);grind
noncomputable def qK4(X:Cx)(C:aV)(R:aV->aV->Hp->Prop):Prop:=
 ∀(pins:List (aV×Obj)) (σ:St) (H:Hp) (s:aX) (ea t dx:aV),Inv X pins σ H s->H ea=some (.ext (ExcR ea (.ref C) t (some dx)))->X.s₀.heap.get? ea=none->R ea dx H->X.xe (.ref ea) s
theorem vYx:
  qK4 (cxOf (CXd P w) P w K mg base N qual scope f cdv A outer s H E) C (fun ea dx H1=>E (.ref C) (some dx) (but1 H1 ea)):=by
 intro pins σ H1 s2 ea t dx I hx sea he;obtain⟨φ,_,_⟩:=(show v5 P w H1 s2.heap ea _ from I.hok ea _ hx)
 refine vXy I (t:=t) (h' :=s2.heap) (fun _ _ e=>e) sea ?_ φ (.inr ⟨_,hx⟩) he;rintro rfl;have z:H1 s.heap.objs.size=none:=I.free;grind
theorem Fun.okD{x:Str}{st:Stmt}(F:Fun K x qual st f fd)(S:FnScope N ps (qW st))(len:∀vs H Q E,sp vs H Q E->vs.length=ps.length)(hbody:∀(cdv:Value) (A:cE) (outer:List Env) (s:aX) (H:Hp) (vs:List V) (Q:VK) (E:XK),Room k (A.deeper (envOfC qual (qW st) s.heap.objs.size f cdv))->sp vs H Q E->
   ∃t,PSs (cxOf (CXd P w) P w K mg base N qual (qW st) f cdv A outer s H E) (jY st) t/\t {nx:=fun _ H' =>Q .non H',rt:=Q} (qZw N vs) H):FnOk P w K mg base (CXd P w) (k+1) f fd ps sp:=by
 obtain⟨oc,od,kV,doc,pm,an,cdv,ct,osl,rfl,lk,hcd⟩:=F.ex;exact jYz lk hcd S len fun A outer s H vs Q E hr hsp=>hbody cdv A outer s H vs Q E hr hsp
noncomputable def zKd(C:aV)(sp:Sp)(te:TE)(R:aV->aV->Hp->Prop):TS:=fun _ σ H=>te σ H fun v H1=>([v]:List V).length =1/\∀ea t,H1 ea=none->
 sp (.ref ea:: [v]) (upd H1 ea (.ext (ExcR ea (.ref C) t none))) (fun r H2=>r=.non /\∃dx,H2 ea=some (.ext (ExcR ea (.ref C) t (some dx)))/\R ea dx H2) E0
theorem zV2{fI:aV}{x:Str}{e:Expr}{te:TE}{R:aV->aV->Hp->Prop}{np cpos pos:Pos}(c:IniCls X.K C fI)(F:FnOk X.prog X.w X.K X.mg X.base (CXd X.prog X.w) k fI fd ps sp)(hr:Room (k+1) X.A)(hb:j8 X.K fd ps [])(hg:Gl X x)(hm:X.mg x=some (.ref C))(hcalm:X.calm=true)(hex:X.ex=[])(he:PE X e te)(ht:qK4 X C R)(hs:aJ [e] X.env=[(false,eval e X.env)]:=by rfl)(hdb:(x == ("__debug__":Str))=false:=by decide):
  PS X (.Raise (some (.Call (.Name x np) [e] [] cpos)) none pos) (zKd C sp te R):=by
 intro pins s σ H D I h;refine zZk c (I.ok.hd hcalm) (by rw[hs];rfl) (qJ6 I hg hm ⟨rfl,?_⟩ hdb);have hA:PA X [e] (qY5 te tNil):=wC he qVa hs;have h1:=hA cpos pins s σ H (fun vs H1=>vs.length=1/\∀ea t,H1 ea=none->sp (.ref ea::vs) (upd H1 ea (.ext (ExcR ea (.ref C) t none))) (fun r H2=>r=.non /\∃dx,H2 ea=some (.ext (ExcR ea (.ref C) t (some dx)))/\R ea dx H2) E0) I h;rw[hs]at h1⊢;refine Calls.evalArgs_plain (cZ h1 (fun us s2 h2=>?_) fun _ _ y=>y);obtain⟨ws,H1,I1,rv,hl1,q1⟩:=h2;obtain⟨v,rfl⟩:∃v,ws=[v]:=by
  cases ws with
  |nil=>cases hl1
  |cons v r=>grind
 obtain⟨u,rfl,ru⟩:=qQa rv;refine⟨rfl,by show 1<=aM;decide,I1.kIn,fun h' ea hm' =>?_⟩;obtain⟨t,hea,_,_⟩:=hm'.there;have hn:H1 ea=none:=I1.hok.untracked hm'.new;have I2:Inv X pins σ H1 {s2 with heap:=h' }:=I1.kept hm'.keeps;have ne1:∀b o,s2.heap.get? b=some o->b≠ea:=fun b o e z=>by rw[z,hm'.new]at e;cases e
 have sea:X.s₀.heap.get? ea=none:=by
  cases q:X.s₀.heap.get? ea with
  |none=>rfl
  | some o=>
    obtain⟨o',z⟩:=I1.base.there ea o q (by rw[hex];simp);grind
 have I3:Inv X pins σ (upd H1 ea (.ext (ExcR ea (.ref C) t none))) {s2 with heap:=h' }:=by
  refine I2.adopt hn sea ?_ (fun y cc e=>?_) (fun p hp=>?_) (vXj ⟨_,hea,rfl,rfl,rfl⟩)
  ·obtain⟨m,⟨o,_,_,z,_⟩,_⟩:=I1.loc;grind
  ·obtain⟨v,o,z,_⟩:=I1.cell y cc e;grind
  ·exact ne1 _ _ (I1.pin p hp).1
 have hsp:=q1 ea t hn;have r2:Vals [V.ref ea,v] [Value.ref ea,u]:=.cons rfl rv;have hl:([Value.ref ea,u] ++ []).length =ps.length:=by rw[bM,←r2.length];exact F.len _ _ _ _ hsp
 have hbd:=hb {s2 with heap:=h' } [.ref ea,u] I3.kIn hl;refine wpAny_call (codeAny_mono (F.run _ X.stack _ _ ⟨[.ref ea,u],[]⟩ [.ref ea,u] _ _ _ (hr.make C [u] []) (I3.env0.make C [u] []) hbd r2 hsp) fun r s' hq=>?_);cases r with
 |error e=>exact(jYc pins σ _ _ e s' I3 hq:_)
 | ok fl=>
   cases fl with
   | ret u' =>
     obtain⟨v',H',I4,rv',ev,dx,hx,hR⟩:=I3.after hq;subst ev;obtain⟨φ,_,_⟩:=(show v5 X.prog X.w H' s'.heap ea _ from I4.hok ea _ hx)
     exact⟨rv',I4.kIn,⟨t,_,φ⟩,ht pins σ H' s' ea t dx I4 hx sea hR⟩
   |next=>exact False.elim hq
   |brk=>exact False.elim hq
   |cont=>exact False.elim hq
noncomputable def ExcD(p:aV)(cls:Value)(ox:Option aV):Heap->Prop:=fun h=>∃o,h.get? p=some o/\o.cls=cls/\o.dict=ox/\∃vs,o.data=.fields vs
theorem zY2{h:Heap}{e:aV}{dx:Option aV}(x:ExcD e cls dx h):v5 P w H h e (.ext (ExcD e cls dx)):=by
 obtain⟨o,a,b,c⟩:=x;exact⟨⟨o,a,b,c⟩,⟨o,a⟩,fun h1 h2 ⟨o,a,b,c⟩ k=>⟨o,k o a,b,c⟩⟩
end L2
namespace DX
open PySem L2 PyProof.Rows
variable{H H' F':Hp}{v:V}{vs us:List V}{i j C n:Nat}{Z B' W' Y' B W:Fp}{α β:Type}{c:Nat->aV}{π ls:List Nat}{env env' args:Ev}{σ σ' τ:L2.St}{y:Option HO}{io:Bool}{Q:VK}{E:XK}{X:Cx}{e:Expr}{h:Hn}{op:Operator}{t':TT}{r':R2}{op':CmpOp}{w:bH}{N ps Nc:List Str}{g:SG}{pos:Pos}{body:SS}{it:SI}{P:bQ}{mg:Str->Option Value}{base:Heap}{qual:Str}{fd:aG}{as:List Am}{pl:Sem Bool}{q:Nat×List Str×List O}{scope:Scope}{CX:CXT}{fI:aV}
inductive Kd where
 |lst|tup|dct (ks:List Key)|dcT (ks:List (List Key))|obj (C:Nat) (fs:List Str)|exc (C:Nat) (fs:List Str)
inductive D where
 |non|int (i:Int)|str (s:Str)|bl (b:Bool)|fn (j:Nat)|nd (k:Kd) (ds:List D)
inductive O where
 |fz (d:D)|ow (k:Kd) (os:List O)
abbrev D.tup(ds:List D):D:=.nd .tup ds
noncomputable abbrev Fp:=aV->Nat
noncomputable def one(p:aV):Fp:=fun a=>if a=p then 1 else 0
theorem wG{p:aV}:one p p=1:=if_pos rfl
theorem xE{p a:aV}(h:a≠p):one p a=0:=if_neg h
noncomputable def hide(T:Fp)(H:Hp):Hp:=fun a=>if T a=0 then H a else none
theorem zK{T:Fp}{a:aV}(h:T a=0):hide T H a=H a:=if_pos h
theorem qXo{T:Fp}{a:aV}(h:T a≠0):hide T H a=none:=if_neg h
theorem yT{T:Fp}{a:aV}{o:HO}(h:hide T H a=some o):T a=0/\H a=some o:=by
 by_cases z:T a=0
 ·rw[zK z]at h;exact⟨z,h⟩
 ·rw[qXo z]at h;cases h
theorem vD{T:Fp}:Same (hide T H) H:=fun _ _ h=>(yT h).2
theorem zH{T T' :Fp}(h:∀a o,T a=0->H a=some o->T' a=0/\H' a=some o):Same (hide T H) (hide T' H'):=fun a o e=>by
 obtain⟨z,q⟩:=yT e;obtain⟨z',q'⟩:=h a o z q;rw[zK z'];exact q'
theorem zS{T T' :Fp}(h:∀a,T a=0->T' a=0):Same (hide T H) (hide T' H):=zH fun a _ z q=>⟨h a z,q⟩
theorem vO{T T' :Fp}(h:∀a,T a=0↔T' a=0):hide T H=hide T' H:=by
 funext a;by_cases z:T a=0
 ·rw[zK z,zK ((h a).mp z)]
 ·rw[qXo z,qXo fun z' =>z ((h a).mpr z')]
theorem vQ1{T:Fp}{p:aV}{o:HO}(h:T p≠0):hide T (upd H p o)=hide T H:=by
 funext a;by_cases z:T a=0
 ·rw[zK z,zK z,qM fun q=>h (by rw[←q];exact z)]
 ·rw[qXo z,qXo z]
noncomputable def Hb:HO->Prop
 |.tup _=>False
 |.frz _ _=>False
 |.tbl _=>False
 |.tab _ _ _=>False
 |.xd _=>False
 |_=>True
theorem yV{K:aQ}{a:aV}{xs:List V}(e:Same H H')(h:SqL K H a xs):SqL K H' a xs:=by
 rcases h with(h|⟨o,h⟩)|h
 ·exact .inl (.inl (e _ _ h))
 ·exact .inl (.inr ⟨o,e _ _ h⟩)
 ·exact .inr h
noncomputable def XdAt(F:Hp)(fs:List Str)(vs:List V):Option aV->Prop
 |none=>fs=[]
 |some dx=>F dx=some (.xd (fs.zip vs))
theorem zKu{F:Hp}(e:Same F F'){p:aV}{u:HO}(h:Rd F p u):Rd F' p u:=h.elim (fun x=>.inl (e _ _ x)) fun⟨o,x⟩=>.inr ⟨o,e _ _ x⟩
noncomputable def NdAt(K:aQ)(c:Nat->aV)(F:Hp)(p:aV):Kd->List V->Prop
 |.lst,vs=>SqL K F p vs
 |.tup,vs=>SqT K F p vs
 |.dct ks,vs=>ks.length=vs.length/\ks.Nodup/\Rd F p (.dK (ks.zip vs))
 |.dcT ks,vs=>ks.length=vs.length/\ks.Nodup/\F p=some (.dT (ks.zip vs))
 |.obj C fs,vs=>fs.length=vs.length/\∃dx,F p=some (.ins (c C) dx (fs.zip vs))
 |.exc C fs,vs=>fs.length=vs.length/\∃ox,F p=some (.ext (ExcD p (.ref (c C)) ox))/\XdAt F fs vs ox
noncomputable def OwAt(c:Nat->aV)(H:Hp)(p:aV):Kd->List V->Prop
 |.lst,vs=>H p=some (.lst vs)
 |.tup,_=>False
 |.dct ks,vs=>ks.length=vs.length/\ks.Nodup/\H p=some (.dK (ks.zip vs))
 |.dcT ks,vs=>ks.length=vs.length/\ks.Nodup/\H p=some (.dT (ks.zip vs))
 |.obj C fs,vs=>fs.length=vs.length/\∃dx,H p=some (.ins (c C) dx (fs.zip vs))
 |.exc _ _,_=>False
section
variable{K:aQ}{c:Nat->aV}{F F' H H' :Hp}{p:aV}{k:Kd}{vs:List V}
theorem NdAt.same(e:Same F F')(h:NdAt K c F p k vs):NdAt K c F' p k vs:=by
 cases k with
 |lst=>exact yV e h
 |tup=>exact e.tup h
 |dct ks=>exact⟨h.1,h.2.1,zKu e h.2.2⟩
 |dcT ks=>exact⟨h.1,h.2.1,e _ _ h.2.2⟩
 |obj C fs=>obtain⟨a,dx,b⟩:=h;exact⟨a,dx,e _ _ b⟩
 | exc C fs=>
   obtain⟨a,ox,b,d⟩:=h;refine⟨a,ox,e _ _ b,?_⟩;cases ox with
   |none=>exact d
   |some dx=>exact e _ _ d
theorem OwAt.nd(h:OwAt c H p k vs)(e:F p=H p):NdAt K c F p k vs:=by
 cases k with
 |lst=>exact SqL.of (e.trans h)
 |tup=>exact h.elim
 |dct ks=>exact⟨h.1,h.2.1,.inl (e.trans h.2.2)⟩
 |dcT ks=>exact⟨h.1,h.2.1,e.trans h.2.2⟩
 |obj C fs=>obtain⟨a,dx,b⟩:=h;exact⟨a,dx,e.trans b⟩
 |exc C fs=>exact h.elim
theorem OwAt.eq(h:OwAt c H p k vs)(e:H' p=H p):OwAt c H' p k vs:=by
 cases k with
 |lst=>exact e.trans h
 |tup=>exact h.elim
 |dct ks=>exact⟨h.1,h.2.1,e.trans h.2.2⟩
 |dcT ks=>exact⟨h.1,h.2.1,e.trans h.2.2⟩
 |obj C fs=>obtain⟨a,dx,b⟩:=h;exact⟨a,dx,e.trans b⟩
 |exc C fs=>exact h.elim
theorem OwAt.hb(h:OwAt c H p k vs):∃o,H p=some o/\Hb o:=by
 cases k with
 |lst=>exact⟨_,h,trivial⟩
 |tup=>exact h.elim
 |dct ks=>exact⟨_,h.2.2,trivial⟩
 |dcT ks=>exact⟨_,h.2.2,trivial⟩
 |obj C fs=>obtain⟨a,dx,b⟩:=h;exact⟨_,b,trivial⟩
 |exc C fs=>exact h.elim
end
inductive DAt(K:aQ)(c:Nat->aV)(F:Hp):V->D->Prop
 |non:DAt K c F .non .non
 |int (i:Int):DAt K c F (.int i) (.int i)
 |str (s:Str):DAt K c F (.str s) (.str s)
 |bl (b:Bool):DAt K c F (.bl b) (.bl b)
 |fn (j:Nat):DAt K c F (.ref (c j)) (.fn j)
 |nd {p:aV} {k:Kd} {vs:List V} {ds:List D} (h:NdAt K c F p k vs) (len:vs.length=ds.length) (r:∀(i:Nat) (v:V) (d:D),vs[i]?=some v->ds[i]?=some d->DAt K c F v d):DAt K c F (.ref p) (.nd k ds)
structure DsAt(K:aQ)(c:Nat->aV)(F:Hp)(vs:List V)(ds:List D):Prop where
 len:vs.length=ds.length
 r:∀(i:Nat) (v:V) (d:D),vs[i]?=some v->ds[i]?=some d->DAt K c F v d
section
variable{K:aQ}{c:Nat->aV}{F F' :Hp}
theorem DAt.un{k:Kd}{ds:List D}(h:DAt K c F v (.nd k ds)):∃p vs,v=.ref p/\NdAt K c F p k vs/\DsAt K c F vs ds:=by
 cases h with
 |nd h l r=>exact⟨_,_,rfl,h,l,r⟩
theorem DAt.of{p:aV}{k:Kd}{ds:List D}(h:NdAt K c F p k vs)(r:DsAt K c F vs ds):DAt K c F (.ref p) (.nd k ds):=.nd h r.len r.r
theorem DAt.same(e:Same F F'){d:D}(h:DAt K c F v d):DAt K c F' v d:=by
 induction h with
 |non=>exact .non
 |int i=>exact .int i
 |str i=>exact .str i
 |bl i=>exact .bl i
 |fn i=>exact .fn i
 |nd h l r ih=>exact .nd (h.same e) l ih
theorem DsAt.same(e:Same F F'){ds:List D}(h:DsAt K c F vs ds):DsAt K c F' vs ds:=⟨h.len,fun i v d a b=>(h.r i v d a b).same e⟩
theorem DsAt.nil:DsAt K c F [] []:=⟨rfl,fun i v d h _=>by simp at h⟩
theorem DsAt.cons{d:D}{ds:List D}(h:DAt K c F v d)(k:DsAt K c F vs ds):DsAt K c F (v::vs) (d::ds):=by
 refine⟨by rw[aY,aY,k.len],fun i u x a b=>?_⟩;cases i with
 |zero=>grind
 |succ i=>exact k.r i u x (by simpa using a) (by simpa using b)
theorem DsAt.un{d:D}{ds:List D}(h:DsAt K c F vs (d::ds)):∃v r,vs=v::r/\DAt K c F v d/\DsAt K c F r ds:=by
 cases vs with
 |nil=>cases h.len
 |cons v r=>exact⟨v,r,rfl,h.r 0 v d rfl rfl,Nat.succ.inj h.len,fun i u x a b=>h.r (i+1) u x (by simpa using a) (by simpa using b)⟩
theorem DsAt.un0(h:DsAt K c F vs []):vs=[]:=dM h.len
theorem DsAt.get{ds:List D}{d:D}(h:DsAt K c F vs ds)(e:ds[i]?=some d):∃v,vs[i]?=some v/\DAt K c F v d:=by
 have hi:i<vs.length:=by rw[h.len];exact(aB.mp e).1
 exact⟨vs[i],aO hi,h.r i _ d (aO hi) e⟩
theorem DsAt.append{ws:List V}{ds es:List D}(h:DsAt K c F vs ds)(k:DsAt K c F ws es):DsAt K c F (vs ++ ws) (ds ++ es):=by
 refine⟨by rw[aW,aW,h.len,k.len],fun i v d a b=>?_⟩;by_cases hi:i<vs.length
 ·rw [cC hi] at a;rw[cC (by rw[←h.len];exact hi)]at b;exact h.r i v d a b
 ·rw [cS (by omega)] at a;rw[cS (by rw[←h.len];omega),←h.len]at b;exact k.r _ v d a b
theorem DsAt.take{ds:List D}(n:Nat)(h:DsAt K c F vs ds):DsAt K c F (vs.take n) (ds.take n):=by
 refine⟨by rw[dG,dG,h.len],fun i v d a b=>?_⟩;rw[List.getElem?_take]at a b;split at a
 ·rename_i z;rw[if_pos z]at b;exact h.r i v d a b
 ·cases a
theorem DsAt.drop{ds:List D}(n:Nat)(h:DsAt K c F vs ds):DsAt K c F (vs.drop n) (ds.drop n):=by
 refine⟨by rw[cY,cY,h.len],fun i v d a b=>?_⟩;rw[List.getElem?_drop]at a b;exact h.r _ v d a b
end
mutual
def OAt(K:aQ)(c:Nat->aV)(F H:Hp):O->V->Fp->Prop
 |.fz d,v,Z=>DAt K c F v d/\∀a,Z a=0
 |.ow k os,v,Z=>∃p vs Z',v=.ref p/\OwAt c H p k vs/\OsAt K c F H os vs Z' /\∀a,Z a=one p a+Z' a
def OsAt(K:aQ)(c:Nat->aV)(F H:Hp):List O->List V->Fp->Prop
 |[],vs,Z=>vs=[]/\∀a,Z a=0
 |o::os,vs,Z=>∃v r Z1 Z2,vs=v::r/\OAt K c F H o v Z1/\OsAt K c F H os r Z2/\∀a,Z a=Z1 a+Z2 a
end
mutual
def fzO:O->D
 |.fz d=>d
 |.ow k os=>.nd k (fzOs os)
def fzOs:List O->List D
 |[]=> []
 |o::os=>fzO o::fzOs os
end
theorem vQ3:∀os:List O,fzOs os=os.map fzO
 |[]=>by simp[fzOs]
 |o::os=>by rw[fzOs,bJ,vQ3 os]
section
variable{K:aQ}{c:Nat->aV}{F F' H H' :Hp}{v:V}{vs:List V}{Z Z' :Fp}{d:D}{k:Kd}{os:List O}{o:O}
theorem OAt.fz:OAt K c F H (.fz d) v Z↔DAt K c F v d/\∀a,Z a=0:=by rw[OAt]
theorem OAt.ow:OAt K c F H (.ow k os) v Z↔∃p vs Z',v=.ref p/\OwAt c H p k vs/\OsAt K c F H os vs Z' /\∀a,Z a=one p a+Z' a:=by rw[OAt]
theorem OsAt.nil:OsAt K c F H [] vs Z↔vs=[]/\∀a,Z a=0:=by rw[OsAt]
theorem OsAt.cons:OsAt K c F H (o::os) vs Z↔∃v r Z1 Z2,vs=v::r/\OAt K c F H o v Z1/\OsAt K c F H os r Z2/\∀a,Z a=Z1 a+Z2 a:=by rw[OsAt]
mutual
theorem OAt.keepM(e:∀v d,DAt K c F v d->DAt K c F' v d):∀{o:O} {v:V} {Z:Fp},(∀a,Z a≠0->H' a=H a)->OAt K c F H o v Z->OAt K c F' H' o v Z
 | .fz d,v,Z,_,h=>by
   rw[OAt.fz]at h⊢;exact⟨e _ _ h.1,h.2⟩
 | .ow k os,v,Z,q,h=>by
   rw[OAt.ow]at h⊢;obtain⟨p,vs,Z',a,b,c,d⟩:=h;exact⟨p,vs,Z',a,b.eq (q p (by rw[d,wG];omega)),OsAt.keepM e (fun a z=>q a (by rw[d];omega)) c,d⟩
theorem OsAt.keepM(e:∀v d,DAt K c F v d->DAt K c F' v d):∀{os:List O} {vs:List V} {Z:Fp},(∀a,Z a≠0->H' a=H a)->OsAt K c F H os vs Z->OsAt K c F' H' os vs Z
 |[],vs,Z,_,h=>by rw[OsAt.nil]at h⊢;exact h
 | o::os,vs,Z,q,h=>by
   rw[OsAt.cons]at h⊢;obtain⟨v,r,Z1,Z2,a,b,c,d⟩:=h;exact⟨v,r,Z1,Z2,a,OAt.keepM e (fun a z=>q a (by rw[d];omega)) b,OsAt.keepM e (fun a z=>q a (by rw[d];omega)) c,d⟩
end
theorem OAt.keep(e:Same F F'){o:O}(q:∀a,Z a≠0->H' a=H a)(h:OAt K c F H o v Z):OAt K c F' H' o v Z:=OAt.keepM (fun _ _ h=>h.same e) q h
theorem OsAt.keep(e:Same F F'){os:List O}(q:∀a,Z a≠0->H' a=H a)(h:OsAt K c F H os vs Z):OsAt K c F' H' os vs Z:=OsAt.keepM (fun _ _ h=>h.same e) q h
mutual
theorem OAt.dat(e:Same F F'):∀{o:O} {v:V} {Z:Fp},(∀a,Z a≠0->F' a=H a)->OAt K c F H o v Z->DAt K c F' v (fzO o)
 | .fz d,v,Z,_,h=>by
   rw[OAt.fz]at h;rw[fzO];exact h.1.same e
 | .ow k os,v,Z,q,h=>by
   rw[OAt.ow]at h;obtain⟨p,vs,Z',rfl,b,c,d⟩:=h;rw[fzO];exact .of (b.nd (q p (by rw[d,wG];omega))) (OsAt.dat e (fun a z=>q a (by rw[d];omega)) c)
theorem OsAt.dat(e:Same F F'):∀{os:List O} {vs:List V} {Z:Fp},(∀a,Z a≠0->F' a=H a)->OsAt K c F H os vs Z->DsAt K c F' vs (fzOs os)
 |[],vs,Z,_,h=>by rw[OsAt.nil]at h;rw[h.1,fzOs];exact .nil
 | o::os,vs,Z,q,h=>by
   rw[OsAt.cons]at h;obtain⟨v,r,Z1,Z2,rfl,b,c,d⟩:=h;rw[fzOs];exact .cons (OAt.dat e (fun a z=>q a (by rw[d];omega)) b) (OsAt.dat e (fun a z=>q a (by rw[d];omega)) c)
end
mutual
theorem OAt.hb:∀{o:O} {v:V} {Z:Fp} {a:aV},OAt K c F H o v Z->Z a≠0->∃u,H a=some u/\Hb u
 |.fz d,v,Z,a,h,q=>by rw[OAt.fz]at h;exact absurd (h.2 a) q
 | .ow k os,v,Z,a,h,q=>by
   rw[OAt.ow]at h;obtain⟨p,vs,Z',rfl,b,c,d⟩:=h;by_cases z:a=p
   ·subst z;exact b.hb
   ·exact OsAt.hb c (by rw[d,xE z]at q;omega)
theorem OsAt.hb:∀{os:List O} {vs:List V} {Z:Fp} {a:aV},OsAt K c F H os vs Z->Z a≠0->∃u,H a=some u/\Hb u
 |[],vs,Z,a,h,q=>by rw[OsAt.nil]at h;exact absurd (h.2 a) q
 | o::os,vs,Z,a,h,q=>by
   rw[OsAt.cons]at h;obtain⟨v,r,Z1,Z2,rfl,b,c,d⟩:=h;by_cases z:Z1 a=0
   ·exact OsAt.hb c (by rw[d]at q;omega)
   ·exact OAt.hb b z
end
theorem OAt.cast(h:OAt K c F H o v Z)(e:∀a,Z' a=Z a):OAt K c F H o v Z' :=by rw[show Z' =Z from funext e];exact h
theorem OsAt.length:∀{os:List O} {vs:List V} {Z:Fp},OsAt K c F H os vs Z->vs.length=os.length
 |[],vs,Z,h=>by rw[OsAt.nil]at h;rw[h.1];rfl
 | o::os,vs,Z,h=>by
   obtain⟨v,r,Z1,Z2,rfl,b,c,d⟩:=h;rw[aY,aY,c.length]
theorem OsAt.fzs:∀{ds:List D} {vs:List V} {Z:Fp},OsAt K c F H (ds.map .fz) vs Z↔DsAt K c F vs ds/\∀a,Z a=0
 | [],vs,Z=>by
   rw[List.map_nil,OsAt.nil];exact⟨fun h=>⟨by rw[h.1];exact .nil,h.2⟩,fun h=>⟨h.1.un0,h.2⟩⟩
 | d::ds,vs,Z=>by
   rw[bJ,OsAt.cons];constructor
   ·rintro⟨v,r,Z1,Z2,rfl,b,c,d⟩;rw[OAt.fz]at b;rw[OsAt.fzs]at c;exact⟨.cons b.1 c.1,fun a=>by rw[d,b.2,c.2]⟩
   ·rintro⟨h,z⟩;obtain⟨v,r,rfl,b,c⟩:=h.un;exact⟨v,r,fun _=>0,fun _=>0,rfl,OAt.fz.mpr ⟨b,fun _=>rfl⟩,OsAt.fzs.mpr ⟨c,fun _=>rfl⟩,fun a=>z a⟩
theorem OsAt.focus:∀{os:List O} {vs:List V} {Z:Fp} {j:Nat} {o:O},OsAt K c F H os vs Z->os[j]?=some o->∃(v:V) (Z1 R:Fp),vs[j]?=some v/\OAt K c F H o v Z1/\(∀a,Z a=Z1 a+R a)/\
  ∀F' H' o' v' Z1',Same F F' ->(∀a,R a≠0->H' a=H a)->OAt K c F' H' o' v' Z1' ->OsAt K c F' H' (os.set j o') (vs.set j v') (fun a=>Z1' a+R a)
 |[],vs,Z,j,o,h,e=>by simp at e
 | o1::os,vs,Z,0,o,h,e=>by
   rw[OsAt.cons]at h;obtain⟨v,r,Z1,Z2,rfl,b,c,d⟩:=h;cases e;refine⟨v,Z1,Z2,rfl,b,d,fun F' H' o' v' Z1' sm k q=>?_⟩;rw[List.set_cons_zero,List.set_cons_zero,OsAt.cons];exact⟨v',r,Z1',Z2,rfl,q,c.keep sm k,fun _=>rfl⟩
 | o1::os,vs,Z,j + 1,o,h,e=>by
   rw[OsAt.cons]at h;obtain⟨v,r,Z1,Z2,rfl,b,c,d⟩:=h;obtain⟨w,Y,R,h1,h2,h3,h4⟩:=OsAt.focus (j:=j) c (by simpa using e);refine⟨w,Y,fun a=>Z1 a+R a,by simpa using h1,h2,fun a=>by rw[d,h3];(try dsimp only at *);omega,fun F' H' o' v' Z1' sm k q=>?_⟩;rw[List.set_cons_succ,List.set_cons_succ,OsAt.cons];exact⟨v,r.set j v',Z1,_,rfl,b.keep sm fun a z=>k a (by(try dsimp only at *);omega),h4 F' H' o' v' Z1' sm (fun a z=>k a (by(try dsimp only at *);omega)) q,fun a=>by(try dsimp only at *);omega⟩
theorem OsAt.append:∀{os:List O} {vs:List V} {Z:Fp} {os' :List O} {vs' :List V} {Z' :Fp},OsAt K c F H os vs Z->OsAt K c F H os' vs' Z' ->OsAt K c F H (os ++ os') (vs ++ vs') (fun a=>Z a+Z' a)
 | [],vs,Z,os',vs',Z',h,k=>by
   rw[OsAt.nil]at h;simp_all
 | o::os,vs,Z,os',vs',Z',h,k=>by
   obtain⟨v,r,Z1,Z2,rfl,b,c,d⟩:=h;rw[cW,cW,OsAt.cons];exact⟨v,r ++ vs',Z1,_,rfl,b,c.append k,fun a=>by rw[d];(try dsimp only at *);omega⟩
theorem OsAt.one:OsAt K c F H [o] [v] Z↔OAt K c F H o v Z:=by
 constructor
 ·rintro⟨v',r,Z1,Z2,e,b,c,d⟩;cases e;exact b.cast fun a=>by rw[d,c.2];omega
 ·intro h;exact⟨v,[],Z,fun _=>0,rfl,h,OsAt.nil.mpr ⟨rfl,fun _=>rfl⟩,fun a=>by(try dsimp only at *);omega⟩
end
def getP:O->List Nat->Option O
 |o,[]=>some o
 | .ow _ os,j::π=>match os[j]? with
   |some o=>getP o π
   |none=>none
 |.fz _,_::_=>none
def setP:O->List Nat->O->O
 |_,[],x=>x
 | .ow k os,j::π,x=> .ow k (match os[j]? with
   |some o=>os.set j (setP o π x)
   |none=>os)
 |.fz d,_::_,_=>.fz d
noncomputable def kids:HO->List V
 |.lst vs=>vs
 |.dK ws=>ws.map (·.2)
 |.dT ws=>ws.map (·.2)
 |.ins _ _ fs=>fs.map (·.2)
 |_=> []
noncomputable def walk(H:Hp):V->List Nat->Option V
 |v,[]=>some v
 | .ref p,j::π=>match H p with
   | some o=>match(kids o)[j]? with
     |some v=>walk H v π
     |none=>none
   |none=>none
 |_,_::_=>none
theorem qZ4:∀{ks:List α} {vs:List β},ks.length=vs.length->(ks.zip vs).map (·.2)=vs
 |[],[],_=>rfl
 |k::ks,v::vs,h=>by rw[dW,bJ,qZ4 (Nat.succ.inj h)]
 |[],_::_,h=>by cases h
 |_::_,[],h=>by cases h
theorem OwAt.kids{p:aV}{k:Kd}(h:OwAt c H p k vs):∃o,H p=some o/\kids o=vs:=by
 cases k with
 |lst=>exact⟨_,h,rfl⟩
 |tup=>exact h.elim
 |dct ks=>exact⟨_,h.2.2,qZ4 h.1⟩
 |dcT ks=>exact⟨_,h.2.2,qZ4 h.1⟩
 |obj C fs=>obtain⟨a,dx,b⟩:=h;exact⟨_,b,qZ4 a⟩
 |exc C fs=>exact h.elim
theorem qQp{l:List α}{x:α}(h:l[j]?=some x):l.set j x=l:=by
 apply List.ext_getElem?;intro i;rw[List.getElem?_set];split
 ·rename_i e;subst e;have:=(aB.mp h).1;rw[if_pos this,h]
 ·rfl
theorem qYj{p:aV}{o:HO}(h:H p=some o)(e:(kids o)[j]?=some v):walk H (.ref p) (j::π)=walk H v π:=by
 simp only[walk,h,e]
section
variable{K:aQ}{c:Nat->aV}{F F' H H' :Hp}
theorem OAt.focus:∀{π:List Nat} {o o1:O} {v:V} {Z:Fp},OAt K c F H o v Z->getP o π=some o1->∃(v1:V) (Z1 R:Fp),walk H v π=some v1/\OAt K c F H o1 v1 Z1/\(∀a,Z a=Z1 a+R a)/\
  ∀F' H' o1' Z1',Same F F' ->(∀a,R a≠0->H' a=H a)->OAt K c F' H' o1' v1 Z1' ->OAt K c F' H' (setP o π o1') v (fun a=>Z1' a+R a)
 | [],o,o1,v,Z,h,e=>by
   cases e;refine⟨v,Z,fun _=>0,by cases v <;> rfl,h,fun a=>rfl,fun F' H' o1' Z1' sm k q=>?_⟩;exact q.cast fun _=>rfl
 |j::π,.fz d,o1,v,Z,h,e=>by cases e
 | j::π, .ow k os,o1,v,Z,h,e=>by
   simp only[getP]at e;cases e0:os[j]? with
   |none=>rw[e0]at e;cases e
   | some o=>
     rw[e0]at e;obtain⟨p,vs,Z',rfl,b,cc,d⟩:=h;obtain⟨w,Y,R,h1,h2,h3,h4⟩:=cc.focus e0;obtain⟨v1,Z1,R1,g1,g2,g3,g4⟩:=OAt.focus h2 e;obtain⟨ho,k1,k2⟩:=b.kids;refine⟨v1,Z1,fun a=>one p a+R a+R1 a,by rw[qYj k1 (by rw[k2];exact h1)];exact g1,g2,fun a=>by rw[d,h3,g3];(try dsimp only at *);omega,fun F' H' o1' Z1' sm k q=>?_⟩;have q2:=g4 F' H' o1' Z1' sm (fun a z=>k a (by(try dsimp only at *);omega)) q;have q3:=h4 F' H' _ w _ sm (fun a z=>k a (by(try dsimp only at *);omega)) q2;rw[qQp h1]at q3;simp only[setP,e0];rw[OAt.ow];exact⟨p,vs,_,rfl,b.eq (k p (by dsimp only;rw[wG];omega)),q3,fun a=>by(try dsimp only at *);omega⟩
end
inductive Slot where
 |un|s (io:Bool) (o:O)
noncomputable abbrev Ev:=List Slot
noncomputable def wQ(K:aQ)(c:Nat->aV)(F H:Hp):Slot->Option V->Fp->Prop
 |.un,_,Z=>∀a,Z a=0
 |.s _ o,some v,Z=>OAt K c F H o v Z
 |.s _ _,none,_=>False
def lamQ:Str:="next_out.<locals>.<lambda>"
noncomputable def TabF(c:Nat->aV)(F:Hp):Prop:=c 77≠0->F (c 77)=some (.tab (c 78) (c 79) lamQ)
theorem TabF.same{F:Hp}(h:TabF c F)(e:Same F F'):TabF c F' :=fun z=>e _ _ (h z)
noncomputable def SlAt(K:aQ)(c:Nat->aV)(F H:Hp):Ev->L2.St->Fp->Prop
 |[],σ,Z=>(σ=[]/\TabF c F)/\∀a,Z a=0
 |s::env,σ,Z=>∃x r Z1 Z2,σ=x::r/\wQ K c F H s x Z1/\SlAt K c F H env r Z2/\∀a,Z a=Z1 a+Z2 a
section
variable{K:aQ}{c:Nat->aV}{F F' H H' :Hp}
theorem wQ.keepM(e:∀v d,DAt K c F v d->DAt K c F' v d){s:Slot}{x:Option V}(q:∀a,Z a≠0->H' a=H a)(h:wQ K c F H s x Z):wQ K c F' H' s x Z:=by
 cases s with
 |un=>exact h
 | s io o=>
   cases x with
   |none=>exact h.elim
   |some v=>exact OAt.keepM e q h
theorem wQ.keep(e:Same F F'){s:Slot}{x:Option V}(q:∀a,Z a≠0->H' a=H a)(h:wQ K c F H s x Z):wQ K c F' H' s x Z:=h.keepM (fun _ _ h=>h.same e) q
theorem SlAt.cast{Z':Fp}(h:SlAt K c F H env σ Z)(e:∀a,Z' a=Z a):SlAt K c F H env σ Z' :=by rw[show Z' =Z from funext e];exact h
theorem wQ.hb{s:Slot}{x:Option V}{a:aV}(h:wQ K c F H s x Z)(q:Z a≠0):∃u,H a=some u/\Hb u:=by
 cases s with
 |un=>exact absurd (h a) q
 | s io o=>
   cases x with
   |none=>exact h.elim
   |some v=>exact OAt.hb h q
theorem SlAt.keepM(e:∀v d,DAt K c F v d->DAt K c F' v d)(t:TabF c F->TabF c F'):∀{env:Ev} {σ:L2.St} {Z:Fp},(∀a,Z a≠0->H' a=H a)->SlAt K c F H env σ Z->SlAt K c F' H' env σ Z
 |[],_,_,_,h=>⟨⟨h.1.1,t h.1.2⟩,h.2⟩
 | s::env,σ,Z,q,h=>by
   obtain⟨x,r,Z1,Z2,a,b,cc,d⟩:=h;exact⟨x,r,Z1,Z2,a,b.keepM e fun a z=>q a (by rw[d];omega),cc.keepM e t fun a z=>q a (by rw[d];omega),d⟩
theorem SlAt.keep(e:Same F F')(q:∀a,Z a≠0->H' a=H a)(h:SlAt K c F H env σ Z):SlAt K c F' H' env σ Z:=h.keepM (fun _ _ h=>h.same e) (fun t=>t.same e) q
theorem SlAt.hb:∀{env:Ev} {σ:L2.St} {Z:Fp} {a:aV},SlAt K c F H env σ Z->Z a≠0->∃u,H a=some u/\Hb u
 |[],_,_,a,h,q=>absurd (h.2 a) q
 | s::env,σ,Z,a,h,q=>by
   obtain⟨x,r,Z1,Z2,_,b,cc,d⟩:=h;by_cases z:Z1 a=0
   ·exact SlAt.hb cc (by rw[d]at q;omega)
   ·exact b.hb z
theorem SlAt.tab:∀{env:Ev} {σ:L2.St} {Z:Fp},SlAt K c F H env σ Z->TabF c F
 |[],_,_,h=>h.1.2
 | _::_,_,_,h=>by
   obtain⟨_,_,_,_,_,_,cc,_⟩:=h;exact cc.tab
theorem SlAt.len:∀{env:Ev} {σ:L2.St} {Z:Fp},SlAt K c F H env σ Z->env.length=σ.length
 |[],_,_,h=>by rw[h.1.1];rfl
 | s::env,σ,Z,h=>by
   obtain⟨x,r,Z1,Z2,rfl,b,cc,d⟩:=h;rw[aY,aY,cc.len]
theorem SlAt.focus:∀{env:Ev} {σ:L2.St} {Z:Fp} {i:Nat} {s:Slot},SlAt K c F H env σ Z->env[i]?=some s->∃(x:Option V) (Z1 R:Fp),σ[i]?=some x/\wQ K c F H s x Z1/\(∀a,Z a=Z1 a+R a)/\
  ∀(F' H' :Hp) (s' :Slot) (x' :Option V) (Z1' Y:Fp),Same F F' ->(∀a,R a≠0->H' a=H a)->wQ K c F' H' s' x' Z1' ->(∀a,Y a=Z1' a+R a)->SlAt K c F' H' (env.set i s') (σ.set i x') Y
 |[],_,_,i,s,h,e=>by simp at e
 | s1::env,σ,Z,0,s,h,e=>by
   obtain⟨x,r,Z1,Z2,rfl,b,cc,d⟩:=h;cases e;exact⟨x,Z1,Z2,rfl,b,d,fun F' H' s' x' Z1' Y sm k q y=>⟨x',r,Z1',Z2,rfl,q,cc.keep sm k,y⟩⟩
 | s1::env,σ,Z,i + 1,s,h,e=>by
   obtain⟨x,r,Z1,Z2,rfl,b,cc,d⟩:=h;obtain⟨y,Y,R,h1,h2,h3,h4⟩:=SlAt.focus (i:=i) cc (by simpa using e);refine⟨y,Y,fun a=>Z1 a+R a,by simpa using h1,h2,fun a=>by rw[d,h3];dsimp only;omega,fun F' H' s' x' Z1' Y' sm k q y' =>?_⟩;dsimp only at k y';exact⟨x,r.set i x',Z1,fun a=>Z1' a+R a,rfl,b.keep sm fun a z=>k a (by omega),h4 F' H' s' x' Z1' _ sm (fun a z=>k a (by omega)) q (fun _=>rfl),fun a=>by rw[y'];dsimp only;omega⟩
end
noncomputable abbrev hd2(B W:Fp):Fp:=fun a=>B a+W a
structure Cf(K:aQ)(c:Nat->aV)(env:Ev)(σ:L2.St)(H:Hp)(B W:Fp):Prop where
 at_:SlAt K c (hide (hd2 B W) H) H env σ W
 nd:∀a,B a+W a<=1
 hb:∀a,B a≠0->∃o,H a=some o/\Hb o
def pinF(f:Str):Bool:= !(decide (f="place") || decide (f="slots") || decide (f="terms") || decide (f="top") || decide (f="bottom"))
def Pin(x y:Option HO):Prop:=match x with
 |some (.ins C dx fs)=>∃fs',y=some (.ins C dx fs')/\∀(j:Nat) f v,pinF f=true->fs[j]?=some (f,v)->fs'[j]?=some (f,v)
 |_=>True
theorem Pin.refl{x:Option HO}:Pin x x:=by
 unfold Pin;split
 ·exact⟨_,rfl,fun _ _ _ _ h=>h⟩
 ·trivial
theorem Pin.of{x:Option HO}(h:y=x):Pin x y:=by subst h;exact .refl
theorem Pin.trans{x z:Option HO}(a:Pin x y)(b:Pin y z):Pin x z:=by
 unfold Pin at a⊢;split
 ·obtain⟨fs1,rfl,h1⟩:=a;obtain⟨fs2,rfl,h2⟩:=b;grind
 ·trivial
theorem Pin.none:Pin none y:=trivial
structure Step(env:Ev)(σ:L2.St)(H:Hp)(B W:Fp)(env' :Ev)(σ' :L2.St)(H' :Hp)(V:Fp):Prop where
 same:Same (hide (hd2 B W) H) (hide (hd2 B V) H')
 by_:∀a,B a≠0->H' a=H a
 new:∀a,V a≠0->W a≠0\/H a=none
 dom:∀a,H' a=none->H a=none
 pin:∀a,W a≠0->V a≠0->Pin (H a) (H' a)
 io:∀(i:Nat) (o:O),env'[i]?=some (.s true o)->(∃o0,env[i]?=some (.s true o0))/\σ'[i]?=σ[i]?
 len:env'.length=env.length
section
variable{K:aQ}{c:Nat->aV}{env env' env2:Ev}{σ σ' σ2:L2.St}{H H' H2:Hp}{B W Y Y2 Z:Fp}
theorem Step.refl:Step env σ H B W env σ H W:=⟨Same.refl _,fun _ _=>rfl,fun _ h=>.inl h,fun _ h=>h,fun _ _ _=>.refl,fun _ o h=>⟨⟨o,h⟩,rfl⟩,rfl⟩
theorem Step.trans(a:Step env σ H B W env' σ' H' Y)(b:Step env' σ' H' B Y env2 σ2 H2 Y2):Step env σ H B W env2 σ2 H2 Y2:=by
 refine⟨a.same.trans b.same,fun z h=>(b.by_ z h).trans (a.by_ z h),fun z h=>?_,fun z h=>a.dom z (b.dom z h),fun z h1 h2=>?_,fun i o h=>?_,b.len.trans a.len⟩
 ·rcases b.new z h with q | q
  ·exact a.new z q
  ·exact .inr (a.dom z q)
 ·rcases b.new z h2 with q | q
  ·exact(a.pin z h1 q).trans (b.pin z q h2)
  ·rw[a.dom z q];exact .none
 ·obtain⟨⟨o1,h1⟩,e1⟩:=b.io i o h;obtain⟨q,e2⟩:=a.io i o1 h1;exact⟨q,e1.trans e2⟩
theorem Step.lift(b:Step env σ H B' W env' σ' H' Y)(h1:∀a,B' a=B a+Z a)(h2:∀a,W' a=W a+Z a)(h3:∀a,Y' a=Y a+Z a):Step env σ H B W' env' σ' H' Y' :=by
 refine⟨?_,fun a h=>b.by_ a (by rw[h1];omega),fun a h=>?_,b.dom,fun a p q=>?_,b.io,b.len⟩
 ·have e1:hide (hd2 B W') H=hide (hd2 B' W) H:=vO fun a=>by dsimp only [hd2];rw [h1,h2];omega
  have e2:hide (hd2 B Y') H' =hide (hd2 B' Y) H' :=vO fun a=>by dsimp only[hd2];rw[h1,h3];omega
  rw[e1,e2];exact b.same
 ·by_cases z:Y a=0
  ·exact .inl (by rw[h3]at h;rw[h2];omega)
  ·rcases b.new a z with q | q
   ·exact .inl (by rw[h2];omega)
   ·exact .inr q
 ·by_cases z:Z a=0
  ·exact b.pin a (by rw[h2]at p;omega) (by rw[h3]at q;omega)
  ·exact .of (b.by_ a (by rw[h1];omega))
theorem Step.cast(b:Step env σ H B W env' σ' H' Y)(h1:∀a,B' a=B a)(h2:∀a,W' a=W a)(h3:∀a,Y' a=Y a):Step env σ H B' W' env' σ' H' Y' :=by
 rw[show B' =B from funext h1,show W' =W from funext h2,show Y' =Y from funext h3];exact b
theorem Cf.cast(b:Cf K c env σ H B W)(h1:∀a,B' a=B a)(h2:∀a,W' a=W a):Cf K c env σ H B' W' :=by
 rw[show B' =B from funext h1,show W' =W from funext h2];exact b
theorem Cf.hbs(h:Cf K c env σ H B W){a:aV}(q:B a+W a≠0):∃o,H a=some o/\Hb o:=by
 by_cases z:B a=0
 ·exact h.at_.hb (by omega)
 ·exact h.hb a z
theorem Cf.fresh(h:Cf K c env σ H B W){a:aV}(q:H a=none):B a=0/\W a=0:=by
 have:B a+W a=0:=by
  by_cases z:B a+W a=0
  ·exact z
  ·obtain⟨o,e,_⟩:=h.hbs z;rw[q]at e;cases e
 omega
theorem Cf.grow(h:Cf K c env σ H B W)(e:Same H H'):Cf K c env σ H' B W:=by
 have st:∀a,B a+W a≠0->H' a=H a:=fun a z=>by obtain⟨o,q,_⟩:=h.hbs z;rw[q,e a o q]
 exact⟨h.at_.keep (zH fun a o z q=>⟨z,e a o q⟩) fun a z=>st a (by omega),h.nd,fun a z=>by rw[st a (by omega)];exact h.hb a z⟩
theorem Step.grow(h:Cf K c env σ H B W)(e:Same H H'):Step env σ H B W env σ H' W:=by
 have st:∀a,B a+W a≠0->H' a=H a:=fun a z=>by obtain⟨o,q,_⟩:=h.hbs z;rw[q,e a o q]
 refine⟨zH fun a o z q=>⟨z,e a o q⟩,fun a z=>st a (by omega),fun _ z=>.inl z,fun a z=>?_,fun a z _=>.of (st a (by omega)),fun _ o h=>⟨⟨o,h⟩,rfl⟩,rfl⟩;cases q:H a with
 |none=>rfl
 |some o=>rw[e a o q]at z;cases z
theorem Cf.focus(h:Cf K c env σ H B W){s:Slot}(e:env[i]?=some s):∃(x:Option V) (Z1 R:Fp),σ[i]?=some x/\wQ K c (hide (hd2 B W) H) H s x Z1/\(∀a,W a=Z1 a+R a)/\
  ∀(H' :Hp) (B' W' :Fp) (s' :Slot) (x' :Option V) (Z1' :Fp),Same (hide (hd2 B W) H) (hide (hd2 B' W') H')->(∀a,W' a=Z1' a+R a)->(∀a,R a≠0->H' a=H a)->wQ K c (hide (hd2 B' W') H') H' s' x' Z1' ->
   (∀a,B' a+W' a<=1)->(∀a,B' a≠0->∃o,H' a=some o/\Hb o)->Cf K c (env.set i s') (σ.set i x') H' B' W' :=by
 obtain⟨x,Z1,R,h1,h2,h3,h4⟩:=h.at_.focus e;exact⟨x,Z1,R,h1,h2,h3,fun H' B' W' s' x' Z1' sm hw k q nd hb=>⟨h4 _ H' s' x' Z1' W' sm k q hw,nd,hb⟩⟩
end
def getE(env:Ev)(i:Nat)(π:List Nat):Option O:=match env[i]? with
 |some (.s _ o)=>getP o π
 |_=>none
def setE(env:Ev)(i:Nat)(π:List Nat)(x:O):Ev:=match env[i]? with
 |some (.s io o)=>env.set i (.s io (setP o π x))
 |_=>env
noncomputable def vT(H:Hp)(σ:L2.St)(i:Nat)(π:List Nat):Option V:=match σ[i]? with
 |some (some v)=>walk H v π
 |_=>none
section
variable{K:aQ}{c:Nat->aV}{env env' env2:Ev}{σ σ' σ2:L2.St}{H H' H2:Hp}{B W Y Y2 Z:Fp}{i:Nat}{π:List Nat}{o1:O}
theorem qKu{x:O}{o:O}(h:(setE env i π x)[j]?=some (.s true o)):∃o0,env[j]?=some (.s true o0):=by
 unfold setE at h;split at h
 ·rename_i io o' e;by_cases z:i=j
  ·subst z;rw[dO (aB.mp e).1]at h;cases h;exact⟨_,e⟩
  ·rw [bY z] at h;exact⟨o,h⟩
 ·exact⟨o,h⟩
theorem qXv{x:O}:(setE env i π x).length =env.length:=by
 unfold setE;split
 ·exact cV
 ·rfl
theorem Cf.place(h:Cf K c env σ H B W)(e:getE env i π=some o1):∃(v1:V) (Z1 R:Fp),vT H σ i π=some v1/\OAt K c (hide (hd2 B W) H) H o1 v1 Z1/\(∀a,W a=Z1 a+R a)/\
  ∀(H' :Hp) (B' W' :Fp) (o1' :O) (Z1' :Fp),Same (hide (hd2 B W) H) (hide (hd2 B' W') H')->(∀a,W' a=Z1' a+R a)->(∀a,R a≠0->H' a=H a)->OAt K c (hide (hd2 B' W') H') H' o1' v1 Z1' ->
   (∀a,B' a+W' a<=1)->(∀a,B' a≠0->∃o,H' a=some o/\Hb o)->Cf K c (setE env i π o1') σ H' B' W' :=by
 unfold getE at e;split at e
 ·rename_i io o e0;obtain⟨x,Z0,R0,h1,h2,h3,h4⟩:=h.focus e0;cases x with
  |none=>exact h2.elim
  | some v=>
    obtain⟨v1,Z1,R1,g1,g2,g3,g4⟩:=OAt.focus h2 e;refine⟨v1,Z1,fun a=>R1 a+R0 a,by unfold vT;rw[h1];exact g1,g2,fun a=>by rw[h3,g3];dsimp only;omega,fun H' B' W' o1' Z1' sm hw k q nd hb=>?_⟩;dsimp only at hw k;have q2:=g4 _ H' o1' Z1' sm (fun a z=>k a (by omega)) q;have q3:=h4 H' B' W' (.s io (setP o π o1')) (some v) _ sm (fun a=>by rw[hw];(try dsimp only);omega) (fun a z=>k a (by omega)) q2 nd hb;rw[qQp h1]at q3;unfold setE;rw[e0];exact q3
 ·cases e
theorem Cf.freeze(h:Cf K c env σ H B W)(e:getE env i π=some o1):∃v1 W',vT H σ i π=some v1/\Cf K c (setE env i π (.fz (fzO o1))) σ H B W' /\DAt K c (hide (hd2 B W') H) v1 (fzO o1)/\Step env σ H B W (setE env i π (.fz (fzO o1))) σ H W' :=by
 obtain⟨v1,Z1,R,h1,h2,h3,h4⟩:=h.place e;have sm:Same (hide (hd2 B W) H) (hide (hd2 B R) H):=zS fun a z=>by dsimp only[hd2]at *;rw[h3]at z;omega
 have hd:DAt K c (hide (hd2 B R) H) v1 (fzO o1):=h2.dat sm fun a z=>zK (by have:=h.nd a;rw[h3]at this;dsimp only[hd2];omega)
 refine⟨v1,R,h1,h4 H B R _ (fun _=>0) sm (fun a=>by(try dsimp only);omega) (fun _ _=>rfl) (OAt.fz.mpr ⟨hd,fun _=>rfl⟩) (fun a=>by have:=h.nd a;rw[h3]at this;omega) h.hb,hd,?_⟩;exact⟨sm,fun _ _=>rfl,fun a z=>.inl (by rw[h3];omega),fun _ z=>z,fun _ _ _=>.refl,fun j o q=>⟨qKu q,rfl⟩,qXv⟩
theorem Cf.view(h:Cf K c env σ H B W)(e:getE env i π=some o1):∃v1,vT H σ i π=some v1/\DAt K c H v1 (fzO o1):=by
 obtain⟨v1,Z1,R,h1,h2,h3,h4⟩:=h.place e;exact⟨v1,h1,h2.dat vD fun _ _=>rfl⟩
theorem Cf.put{u:V}{o:O}(h:Cf K c env σ H B' W)(hB:∀a,B' a=B a+Z a)(ho:OAt K c (hide (hd2 B' W) H) H o u Z)(hi:i<env.length):∃W',Cf K c (env.set i (.s io o)) (σ.set i (some u)) H B W' /\Same (hide (hd2 B' W) H) (hide (hd2 B W') H)/\∀a,W' a≠0->Z a+W a≠0:=by
 obtain⟨x,Z1,R,h1,h2,h3,h4⟩:=h.focus (aO hi);have sm:Same (hide (hd2 B' W) H) (hide (hd2 B fun a=>Z a+R a) H):=zS fun a z=>by dsimp only[hd2]at *;rw[h3,hB]at z;omega
 refine⟨fun a=>Z a+R a,h4 H B _ (.s io o) (some u) Z sm (fun _=>rfl) (fun _ _=>rfl) (ho.keep sm fun _ _=>rfl) (fun a=>?_) (fun a z=>h.hb a (by rw[hB];omega)),sm,fun a z=>?_⟩
 ·have:=h.nd a;rw[h3,hB]at this;(try dsimp only);omega
 ·dsimp only at z;rw[h3];omega
end
inductive Res(α:Type) where
 |ok (a:α)|er (C:Nat) (fs:List (Str×D))|no
def Res.bind{α β:Type}(x:Res α)(f:α->Res β):Res β:=match x with
 |.ok a=>f a
 |.er C fs=>.er C fs
 |.no =>.no
noncomputable def Res.wp{α:Type}(x:Res α)(Q:α->Prop)(E:Nat->List (Str×D)->Prop):Prop:=match x with
 |.ok a=>Q a
 |.er C fs=>E C fs
 |.no =>False
def opt{α:Type}:Option α->Res α
 |some a=>.ok a
 |none=>.no
theorem qP{f:α->Res β}{Q:β->Prop}{E:Nat->List (Str×D)->Prop}:∀{x:Res α},(x.bind f).wp Q E↔x.wp (fun a=>(f a).wp Q E) E
 |.ok _=>Iff.rfl
 |.er _ _=>Iff.rfl
 |.no =>Iff.rfl
theorem wp_mono{Q Q' :α->Prop}{E E' :Nat->List (Str×D)->Prop}(hQ:∀a,Q a->Q' a)(hE:∀C fs,E C fs->E' C fs):∀{x:Res α},x.wp Q E->x.wp Q' E'
 |.ok a,h=>hQ a h
 |.er C fs,h=>hE C fs h
 |.no,h=>h.elim
theorem qH{f:α->Res β}{Q:β->Prop}{E:Nat->List (Str×D)->Prop}:∀{x:Option α},((opt x).bind f).wp Q E->∃a,x=some a/\(f a).wp Q E
 |some a,h=>⟨a,rfl,h⟩
 |none,h=>h.elim
theorem v6{b:Bool}{x:Res α}{Q:α->Prop}{E:Nat->List (Str×D)->Prop}(h:(cond b x .no).wp Q E):b=true/\x.wp Q E:=by
 cases b with
 |true=>grind
 |false=>exact h.elim
structure StepX(H:Hp)(B W:Fp)(H' :Hp)(Y:Fp):Prop where
 same:Same (hide (hd2 B W) H) (hide (hd2 B Y) H')
 by_:∀a,B a≠0->H' a=H a
 dom:∀a,H' a=none->H a=none
noncomputable def ErAt(K:aQ)(c:Nat->aV)(F H:Hp)(fs:List (Str×D)):Option aV->Prop
 |none=>fs=[]
 |some dx=>∃ws:List (Str×V),H dx=some (.xd ws)/\ws.map (·.1)=fs.map (·.1)/\DsAt K c F (ws.map (·.2)) (fs.map (·.2))
noncomputable def erP(K:aQ)(c:Nat->aV)(E:XK)(H:Hp)(B W:Fp):Nat->List (Str×D)->Prop:=fun C fs=>∀H' Y ox,StepX H B W H' Y->ErAt K c (hide (hd2 B Y) H') H' fs ox->E (.ref (c C)) ox H'
section
variable{K:aQ}{c:Nat->aV}{E:XK}{env env' :Ev}{σ σ' :L2.St}{H H' H2:Hp}{B W Y Y2 Z:Fp}{C:Nat}{fs:List (Str×D)}
theorem Step.x(a:Step env σ H B W env' σ' H' Y)(b:StepX H' B Y H2 Y2):StepX H B W H2 Y2:=⟨a.same.trans b.same,fun z h=>(b.by_ z h).trans (a.by_ z h),fun z h=>a.dom z (b.dom z h)⟩
theorem erP.back(a:Step env σ H B W env' σ' H' Y)(h:erP K c E H B W C fs):erP K c E H' B Y C fs:=fun H2 Y2 ox sx er=>h H2 Y2 ox (a.x sx) er
theorem erP.lift(h1:∀a,B' a=B a+Z a)(h2:∀a,W' a=W a+Z a)(h:erP K c E H B W' C fs):erP K c E H B' W C fs:=fun H2 Y2 ox sx er=>by
 have e1:hide (hd2 B W') H=hide (hd2 B' W) H:=vO fun a=>by dsimp only[hd2];rw[h1,h2];omega
 have e2:hide (hd2 B (hd2 Y2 Z)) H2=hide (hd2 B' Y2) H2:=vO fun a=>by dsimp only[hd2];rw[h1];omega
 exact h H2 (hd2 Y2 Z) ox ⟨by rw[e1,e2];exact sx.same,fun a z=>sx.by_ a (by rw[h1];omega),sx.dom⟩ (by rw[e2];exact er)
end
structure Got(K:aQ)(c:Nat->aV)(env:Ev)(σ:L2.St)(H:Hp)(B W:Fp)(env' :Ev)(H' :Hp)(W' Z:Fp)(o:O)(u:V):Prop where
 st:Step env σ H B W env' σ H' (hd2 W' Z)
 cf:Cf K c env' σ H' (hd2 B Z) W'
 at_:OAt K c (hide (hd2 (hd2 B Z) W') H') H' o u Z
structure GotD(K:aQ)(c:Nat->aV)(env:Ev)(σ:L2.St)(H:Hp)(B W:Fp)(env' :Ev)(H' :Hp)(W' :Fp)(x:D)(u:V):Prop where
 st:Step env σ H B W env' σ H' W'
 cf:Cf K c env' σ H' B W'
 at_:DAt K c (hide (hd2 B W') H') u x
noncomputable abbrev SE:=Ev->Res (O×Ev)
noncomputable abbrev SV:=Ev->Res (D×Ev)
noncomputable def tE(K:aQ)(c:Nat->aV)(E:XK)(s:SE):TE:=fun σ H Q=>∃env B W,Cf K c env σ H B W/\(s env).wp (fun r=>∀u H' W' Z,Got K c env σ H B W r.2 H' W' Z r.1 u->Q u H') (erP K c E H B W)
noncomputable def tV(K:aQ)(c:Nat->aV)(E:XK)(s:SV):TE:=fun σ H Q=>∃env B W,Cf K c env σ H B W/\(s env).wp (fun r=>∀u H' W',GotD K c env σ H B W r.2 H' W' r.1 u->Q u H') (erP K c E H B W)
structure ED(X:Cx)(c:Nat->aV)(E:XK)(e:Expr)(s:SE):Prop where
 h:PE X e (tE X.K c E s)
structure EV(X:Cx)(c:Nat->aV)(E:XK)(e:Expr)(s:SV):Prop where
 h:PE X e (tV X.K c E s)
theorem PE.imp{t t' :TE}(h:PE X e t)(k:∀σ H Q,t' σ H Q->t σ H Q):PE X e t' :=fun pins s σ H Q I q=>h pins s σ H Q I (k σ H Q q)
section
variable{K:aQ}{c:Nat->aV}{E:XK}{env env' env2:Ev}{σ σ' :L2.St}{H H' H2:Hp}{B W W' W2 Y Y2 Z:Fp}{o:O}{u:V}{x:D}
theorem Got.fz(g:Got K c env σ H B W env' H' W' Z o u):GotD K c env σ H B W env' H' W' (fzO o) u:=by
 have sm:Same (hide (hd2 (hd2 B Z) W') H') (hide (hd2 B W') H'):=zS fun a z=>by dsimp only[hd2]at *;omega
 have sm2:Same (hide (hd2 B (hd2 W' Z)) H') (hide (hd2 B W') H'):=zS fun a z=>by dsimp only[hd2]at *;omega
 refine⟨⟨g.st.same.trans sm2,g.st.by_,fun a h=>g.st.new a (by dsimp only[hd2];omega),g.st.dom,fun a h1 h2=>g.st.pin a h1 (by dsimp only[hd2];omega),g.st.io,g.st.len⟩,
  ⟨g.cf.at_.keep sm fun _ _=>rfl,fun a=>by have:=g.cf.nd a;dsimp only[hd2]at this;omega,fun a h=>g.cf.hb a (by dsimp only[hd2];omega)⟩,g.at_.dat sm fun a h=>zK ?_⟩
 have:=g.cf.nd a;dsimp only[hd2]at *;omega
theorem GotD.own(g:GotD K c env σ H B W env' H' W' x u):Got K c env σ H B W env' H' W' (fun _=>0) (.fz x) u:=by
 refine⟨g.st.cast (fun _=>rfl) (fun _=>rfl) fun _=>rfl,g.cf.cast (fun _=>rfl) fun _=>rfl,OAt.fz.mpr ⟨?_,fun _=>rfl⟩⟩;exact g.at_
end
section
variable{X:Cx}{c:Nat->aV}{E:XK}{e:Expr}
def fzS(s:SE):SV:=fun env=>(s env).bind fun r=>.ok (fzO r.1,r.2)
def owS(s:SV):SE:=fun env=>(s env).bind fun r=>.ok (.fz r.1,r.2)
theorem ev_e{s:SE}(h:ED X c E e s):EV X c E e (fzS s):=by
 refine⟨PE.imp h.h fun σ H Q=>?_⟩;rintro⟨env,B,W,cf,w⟩;exact⟨env,B,W,cf,wp_mono (fun r q u H' W' Z g=>q u H' W' g.fz) (fun _ _ q=>q) (qP.mp w)⟩
theorem ed_v{s:SV}(h:EV X c E e s):ED X c E e (owS s):=by
 refine⟨PE.imp h.h fun σ H Q=>?_⟩;rintro⟨env,B,W,cf,w⟩;exact⟨env,B,W,cf,wp_mono (fun r q u H' W' g=>q u H' W' _ g.own) (fun _ _ q=>q) (qP.mp w)⟩
end
inductive Hn where
 |d (x:D)|p (i:Nat) (π:List Nat)
noncomputable abbrev SP:=Ev->Option Hn
def HnAt(K:aQ)(c:Nat->aV)(F:Hp)(σ:L2.St)(H:Hp)(u:V):Hn->Prop
 |.d x=>DAt K c F u x
 |.p i π=>vT H σ i π=some u
noncomputable def tP(K:aQ)(c:Nat->aV)(s:SP):TE:=fun σ H Q=>∃env B W h,Cf K c env σ H B W/\s env=some h/\∀u,HnAt K c (hide (hd2 B W) H) σ H u h->Q u H
structure EP(X:Cx)(c:Nat->aV)(e:Expr)(s:SP):Prop where
 h:PE X e (tP X.K c s)
def hnO(o:O)(i:Nat)(π:List Nat):Hn:=match o with
 |.fz d=>.d d
 |.ow _ _=>.p i π
def hnV(env:Ev):Hn->Res (D×Ev)
 |.d x=>.ok (x,env)
 |.p i π=>(opt (getE env i π)).bind fun o=>.ok (fzO o,setE env i π (.fz (fzO o)))
def pV(s:SP):SV:=fun env=>(opt (s env)).bind (hnV env)
theorem vYk{K:aQ}{u:V}{Q:D×Ev->Prop}{EE:Nat->List (Str×D)->Prop}(cf:Cf K c env σ H B W)(hu:HnAt K c (hide (hd2 B W) H) σ H u h)(w:(hnV env h).wp Q EE):
  ∃x env' W',GotD K c env σ H B W env' H W' x u/\Q (x,env'):=by
 cases h with
 |d x=>exact⟨x,env,W,⟨.refl,cf,hu⟩,w⟩
 | p i π=>
   obtain⟨o,e1,w1⟩:=qH w;obtain⟨v1,W',h1,h2,h3,h4⟩:=cf.freeze e1;have:vT H σ i π=some u:=hu;rw[this]at h1;cases h1;exact⟨_,_,W',⟨h4,h2,h3⟩,w1⟩
theorem ev_p{s:SP}(h:EP X c e s):EV X c E e (pV s):=by
 refine⟨PE.imp h.h fun σ H Q=>?_⟩;rintro⟨env,B,W,cf,w⟩;obtain⟨h1,e0,w1⟩:=qH w;refine⟨env,B,W,h1,cf,e0,fun u hu=>?_⟩;obtain⟨x,env',W',g,q⟩:=vYk cf hu w1;grind
def rsv(env:Ev):Hn->Option D
 |.d x=>some x
 | .p i π=>match getE env i π with
   |some o=>some (fzO o)
   |none=>none
theorem jO{K:aQ}{u:V}{x:D}(cf:Cf K c env σ H B W)(hu:HnAt K c (hide (hd2 B W) H) σ H u h)(e:rsv env h=some x):DAt K c H u x:=by
 cases h with
 |d y=>cases e;exact DAt.same vD hu
 | p i π=>
   simp only[rsv]at e;cases e0:getE env i π with
   |none=>grind
   | some o=>
     rw[e0]at e;cases e;obtain⟨v1,h1,h2⟩:=cf.view e0;have:vT H σ i π=some u:=hu;grind
inductive Vw(K:aQ)(c:Nat->aV)(F H:Hp):V->D->Prop
 |d {u:V} {x:D} (h:DAt K c F u x):Vw K c F H u x
 |nd {p:aV} {k:Kd} {vs:List V} {ds:List D} (h:NdAt K c H p k vs) (r:DsAt K c F vs ds):Vw K c F H (.ref p) (.nd k ds)
section
variable{K:aQ}{c:Nat->aV}{F F' H H' :Hp}{u:V}{x:D}
theorem Vw.un{k:Kd}{ds:List D}(s:Same F H)(h:Vw K c F H u (.nd k ds)):∃p vs,u=.ref p/\NdAt K c H p k vs/\DsAt K c F vs ds:=by
 generalize e:D.nd k ds=y at h;cases h with
 | d h=>
   subst e;obtain⟨p,vs,a,b,cc⟩:=h.un;exact⟨p,vs,a,b.same s,cc⟩
 |nd h r=>cases e;exact⟨_,_,rfl,h,r⟩
theorem Vw.same(s:Same F F')(h:Vw K c F H u x):Vw K c F' H u x:=by
 cases h with
 |d h=>exact .d (h.same s)
 |nd h r=>exact .nd h (r.same s)
theorem Vw.dat(s:Same F H)(h:Vw K c F H u x):DAt K c H u x:=by
 cases h with
 |d h=>exact h.same s
 |nd h r=>exact .of h (r.same s)
end
noncomputable def vK1:O->O
 |.fz d=>.fz d
 |.ow k os=>.ow k (os.map fun o=>.fz (fzO o))
noncomputable def rsvB(env:Ev):Hn->Res (D×Ev)
 |.d x=>.ok (x,env)
 |.p i π=>(opt (getE env i π)).bind fun o=>.ok (fzO o,setE env i π (vK1 o))
theorem zQl{K:aQ}{u:V}{Q:D×Ev->Prop}{EE:Nat->List (Str×D)->Prop}(cf:Cf K c env σ H B W)(hu:HnAt K c (hide (hd2 B W) H) σ H u h)(w:(rsvB env h).wp Q EE):
  ∃x env' W',Step env σ H B W env' σ H W' /\Cf K c env' σ H B W' /\Vw K c (hide (hd2 B W') H) H u x/\Q (x,env'):=by
 cases h with
 |d x=>exact⟨x,env,W,.refl,cf,.d hu,w⟩
 | p i π=>
   obtain⟨o,e1,w1⟩:=qH w;obtain⟨v1,Z1,R,h1,h2,h3,h4⟩:=cf.place e1;have:vT H σ i π=some u:=hu;rw[this]at h1;cases h1;cases o with
   | fz d=>
     have q:=h4 H B W (.fz d) Z1 (Same.refl _) h3 (fun _ _=>rfl) (OAt.fz.mpr h2) cf.nd cf.hb;exact⟨d,_,W,⟨Same.refl _,fun _ _=>rfl,fun _ z=>.inl z,fun _ z=>z,fun _ _ _=>.refl,fun j o z=>⟨qKu z,rfl⟩,qXv⟩,q,.d h2.1,w1⟩
   | ow k os=>
     obtain⟨p,vs,Z',rfl,b,cc,d⟩:=h2;have lo:∀a,Z' a≠0->B a+(one p a+R a)=0:=fun a z=>by have:=cf.nd a;rw[h3,d]at this;omega
     have sm:Same (hide (hd2 B W) H) (hide (hd2 B fun a=>one p a+R a) H):=zS fun a z=>by dsimp only[hd2]at *;rw[h3,d]at z;omega
     have kd:DsAt K c (hide (hd2 B fun a=>one p a+R a) H) vs (fzOs os):=cc.dat sm fun a z=>zK (lo a z)
     have q:=h4 H B (fun a=>one p a+R a) (.ow k (os.map fun o=>.fz (fzO o))) (one p) sm (fun _=>rfl) (fun _ _=>rfl)
      (OAt.ow.mpr ⟨p,vs,fun _=>0,rfl,b,by rw[show(os.map fun o=>O.fz (fzO o))=(fzOs os).map .fz by rw[vQ3,bZ];rfl,OsAt.fzs];exact⟨kd,fun _=>rfl⟩,fun _=>rfl⟩) (fun a=>by have:=cf.nd a;rw[h3,d]at this;(try dsimp only);omega) cf.hb
     refine⟨_,_,_,⟨sm,fun _ _=>rfl,fun a z=>.inl ?_,fun _ z=>z,fun _ _ _=>.refl,fun j o z=>⟨qKu z,rfl⟩,qXv⟩,q,?_,w1⟩
     ·grind
     ·exact .nd (b.nd rfl) kd
inductive Oe where
 |p (s:SP)|v (s:SV)
def Oe.isP:Oe->Bool
 |.p _=>true
 |.v _=>false
def Hn.st:Hn->Bool
 |.d _=>true
 |.p _ π=>π.isEmpty
def oV:Oe->SV
 |.p s=>pV s
 |.v s=>s
def evO:Oe->Ev->Res (Hn×Ev)
 |.p s,env=>(opt (s env)).bind fun h=>.ok (h,env)
 |.v s,env=>(s env).bind fun r=>.ok (.d r.1,r.2)
noncomputable def tO(K:aQ)(c:Nat->aV)(E:XK):Oe->TE
 |.p s=>tP K c s
 |.v s=>tV K c E s
structure OD(X:Cx)(c:Nat->aV)(E:XK)(e:Expr)(o:Oe):Prop where
 h:PE X e (tO X.K c E o)
structure GotH(K:aQ)(c:Nat->aV)(env:Ev)(σ:L2.St)(H:Hp)(B W:Fp)(o:Oe)(env' :Ev)(H' :Hp)(W' :Fp)(h:Hn)(u:V):Prop where
 st:Step env σ H B W env' σ H' W'
 cf:Cf K c env' σ H' B W'
 at_:HnAt K c (hide (hd2 B W') H') σ H' u h
 pu:o.isP=true->H' =H/\W' =W/\env' =env
noncomputable def xY(K:aQ)(c:Nat->aV)(F:Hp)(σ:L2.St)(H:Hp):List V->List Hn->Prop
 |[],[]=>True
 |u::us,h::hs=>HnAt K c F σ H u h/\xY K c F σ H us hs
 |_,_=>False
section
variable{K:aQ}{c:Nat->aV}{E:XK}{env env' env2:Ev}{σ σ' :L2.St}{H H' H2:Hp}{B W W' W2 Y Y2 Z:Fp}{o:Oe}{h:Hn}{u:V}{x:D}{Q:VK}
theorem x8{w:Hn×Ev->Prop}(cf:Cf K c env σ H B W)(hw:(evO o env).wp w (erP K c E H B W))(k:∀r,w r->∀u H' W',GotH K c env σ H B W o r.2 H' W' r.1 u->Q u H'):tO K c E o σ H Q:=by
 cases o with
 | p s=>
   obtain⟨h1,e0,w1⟩:=qH hw;exact⟨env,B,W,h1,cf,e0,fun u hu=>k _ w1 u H W ⟨.refl,cf,hu,fun _=>⟨rfl,rfl,rfl⟩⟩⟩
 |v s=>exact⟨env,B,W,cf,wp_mono (fun r q u H' W' g=>k _ q u H' W' ⟨g.st,g.cf,g.at_,fun z=>by cases z⟩) (fun _ _ q=>q) (qP.mp hw)⟩
theorem HnAt.step(a:HnAt K c (hide (hd2 B W) H) σ H u h)(g:Same (hide (hd2 B W) H) (hide (hd2 B W') H'))(hs:h.st=true):HnAt K c (hide (hd2 B W') H') σ H' u h:=by
 cases h with
 |d x=>exact DAt.same g a
 | p i π=>
   cases π with
   | nil=>
     have a' :vT H σ i []=some u:=a;show vT H' σ i []=some u;unfold vT at a' ⊢;cases e:σ[i]? with
     |none=>rw[e]at a';cases a'
     | some v=>
       rw[e]at a';cases v with
       |none=>cases a'
       |some v=>simpa[walk] using a'
   |cons j π=>cases hs
theorem GotH.next{o2:Oe}{h2:Hn}{u2:V}(a:GotH K c env σ H B W o env' H' W' h u)(b:GotH K c env' σ H' B W' o2 env2 H2 W2 h2 u2)(hs:(h.st || o2.isP)=true):HnAt K c (hide (hd2 B W2) H2) σ H2 u h:=by
 cases e:h.st with
 |true=>exact a.at_.step b.st.same e
 | false=>
   rw[e]at hs;obtain⟨e1,e2,_⟩:=b.pu (by simpa using hs);subst e1 e2;exact a.at_
end
section
variable{X:Cx}{c:Nat->aV}{E:XK}{e a b:Expr}{o oa ob:Oe}
theorem od_v{s:SV}(h:EV X c E e s):OD X c E e (.v s):=⟨h.h⟩
theorem od_e{s:SE}(h:ED X c E e s):OD X c E e (.v (fzS s)):=⟨(ev_e h).h⟩
theorem OD.val(h:OD X c E e o):EV X c E e (oV o):=by
 cases o with
 |p s=>exact ev_p ⟨h.h⟩
 |v s=>exact⟨h.h⟩
theorem OD.ow(h:OD X c E e o):ED X c E e (owS (oV o)):=ed_v h.val
end
def oC(d:D):Oe:=.p fun _=>some (.d d)
def qXb(i:Nat):SP:=fun env=>match env[i]? with
 |some (.s _ o)=>some (hnO o i [])
 |_=>none
def oN(i:Nat):Oe:=.p (qXb i)
section
variable{X:Cx}{c:Nat->aV}{E:XK}{e:Expr}{pos:Pos}
theorem od_c{d:D}(h:PE X e (tC v))(k:∀F,DAt X.K c F v d):OD X c E e (oC d):=by
 refine⟨PE.imp h fun σ H Q=>?_⟩;rintro⟨env,B,W,h1,cf,e0,q⟩;cases e0;exact q v (k _)
theorem qX{i:Int}:OD X c E (.Constant (.int i) j pos) (oC (.int i)):=od_c jJ4 fun _=>.int i
theorem qJ{x:Str}:OD X c E (.Constant (.str x) j pos) (oC (.str x)):=od_c vYd fun _=>.str x
theorem qVj{x:Bool}:OD X c E (.Constant (.bool x) j pos) (oC (.bl x)):=od_c jYa fun _=>.bl x
theorem zWx{K:aQ}{F:Hp}{o:O}{u:V}(h:OAt K c F H o u Z)(w:vT H σ i π=some u):HnAt K c F σ H u (hnO o i π):=by
 cases o with
 |fz d=>rw[OAt.fz]at h;exact h.1
 |ow k os=>exact w
theorem qQ(h:PE X e (tVar i)):OD X c E e (oN i):=by
 refine⟨PE.imp h fun σ H Q=>?_⟩;rintro⟨env,B,W,h1,cf,e0,q⟩;simp only[qXb]at e0;cases e1:env[i]? with
 |none=>grind
 | some s=>
   rw[e1]at e0;cases s with
   |un=>cases e0
   | s io o=>
     cases e0;obtain⟨x,Z1,R,h1,h2,h3,h4⟩:=cf.focus e1;cases x with
     |none=>exact h2.elim
     |some v=>exact⟨v,h1,q v (zWx h2 (by unfold vT;rw[h1];simp[walk]))⟩
end
noncomputable def PrS1(K:aQ)(c:Nat->aV)(r:V->Hp->VK->Prop)(f:D->Option D):Prop:=∀(u:V) (H:Hp) (x z:D) (Q:VK),DAt K c H u x->f x=some z->(∀v,(∀F,DAt K c F v z)->Q v H)->r u H Q
noncomputable def PrS2(K:aQ)(c:Nat->aV)(r:R2)(f:D->D->Option D):Prop:=∀(u w:V) (H:Hp) (x y z:D) (Q:VK),DAt K c H u x->DAt K c H w y->f x y=some z->(∀v,(∀F,DAt K c F v z)->Q v H)->r u w H Q
noncomputable def sp1(f:D->Option D)(a:SP):SP:=fun env=>(a env).bind fun h=>(rsv env h).bind fun x=>(f x).bind fun z=>some (.d z)
noncomputable def sv1(f:D->Option D)(a:Oe):SV:=fun env=>(evO a env).bind fun r=>(opt (rsv r.2 r.1)).bind fun x=>(opt (f x)).bind fun z=>.ok (z,r.2)
noncomputable def o1(f:D->Option D):Oe->Oe
 |.p s=>.p (sp1 f s)
 |a=>.v (sv1 f a)
def sp2(f:D->D->Option D)(a b:SP):SP:=fun env=>(a env).bind fun h=>(b env).bind fun h' =>(rsv env h).bind fun x=>(rsv env h').bind fun y=>(f x y).bind fun z=>some (.d z)
def sv2(f:D->D->Option D)(a b:Oe):SV:=fun env=>(evO a env).bind fun r=>(evO b r.2).bind fun r' =>cond (r.1.st || b.isP) ((opt (rsv r'.2 r.1)).bind fun x=>(opt (rsv r'.2 r'.1)).bind fun y=>(opt (f x y)).bind fun z=>.ok (z,r'.2)) .no
def o2(f:D->D->Option D)(a b:Oe):Oe:=match a,b with
 |.p s,.p t=>.p (sp2 f s t)
 |a,b=>.v (sv2 f a b)
section
variable{X:Cx}{K:aQ}{c:Nat->aV}{E:XK}{e a b:Expr}{pos:Pos}{oa ob:Oe}
theorem bnd{x:Option α}{f:α->Option β}{b:β}(h:x.bind f=some b):∃a,x=some a/\f a=some b:=Option.bind_eq_some_iff.mp h
theorem vKs{r:V->Hp->VK->Prop}{f:D->Option D}(hp:PrS1 K c r f)(h:tO K c E (o1 f oa) σ H Q):tUn r (tO K c E oa) σ H Q:=by
 cases oa with
 | p s=>
   obtain⟨env,B,W,h1,cf,e0,q⟩:=h;obtain⟨ha,e1,e2⟩:=bnd e0;obtain⟨x,e3,e4⟩:=bnd e2;obtain⟨z,e5,e6⟩:=bnd e4;cases e6;exact⟨env,B,W,ha,cf,e1,fun u hu=>hp u H x z Q (jO cf hu e3) e5 fun v hv=>q v (hv _)⟩
 | v s=>
   obtain⟨env,B,W,cf,w⟩:=h;refine x8 (o:=.v s) cf (qP.mp w) fun r w1 u H' W' g=>?_
   obtain⟨x,e3,w2⟩:=qH w1;obtain⟨z,e5,w3⟩:=qH w2;exact hp u H' x z Q (jO g.cf g.at_ e3) e5 fun v hv=>w3 v H' W' ⟨g.st,g.cf,hv _⟩
theorem zJ5{r:R2}{f:D->D->Option D}(hp:PrS2 K c r f)(h:tV K c E (sv2 f oa ob) σ H Q):tOp r (tO K c E oa) (tO K c E ob) σ H Q:=by
 obtain⟨env,B,W,cf,w⟩:=h;refine x8 cf (qP.mp w) fun r1 w1 u H1 W1 g1=>?_
 refine x8 g1.cf (wp_mono (fun _ q=>q) (fun C fs he=>he.back g1.st) (qP.mp w1)) fun r2 w2 v H2 W2 g2=>?_
 obtain⟨hs,w3⟩:=v6 w2;obtain⟨x,e3,w4⟩:=qH w3;obtain⟨y,e4,w5⟩:=qH w4;obtain⟨z,e5,w6⟩:=qH w5;exact hp u v H2 x y z Q (jO g2.cf (g1.next g2 hs) e3) (jO g2.cf g2.at_ e4) e5 fun v hv=>w6 v H2 W2 ⟨g1.st.trans g2.st,g2.cf,hv _⟩
theorem zJd{r:R2}{f:D->D->Option D}(hp:PrS2 K c r f)(h:tO K c E (o2 f oa ob) σ H Q):tOp r (tO K c E oa) (tO K c E ob) σ H Q:=by
 cases oa with
 |v s=>exact zJ5 hp h
 | p s=>
   cases ob with
   |v t=>exact zJ5 hp h
   | p t=>
     obtain⟨env,B,W,h1,cf,e0,q⟩:=h;obtain⟨ha,e1,e2⟩:=bnd e0;obtain⟨hb,e3,e4⟩:=bnd e2;obtain⟨x,e5,e6⟩:=bnd e4;obtain⟨y,e7,e8⟩:=bnd e6;obtain⟨z,e9,e10⟩:=bnd e8;cases e10;exact⟨env,B,W,ha,cf,e1,fun u hu=>⟨env,B,W,hb,cf,e3,fun w hw=>hp u w H x y z Q (jO cf hu e5) (jO cf hw e7) e9 fun v hv=>q v (hv _)⟩⟩
theorem jYi{op:UnaryOp}{r:V->Hp->VK->Prop}{f:D->Option D}(ho:UnR X (unaryOp op) r)(hp:PrS1 X.K c r f)(ha:OD X c E a oa):OD X c E (.UnaryOp op a pos) (o1 f oa):=
 ⟨PE.imp (jX7 ho ha.h) fun _ _ _ h=>vKs hp h⟩
theorem qY8{r:R2}{f:D->D->Option D}(ho:OpR X (binaryOp op) r)(hp:PrS2 X.K c r f)(ha:OD X c E a oa)(hb:OD X c E b ob):OD X c E (.BinOp a op b pos) (o2 f oa ob):=
 ⟨PE.imp (zJi ho ha.h hb.h) fun _ _ _ h=>zJd hp h⟩
theorem vZ9{op:CmpOp}{r:R2}{f:D->D->Option D}(ho:OpR X (bA op) r)(hp:PrS2 X.K c r f)(ha:OD X c E a oa)(hb:OD X c E b ob)(hm:behindInMarks op b=false):OD X c E (.Compare a [op] [b] pos) (o2 f oa ob):=
 ⟨PE.imp (jQl ho ha.h hb.h hm) fun _ _ _ h=>zJd hp h⟩
end
noncomputable abbrev ST:=Ev->Res (Bool×Ev)
noncomputable def tT(K:aQ)(c:Nat->aV)(E:XK)(s:ST):TT:=fun σ H Q=>∃env B W,Cf K c env σ H B W/\(s env).wp (fun r=>∀H' W',Step env σ H B W r.2 σ H' W' ->Cf K c r.2 σ H' B W' ->Q r.1 H') (erP K c E H B W)
structure TD(X:Cx)(c:Nat->aV)(E:XK)(e:Expr)(s:ST):Prop where
 h:PT X e (tT X.K c E s)
structure WD(X:Cx)(c:Nat->aV)(E:XK)(e:Expr)(s:ST):Prop where
 h:PW X e (tT X.K c E s)
theorem PT.imp{t:TT}(h:PT X e t)(k:∀σ H Q,t' σ H Q->t σ H Q):PT X e t' :=fun pins s σ H Q I q=>h pins s σ H Q I (k σ H Q q)
theorem PW.imp{t:TT}(h:PW X e t)(k:∀σ H Q,t' σ H Q->t σ H Q):PW X e t' :=fun wh pins s σ H Q I q=>h wh pins s σ H Q I (k σ H Q q)
def blOf:D->Option Bool
 |.bl b=>some b
 |_=>none
theorem zVl{K:aQ}{F:Hp}{u:V}{x:D}{b:Bool}(h:DAt K c F u x)(e:blOf x=some b):u=.bl b:=by
 cases h <;> cases e
 rfl
def asB(o:Oe):ST:=fun env=>(oV o env).bind fun r=>(opt (blOf r.1)).bind fun b=>.ok (b,r.2)
theorem vX8{K:aQ}{o:Oe}(h:tV K c E (oV o) σ H Q):tO K c E o σ H Q:=by
 cases o with
 |v s=>exact h
 | p s=>
   obtain⟨env,B,W,cf,w⟩:=h;obtain⟨h1,e0,w1⟩:=qH w;refine⟨env,B,W,h1,cf,e0,fun u hu=>?_⟩;obtain⟨x,env',W',g,q⟩:=vYk cf hu w1;grind
theorem vV0{K:aQ}{o:Oe}{Q:Bool->Hp->Prop}(h:tT K c E (asB o) σ H Q):tO K c E o σ H fun x H1=>∃k,x=.bl k/\Q k H1:=by
 obtain⟨env,B,W,cf,w⟩:=h;refine vX8 ⟨env,B,W,cf,wp_mono (fun r1 h1 u H1 W1 g=>?_) (fun _ _ he=>he) (qP.mp w)⟩;obtain⟨b,e1,h2⟩:=qH h1;exact⟨b,zVl g.at_ e1,h2 H1 W1 g.st g.cf⟩
section
variable{X:Cx}{c:Nat->aV}{E:XK}{e a b d:Expr}{rest:List Expr}{pos:Pos}{sa sb:ST}{oa ob oc:Oe}{o:Oe}
theorem zU(h:OD X c E e o)(he:∀whole,isTrue e X.env whole=(do let v ←whole;standAt e.pos;holding [v] (truthy v)):=by intro _;rfl):TD X c E e (asB o):=
 ⟨PT.imp (jJm h.h he) fun _ _ _ h=>vV0 h⟩
theorem vQc{op:CmpOp}{r:R2}{f:D->D->Option D}(ho:OpR X (bA op) r)(hp:PrS2 X.K c r f)(ha:OD X c E a oa)(hb:OD X c E b ob)(hm:behindInMarks op b=false):TD X c E (.Compare a [op] [b] pos) (asB (o2 f oa ob)):=
 ⟨PT.imp (zK0 ho ha.h hb.h hm) fun _ _ _ h=>zJd hp (vV0 h)⟩
noncomputable def oCh(f f' :D->D->Option D)(oa ob oc:Oe):Oe:=.v fun env=>(evO oa env).bind fun r=>(evO ob r.2).bind fun r' =>cond (r.1.st || ob.isP) ((opt (rsv r'.2 r.1)).bind fun x=>(opt (rsv r'.2 r'.1)).bind fun y=>(opt (f x y)).bind fun z=>(opt (blOf z)).bind fun k=>cond k
 ((evO oc r'.2).bind fun r3=>cond (r'.1.st || oc.isP) ((opt (rsv r3.2 r'.1)).bind fun y=>(opt (rsv r3.2 r3.1)).bind fun w=>(opt (f' y w)).bind fun z=>.ok (z,r3.2)) .no) (.ok (.bl false,r'.2))) .no
theorem zJ4{K:aQ}{r:R2}{f f' :D->D->Option D}(hp:PrS2 K c r f)(hp' :PrS2 K c r' f')(h:tO K c E (oCh f f' oa ob oc) σ H Q):vX9 r r' (tO K c E oa) (tO K c E ob) (tO K c E oc) σ H Q:=by
 obtain⟨env,B,W,cf,w⟩:=h;refine x8 cf (qP.mp w) fun r1 w1 u H1 W1 g1=>?_
 refine x8 g1.cf (wp_mono (fun _ q=>q) (fun C fs he=>he.back g1.st) (qP.mp w1)) fun r2 w2 v H2 W2 g2=>?_
 obtain⟨hs,w3⟩:=v6 w2;obtain⟨x,e3,w4⟩:=qH w3;obtain⟨y,e4,w5⟩:=qH w4;obtain⟨z,e5,w6⟩:=qH w5;obtain⟨k,e6,w7⟩:=qH w6;refine hp u v H2 x y z _ (jO g2.cf (g1.next g2 hs) e3) (jO g2.cf g2.at_ e4) e5 fun t ht=>⟨k,zVl (ht H2) e6,?_⟩
 have st:=g1.st.trans g2.st;cases k with
 |false=>exact w7 _ H2 W2 ⟨st,g2.cf,.bl false⟩
 | true=>
   refine x8 g2.cf (wp_mono (fun _ q=>q) (fun C fs he=>he.back st) (qP.mp w7)) fun r3 w8 t H3 W3 g3=>?_
   obtain⟨hs',w9⟩:=v6 w8;obtain⟨y',e7,w10⟩:=qH w9;obtain⟨w',e8,w11⟩:=qH w10;obtain⟨z',e9,w12⟩:=qH w11;exact hp' v t H3 y' w' z' Q (jO g3.cf (g2.next g3 hs') e7) (jO g3.cf g3.at_ e8) e9 fun v hv=>w12 v H3 W3 ⟨st.trans g3.st,g3.cf,hv _⟩
theorem qZ6{op:CmpOp}{r:R2}{f f' :D->D->Option D}(ho:OpR X (bA op) r)(hp:PrS2 X.K c r f)(ho' :OpR X (bA op') r')(hp' :PrS2 X.K c r' f')(ha:OD X c E a oa)(hb:OD X c E b ob)(hc:OD X c E d oc)(hm:lastMarks [op,op'] [b,d]=false:=by with_unfolding_all rfl):OD X c E (.Compare a [op,op'] [b,d] pos) (oCh f f' oa ob oc):=
 ⟨PE.imp (zX1 ho ho' ha.h hb.h hc.h hm) fun _ _ _ h=>zJ4 hp hp' h⟩
theorem qXu{op:CmpOp}{r:R2}{f f' :D->D->Option D}(ho:OpR X (bA op) r)(hp:PrS2 X.K c r f)(ho' :OpR X (bA op') r')(hp' :PrS2 X.K c r' f')(ha:OD X c E a oa)(hb:OD X c E b ob)(hc:OD X c E d oc)(hm:lastMarks [op,op'] [b,d]=false:=by with_unfolding_all rfl):TD X c E (.Compare a [op,op'] [b,d] pos) (asB (oCh f f' oa ob oc)):=
 ⟨PT.imp (zXv ho ho' ha.h hb.h hc.h hm) fun _ _ _ h=>zJ4 hp hp' (vV0 h)⟩
noncomputable def bAnd(s t:ST):ST:=fun env=>(s env).bind fun r=>cond r.1 (t r.2) (.ok (false,r.2))
def bOr(s t:ST):ST:=fun env=>(s env).bind fun r=>cond r.1 (.ok (true,r.2)) (t r.2)
def bNot(s:ST):ST:=fun env=>(s env).bind fun r=>.ok (!r.1,r.2)
theorem td_w(h:WD X c E e sa):TD X c E e sa:=⟨PW.pt h.h⟩
theorem vJg(h:TD X c E a sa):WD X c E (.BoolOp .And [a] pos) sa:=⟨zKy h.h⟩
theorem qVs(h:TD X c E a sa):WD X c E (.BoolOp .Or [a] pos) sa:=⟨jJk h.h⟩
theorem zQd{K:aQ}{s:ST}{Q:Bool->Hp->Prop}(st:Step env σ H B W env' σ' H' W')(cf:Cf K c env' σ' H' B W')(h:(s env').wp (fun r=>∀H2 W2,Step env σ H B W r.2 σ' H2 W2->Cf K c r.2 σ' H2 B W2->Q r.1 H2) (erP K c E H B W)):tT K c E s σ' H' Q:=
 ⟨env',B,W',cf,wp_mono (fun r q H2 W2 st2 cf2=>q H2 W2 (st.trans st2) cf2) (fun C fs he=>he.back st) h⟩
theorem vZ2(ha:TD X c E a sa)(hb:WD X c E (.BoolOp .And (b::rest) pos) sb):WD X c E (.BoolOp .And (a::b::rest) pos) (bAnd sa sb):=by
 refine⟨PW.imp (jJl ha.h hb.h) fun σ H Q=>?_⟩;rintro⟨env,B,W,cf,w⟩;refine⟨env,B,W,cf,wp_mono (fun r1 h1 H1 W1 st1 cf1=>?_) (fun _ _ he=>he) (qP.mp w)⟩;obtain⟨k,e1⟩:=r1;cases k with
 |false=>exact h1 H1 W1 st1 cf1
 |true=>exact zQd st1 cf1 h1
theorem qZo(ha:TD X c E a sa)(hb:WD X c E (.BoolOp .Or (b::rest) pos) sb):WD X c E (.BoolOp .Or (a::b::rest) pos) (bOr sa sb):=by
 refine⟨PW.imp (jX2 ha.h hb.h) fun σ H Q=>?_⟩;rintro⟨env,B,W,cf,w⟩;refine⟨env,B,W,cf,wp_mono (fun r1 h1 H1 W1 st1 cf1=>?_) (fun _ _ he=>he) (qP.mp w)⟩;obtain⟨k,e1⟩:=r1;cases k with
 |true=>exact h1 H1 W1 st1 cf1
 |false=>exact zQd st1 cf1 h1
theorem qQ8(ha:TD X c E a sa):TD X c E (.UnaryOp .Not a pos) (bNot sa):=by
 refine⟨PT.imp (jJn ha.h) fun σ H Q=>?_⟩;rintro⟨env,B,W,cf,w⟩;exact⟨env,B,W,cf,wp_mono (fun r1 h1=>h1) (fun _ _ he=>he) (qP.mp w)⟩
end
section
variable{X:Cx}{c:Nat->aV}{E:XK}{e a b d:Expr}{rest:List Expr}{pos:Pos}{sa sb:ST}{oa ob oc:Oe}{o:Oe}
def oAnd(s t:Oe):Oe:=.v fun env=>(asB s env).bind fun r=>cond r.1 (oV t r.2) (.ok (.bl false,r.2))
def oOr(s t:Oe):Oe:=.v fun env=>(asB s env).bind fun r=>cond r.1 (.ok (.bl true,r.2)) (oV t r.2)
noncomputable def oNot(s:Oe):Oe:=.v fun env=>(asB s env).bind fun r=>.ok (.bl (!r.1),r.2)
theorem zQc{K:aQ}{s:SV}(st:Step env σ H B W env' σ H' W')(cf:Cf K c env' σ H' B W')(h:(s env').wp (fun r=>∀u H2 W2,GotD K c env σ H B W r.2 H2 W2 r.1 u->Q u H2) (erP K c E H B W)):tV K c E s σ H' Q:=
 ⟨env',B,W',cf,wp_mono (fun r q u H2 W2 g=>q u H2 W2 ⟨st.trans g.st,g.cf,g.at_⟩) (fun C fs he=>he.back st) h⟩
theorem qVb{op}(h:OD X c E a o):OD X c E (.BoolOp op [a] pos) o:=⟨jJ1 h.h⟩
theorem yX(ha:OD X c E a oa)(hb:OD X c E (.BoolOp .And (b::rest) pos) ob):OD X c E (.BoolOp .And (a::b::rest) pos) (oAnd oa ob):=by
 refine⟨PE.imp (jJ6 ha.h hb.h) fun σ H Q=>?_⟩;rintro⟨env,B,W,cf,w⟩;refine vV0 (Q:=fun k H1=>if k=true then tO X.K c E ob σ H1 Q else Q (.bl false) H1) ⟨env,B,W,cf,wp_mono (fun r1 h1 H1 W1 st1 cf1=>?_) (fun _ _ he=>he) (qP.mp w)⟩;obtain⟨k,e1⟩:=r1;cases k with
 |false=>exact h1 _ H1 W1 ⟨st1,cf1,.bl false⟩
 |true=>exact vX8 (zQc st1 cf1 h1)
theorem jYj(ha:OD X c E a oa)(hb:OD X c E (.BoolOp .Or (b::rest) pos) ob):OD X c E (.BoolOp .Or (a::b::rest) pos) (oOr oa ob):=by
 refine⟨PE.imp (jX8 ha.h hb.h) fun σ H Q=>?_⟩;rintro⟨env,B,W,cf,w⟩;refine vV0 (Q:=fun k H1=>if k=true then Q (.bl true) H1 else tO X.K c E ob σ H1 Q) ⟨env,B,W,cf,wp_mono (fun r1 h1 H1 W1 st1 cf1=>?_) (fun _ _ he=>he) (qP.mp w)⟩;obtain⟨k,e1⟩:=r1;cases k with
 |true=>exact h1 _ H1 W1 ⟨st1,cf1,.bl true⟩
 |false=>exact vX8 (zQc st1 cf1 h1)
theorem vQh(ha:OD X c E a oa):OD X c E (.UnaryOp .Not a pos) (oNot oa):=by
 refine⟨PE.imp (jJ2 ha.h) fun σ H Q=>?_⟩;rintro⟨env,B,W,cf,w⟩;exact vV0 (Q:=fun k H1=>Q (.bl (!k)) H1) ⟨env,B,W,cf,wp_mono (fun r1 h1 H1 W1 st1 cf1=>h1 _ H1 W1 ⟨st1,cf1,.bl _⟩) (fun _ _ he=>he) (qP.mp w)⟩
theorem Got.back{K:aQ}{env2:Ev}{H2:Hp}{W2:Fp}{o:O}{u:V}(st:Step env σ H B W env' σ H' W')(g:Got K c env' σ H' B W' env2 H2 W2 Z o u):Got K c env σ H B W env2 H2 W2 Z o u:=⟨st.trans g.st,g.cf,g.at_⟩
end
def fidx(f:Str):List Str->Option Nat
 |[]=>none
 |g::r=>if f=g then some 0 else(fidx f r).map (· + 1)
theorem qV4{f:Str}:∀{fs:List Str} {vs:List V} {j:Nat} {v:V},fidx f fs=some j->vs[j]?=some v->(fs.zip vs).lookup f=some v
 |[],vs,j,v,h,e=>by cases h
 |g::r,[],j,v,h,e=>by simp at e
 | g::r,w::vs,j,v,h,e=>by
   rw[dW];simp only[fidx]at h;by_cases q:f=g
   ·rw [if_pos q] at h;cases h;cases e;rw[List.lookup,show(f == g)=true by rw[q];exact beq_self_eq_true _]
   ·rw [if_neg q] at h;obtain⟨i,h1,rfl⟩:=bL.mp h;rw[List.lookup,show(f == g)=false from beq_eq_false_iff_ne.mpr q];exact qV4 h1 (by simpa using e)
def kidx{κ:Type}[DecidableEq κ](k:κ):List κ->Option Nat
 |[]=>none
 |g::r=>if g=k then some 0 else(kidx k r).map (· + 1)
theorem vQn{k:Key}:∀{ks:List Key} {vs:List V},ks.length=vs.length->valV (ks.zip vs) k=(kidx k ks).bind fun j=>vs[j]?
 |[],[],_=>rfl
 | g::r,w::vs,h=>by
   rw[dW];simp only[kidx];by_cases q:g=k
   ·rw[if_pos q,vQo q];rfl
   ·rw [if_neg q,vQp q,vQn (Nat.succ.inj h)];cases kidx k r with
    |none=>rfl
    |some i=>rfl
 |[],_::_,h=>by cases h
 |_::_,[],h=>by cases h
theorem zQw{κ:Type}[DecidableEq κ]{k:κ}:∀{ks:List κ} {j:Nat},kidx k ks=some j->j<ks.length/\ks[j]?=some k
 |[],j,h=>by cases h
 | g::r,j,h=>by
   simp only[kidx]at h;by_cases q:g=k
   ·rw[if_pos q]at h;cases h;exact⟨Nat.succ_pos _,by rw[q];rfl⟩
   ·rw [if_neg q] at h;obtain⟨i,h1,rfl⟩:=bL.mp h;obtain⟨h2,h3⟩:=zQw h1;exact⟨Nat.succ_lt_succ h2,by simpa using h3⟩
theorem vV7:∀{π:List Nat} {v u w:V} {j:Nat},walk H v π=some u->walk H u [j]=some w->walk H v (π ++ [j])=some w
 | [],v,u,w,j,h,k=>by
   have:v=u:=by cases v <;> simpa[walk] using h
   rw[this];exact k
 | i::π,v,u,w,j,h,k=>by
   cases v with
   | ref p=>
     rw[cW];simp only[walk]at h⊢;cases e:H p with
     |none=>rw[e]at h;cases h
     | some o=>
       rw[e]at h;dsimp only at h⊢;cases e2:(kids o)[i]? with
       |none=>rw[e2]at h;cases h
       | some v=>
         rw[e2]at h;exact vV7 h k
   |_=>cases h
theorem vYs{u w:V}(h:vT H σ i π=some u)(k:walk H u [j]=some w):vT H σ i (π ++ [j])=some w:=by
 unfold vT at h⊢;cases e:σ[i]? with
 |none=>rw[e]at h;cases h
 | some x=>
   rw[e]at h;cases x with
   |none=>cases h
   |some v=>exact vV7 h k
theorem zWr{K:aQ}{F:Hp}{k:Kd}{os:List O}{o:O}{p:aV}(w:vT H σ i π=some (.ref p))(b:OwAt c H p k vs)(r:OsAt K c F H os vs Z)(e:os[j]?=some o):
  ∃v,vs[j]?=some v/\HnAt K c F σ H v (hnO o i (π ++ [j])):=by
 obtain⟨v,Z1,R,h1,h2,h3,h4⟩:=r.focus e;obtain⟨ho,k1,k2⟩:=b.kids;refine⟨v,h1,zWx h2 (vYs w ?_)⟩;rw[qYj k1 (by rw[k2];exact h1)];simp[walk]
def fldD(cs:List Nat)(f:Str):D->Option D
 |.nd (.obj C fs) ds=>cond (cs.contains C) ((fidx f fs).bind fun j=>ds[j]?) none
 |_=>none
def jZr(env:Ev)(cs:List Nat)(f:Str):Hn->Option Hn
 |.d x=>(fldD cs f x).map .d
 | .p i π=>match getE env i π with
   |some (.ow (.obj C fs) os)=>cond (cs.contains C) ((fidx f fs).bind fun j=>(os[j]?).bind fun o=>some (hnO o i (π ++ [j]))) none
   |_=>none
def oFld(cs:List Nat)(f:Str):Oe->Oe
 |.p s=>.p fun env=>(s env).bind (jZr env cs f)
 |.v s=>.v fun env=>(s env).bind fun r=>(opt (fldD cs f r.1)).bind fun x=>.ok (x,r.2)
noncomputable def qZt(K:aQ)(c:Nat->aV)(cs:List Nat)(f:Str):Prop:=∀C∈cs,Cls K (c C)/\qQn K (c C) f
theorem jF{b:Bool}{x:Option α}{y:α}(h:cond b x none=some y):b=true/\x=some y:=by
 grind
theorem qKz{cs:List Nat}(h:cs.contains C=true):C∈cs:=dP.mp h
section
variable{X:Cx}{K:aQ}{c:Nat->aV}{E:XK}{e a b:Expr}{pos:Pos}{o oa ob:Oe}{f:Str}{cs:List Nat}
theorem zVa{F:Hp}{u:V}{x y:D}(ok:qZt K c cs f)(h:DAt K c F u x)(e:fldD cs f x=some y):∃a C dx fs v,u=.ref a/\F a=some (.ins C dx fs)/\Cls K C/\qQn K C f/\fs.lookup f=some v/\DAt K c F v y:=by
 unfold fldD at e;split at e
 ·rename_i C fs ds;obtain⟨q1,q2⟩:=jF e;obtain⟨j,e1,e2⟩:=bnd q2;obtain⟨p,vs,rfl,⟨h1,dx,h2⟩,h3⟩:=h.un;obtain⟨v,g1,g2⟩:=h3.get e2;obtain⟨k1,k2⟩:=ok C (qKz q1);exact⟨p,_,dx,_,v,rfl,h2,k1,k2,qV4 e1 g1,g2⟩
 ·cases e
theorem xF(ok:qZt X.K c cs f)(h:OD X c E e o)(hb:attributeBase e f X.env (eval e X.env)=eval e X.env:=by rfl):OD X c E (.Attribute e f pos) (oFld cs f o):=by
 refine⟨PE.imp (jJ5 h.h hb) fun σ H Q q=>?_⟩;cases o with
 | p s=>
   obtain⟨env,B,W,h1,cf,e0,q⟩:=q;obtain⟨h0,e1,e2⟩:=bnd e0;refine⟨env,B,W,h0,cf,e1,fun u hu=>?_⟩;cases h0 with
   | d x=>
     obtain⟨y,e3,rfl⟩:=bL.mp e2;obtain⟨a,C,dx,fs,v,rfl,r1,r2,r3,r4,r5⟩:=zVa ok hu e3;exact⟨a,C,dx,fs,v,rfl,vD _ _ r1,r2,r3,r4,q v r5⟩
   | p i π=>
     have hu' :vT H σ i π=some u:=hu;simp only[jZr]at e2;cases e3:getE env i π with
     |none=>rw[e3]at e2;cases e2
     | some o1=>
       rw[e3]at e2;cases o1 with
       |fz d=>cases e2
       | ow k os=>
         cases k with
         | obj C fs=>
           obtain⟨q1,q2⟩:=jF e2;obtain⟨j,e4,e5⟩:=bnd q2;obtain⟨o2,e6,e7⟩:=bnd e5;cases e7;obtain⟨v1,Z1,R,w1,w2,w3,w4⟩:=cf.place e3;rw[hu']at w1;cases w1;rw[OAt.ow]at w2;obtain⟨p,vs,Z',rfl,b,cc,d⟩:=w2;obtain⟨v,g1,g2⟩:=zWr hu' b cc e6;obtain⟨b1,dx,b2⟩:=b;obtain⟨k1,k2⟩:=ok C (qKz q1);exact⟨p,_,dx,_,v,rfl,b2,k1,k2,qV4 e4 g1,q v g2⟩
         |_=>cases e2
 | v s=>
   obtain⟨env,B,W,cf,w⟩:=q;refine⟨env,B,W,cf,wp_mono (fun r w1 u H1 W1 g=>?_) (fun _ _ he=>he) (qP.mp w)⟩;obtain⟨y,e3,w2⟩:=qH w1;obtain⟨a,C,dx,fs,v,rfl,r1,r2,r3,r4,r5⟩:=zVa ok g.at_ e3;exact⟨a,C,dx,fs,v,rfl,vD _ _ r1,r2,r3,r4,w2 v H1 W1 ⟨g.st,g.cf,r5⟩⟩
end
def vV4:D->Option Key
 |.int i=>some (.inl i)
 |.str x=>some (.inr x)
 |_=>none
theorem vQy{K:aQ}{F:Hp}{u:V}{x:D}{k:Key}(h:DAt K c F u x)(e:vV4 x=some k):u=kV k:=by
 cases h <;> cases e <;> rfl
def yF:D->Option Int
 |.int i=>some i
 |_=>none
theorem jE{K:aQ}{F:Hp}{u:V}{x:D}{i:Int}(h:DAt K c F u x)(e:yF x=some i):u=.int i:=by
 cases h <;> cases e <;> rfl
def qK6:D->Option Str
 |.str i=>some i
 |_=>none
theorem qQo{K:aQ}{F:Hp}{u:V}{x:D}{i:Str}(h:DAt K c F u x)(e:qK6 x=some i):u=.str i:=by
 cases h <;> cases e <;> rfl
def idxK(n:Nat)(y:D):Kd->Option Nat
 |.lst =>(yF y).bind fun i=>ixN n i
 |.tup =>(yF y).bind fun i=>ixN n i
 |.dct ks=>(vV4 y).bind fun k=>kidx k ks
 |_=>none
def ixD(x y:D):Option D:=match x with
 |.nd k ds=>(idxK ds.length y k).bind fun j=>ds[j]?
 |.str z=>(yF y).bind fun i=>(atI z.cps.toList i).bind fun ch=>cond (decide (z.length<=aM)) (some (.str ⟨#[ch]⟩)) none
 |_=>none
def hnIx(env:Ev)(y:D):Hn->Option Hn
 |.d x=>(ixD x y).map .d
 | .p i π=>match getE env i π with
   |some (.ow k os)=>(idxK os.length y k).bind fun j=>(os[j]?).bind fun o=>some (hnO o i (π ++ [j]))
   |_=>none
def oIx(a b:Oe):Oe:=match a,b with
 |.p s,.p t=>.p fun env=>(s env).bind fun h=>(t env).bind fun h' =>(rsv env h').bind fun y=>hnIx env y h
 |a,b=>.v fun env=>(evO a env).bind fun r=>(evO b r.2).bind fun r' =>cond r.1.st ((opt (rsv r'.2 r'.1)).bind fun y=>(opt (hnIx r'.2 y r.1)).bind fun h=>hnV r'.2 h) .no
noncomputable def rDGet:R2:=fun x y H Q=>∃a v,x=.ref a/\DGet H a y (some v)/\Q v H
theorem jQ4(hu:X.A.units+1<cLine):IxR X rDGet:=by
 intro value slice pins s σ H x y v u Q I rx ry h hs;obtain⟨a,z,rfl,g,q⟩:=h;cases rx;exact tail_any (vX0 I g) PySem.F.slot_dict_getitem.lookup (zZw hu I g ry fun w' s3 I3 rw' =>⟨z,H,I3,rw',q⟩) hs
noncomputable def rIxA(K:aQ):R2:=fun x y H Q=>rIx K x y H Q\/rDGet x y H Q
theorem jW0(hu:X.A.units+1<cLine):IxR X (rIxA X.K):=jWz.or (jQ4 hu)
section
variable{X:Cx}{K:aQ}{c:Nat->aV}{E:XK}{e a b:Expr}{pos:Pos}{o oa ob:Oe}
theorem zW6{xs:List α}{i:Int}{v:α}(h:ixN xs.length i=some j)(e:xs[j]?=some v):atI xs i=some v:=by
 unfold atI;rw[h];exact e
theorem zW3{a:aV}{kvs:List (Key×V)}{k:Key}(e:Rd H a (.dK kvs)):DGet H a (kV k) (valV kvs k):=.inl ⟨kvs,k,e,rfl,rfl⟩
theorem jZn{p:aV}{w:V}{k:Kd}{y:D}(h:NdAt K c H p k vs)(hn:vs.length=n)(hy:DAt K c H w y)(e:idxK n y k=some j)(ev:vs[j]?=some v)(q:Q v H):rIxA K (.ref p) w H Q:=by
 subst hn;cases k with
 | lst=>
   obtain⟨i,e1,e2⟩:=bnd e;exact .inl (.inl ⟨p,vs,i,v,rfl,jE hy e1,h,zW6 e2 ev,q⟩)
 | tup=>
   obtain⟨i,e1,e2⟩:=bnd e;exact .inl (.inr (.inl ⟨p,vs,i,v,rfl,jE hy e1,h,zW6 e2 ev,q⟩))
 | dct ks=>
   obtain⟨k,e1,e2⟩:=bnd e;refine .inr ⟨p,v,rfl,?_,q⟩;rw[vQy hy e1];have:=zW3 (k:=k) h.2.2;rw[vQn h.1,e2]at this;rw[←ev];exact this
 |_=>cases e
theorem jW1{F:Hp}{u w:V}{x y z:D}(s:Same F H)(h:DAt K c F u x)(hy:DAt K c H w y)(e:ixD x y=some z)(q:∀v,DAt K c F v z->Q v H):rIxA K u w H Q:=by
 unfold ixD at e;split at e
 ·obtain⟨j,e1,e2⟩:=bnd e;obtain⟨p,vs,rfl,h1,h2⟩:=h.un;obtain⟨v,g1,g2⟩:=h2.get e2;exact jZn (h1.same s) h2.len hy e1 g1 (q v g2)
 ·rename_i z';obtain⟨i,e1,e2⟩:=bnd e;obtain⟨ch,e3,e4⟩:=bnd e2;obtain⟨q1,q2⟩:=jF e4;cases q2;exact .inl (.inr (.inr ⟨z',i,ch,qQo h rfl,jE hy e1,of_decide_eq_true q1,e3,q _ (.str _)⟩))
 ·cases e
theorem zQ6{h':Hn}{u w:V}{y:D}(cf:Cf K c env σ H B W)(hu:HnAt K c (hide (hd2 B W) H) σ H u h)(hy:DAt K c H w y)(e:hnIx env y h=some h')(q:∀v,HnAt K c (hide (hd2 B W) H) σ H v h' ->Q v H):rIxA K u w H Q:=by
 cases h with
 | d x=>
   obtain⟨z,e1,rfl⟩:=bL.mp e;exact jW1 vD hu hy e1 q
 | p i π=>
   have hu' :vT H σ i π=some u:=hu;simp only[hnIx]at e;cases e3:getE env i π with
   |none=>grind
   | some o1=>
     rw[e3]at e;cases o1 with
     |fz d=>cases e
     | ow k os=>
       obtain⟨j,e4,e5⟩:=bnd e;obtain⟨o2,e6,e7⟩:=bnd e5;cases e7;obtain⟨v1,Z1,R,w1,w2,w3,w4⟩:=cf.place e3;rw[hu']at w1;cases w1;obtain⟨p,vs,Z',rfl,b,cc,d⟩:=w2;obtain⟨v,g1,g2⟩:=zWr hu' b cc e6;exact jZn (b.nd rfl) cc.length hy e4 g1 (q v g2)
theorem zQe(h:tV K c E (fun env=>(evO oa env).bind fun r=>(evO ob r.2).bind fun r' =>cond r.1.st ((opt (rsv r'.2 r'.1)).bind fun y=>(opt (hnIx r'.2 y r.1)).bind fun h=>hnV r'.2 h) .no) σ H Q):tOp (rIxA K) (tO K c E oa) (tO K c E ob) σ H Q:=by
 obtain⟨env,B,W,cf,w⟩:=h;refine x8 cf (qP.mp w) fun r1 w1 u H1 W1 g1=>?_
 refine x8 g1.cf (wp_mono (fun _ q=>q) (fun C fs he=>he.back g1.st) (qP.mp w1)) fun r2 w2 v H2 W2 g2=>?_
 obtain⟨hs,w3⟩:=v6 w2;obtain⟨y,e3,w4⟩:=qH w3;obtain⟨h',e4,w5⟩:=qH w4;refine zQ6 g2.cf (g1.next g2 (by rw[hs];rfl)) (jO g2.cf g2.at_ e3) e4 fun z hz=>?_
 obtain⟨x,env',W',g,q⟩:=vYk g2.cf hz w5;exact q z H2 W' ⟨(g1.st.trans g2.st).trans g.st,g.cf,g.at_⟩
theorem jYk(hu:X.A.units+1<cLine)(ha:OD X c E a oa)(hb:OD X c E b ob)(hs:vJ1 b:=by exact fun _ _=>rfl):OD X c E (.Subscript a b pos) (oIx oa ob):=by
 refine⟨PE.imp (jX9 (jW0 hu) ha.h hb.h hs) fun σ H Q h=>?_⟩;cases oa with
 |v s=>exact zQe h
 | p s=>
   cases ob with
   |v t=>exact zQe h
   | p t=>
     obtain⟨env,B,W,h1,cf,e0,q⟩:=h;obtain⟨h0,e1,e2⟩:=bnd e0;obtain⟨h2,e3,e4⟩:=bnd e2;obtain⟨y,e5,e6⟩:=bnd e4;exact⟨env,B,W,h0,cf,e1,fun u hu=>⟨env,B,W,h2,cf,e3,fun w hw=>zQ6 cf hu (jO cf hw e5) e6 q⟩⟩
end
def evOs:List Oe->Ev->Res (List Hn×Ev)
 |[],env=>.ok ([],env)
 |o::os,env=>(evO o env).bind fun r=>cond (r.1.st || os.all Oe.isP) ((evOs os r.2).bind fun r' =>.ok (r.1::r'.1,r'.2)) .no
noncomputable def tOs(K:aQ)(c:Nat->aV)(E:XK):List Oe->TA
 |[]=>tNil
 |o::os=>qY5 (tO K c E o) (tOs K c E os)
structure OsD(X:Cx)(c:Nat->aV)(E:XK)(es:List Expr)(os:List Oe):Prop where
 h:PA X es (tOs X.K c E os)
theorem qK:OsD X c E [] []:=⟨qVa⟩
theorem qE{es:List Expr}{o:Oe}{os:List Oe}(ha:OD X c E e o)(hr:OsD X c E es os)(hs:aJ (e::es) X.env=(false,eval e X.env)::aJ es X.env:=by rfl):OsD X c E (e::es) (o::os):=⟨wC ha.h hr.h hs⟩
structure GotHs(K:aQ)(c:Nat->aV)(env:Ev)(σ:L2.St)(H:Hp)(B W:Fp)(os:List Oe)(env' :Ev)(H' :Hp)(W' :Fp)(hs:List Hn)(us:List V):Prop where
 st:Step env σ H B W env' σ H' W'
 cf:Cf K c env' σ H' B W'
 at_:xY K c (hide (hd2 B W') H') σ H' us hs
 pu:os.all Oe.isP=true->H' =H/\W' =W/\env' =env
section
variable{K:aQ}{c:Nat->aV}{E:XK}
theorem qZz:∀{os:List Oe} {env:Ev} {σ:L2.St} {H:Hp} {B W:Fp} {Q:List V->Hp->Prop} {w:List Hn×Ev->Prop},Cf K c env σ H B W->(evOs os env).wp w (erP K c E H B W)->(∀r,w r->∀us H' W',GotHs K c env σ H B W os r.2 H' W' r.1 us->Q us H')->tOs K c E os σ H Q
 |[],env,σ,H,B,W,Q,w,cf,hw,k=>k _ hw [] H W ⟨.refl,cf,trivial,fun _=>⟨rfl,rfl,rfl⟩⟩
 | o::os,env,σ,H,B,W,Q,w,cf,hw,k=>by
   refine x8 cf (qP.mp hw) fun r w1 u H1 W1 g1=>?_
   obtain⟨hs,w2⟩:=v6 w1;refine qZz g1.cf (wp_mono (fun _ q=>q) (fun C fs he=>he.back g1.st) (qP.mp w2)) fun r' w3 us H2 W2 g2=>?_
   refine k _ w3 (u::us) H2 W2 ⟨g1.st.trans g2.st,g2.cf,⟨?_,g2.at_⟩,fun z=>?_⟩
   ·cases e:r.1.st with
    |true=>exact g1.at_.step g2.st.same e
    | false=>
      rw[e]at hs;obtain⟨e1,e2,_⟩:=g2.pu (by simpa using hs);rw[e1,e2];exact g1.at_
   ·rw [List.all_cons,aE] at z;obtain⟨a1,a2,a3⟩:=g1.pu z.1;obtain⟨b1,b2,b3⟩:=g2.pu z.2;grind
def rsvs(env:Ev):List Hn->Option (List D)
 |[]=>some []
 |h::hs=>(rsv env h).bind fun x=>(rsvs env hs).bind fun xs=>some (x::xs)
theorem zQk(cf:Cf K c env σ H B W):∀{hs:List Hn} {us:List V} {xs:List D},xY K c (hide (hd2 B W) H) σ H us hs->rsvs env hs=some xs->DsAt K c H us xs
 |[],[],xs,_,e=>by cases e;exact .nil
 | h::hs,u::us,xs,a,e=>by
   obtain⟨x,e1,e2⟩:=bnd e;obtain⟨ys,e3,e4⟩:=bnd e2;cases e4;exact .cons (jO cf a.1 e1) (zQk cf a.2 e3)
 |[],_::_,_,a,_=>a.elim
 |_::_,[],_,a,_=>a.elim
noncomputable def qY7:List Hn->Ev->Res (List D×Ev)
 |[],env=>.ok ([],env)
 |h::hs,env=>(rsvB env h).bind fun r=>(qY7 hs r.2).bind fun r' =>.ok (r.1::r'.1,r'.2)
noncomputable def Vws(K:aQ)(c:Nat->aV)(F H:Hp):List V->List D->Prop
 |[],[]=>True
 |u::us,x::xs=>Vw K c F H u x/\Vws K c F H us xs
 |_,_=>False
theorem HnAt.mono{F:Hp}{u:V}(a:HnAt K c F σ H u h)(s:Same F F'):HnAt K c F' σ H u h:=by
 cases h with
 |d x=>exact DAt.same s a
 |p i π=>exact a
theorem xY.mono{F:Hp}(s:Same F F'):∀{us:List V} {hs:List Hn},xY K c F σ H us hs->xY K c F' σ H us hs
 |[],[],_=>trivial
 |u::us,h::hs,a=>⟨a.1.mono s,xY.mono s a.2⟩
 |[],_::_,a=>a.elim
 |_::_,[],a=>a.elim
theorem rsvBs_wp{EE:Nat->List (Str×D)->Prop}:∀{hs:List Hn} {us:List V} {env:Ev} {σ:L2.St} {H:Hp} {B W:Fp} {Q:List D×Ev->Prop},Cf K c env σ H B W->xY K c (hide (hd2 B W) H) σ H us hs->(qY7 hs env).wp Q EE->
  ∃xs env' W',Step env σ H B W env' σ H W' /\Cf K c env' σ H B W' /\Vws K c (hide (hd2 B W') H) H us xs/\Q (xs,env')
 |[],[],env,σ,H,B,W,Q,cf,_,w=>⟨[],env,W,.refl,cf,trivial,w⟩
 | h::hs,u::us,env,σ,H,B,W,Q,cf,a,w=>by
   obtain⟨x,env1,W1,st1,cf1,v1,w1⟩:=zQl cf a.1 (qP.mp w);obtain⟨xs,env2,W2,st2,cf2,v2,w2⟩:=rsvBs_wp cf1 (xY.mono st1.same a.2) (qP.mp w1);exact⟨x::xs,env2,W2,st1.trans st2,cf2,⟨v1.same st2.same,v2⟩,w2⟩
 |[],_::_,_,_,_,_,_,_,_,a,_=>a.elim
 |_::_,[],_,_,_,_,_,_,_,a,_=>a.elim
end
noncomputable def PrSN(K:aQ)(c:Nat->aV)(r:List V->Hp->VK->Prop)(f:List D->Option D):Prop:=∀(us:List V) (H:Hp) (xs:List D) (z:D) (Q:VK),DsAt K c H us xs->f xs=some z->(∀v,(∀F,DAt K c F v z)->Q v H)->r us H Q
def svN(f:List D->Option D)(os:List Oe):SV:=fun env=>(evOs os env).bind fun r=>(opt (rsvs r.2 r.1)).bind fun xs=>(opt (f xs)).bind fun z=>.ok (z,r.2)
def oL(f:List D->Option D)(os:List Oe):Oe:=match os with
 |[.p s]=>.p fun env=>(s env).bind fun h=>(rsv env h).bind fun x=>(f [x]).bind fun z=>some (.d z)
 |os=>.v (svN f os)
section
variable{X:Cx}{K:aQ}{c:Nat->aV}{E:XK}{e:Expr}{es:List Expr}{pos p:Pos}{x:Str}{id T:String}{r:List V->Hp->VK->Prop}{os:List Oe}
theorem jZ7{f:List D->Option D}(hp:PrSN K c r f)(h:tV K c E (svN f os) σ H Q):tCB r (tOs K c E os) σ H Q:=by
 obtain⟨env,B,W,cf,w⟩:=h;refine qZz cf (qP.mp w) fun r1 w1 us H1 W1 g=>?_
 obtain⟨xs,e1,w2⟩:=qH w1;obtain⟨z,e2,w3⟩:=qH w2;exact hp us H1 xs z Q (zQk g.cf g.at_ e1) e2 fun v hv=>w3 v H1 W1 ⟨g.st,g.cf,hv _⟩
theorem zJb{f:List D->Option D}(hp:PrSN K c r f)(h:tO K c E (oL f os) σ H Q):tCB r (tOs K c E os) σ H Q:=by
 unfold oL at h;split at h
 ·obtain⟨env,B,W,h1,cf,e0,q⟩:=h;obtain⟨h0,e1,e2⟩:=bnd e0;obtain⟨x,e3,e4⟩:=bnd e2;obtain⟨z,e5,e6⟩:=bnd e4;cases e6;exact⟨env,B,W,h0,cf,e1,fun u hu=>hp [u] H [x] z Q (.cons (jO cf hu e3) .nil) e5 fun v hv=>q v (hv _)⟩
 ·exact jZ7 hp h
theorem vQu{f:List D->Option D}(hc:jC X (.builtin id) r)(hp:PrSN X.K c r f)(hg:Gl X x)(hm:X.mg x=none)(hv:dQ x=some (.builtin id))(ha:OsD X c E (e::es) os)(hn:x≠"__name__":=by decide)(hdb:(x == ("__debug__":Str))=false:=by decide)(he:aJ (e::es) X.env=(false,eval e X.env)::aJ es X.env:=by rfl)(hpl:(cU pos (aJ es X.env)).any (·.1)=false:=by rfl):OD X c E (.Call (.Name x p) (e::es) [] pos) (oL f os):=
 ⟨PE.imp (qXx hc hg hm hv ha.h hn hdb he hpl) fun _ _ _ h=>zJb hp h⟩
theorem vZj{f:List D->Option D}(hc:jC X (.type T) r)(hp:PrSN X.K c r f)(hg:Gl X x)(hm:X.mg x=none)(hv:dQ x=some (.type T))(ha:OsD X c E (e::es) os)(hn:x≠"__name__":=by decide)(hdb:(x == ("__debug__":Str))=false:=by decide)(he:aJ (e::es) X.env=(false,eval e X.env)::aJ es X.env:=by rfl)(hpl:(cU pos (aJ es X.env)).any (·.1)=false:=by rfl):OD X c E (.Call (.Name x p) (e::es) [] pos) (oL f os):=
 ⟨PE.imp (qJ8 hc hg hm hv ha.h hn hdb he hpl) fun _ _ _ h=>zJb hp h⟩
end
section
variable{K:aQ}{c:Nat->aV}{E:XK}{env env' :Ev}{σ:L2.St}{H H' :Hp}{B W W' :Fp}{p:aV}{o:O}{k:Kd}
theorem Got.lay(cf:Cf K c env σ H B W)(hn:H p=none)(sm:Same H H'){ds:List D}(ha:OwAt c H' p k vs)(hd:DsAt K c (hide (hd2 (hd2 B W) (one p)) H') vs ds):Got K c env σ H B W env H' W (one p) (.ow k (ds.map .fz)) (.ref p):=by
 obtain⟨z1,z2⟩:=cf.fresh hn;have st:∀a,B a+W a≠0->H' a=H a:=fun a z=>by obtain⟨o,q,_⟩:=cf.hbs z;rw[q,sm a o q]
 have np:∀a o,H a=some o->a≠p:=fun a o q z=>by rw[z,hn]at q;cases q
 have s1:Same (hide (hd2 B W) H) (hide (hd2 (hd2 B (one p)) W) H'):=zH fun a o z q=>⟨by have:=xE (np a o q);dsimp only[hd2]at *;omega,sm a o q⟩
 have s2:hide (hd2 B (hd2 W (one p))) H' =hide (hd2 (hd2 B (one p)) W) H' :=vO fun a=>by dsimp only[hd2];omega
 have s3:hide (hd2 (hd2 B W) (one p)) H' =hide (hd2 (hd2 B (one p)) W) H' :=vO fun a=>by dsimp only[hd2];omega
 refine⟨⟨by rw[s2];exact s1,fun a z=>st a (by omega),fun a z=>?_,fun a z=>?_,fun a z1 _=>.of (st a (by omega)),fun _ o h=>⟨⟨o,h⟩,rfl⟩,rfl⟩,⟨cf.at_.keep s1 fun a z=>st a (by omega),fun a=>?_,fun a z=>?_⟩,OAt.ow.mpr ⟨p,vs,fun _=>0,rfl,ha,OsAt.fzs.mpr ⟨by rw[←s3];exact hd,fun _=>rfl⟩,fun _=>rfl⟩⟩
 ·by_cases q:a=p
  ·exact .inr (by rw[q];exact hn)
  ·exact .inl (by have:=xE q;dsimp only[hd2]at z;omega)
 ·cases q:H a with
  |none=>rfl
  |some o=>rw[sm a o q]at z;cases z
 ·have:=cf.nd a;by_cases q:a=p
  ·subst q;rw[show hd2 B (one a) a=B a+one a a from rfl,wG];omega
  ·rw[show hd2 B (one p) a=B a+one p a from rfl,xE q];omega
 ·by_cases q:a=p
  ·subst q;exact ha.hb
  ·rw [show hd2 B (one p) a=B a + one p a from rfl,xE q] at z;obtain⟨o,h1,h2⟩:=cf.hb a (by omega);exact⟨o,sm a o h1,h2⟩
theorem qXy(cf:Cf K c env σ H B W)(hn:H p=none)(sm:Same H H'):Same (hide (hd2 B W) H) (hide (hd2 (hd2 B W) (one p)) H'):=zH fun a o z q=>⟨by
 have np:a≠p:=fun z=>by rw[z,hn]at q;cases q
 have:=xE np;dsimp only[hd2]at *;omega,sm a o q⟩
end
noncomputable def PrF(K:aQ)(c:Nat->aV)(r:List V->Hp->VK->Prop)(f:List D->Option (List D)):Prop:=∀(us:List V) (H:Hp) (T:Fp) (xs ds:List D) (Q:VK),(∀a,T a≠0->∃o,H a=some o/\Hb o)->Vws K c (hide T H) H us xs->f xs=some ds->
 (∀p ws H',H p=none->Same H H' ->H' p=some (.lst ws)->DsAt K c (hide (hd2 T (one p)) H') ws ds->Q (.ref p) H')->r us H Q
noncomputable def PrA(K:aQ)(c:Nat->aV)(r:List V->Hp->VK->Prop)(f:List D->Option D):Prop:=∀(us:List V) (H:Hp) (T:Fp) (xs:List D) (z:D) (Q:VK),(∀a,T a≠0->∃o,H a=some o/\Hb o)->Vws K c (hide T H) H us xs->f xs=some z->
 (∀v H',Same H H' ->DAt K c (hide T H') v z->Q v H')->r us H Q
noncomputable def eF(f:List D->Option (List D))(os:List Oe):SE:=fun env=>(evOs os env).bind fun r=>(qY7 r.1 r.2).bind fun q=>(opt (f q.1)).bind fun ds=>.ok (.ow .lst (ds.map .fz),q.2)
noncomputable def svA(f:List D->Option D)(os:List Oe):SV:=fun env=>(evOs os env).bind fun r=>(qY7 r.1 r.2).bind fun q=>(opt (f q.1)).bind fun z=>.ok (z,q.2)
section
variable{X:Cx}{K:aQ}{c:Nat->aV}{E:XK}{e:Expr}{es:List Expr}{pos p:Pos}{x:Str}{id T:String}{r:List V->Hp->VK->Prop}{os:List Oe}
theorem jXv{f:List D->Option (List D)}(hp:PrF K c r f)(h:tE K c E (eF f os) σ H Q):tCB r (tOs K c E os) σ H Q:=by
 obtain⟨env,B,W,cf,w⟩:=h;refine qZz cf (qP.mp w) fun r1 w1 us H1 W1 g=>?_
 obtain⟨xs,env2,W2,st2,cf2,v2,w2⟩:=rsvBs_wp g.cf g.at_ (qP.mp w1);obtain⟨ds,e2,w3⟩:=qH w2;refine hp us H1 (hd2 B W2) xs ds Q (fun a z=>cf2.hbs z) v2 e2 fun p ws H' hn sm hq dz=>?_
 exact w3 _ H' W2 _ ((Got.lay cf2 hn sm (k:=.lst) hq dz).back (g.st.trans st2))
theorem jV2{f:List D->Option D}(hp:PrA K c r f)(h:tV K c E (svA f os) σ H Q):tCB r (tOs K c E os) σ H Q:=by
 obtain⟨env,B,W,cf,w⟩:=h;refine qZz cf (qP.mp w) fun r1 w1 us H1 W1 g=>?_
 obtain⟨xs,env2,W2,st2,cf2,v2,w2⟩:=rsvBs_wp g.cf g.at_ (qP.mp w1);obtain⟨z,e2,w3⟩:=qH w2;refine hp us H1 (hd2 B W2) xs z Q (fun a z=>cf2.hbs z) v2 e2 fun v H' sm dz=>?_
 exact w3 v H' W2 ⟨(g.st.trans st2).trans (.grow cf2 sm),cf2.grow sm,dz⟩
theorem zZs{f:List D->Option (List D)}(hc:jC X (.type T) r)(hp:PrF X.K c r f)(hg:Gl X x)(hm:X.mg x=none)(hv:dQ x=some (.type T))(ha:OsD X c E (e::es) os)(hn:x≠"__name__":=by decide)(hdb:(x == ("__debug__":Str))=false:=by decide)(he:aJ (e::es) X.env=(false,eval e X.env)::aJ es X.env:=by rfl)(hpl:(cU pos (aJ es X.env)).any (·.1)=false:=by rfl):ED X c E (.Call (.Name x p) (e::es) [] pos) (eF f os):=
 ⟨PE.imp (qJ8 hc hg hm hv ha.h hn hdb he hpl) fun _ _ _ h=>jXv hp h⟩
theorem zZr{f:List D->Option D}(hc:jC X (.type T) r)(hp:PrA X.K c r f)(hg:Gl X x)(hm:X.mg x=none)(hv:dQ x=some (.type T))(ha:OsD X c E (e::es) os)(hn:x≠"__name__":=by decide)(hdb:(x == ("__debug__":Str))=false:=by decide)(he:aJ (e::es) X.env=(false,eval e X.env)::aJ es X.env:=by rfl)(hpl:(cU pos (aJ es X.env)).any (·.1)=false:=by rfl):EV X c E (.Call (.Name x p) (e::es) [] pos) (svA f os):=
 ⟨PE.imp (qJ8 hc hg hm hv ha.h hn hdb he hpl) fun _ _ _ h=>jV2 hp h⟩
end
def evVs:List SV->Ev->Res (List D×Ev)
 |[],env=>.ok ([],env)
 |s::ss,env=>(s env).bind fun r=>(evVs ss r.2).bind fun r' =>.ok (r.1::r'.1,r'.2)
noncomputable def tVs(K:aQ)(c:Nat->aV)(E:XK):List SV->TA
 |[]=>tNil
 |s::ss=>qY5 (tV K c E s) (tVs K c E ss)
structure VsD(X:Cx)(c:Nat->aV)(E:XK)(es:List Expr)(ss:List SV):Prop where
 h:PA X es (tVs X.K c E ss)
theorem qG:VsD X c E [] []:=⟨qVa⟩
theorem vU{es:List Expr}{s:SV}{ss:List SV}(ha:EV X c E e s)(hr:VsD X c E es ss)(hs:aJ (e::es) X.env=(false,eval e X.env)::aJ es X.env:=by rfl):VsD X c E (e::es) (s::ss):=⟨wC ha.h hr.h hs⟩
structure GotDs(K:aQ)(c:Nat->aV)(env:Ev)(σ:L2.St)(H:Hp)(B W:Fp)(env' :Ev)(H' :Hp)(W' :Fp)(xs:List D)(us:List V):Prop where
 st:Step env σ H B W env' σ H' W'
 cf:Cf K c env' σ H' B W'
 at_:DsAt K c (hide (hd2 B W') H') us xs
theorem qYe{K:aQ}:∀{ss:List SV} {env:Ev} {σ:L2.St} {H:Hp} {B W:Fp} {Q:List V->Hp->Prop} {w:List D×Ev->Prop},Cf K c env σ H B W->(evVs ss env).wp w (erP K c E H B W)->(∀r,w r->∀us H' W',GotDs K c env σ H B W r.2 H' W' r.1 us->Q us H')->tVs K c E ss σ H Q
 |[],env,σ,H,B,W,Q,w,cf,hw,k=>k _ hw [] H W ⟨.refl,cf,.nil⟩
 | s::ss,env,σ,H,B,W,Q,w,cf,hw,k=>by
   refine⟨env,B,W,cf,wp_mono (fun r w1 u H1 W1 g1=>?_) (fun _ _ he=>he) (qP.mp hw)⟩;refine qYe g1.cf (wp_mono (fun _ q=>q) (fun C fs he=>he.back g1.st) (qP.mp w1)) fun r' w3 us H2 W2 g2=>?_
   exact k _ w3 (u::us) H2 W2 ⟨g1.st.trans g2.st,g2.cf,.cons (g1.at_.same g2.st.same) g2.at_⟩
def qS(ss:List SV):SV:=fun env=>(evVs ss env).bind fun r=>cond (decide (r.1.length<=1000)) (.ok (.tup r.1,r.2)) .no
noncomputable def eLst(ss:List SV):SE:=fun env=>(evVs ss env).bind fun r=>cond (decide (r.1.length<=1000)) (.ok (.ow .lst (r.1.map .fz),r.2)) .no
theorem zWq(h:n<=1000):n<=aM:=Nat.le_of_lt (zVy h)
section
variable{X:Cx}{c:Nat->aV}{E:XK}{es:List Expr}{pos:Pos}{ss:List SV}
theorem vX{x1}(h:VsD X c E es ss):EV X c E (.Tuple es x1 pos) (qS ss):=by
 refine⟨PE.imp (jJ0 h.h) fun σ H Q=>?_⟩;rintro⟨env,B,W,cf,w⟩;refine qYe cf (qP.mp w) fun r w1 us H1 W1 g=>?_
 obtain⟨hl,w2⟩:=v6 w1;refine⟨zWq (by rw[g.at_.len];exact of_decide_eq_true hl),fun p hp=>?_⟩;have sm:Same H1 (upd H1 p (.tup us)):=.upd hp;obtain⟨z1,z2⟩:=g.cf.fresh hp;refine w2 (.ref p) _ W1 ⟨g.st.trans (.grow g.cf sm),g.cf.grow sm,.of (k:=.tup) (SqT.of ?_) (g.at_.same (zH fun a o z q=>⟨z,sm a o q⟩))⟩;rw[zK (by dsimp only[hd2];omega),upd_same]
theorem xH(h:VsD X c E es ss):ED X c E (.List es pos) (eLst ss):=by
 refine⟨PE.imp (jJ3 h.h) fun σ H Q=>?_⟩;rintro⟨env,B,W,cf,w⟩;refine qYe cf (qP.mp w) fun r w1 us H1 W1 g=>?_
 obtain⟨hl,w2⟩:=v6 w1;refine⟨zWq (by rw[g.at_.len];exact of_decide_eq_true hl),fun p hp=>?_⟩;have sm:Same H1 (upd H1 p (.lst us)):=.upd hp;exact w2 (.ref p) _ W1 _ ((Got.lay g.cf hp sm (k:=.lst) upd_same (g.at_.same (qXy g.cf hp sm))).back g.st)
end
inductive Out where
 |nx (env:Ev)|rt (o:O) (env:Ev)|bk (env:Ev)|ct (env:Ev)
noncomputable abbrev SS:=Ev->Res Out
structure GotR(K:aQ)(c:Nat->aV)(env:Ev)(σ:L2.St)(H:Hp)(B W:Fp)(env' :Ev)(σ' :L2.St)(H' :Hp)(W' Z:Fp)(o:O)(u:V):Prop where
 st:Step env σ H B W env' σ' H' (hd2 W' Z)
 cf:Cf K c env' σ' H' (hd2 B Z) W'
 at_:OAt K c (hide (hd2 (hd2 B Z) W') H') H' o u Z
noncomputable def OutP(K:aQ)(c:Nat->aV)(env:Ev)(σ:L2.St)(H:Hp)(B W:Fp)(D:Ends):Out->Prop
 |.nx e=>∀σ' H' W',Step env σ H B W e σ' H' W' ->Cf K c e σ' H' B W' ->D.nx σ' H'
 |.bk e=>∀σ' H' W',Step env σ H B W e σ' H' W' ->Cf K c e σ' H' B W' ->D.bk σ' H'
 |.ct e=>∀σ' H' W',Step env σ H B W e σ' H' W' ->Cf K c e σ' H' B W' ->D.ct σ' H'
 |.rt o e=>∀v σ' H' W' Z,GotR K c env σ H B W e σ' H' W' Z o v->D.rt v H'
noncomputable def tS(K:aQ)(c:Nat->aV)(E:XK)(s:SS):TS:=fun D σ H=>∃env B W,Cf K c env σ H B W/\(s env).wp (OutP K c env σ H B W D) (erP K c E H B W)
structure SD(X:Cx)(c:Nat->aV)(E:XK)(st:Stmt)(s:SS):Prop where
 h:PS X st (tS X.K c E s)
structure SDs(X:Cx)(c:Nat->aV)(E:XK)(st:List Stmt)(s:SS):Prop where
 h:PSs X st (tS X.K c E s)
theorem PS.imp{st:Stmt}{t t' :TS}(h:PS X st t)(k:∀D σ H,t' D σ H->t D σ H):PS X st t' :=fun pins s σ H D I q=>h pins s σ H D I (k D σ H q)
theorem PSs.imp{st:List Stmt}{t t' :TS}(h:PSs X st t)(k:∀D σ H,t' D σ H->t D σ H):PSs X st t' :=fun pins s σ H D I q=>h pins s σ H D I (k D σ H q)
theorem PS.len{st:Stmt}{t:TS}(h:PS X st (fun D σ H=>σ.length=X.N.length/\t D σ H)):PS X st t:=fun pins s σ H D I q=>h pins s σ H D I ⟨I.len,q⟩
section
variable{K:aQ}{c:Nat->aV}{E:XK}{env env' :Ev}{σ σ' :L2.St}{H H' :Hp}{B W W' :Fp}{D:Ends}{o:Out}{s:SS}
theorem OutP.back(st:Step env σ H B W env' σ' H' W')(h:OutP K c env σ H B W D o):OutP K c env' σ' H' B W' D o:=by
 cases o with
 |nx e=>exact fun σ2 H2 W2 s2 cf=>h σ2 H2 W2 (st.trans s2) cf
 |bk e=>exact fun σ2 H2 W2 s2 cf=>h σ2 H2 W2 (st.trans s2) cf
 |ct e=>exact fun σ2 H2 W2 s2 cf=>h σ2 H2 W2 (st.trans s2) cf
 |rt r e=>exact fun v σ2 H2 W2 Z g=>h v σ2 H2 W2 Z ⟨st.trans g.st,g.cf,g.at_⟩
theorem vJi(st:Step env σ H B W env' σ' H' W')(cf:Cf K c env' σ' H' B W')(h:(s env').wp (OutP K c env σ H B W D) (erP K c E H B W)):tS K c E s D σ' H' :=
 ⟨env',B,W',cf,wp_mono (fun _ q=>q.back st) (fun _ _ he=>he.back st) h⟩
end
def sSeq(s t:SS):SS:=fun env=>(s env).bind fun o=>match o with
 |.nx e=>t e
 |o=>.ok o
def sNil:SS:=fun env=>.ok (.nx env)
section
variable{X:Cx}{c:Nat->aV}{E:XK}{st:Stmt}{sts:List Stmt}{s t u:SS}{pos:Pos}
theorem qF:SDs X c E [] sNil:=by
 refine⟨PSs.imp zQp fun D σ H=>?_⟩;rintro⟨env,B,W,cf,w⟩;exact w σ H W .refl cf
theorem qZ(h:SD X c E st s):SDs X c E [st] s:=⟨zK1 h.h⟩
theorem qV(h:SD X c E st s)(k:SDs X c E sts t):SDs X c E (st::sts) (sSeq s t):=by
 refine⟨PSs.imp (vW7 h.h k.h) fun D σ H=>?_⟩;rintro⟨env,B,W,cf,w⟩;refine⟨env,B,W,cf,wp_mono (fun o ho=>?_) (fun _ _ he=>he) (qP.mp w)⟩;cases o with
 |nx e=>exact fun σ' H' W' st' cf' =>vJi st' cf' ho
 |bk e=>exact ho
 |ct e=>exact ho
 |rt r e=>exact ho
def sIf(b:ST)(s t:SS):SS:=fun env=>(b env).bind fun r=>cond r.1 (s r.2) (t r.2)
theorem vP{x y:List Stmt}{sc:ST}(hc:TD X c E e sc)(ha:SDs X c E x s)(hb:SDs X c E y t):SD X c E (.If e x y pos) (sIf sc s t):=by
 refine⟨PS.imp (jX4 hc.h ha.h hb.h) fun D σ H=>?_⟩;rintro⟨env,B,W,cf,w⟩;refine⟨env,B,W,cf,wp_mono (fun r1 h1 H1 W1 st1 cf1=>?_) (fun _ _ he=>he) (qP.mp w)⟩;obtain⟨k,e1⟩:=r1;cases k with
 |true=>exact vJi st1 cf1 h1
 |false=>exact vJi st1 cf1 h1
def sRet(s:SE):SS:=fun env=>(s env).bind fun r=>.ok (.rt r.1 r.2)
theorem qU{s:SE}(h:ED X c E e s):SD X c E (.Return (some e) pos) (sRet s):=by
 refine⟨PS.imp (jJp h.h) fun D σ H=>?_⟩;rintro⟨env,B,W,cf,w⟩;exact⟨env,B,W,cf,wp_mono (fun r1 h1 u H1 W1 Z g=>h1 u σ H1 W1 Z ⟨g.st,g.cf,g.at_⟩) (fun _ _ he=>he) (qP.mp w)⟩
def eMv(i:Nat):SE:=fun env=>match env[i]? with
 |some (.s false o)=>.ok (o,env.set i .un)
 |_=>.no
theorem qWu{s:Slot}{o:O}(hs:∀o,s≠ .s true o)(h:(env.set i s)[j]?=some (.s true o)):j≠i/\env[j]?=some (.s true o):=by
 have hj:j≠i:=fun z=>by
  subst z;rw[List.getElem?_set]at h;simp only[if_true]at h;split at h
  ·exact hs o (Option.some.inj h)
  ·cases h
 rw[bY (Ne.symm hj)]at h;exact⟨hj,h⟩
theorem qQc(h:PE X e (tVar i)):ED X c E e (eMv i):=by
 refine⟨PE.imp h fun σ H Q=>?_⟩;rintro⟨env,B,W,cf,w⟩;unfold eMv at w;split at w
 ·rename_i o e0;obtain⟨x,Z1,R,h1,h2,h3,h4⟩:=cf.focus e0;cases x with
  |none=>exact h2.elim
  | some v=>
    have eq:hide (hd2 (hd2 B Z1) R) H=hide (hd2 B W) H:=vO fun a=>by dsimp only[hd2];rw[h3];omega
    have eq2:hide (hd2 B (hd2 R Z1)) H=hide (hd2 B W) H:=vO fun a=>by dsimp only[hd2];rw[h3];omega
    have cf' :=h4 H (hd2 B Z1) R .un (some v) (fun _=>0) (by rw[eq];exact Same.refl _) (fun a=>by omega) (fun _ _=>rfl) (fun _=>rfl) (fun a=>by have:=cf.nd a;rw[h3]at this;dsimp only[hd2];omega) (fun a z=>by
     by_cases q:B a=0
     ·exact wQ.hb (x:=some v) h2 (by dsimp only[hd2]at z;omega)
     ·exact cf.hb a q)
    rw[qQp h1]at cf';refine⟨v,h1,w v H R Z1 ⟨⟨by rw[eq2];exact Same.refl _,fun _ _=>rfl,fun a z=>.inl (by dsimp only[hd2]at z;rw[h3];omega),fun _ z=>z,fun _ _ _=>.refl,fun j o' q=>?_,cV⟩,cf',by rw[eq];exact h2⟩⟩;obtain⟨_,q2⟩:=qWu (fun _ z=>by cases z) q;exact⟨⟨o',q2⟩,rfl⟩
 ·exact w.elim
def jG(s:SE):SS:=fun env=>(s env).bind fun r=>.ok (.nx r.2)
theorem jV{s:SE}(h:ED X c E e s)(hs:swapsWith e none pos.line X.env=pure false:=by rfl):SD X c E (.Expr e pos) (jG s):=by
 refine⟨PS.imp (zK4 h.h hs) fun D σ H=>?_⟩;rintro⟨env,B,W,cf,w⟩;exact⟨env,B,W,cf,wp_mono (fun r1 h1 u H1 W1 Z g=>h1 σ H1 W1 g.fz.st g.fz.cf) (fun _ _ he=>he) (qP.mp w)⟩
end
section
variable{K:aQ}{c:Nat->aV}{env env' :Ev}{σ σ' :L2.St}{H H' :Hp}{B W W' Z:Fp}{i:Nat}{o:O}{u:V}
theorem GotR.put(g:GotR K c env σ H B W env' σ' H' W' Z o u)(hi:i<env'.length):∃W2,Step env σ H B W (env'.set i (.s false o)) (σ'.set i (some u)) H' W2/\Cf K c (env'.set i (.s false o)) (σ'.set i (some u)) H' B W2:=by
 obtain⟨W2,cf2,sm,nw⟩:=g.cf.put (B:=B) (io:=false) (fun _=>rfl) g.at_ hi;refine⟨W2,g.st.trans ⟨?_,fun _ _=>rfl,fun a z=>.inl ?_,fun _ z=>z,fun _ _ _=>.refl,fun j o' q=>?_,cV⟩,cf2⟩
 ·rw [show hide (hd2 B (hd2 W' Z)) H' =hide (hd2 (hd2 B Z) W') H' from vO fun a=>by dsimp only [hd2];omega];exact sm
 ·have:=nw a z;dsimp only[hd2];omega
 ·obtain⟨q1,q2⟩:=qWu (fun _ z=>by cases z) q;exact⟨⟨o',q2⟩,bY (Ne.symm q1)⟩
theorem Got.r(g:Got K c env σ H B W env' H' W' Z o u):GotR K c env σ H B W env' σ H' W' Z o u:=⟨g.st,g.cf,g.at_⟩
end
def sSet(i:Nat)(s:SE):SS:=fun env=>(s env).bind fun r=>.ok (.nx (r.2.set i (.s false r.1)))
section
variable{X:Cx}{c:Nat->aV}{E:XK}{pos pos' :Pos}{i:Nat}{x:Str}{e:Expr}
theorem Cf.len{K:aQ}(h:Cf K c env σ H B W):env.length=σ.length:=h.at_.len
theorem qKt{K:aQ}(cf:Cf K c env σ H B W)(hl:σ.length=N.length)(hi:N[i]?=some x):i<env.length:=by
 rw[cf.len,hl];exact(aB.mp hi).1
theorem jJc{s:SE}(hN:X.N.Nodup)(hi:X.N[i]?=some x)(hx:Loc X.env.scope x)(he:ED X c E e s)(hs:swapsWith e (some (.Name x pos')) pos.line X.env=pure false:=by rfl)(hf:X.fn x=true\/X.env.scope.names.lookup x=some .local :=by first|exact .inl rfl|exact .inr rfl|assumption):
  SD X c E (.Assign [.Name x pos'] e pos) (sSet i s):=by
 refine⟨PS.len (PS.imp (jJo hN hi hx he.h hs hf) fun D σ H=>?_)⟩;rintro⟨hl,env,B,W,cf,w⟩;refine⟨env,B,W,cf,wp_mono (fun r1 h1 u H1 W1 Z g=>?_) (fun _ _ he=>he) (qP.mp w)⟩;obtain⟨W2,s2,c2⟩:=g.r.put (qKt g.cf hl hi);exact h1 _ H1 W2 s2 c2
end
noncomputable abbrev SG:=D->Ev->Option Ev
noncomputable def tG(K:aQ)(c:Nat->aV)(T:List Nat)(g:SG):TG:=fun v σ H Q=>∃env B W d e,Cf K c env σ H B W/\DAt K c (hide (hd2 B W) H) v d/\g d env=some e/\∀σ' W',Step env σ H B W e σ' H W' ->Cf K c e σ' H B W' ->(∀i,i∉T->σ'[i]?=σ[i]?)->Q σ' H
structure GD(X:Cx)(c:Nat->aV)(e:Expr)(T:List Nat)(g:SG):Prop where
 h:PG X e (tG X.K c T g)
noncomputable abbrev SGs:=List D->Ev->Option Ev
noncomputable def tGs(K:aQ)(c:Nat->aV)(T:List Nat)(g:SGs):TGs:=fun vs σ H Q=>∃env B W ds e,Cf K c env σ H B W/\DsAt K c (hide (hd2 B W) H) vs ds/\g ds env=some e/\∀σ' W',Step env σ H B W e σ' H W' ->Cf K c e σ' H B W' ->(∀i,i∉T->σ'[i]?=σ[i]?)->Q σ' H
structure GDs(X:Cx)(c:Nat->aV)(es:List Expr)(T:List Nat)(g:SGs):Prop where
 h:PGs X es (tGs X.K c T g)
theorem PG.imp{t t' :TG}(h:PG X e t)(k:∀v σ H Q,t' v σ H Q->t v σ H Q):PG X e t' :=fun pins s σ H v u Q I r q=>h pins s σ H v u Q I r (k v σ H Q q)
theorem PGs.imp{e:List Expr}{t t' :TGs}(h:PGs X e t)(k:∀v σ H Q,t' v σ H Q->t v σ H Q):PGs X e t' :=fun pins s σ H v u Q I r q=>h pins s σ H v u Q I r (k v σ H Q q)
theorem PG.len{t:TG}(h:PG X e (fun v σ H Q=>σ.length=X.N.length/\t v σ H Q)):PG X e t:=fun pins s σ H v u Q I r q=>h pins s σ H v u Q I r ⟨I.len,q⟩
def gN(i:Nat):SG:=fun d env=>some (env.set i (.s false (.fz d)))
def gNl:SGs:=fun ds env=>match ds with
 |[]=>some env
 |_=>none
def gCn(g:SG)(gs:SGs):SGs:=fun ds env=>match ds with
 |d::r=>(g d env).bind fun e=>gs r e
 |[]=>none
def gT(n:Nat)(gs:SGs):SG:=fun d env=>match d with
 |.nd .tup ds=>if ds.length=n then gs ds env else none
 |_=>none
section
variable{X:Cx}{c:Nat->aV}{pos:Pos}{x:Str}{i n:Nat}{e:Expr}{es:List Expr}{g:SG}{gs:SGs}{T T' :List Nat}
theorem vZ(hN:X.N.Nodup)(hi:X.N[i]?=some x)(hx:Loc X.env.scope x)(hf:X.fn x=true\/X.env.scope.names.lookup x=some .local :=by first|exact .inl rfl|exact .inr rfl|assumption):GD X c (.Name x pos) [i] (gN i):=by
 refine⟨PG.len (PG.imp (jQh hN hi hx hf) fun v σ H Q=>?_)⟩;rintro⟨hl,env,B,W,d,e,cf,hd,h1,h2⟩;cases h1;have g:GotD X.K c env σ H B W env H W d v:=⟨.refl,cf,hd⟩
 obtain⟨W2,s2,c2⟩:=g.own.r.put (qKt cf hl hi);exact h2 _ W2 s2 c2 fun j hj=>bY fun z=>hj (by rw[z];exact aA)
theorem xP:GDs X c [] [] gNl:=by
 refine⟨PGs.imp jQg fun v σ H Q=>?_⟩;rintro⟨env,B,W,ds,e,cf,hd,h1,h2⟩;cases ds with
 | nil=>
   have:=hd.un0;cases h1;exact⟨this,h2 _ W .refl cf fun _ _=>rfl⟩
 |cons d r=>cases h1
theorem vG(h:GD X c e T g)(k:GDs X c es T' gs)(hs:(assignEach (e::es) X.env).map (·.2)=assign e X.env::(assignEach es X.env).map (·.2):=by rfl):GDs X c (e::es) (T ++ T') (gCn g gs):=by
 refine⟨PGs.imp (zXz h.h k.h hs) fun v σ H Q=>?_⟩;rintro⟨env,B,W,ds,e,cf,hd,h1,h2⟩;cases ds with
 |nil=>cases h1
 | cons d r=>
   obtain⟨u,us,rfl,a,b⟩:=hd.un;obtain⟨e2,e1,h1⟩:=bnd h1;exact⟨u,us,rfl,env,B,W,d,e2,cf,a,e1,fun σ' W' st' cf' k1=>⟨e2,B,W',r,e,cf',b.same st'.same,h1,fun σ2 W2 st2 cf2 k2=>h2 σ2 W2 (st'.trans st2) cf2 fun i hi=>(k2 i fun z=>hi (bI _ z)).trans (k1 i fun z=>hi (List.mem_append_left _ z))⟩⟩
theorem qQk{k:Nat}(hc:X.calm=true)(h:GDs X c es T gs)(hn:(assignEach es X.env).length =n:=by rfl)(hst:(assignEach es X.env).findIdx? (·.1)=none:=by rfl):GD X c (.Tuple es k pos) T (gT n gs):=by
 refine⟨PG.imp (jJx hc h.h hn hst) fun v σ H Q=>?_⟩;rintro⟨env,B,W,d,e,cf,hd,h1,h2⟩;unfold gT at h1;split at h1
 ·rename_i ds;split at h1
  ·rename_i hl;obtain⟨p,vs,q1,q2,q3⟩:=hd.un;exact⟨p,vs,q1,vD.tup q2,by rw[q3.len];exact hl,env,B,W,ds,e,cf,q3,h1,h2⟩
  ·cases h1
 ·cases h1
end
noncomputable def sAsg(s:SV)(g:SG):SS:=fun env=>(s env).bind fun r=>(opt (g r.1 r.2)).bind fun e=>.ok (.nx e)
theorem vZ4{tg:Expr}{s:SV}{T:List Nat}(he:EV X c E e s)(hg:GD X c tg T g)(hs:swapsWithSole [tg] e pos.line X.env=pure false:=by rfl)(hw:swappedStores [tg] e X.env=pure none:=by rfl)(h1:(assignEach [tg] X.env).map (·.2)=[assign tg X.env]:=by rfl):SD X c E (.Assign [tg] e pos) (sAsg s g):=by
 refine⟨PS.imp (zWe he.h hg.h hs hw h1) fun D σ H=>?_⟩;rintro⟨env,B,W,cf,w⟩;refine⟨env,B,W,cf,wp_mono (fun r1 h1 u H1 W1 g1=>?_) (fun _ _ he=>he) (qP.mp w)⟩;obtain⟨e2,e1,h2⟩:=qH h1;exact⟨r1.2,B,W1,r1.1,e2,g1.cf,g1.at_,e1,fun σ' W' st' cf' _=>h2 σ' H1 W' (g1.st.trans st') cf'⟩
noncomputable def ItD(K:aQ)(c:Nat->aV)(F:Hp)(J:It)(ds:List D):Prop:=∀(i:Nat) (H:Hp) (T:Fp),Same F (hide T H)->(∀a,T a≠0->∃o,H a=some o/\Hb o)->
 (∀d,ds[i]?=some d->J.go i H/\∀x H',J.yld i H x H' ->Same H H' /\DAt K c (hide T H') x d)/\(i=ds.length->J.stop i H)
noncomputable abbrev SI:=Ev->Res (List D×Ev)
noncomputable def tIt(K:aQ)(c:Nat->aV)(E:XK)(s:SI):TI:=fun σ H R=>∃env B W,Cf K c env σ H B W/\(s env).wp (fun r=>∀J H' W',Step env σ H B W r.2 σ H' W' ->Cf K c r.2 σ H' B W' ->ItD K c (hide (hd2 B W') H') J r.1->R J H') (erP K c E H B W)
structure ID'(X:Cx)(c:Nat->aV)(E:XK)(tg e:Expr)(s:SI):Prop where
 h:PI X tg e (tIt X.K c E s)
theorem PI.imp{tg:Expr}{t t' :TI}(h:PI X tg e t)(k:∀σ H R,t' σ H R->t σ H R):PI X tg e t' :=fun pins s σ H R I q=>h pins s σ H R I (k σ H R q)
noncomputable def forS(g:SG)(body:SS):List D->SS
 |[],env=>.ok (.nx env)
 |d::ds,env=>(opt (g d env)).bind fun e1=>(body e1).bind fun o=>match o with
    |.nx e2=>forS g body ds e2
    |.ct e2=>forS g body ds e2
    |.bk e2=>.ok (.nx e2)
    |.rt r e2=>.ok (.rt r e2)
noncomputable def sFor(it:SI)(g:SG)(body:SS):SS:=fun env=>(it env).bind fun r=>forS g body r.1 r.2
theorem zYt{K:aQ}{T:List Nat}{D:Ends}{J:It}{H1:Hp}{W1:Fp}{ds:List DX.D}{e1:Ev}(cf1:Cf K c e1 σ H1 B W1)(iter:ItD K c (hide (hd2 B W1) H1) J ds)(h1:(forS g body ds e1).wp (OutP K c e1 σ H1 B W1 D) (erP K c E H1 B W1)):∃W:Nat->Nat->L2.St->Hp->Prop,(∃m,W 0 m σ H1)/\∀i m σ H,W i m σ H->
   (J.stop i H/\D.nx σ H)\/(J.go i H/\∃N:L2.St->Hp->Prop,(∀σ' H',N σ' H' ->∃m',m'<m/\W (i+1) m' σ' H')/\∀x H',J.yld i H x H' ->tG K c T g x σ H' fun σ2 H2=>tS K c E body {D with nx:=N,ct:=N,bk:=D.nx} σ2 H2):=by
 refine⟨fun i m σ' H' =>m=ds.length - i/\i<=ds.length/\∃env' W',Same (hide (hd2 B W1) H1) (hide (hd2 B W') H')/\Cf K c env' σ' H' B W' /\(forS g body (ds.drop i) env').wp (OutP K c env' σ' H' B W' D) (erP K c E H' B W'),
  ⟨ds.length,by simp,dF _,e1,W1,Same.refl _,cf1,h1⟩,?_⟩
 rintro i m σ' H' ⟨rfl,hi,env',W',sm,cf',w'⟩;obtain⟨it1,it2⟩:=iter i H' (hd2 B W') sm (fun a z=>cf'.hbs z);by_cases hlt:i<ds.length
 ·obtain⟨go,yl⟩:=it1 ds[i] (aO hlt);refine .inr ⟨go,fun σ2 H2=>ds.length - (i+1)<ds.length - i/\(ds.length - (i+1)=ds.length - (i+1)/\i+1<=ds.length/\∃env2 W2,Same (hide (hd2 B W1) H1) (hide (hd2 B W2) H2)/\Cf K c env2 σ2 H2 B W2/\(forS g body (ds.drop (i+1)) env2).wp (OutP K c env2 σ2 H2 B W2 D) (erP K c E H2 B W2)),fun σ2 H2 q=>⟨_,q.1,q.2⟩,fun x H2 y=>?_⟩;obtain⟨sm2,hx⟩:=yl x H2 y;rw[dY hlt]at w';obtain⟨e3,e2,w'⟩:=qH w';refine⟨env',B,W',ds[i],e3,cf'.grow sm2,hx,e2,fun σ3 W3 st3 cf3 _=>?_⟩;have stA:Step env' σ' H' B W' e3 σ3 H2 W3:=(Step.grow cf' sm2).trans st3
  have next:∀e4,(forS g body (ds.drop (i+1)) e4).wp (OutP K c env' σ' H' B W' D) (erP K c E H' B W')->∀σ4 H4 W4,Step e3 σ3 H2 B W3 e4 σ4 H4 W4->Cf K c e4 σ4 H4 B W4->
    ds.length - (i+1)<ds.length - i/\(ds.length - (i+1)=ds.length - (i+1)/\i+1<=ds.length/\∃env2 W2,Same (hide (hd2 B W1) H1) (hide (hd2 B W2) H4)/\Cf K c env2 σ4 H4 B W2/\(forS g body (ds.drop (i+1)) env2).wp (OutP K c env2 σ4 H4 B W2 D) (erP K c E H4 B W2)):=fun e4 q σ4 H4 W4 st4 cf4=>by
   have stB:=stA.trans st4;exact⟨by omega,rfl,hlt,e4,W4,sm.trans stB.same,cf4,wp_mono (fun o q=>q.back stB) (fun _ _ he=>he.back stB) q⟩
  refine⟨e3,B,W3,cf3,wp_mono (fun o q=>?_) (fun _ _ he=>he.back stA) (qP.mp w')⟩;cases o with
  |nx e4=>exact next e4 q
  |ct e4=>exact next e4 q
  |bk e4=>exact fun σ4 H4 W4 st4 cf4=>q σ4 H4 W4 (stA.trans st4) cf4
  |rt r e4=>exact fun v σ4 H4 W4 Z g=>q v σ4 H4 W4 Z ⟨stA.trans g.st,g.cf,g.at_⟩
 ·have hi2:i=ds.length:=by omega
  subst hi2;rw[List.drop_length]at w';exact .inl ⟨it2 rfl,w' σ' H' W' .refl cf'⟩
theorem zKf{K:aQ}{T:List Nat}{D:Ends}(h:tS K c E (sFor it g body) D σ H):tFor (tIt K c E it) (tG K c T g) (tS K c E body) D σ H:=by
 obtain⟨env,B,W,cf,w⟩:=h;refine⟨env,B,W,cf,wp_mono (fun r1 h1 J H1 W1 st1 cf1 iter=>?_) (fun _ _ he=>he) (qP.mp w)⟩;exact zYt cf1 iter (wp_mono (fun o q=>q.back st1) (fun _ _ he=>he.back st1) h1)
theorem qZ1{tg iter:Expr}{body:List Stmt}{T:List Nat}{s:SS}(hp:PassesOwn (model X.prog X.w) X.A X.env X.xe)(hc:X.calm=true)(hi:ID' X c E tg iter it)(hg:GD X c tg T g)(hb:SDs X c E body s)(hs:∀x,foldedSetIterable iter X.env x=pure x:=by intro _;rfl):SD X c E (.For tg iter body [] pos) (sFor it g s):=
 ⟨PS.imp (jJq hp hc hi.h hg.h hb.h hs) fun _ _ _ h=>zKf h⟩
noncomputable def zW(b:ST)(body:SS):Nat->SS
 | 0,_=>.no
 | n + 1,env=>(b env).bind fun r=>cond r.1 ((body r.2).bind fun o=>match o with
     |.nx e2=>zW b body n e2
     |.ct e2=>zW b body n e2
     |.bk e2=>.ok (.nx e2)
     |.rt r e2=>.ok (.rt r e2)) (.ok (.nx r.2))
theorem zVu{K:aQ}{t:ST}{D:Ends}(h:tS K c E (zW t body n) D σ H):zJ3 (tT K c E t) (tS K c E body) D σ H:=by
 obtain⟨env,B,W,cf,w⟩:=h;refine⟨fun m σ' H' =>∃env' B' W',Cf K c env' σ' H' B' W' /\(zW t body m env').wp (OutP K c env' σ' H' B' W' D) (erP K c E H' B' W'),⟨n,env,B,W,cf,w⟩,?_⟩;rintro m σ' H' ⟨env',B',W',cf',w'⟩;cases m with
 |zero=>exact w'.elim
 | succ m=>
   refine⟨env',B',W',cf',wp_mono (fun r q H1 W1 st1 cf1=>?_) (fun _ _ he=>he) (qP.mp w')⟩;obtain⟨k,e1⟩:=r;cases k with
   |false=>exact q σ' H1 W1 st1 cf1
   | true=>
     refine⟨fun σ2 H2=>∃env' B' W',Cf K c env' σ2 H2 B' W' /\(zW t body m env').wp (OutP K c env' σ2 H2 B' W' D) (erP K c E H2 B' W'),fun σ2 H2 q=>⟨m,Nat.lt_succ_self m,q⟩,e1,B',W1,cf1,wp_mono (fun o q=>?_) (fun _ _ he=>he.back st1) (qP.mp q)⟩;have go:∀e4,(zW t body m e4).wp (OutP K c env' σ' H' B' W' D) (erP K c E H' B' W')->∀σ4 H4 W4,Step e1 σ' H1 B' W1 e4 σ4 H4 W4->Cf K c e4 σ4 H4 B' W4->∃env' B' W',Cf K c env' σ4 H4 B' W' /\(zW t body m env').wp (OutP K c env' σ4 H4 B' W' D) (erP K c E H4 B' W'):=fun e4 q σ4 H4 W4 st4 cf4=>
      ⟨e4,B',W4,cf4,wp_mono (fun o q=>q.back (st1.trans st4)) (fun _ _ he=>he.back (st1.trans st4)) q⟩
     cases o with
     |nx e4=>exact go e4 q
     |ct e4=>exact go e4 q
     |bk e4=>exact fun σ4 H4 W4 st4 cf4=>q σ4 H4 W4 (st1.trans st4) cf4
     |rt r e4=>exact fun v σ4 H4 W4 Z g=>q v σ4 H4 W4 Z ⟨st1.trans g.st,g.cf,g.at_⟩
theorem qVp{body:List Stmt}{t:ST}{s:SS}(n:Nat)(hp:PassesOwn (model X.prog X.w) X.A X.env X.xe)(hc:TD X c E e t)(hb:SDs X c E body s):SD X c E (.While e body [] pos) (zW t s n):=
 ⟨PS.imp (zXw hp hc.h hb.h) fun _ _ _ h=>zVu h⟩
noncomputable abbrev Fn:=Ev->Res (O×Ev)
def vJd:Slot->Slot
 |.s true o=>.s true o
 |_=>.un
def outs:Nat->Ev->Ev
 | 0,_=> []
 |_+1,[]=> []
 |n+1,s::e=>vJd s::outs n e
def fnS(n m:Nat)(body:SS):Fn:=fun args=>(body (args ++ List.replicate m .un)).bind fun o=>match o with
 |.nx e=>.ok (.fz .non,outs n e)
 |.rt r e=>.ok (r,outs n e)
 |_=>.no
noncomputable def spD(K:aQ)(c:Nat->aV)(n:Nat)(F:Fn):Sp:=fun vs H Q E=>∃args B W,args.length=n/\Cf K c args (vs.map some) H B W/\
 (F args).wp (fun r=>∀v H' W' Z,GotR K c args (vs.map some) H B W r.2 (vs.map some) H' W' Z r.1 v->Q v H') (erP K c E H B W)
section
variable{K:aQ}{c:Nat->aV}{F H H' :Hp}
theorem SlAt.uns(t:TabF c F):∀m:Nat,SlAt K c F H (List.replicate m .un) (List.replicate m none) (fun _=>0)
 | 0=>⟨⟨rfl,t⟩,fun _=>rfl⟩
 |m+1=>⟨none,List.replicate m none,fun _=>0,fun _=>0,rfl,fun _=>rfl,SlAt.uns t m,fun _=>rfl⟩
theorem SlAt.append:∀{env env' :Ev} {σ σ' :L2.St} {Z Z' :Fp},SlAt K c F H env σ Z->SlAt K c F H env' σ' Z' ->SlAt K c F H (env ++ env') (σ ++ σ') (fun a=>Z a+Z' a)
 | [],env',σ,σ',Z,Z',h,k=>by
   rw[h.1.1];exact k.cast fun a=>by rw[h.2];(try dsimp only);omega
 | s::env,env',σ,σ',Z,Z',h,k=>by
   obtain⟨x,r,Z1,Z2,rfl,b,cc,d⟩:=h;exact⟨x,r ++ σ',Z1,_,rfl,b,cc.append k,fun a=>by dsimp only;rw[d];omega⟩
theorem Cf.ext{m:Nat}(h:Cf K c args τ H B W):Cf K c (args ++ List.replicate m .un) (τ ++ List.replicate m none) H B W:=
 ⟨(h.at_.append (SlAt.uns h.at_.tab m)).cast fun a=>by(try dsimp only);omega,h.nd,h.hb⟩
theorem SlAt.outs:∀{n:Nat} {e:Ev} {σ τ:L2.St} {Z:Fp},SlAt K c F H e σ Z->n<=e.length->τ.length=n->(∀(i:Nat) o,i<n->e[i]?=some (.s true o)->σ[i]?=τ[i]?)->∃Z',SlAt K c F H (outs n e) τ Z' /\∀a,Z' a<=Z a
 | 0,e,σ,τ,Z,h,hl,ht,k=>⟨fun _=>0,⟨⟨dM ht,h.tab⟩,fun _=>rfl⟩,fun _=>dF _⟩
 |n+1,[],σ,τ,Z,h,hl,ht,k=>by simp at hl
 |n+1,s::e,σ,[],Z,h,hl,ht,k=>by simp at ht
 | n + 1,s::e,σ,t::τ,Z,h,hl,ht,k=>by
   obtain⟨x,r,Z1,Z2,rfl,b,cc,d⟩:=h;obtain⟨Z',h1,h2⟩:=SlAt.outs (n:=n) (τ:=τ) cc (by simpa using hl) (by simpa using ht) fun i o hi e=>by
    have:=k (i+1) o (by omega) (by simpa using e);simpa using this
   have un:∃Y:Fp,SlAt K c F H (.un ::DX.outs n e) (t::τ) Y/\∀a,Y a<=Z a:=⟨Z',⟨t,τ,fun _=>0,Z',rfl,fun _=>rfl,h1,fun a=>by dsimp only;omega⟩,fun a=>by have:=h2 a;rw[d];omega⟩
   cases s with
   |un=>exact un
   | s io o=>
     cases io with
     |false=>exact un
     | true=>
       have e0:=k 0 o (by omega) rfl;simp only[dH,Option.some.injEq]at e0;subst e0;exact⟨fun a=>Z1 a+Z' a,⟨x,τ,Z1,Z',rfl,b,h1,fun _=>rfl⟩,fun a=>by have:=h2 a;rw[d];dsimp only;omega⟩
theorem vXd:∀{n i:Nat} {e:Ev} {o:O},(outs n e)[i]?=some (.s true o)->i<n/\e[i]?=some (.s true o)
 | 0,i,e,o,h=>by simp[outs]at h
 |n+1,i,[],o,h=>by simp[outs]at h
 | n + 1,0,s::e,o,h=>by
   simp only[outs,dH,Option.some.injEq]at h;refine⟨Nat.succ_pos _,?_⟩;cases s with
   |un=>cases h
   |s io o' =>cases io <;> cases h;rfl
 | n + 1,i + 1,s::e,o,h=>by
   simp only[outs,List.getElem?_cons_succ]at h⊢;obtain⟨h1,h2⟩:=vXd h;exact⟨by omega,h2⟩
theorem vXc:∀{n:Nat} {e:Ev},n<=e.length->(outs n e).length =n
 | 0,e,_=>by simp[outs]
 |n+1,[],h=>by simp at h
 |n+1,s::e,h=>by rw[outs,aY,vXc (by simpa using h)]
theorem jXb{m:Nat}{o:O}(h:(args ++ List.replicate m .un)[i]?=some (.s true o)):i<args.length/\args[i]?=some (.s true o):=by
 by_cases hi:i<args.length
 ·rw[cC hi]at h;exact⟨hi,h⟩
 ·rw [cS (by omega),List.getElem?_replicate] at h;split at h <;> cases h
theorem GotR.out{e:Ev}{m:Nat}{r:O}(hn:args.length=n)(cf:Cf K c args τ H B W)(g:GotR K c (args ++ List.replicate m .un) (τ ++ List.replicate m none) H B W e σ' H' W' Z r v):
  ∃W2,GotR K c args τ H B W (outs n e) τ H' W2 Z r v:=by
 have hle:n<=e.length:=by rw[g.st.len,aW];omega
 have hτ:τ.length=n:=by rw[←cf.len];exact hn
 have back:∀(i:Nat) (o:O),i<n->e[i]?=some (.s true o)->(∃o0,args[i]?=some (.s true o0))/\σ'[i]?=τ[i]?:=fun i o hi h=>by
  obtain⟨⟨o0,h3⟩,h5⟩:=g.st.io i o h;rw[cC (by omega)]at h5;exact⟨⟨o0,(jXb h3).2⟩,h5⟩
 obtain⟨W2,h1,h2⟩:=g.cf.at_.outs hle hτ fun i o hi h=>(back i o hi h).2
 have sm:Same (hide (hd2 (hd2 B Z) W') H') (hide (hd2 (hd2 B Z) W2) H'):=zS fun a z=>by have:=h2 a;dsimp only[hd2]at *;omega
 have sm2:Same (hide (hd2 B (hd2 W' Z)) H') (hide (hd2 B (hd2 W2 Z)) H'):=zS fun a z=>by have:=h2 a;dsimp only[hd2]at *;omega
 refine⟨W2,⟨g.st.same.trans sm2,g.st.by_,fun a z=>g.st.new a (by have:=h2 a;dsimp only[hd2]at *;omega),g.st.dom,fun a z1 z2=>g.st.pin a z1 (by have:=h2 a;dsimp only[hd2]at *;omega),fun i o h=>?_,by rw[vXc hle,hn]⟩,
  ⟨h1.keep sm fun _ _=>rfl,fun a=>by have:=h2 a;have:=g.cf.nd a;dsimp only[hd2]at *;omega,g.cf.hb⟩,g.at_.keep sm fun _ _=>rfl⟩
 obtain⟨hi,h3⟩:=vXd h;exact⟨(back i o hi h3).1,rfl⟩
end
theorem fnD{K:aQ}{x:Str}{st:Stmt}{f:aV}{k:Nat}(F:Fun K x qual st f fd)(S:FnScope N ps (qW st))(hb:∀(cdv:Value) (A:cE) (outer:List Env) (s:aX) (H:Hp) (E:XK),Room k (A.deeper (envOfC qual (qW st) s.heap.objs.size f cdv))->SDs (cxOf (CXd P w) P w K mg base N qual (qW st) f cdv A outer s H E) c E (jY st) body):
  FnOk P w K mg base (CXd P w) (k+1) f fd ps (spD K c ps.length (fnS ps.length (N.length - ps.length) body)):=by
 refine F.okD S (fun vs H Q E h=>?_) (fun cdv Ar outer s H vs Q E hr h=>?_)
 ·obtain⟨args,B,W,hl,cf,_⟩:=h;have:=cf.len;rw[aP]at this;omega
 ·obtain⟨args,B,W,hl,cf,wp0⟩:=h;have hvl:vs.length=ps.length:=by
   have:=cf.len;rw[aP]at this;omega
  refine⟨_,(hb cdv Ar outer s H E hr).h,?_⟩;have hst:L2.qZw N vs=vs.map some ++ List.replicate (N.length - ps.length) none:=by unfold L2.qZw;rw[hvl]
  show tS K c E body _ (L2.qZw N vs) H;rw[hst];unfold fnS at wp0;refine⟨args ++ List.replicate (N.length - ps.length) .un,B,W,cf.ext,wp_mono (fun o ho=>?_) (fun _ _ he=>he) (qP.mp wp0)⟩;cases o with
  | nx e=>
    intro σ' H' W' st' cf';have g:GotR K c (args ++ List.replicate (N.length - ps.length) .un) (vs.map some ++ List.replicate (N.length - ps.length) none) H B W e σ' H' W' (fun _=>0) (.fz .non) .non :=⟨st'.cast (fun _=>rfl) (fun _=>rfl) fun _=>rfl,cf'.cast (fun _=>rfl) fun _=>rfl,OAt.fz.mpr ⟨.non,fun _=>rfl⟩⟩
    obtain⟨W2,g2⟩:=g.out hl cf;exact ho .non H' W2 _ g2
  | rt r e=>
    intro v σ' H' W' Z g;obtain⟨W2,g2⟩:=g.out hl cf;exact ho v H' W2 Z g2
  |bk e=>exact ho.elim
  |ct e=>exact ho.elim
mutual
def qWh:D->Bool
 |.nd .tup ds=>flatDs ds
 |.nd _ _=>false
 |_=>true
def flatDs:List D->Bool
 |[]=>true
 |d::ds=>qWh d && flatDs ds
end
mutual
def vWn:O->Bool
 |.fz d=>qWh d
 |.ow _ os=>flatOs os
def flatOs:List O->Bool
 |[]=>true
 |o::os=>vWn o && flatOs os
end
theorem vVf:∀{ds:List D} {i:Nat} {d:D},flatDs ds=true->ds[i]?=some d->qWh d=true
 |[],i,d,h,e=>by simp at e
 | x::ds,0,d,h,e=>by
   rw[flatDs,aE]at h;cases e;exact h.1
 | x::ds,i + 1,d,h,e=>by
   rw[flatDs,aE]at h;exact vVf h.2 (by simpa using e)
section
variable{K:aQ}{c:Nat->aV}{F F' H H' :Hp}
theorem zXf(k:∀a o,F a=some o->¬Hb o->F' a=some o){p:aV}(h:SqT K F p vs):SqT K F' p vs:=by
 rcases h with(h|⟨o,h⟩)|h
 ·exact .inl (.inl (k _ _ h fun z=>z))
 ·exact .inl (.inr ⟨o,k _ _ h fun z=>z⟩)
 ·exact .inr h
theorem DAt.flat(k:∀a o,F a=some o->¬Hb o->F' a=some o){d:D}(h:DAt K c F v d)(hf:qWh d=true):DAt K c F' v d:=by
 induction h with
 |non=>exact .non
 |int i=>exact .int i
 |str i=>exact .str i
 |bl i=>exact .bl i
 |fn i=>exact .fn i
 | @nd p kd vs ds h l r ih=>
   cases kd with
   | tup=>
     rw[qWh]at hf;exact .nd (zXf k h) l fun i v d a b=>ih i v d a b (vVf hf b)
   |lst=>simp[qWh]at hf
   |dct ks=>simp[qWh]at hf
   |dcT ks=>simp[qWh]at hf
   |obj C fs=>simp[qWh]at hf
   |exc C fs=>simp[qWh]at hf
mutual
theorem OAt.flat(k:∀a o,F a=some o->¬Hb o->F' a=some o):∀{o:O} {v:V} {Z:Fp},vWn o=true->OAt K c F H o v Z->OAt K c F' H o v Z
 | .fz d,v,Z,hf,h=>by
   rw[OAt.fz]at h⊢;rw[vWn]at hf;exact⟨h.1.flat k hf,h.2⟩
 | .ow kd os,v,Z,hf,h=>by
   rw[OAt.ow]at h⊢;rw[vWn]at hf;obtain⟨p,vs,Z',a,b,c,d⟩:=h;exact⟨p,vs,Z',a,b,OsAt.flat k hf c,d⟩
theorem OsAt.flat(k:∀a o,F a=some o->¬Hb o->F' a=some o):∀{os:List O} {vs:List V} {Z:Fp},flatOs os=true->OsAt K c F H os vs Z->OsAt K c F' H os vs Z
 |[],vs,Z,hf,h=>by rw[OsAt.nil]at h⊢;exact h
 | o::os,vs,Z,hf,h=>by
   rw[OsAt.cons]at h⊢;rw[flatOs,aE]at hf;obtain⟨v,r,Z1,Z2,a,b,c,d⟩:=h;exact⟨v,r,Z1,Z2,a,OAt.flat k hf.1 b,OsAt.flat k hf.2 c,d⟩
end
end
mutual
def ndD:D->Bool
 |.nd (.dct _) _=>false
 |.nd (.dcT _) _=>false
 |.nd _ ds=>ndDs ds
 |_=>true
def ndDs:List D->Bool
 |[]=>true
 |d::ds=>ndD d && ndDs ds
end
mutual
def ndO:O->Bool
 |.fz d=>ndD d
 |.ow _ os=>ndOs os
def ndOs:List O->Bool
 |[]=>true
 |o::os=>ndO o && ndOs os
end
theorem vXe:∀{ds:List D} {i:Nat} {d:D},ndDs ds=true->ds[i]?=some d->ndD d=true
 |[],i,d,h,e=>by simp at e
 | x::ds,0,d,h,e=>by
   rw[ndDs,aE]at h;cases e;exact h.1
 | x::ds,i + 1,d,h,e=>by
   rw[ndDs,aE]at h;exact vXe h.2 (by simpa using e)
noncomputable def isDK:HO->Prop
 |.dK _=>True
 |.dT _=>True
 |_=>False
section
variable{K:aQ}{c:Nat->aV}{F F' H H' :Hp}
theorem NdAt.nd'(k:∀a o,F a=some o->¬isDK o->F' a=some o){p:aV}{kd:Kd}(h:NdAt K c F p kd vs)(hk:∀ks,kd≠ .dct ks)(hk' :∀ks,kd≠ .dcT ks):NdAt K c F' p kd vs:=by
 cases kd with
 | lst=>
   rcases h with(h|⟨o,h⟩)|h
   ·exact .inl (.inl (k _ _ h fun z=>z))
   ·exact .inl (.inr ⟨o,k _ _ h fun z=>z⟩)
   ·exact .inr h
 | tup=>
   rcases h with(h|⟨o,h⟩)|h
   ·exact .inl (.inl (k _ _ h fun z=>z))
   ·exact .inl (.inr ⟨o,k _ _ h fun z=>z⟩)
   ·exact .inr h
 |dct ks=>grind
 |dcT ks=>grind
 |obj C fs=>obtain⟨a,dx,b⟩:=h;exact⟨a,dx,k _ _ b fun z=>z⟩
 | exc C fs=>
   obtain⟨a,ox,b,d⟩:=h;refine⟨a,ox,k _ _ b fun z=>z,?_⟩;cases ox with
   |none=>exact d
   |some dx=>exact k _ _ d fun z=>z
theorem DAt.nd'(k:∀a o,F a=some o->¬isDK o->F' a=some o){d:D}(h:DAt K c F v d)(hf:ndD d=true):DAt K c F' v d:=by
 induction h with
 |non=>exact .non
 |int i=>exact .int i
 |str i=>exact .str i
 |bl i=>exact .bl i
 |fn i=>exact .fn i
 | @nd p kd vs ds h l r ih=>
   have hk:(∀ks,kd≠ .dct ks)/\(∀ks,kd≠ .dcT ks)/\ndDs ds=true:=by
    cases kd with
    |lst=>rw[ndD]at hf <;> simp_all
    |tup=>rw[ndD]at hf <;> simp_all
    |dct ks=>simp[ndD]at hf
    |dcT ks=>simp[ndD]at hf
    |obj C fs=>rw[ndD]at hf <;> simp_all
    |exc C fs=>rw[ndD]at hf <;> simp_all
   exact .nd (h.nd' k hk.1 hk.2.1) l fun i v d a b=>ih i v d a b (vXe hk.2.2 b)
mutual
theorem OAt.nd'(k:∀a o,F a=some o->¬isDK o->F' a=some o):∀{o:O} {v:V} {Z:Fp},ndO o=true->OAt K c F H o v Z->OAt K c F' H o v Z
 | .fz d,v,Z,hf,h=>by
   rw[OAt.fz]at h⊢;rw[ndO]at hf;exact⟨h.1.nd' k hf,h.2⟩
 | .ow kd os,v,Z,hf,h=>by
   rw[OAt.ow]at h⊢;rw[ndO]at hf;obtain⟨p,vs,Z',a,b,c,d⟩:=h;exact⟨p,vs,Z',a,b,OsAt.nd' k hf c,d⟩
theorem OsAt.nd'(k:∀a o,F a=some o->¬isDK o->F' a=some o):∀{os:List O} {vs:List V} {Z:Fp},ndOs os=true->OsAt K c F H os vs Z->OsAt K c F' H os vs Z
 |[],vs,Z,hf,h=>by rw[OsAt.nil]at h⊢;exact h
 | o::os,vs,Z,hf,h=>by
   rw[OsAt.cons]at h⊢;rw[ndOs,aE]at hf;obtain⟨v,r,Z1,Z2,a,b,c,d⟩:=h;exact⟨v,r,Z1,Z2,a,OAt.nd' k hf.1 b,OsAt.nd' k hf.2 c,d⟩
end
end
def dcFz:O->Bool
 | .ow (.dct _) os=>os.all fun o=>match o with
   |.fz _=>true
   |_=>false
 |_=>false
theorem jVq{K:aQ}{F:Hp}{o:O}(h:OAt K c F H o v Z)(e:dcFz o=true):∀a,Z a≠0->∃ho,H a=some ho/\isDK ho:=by
 unfold dcFz at e;split at e
 ·rename_i ks os;obtain⟨p,vs,Z',rfl,b,cc,d⟩:=h;have key:∀{os:List O} {vs:List V} {Z:Fp},(os.all fun o=>match o with|.fz _=>true|_=>false)=true->OsAt K c F H os vs Z->∀a,Z a=0:=fun {os}=>by
   induction os with
   |nil=>intro vs Z _ h;exact h.2
   | cons o os ih=>
     intro vs Z hf h;rw[List.all_cons,aE]at hf;obtain⟨v,r,Z1,Z2,_,b,cc,d⟩:=h;cases o with
     |ow _ _=>cases hf.1
     |fz x=>rw[OAt.fz]at b;intro a;rw[d,b.2,ih hf.2 cc]
  intro a z;have z0:=key e cc a;by_cases y:a=p
  ·subst y;exact⟨_,b.2.2,trivial⟩
  ·rw[d,xE y,z0]at z;exact absurd rfl z
 ·cases e
inductive Am where
 |v (s:SV)|b (s:SP)|io (i:Nat)
def pIo(i:Nat):SP:=fun env=>match env[i]? with
 |some (.s _ _)=>some (.p i [])
 |_=>none
def Am.o:Am->Oe
 |.v s=>.v s
 |.b s=>.p s
 |.io i=>.p (pIo i)
def wT:List Am->List Hn->List Nat
 |.io _::as,.p j _::hs=>j::wT as hs
 |_::as,_::hs=>wT as hs
 |_,_=> []
def qQb:List Nat->Ev->Option (List O×Ev)
 |[],env=>some ([],env)
 | j::js,env=>match env[j]? with
   |some (.s _ o)=>(qQb js (env.set j .un)).bind fun q=>some (o::q.1,q.2)
   |_=>none
def flag(env:Ev)(j:Nat):Bool:=match env[j]? with
 |some (.s io _)=>io
 |_=>false
def putS(e1:Ev):List Nat->List O->Ev->Ev
 |j::js,o::os,env=>putS e1 js os (env.set j (.s (flag e1 j) o))
 |_,_,env=>env
def getL:List Nat->List O->Nat->Option O
 |j::js,o::os,i=>if j=i then some o else getL js os i
 |_,_,_=>none
def j9(ls:List Nat)(lo:List O):List Am->List Hn->List O->Option Ev
 |[],[],_=>some []
 |.v _::as,.d x::hs,os=>(j9 ls lo as hs os).bind fun r=>some (.s false (.fz x)::r)
 |.b _::as,.d x::hs,os=>(j9 ls lo as hs os).bind fun r=>some (.s false (.fz x)::r)
 |.b _::as,.p i π::hs,os=>(getL ls lo i).bind fun o0=>(getP o0 π).bind fun o=>(j9 ls lo as hs os).bind fun r=>some (.s false (.fz (fzO o))::r)
 |.io _::as,.p _ []::hs,o::os=>(j9 ls lo as hs os).bind fun r=>some (.s true o::r)
 |_,_,_=>none
def zM:List Am->List Hn->List Nat
 |.b _::as,.p i _::hs=>cond ((zM as hs).contains i) (zM as hs) (i::zM as hs)
 |_::as,_::hs=>zM as hs
 |_,_=> []
def qZp:List Am->Ev->Option (List O)
 |[],[]=>some []
 |.io _::as,.s true o::e=>(qZp as e).bind fun r=>some (o::r)
 |.io _::_,_::_=>none
 |_::as,_::e=>qZp as e
 |_,_=>none
noncomputable def qQj:List Am->List V->List V
 |.io _::as,u::us=>u::qQj as us
 |_::as,_::us=>qQj as us
 |_,_=> []
section
variable{K:aQ}{c:Nat->aV}{F F' H H' :Hp}
theorem vQq:∀{js:List Nat} {env envR:Ev} {os:List O} {σ:L2.St} {W:Fp},SlAt K c F H env σ W->qQb js env=some (os,envR)->∃vs Wc R,js.map (fun j=>σ[j]?)=vs.map (fun v=>some (some v))/\OsAt K c F H os vs Wc/\SlAt K c F H envR σ R/\(∀a,W a=Wc a+R a)/\
  js.Nodup/\(∀j∈js,envR[j]?=some .un)/\(∀j,j∉js->envR[j]?=env[j]?)/\envR.length=env.length
 | [],env,envR,os,σ,W,h,e=>by
   cases e;exact⟨[],fun _=>0,W,rfl,OsAt.nil.mpr ⟨rfl,fun _=>rfl⟩,h,fun a=>by(try dsimp only);omega,List.nodup_nil,fun _ z=>by simp at z,fun _ _=>rfl,rfl⟩
 | j::js,env,envR,os,σ,W,h,e=>by
   simp only[qQb]at e;cases e0:env[j]? with
   |none=>rw[e0]at e;cases e
   | some s=>
     rw[e0]at e;cases s with
     |un=>cases e
     | s io o=>
       obtain⟨q,e1,e2⟩:=bnd e;cases e2;obtain⟨x,Z1,R1,h1,h2,h3,h4⟩:=h.focus e0;cases x with
       |none=>exact h2.elim
       | some v=>
         have h5:=h4 F H .un (some v) (fun _=>0) R1 (Same.refl _) (fun _ _=>rfl) (fun _=>rfl) fun a=>by(try dsimp only);omega
         rw[qQp h1]at h5;obtain⟨vs,Wc,R,a1,a2,a3,a4,a5,a6,a7,a8⟩:=vQq h5 e1;have hj:j<env.length:=(aB.mp e0).1;have nj:j∉js:=fun z=>by
          have key:∀{js:List Nat} {env:Ev} {q:List O×Ev},env[j]?=some .un ->j∈js->qQb js env=some q->False:=by
           intro js;induction js with
           |nil=>intro env q _ z;simp at z
           | cons i is ih=>
             intro env q hu z ht;simp only[qQb]at ht;by_cases hi:i=j
             ·subst hi;rw[hu]at ht;cases ht
             ·rcases aH.mp z with z | z
              ·exact hi z.symm
              ·cases e3:env[i]? with
               |none=>rw[e3]at ht;cases ht
               | some s=>
                 rw[e3]at ht;cases s with
                 |un=>cases ht
                 | s io o=>
                   obtain⟨q',e4,_⟩:=bnd ht;exact ih (by rw[bY hi];exact hu) z e4
          exact key (dO hj) z e1
         refine⟨v::vs,fun a=>Z1 a+Wc a,R,by rw[bJ,bJ,h1,a1],OsAt.cons.mpr ⟨v,vs,Z1,Wc,rfl,h2,a2,fun _=>rfl⟩,a3,fun a=>by rw[h3,a4];(try dsimp only);omega,eQ.mpr ⟨nj,a5⟩,fun i hi=>?_,fun i hi=>?_,by rw[a8,cV]⟩
         ·rcases aH.mp hi with rfl | hi
          ·rw[a7 i nj,dO hj]
          ·exact a6 i hi
         ·rw[a7 i fun z=>hi (aK _ z),bY fun z=>hi (by rw[z];exact aA)]
theorem vJm{e1:Ev}:∀{js:List Nat} {os:List O} {vs:List V} {env:Ev} {σ:L2.St} {R Wc Y:Fp},SlAt K c F H env σ R->js.Nodup->(∀j∈js,env[j]?=some .un)->js.map (fun j=>σ[j]?)=vs.map (fun v=>some (some v))->OsAt K c F H os vs Wc->(∀a,Y a=R a+Wc a)->SlAt K c F H (putS e1 js os env) σ Y
 | [],os,vs,env,σ,R,Wc,Y,h,_,_,e,k,y=>by
   cases vs with
   |cons v vs=>cases e
   | nil=>
     cases os with
     |cons o os=>rw[OsAt.cons]at k;obtain⟨_,_,_,_,z,_⟩:=k;cases z
     | nil=>
       exact h.cast fun a=>by rw[y,k.2];omega
 | j::js,os,vs,env,σ,R,Wc,Y,h,hn,hu,e,k,y=>by
   cases vs with
   |nil=>cases e
   | cons v vs=>
     rw[bJ,bJ,List.cons.injEq]at e;cases os with
     |nil=>rw[OsAt.nil]at k;cases k.1
     | cons o os=>
       obtain⟨v',r,Z1,Z2,z,k1,k2,k3⟩:=k;cases z;rw[eQ]at hn;obtain⟨x,Z0,R0,h1,h2,h3,h4⟩:=h.focus (hu j aA);have z0:∀a,Z0 a=0:=h2;have hx:x=some v:=by rw[e.1]at h1;exact(Option.some.inj h1).symm
       subst hx;have h5:=h4 F H (.s (flag e1 j) o) (some v) Z1 (fun a=>Z1 a+R a) (Same.refl _) (fun _ _=>rfl) k1 fun a=>by rw[h3,z0];omega
       rw[qQp h1]at h5;simp only[putS];exact vJm h5 hn.2 (fun i hi=>by rw[bY fun z=>hn.1 (by rw[z];exact hi)];exact hu i (aK _ hi)) e.2 k2 fun a=>by rw[y,k3];omega
theorem vQt{e1:Ev}:∀{js:List Nat} {os:List O} {env:Ev} {i:Nat} {o:O},(putS e1 js os env)[i]?=some (.s true o)->(i∈js/\flag e1 i=true)\/env[i]?=some (.s true o)
 |[],os,env,i,o,h=>.inr (by simpa[putS] using h)
 |j::js,[],env,i,o,h=>.inr (by simpa[putS] using h)
 | j::js,o' ::os,env,i,o,h=>by
   simp only[putS]at h;rcases vQt h with⟨h1,h2⟩|h1
   ·grind
   ·grind
theorem vQs{e1:Ev}:∀{js:List Nat} {os:List O} {env:Ev},(putS e1 js os env).length =env.length
 |[],os,env=>by simp[putS]
 |j::js,[],env=>by simp[putS]
 |j::js,o' ::os,env=>by simp only[putS];rw[vQs,cV]
theorem qKs{u:V}{x:D}(h:DAt K c F u x):wQ K c F H (.s io (.fz x)) (some u) (fun _=>0):=by
 show OAt K c F H (.fz x) u (fun _=>0);rw[OAt.fz];grind
theorem zQ8:∀{ls:List Nat} {lo:List O} {vs:List V} {L:Fp} {i:Nat} {o:O},OsAt K c F H lo vs L->ls.map (fun j=>σ[j]?)=vs.map (fun v=>some (some v))->getL ls lo i=some o->∃(v:V) (Z R:Fp),σ[i]?=some (some v)/\OAt K c F H o v Z/\∀a,L a=Z a+R a
 |[],lo,vs,L,i,o,h,e,g=>by cases lo <;> simp[getL]at g
 |j::js,[],vs,L,i,o,h,e,g=>by simp[getL]at g
 |j::js,o0::lo,[],L,i,o,h,e,g=>by cases e
 | j::js,o0::lo,v::vs,L,i,o,h,e,g=>by
   rw[bJ,bJ,List.cons.injEq]at e;obtain⟨v',r,Z1,Z2,z,b,cc,d⟩:=h;cases z;simp only[getL]at g;by_cases q:j=i
   ·rw [if_pos q] at g;cases g;exact⟨v,Z1,Z2,by rw[←q];exact e.1,b,d⟩
   ·rw [if_neg q] at g;obtain⟨w,Z,R,h1,h2,h3⟩:=zQ8 cc e.2 g;exact⟨w,Z,fun a=>Z1 a+R a,h1,h2,fun a=>by rw[d,h3];(try dsimp only);omega⟩
theorem mkArgs_at{lo:List O}{lv:List V}{L:Fp}{Fc:Hp}(ol:OsAt K c F H lo lv L)(el:ls.map (fun j=>σ[j]?)=lv.map (fun v=>some (some v)))(tb:TabF c Fc)(lk:∀a,L a≠0->Fc a=H a)(sm:Same F Fc):∀{as:List Am} {hs:List Hn} {us:List V} {os:List O} {args:Ev} {Wc:Fp},xY K c F σ H us hs->OsAt K c F H os (qQj as us) Wc->j9 ls lo as hs os=some args->
  SlAt K c Fc H args (us.map some) Wc/\args.length=as.length
 | [],[],us,os,args,Wc,hh,ho,e=>by
   cases e;cases us with
   |cons u us=>exact hh.elim
   | nil=>
     cases os with
     |cons o os=>rw[OsAt.cons]at ho;obtain⟨_,_,_,_,z,_⟩:=ho;cases z
     |nil=>rw[OsAt.nil]at ho;exact⟨⟨⟨rfl,tb⟩,ho.2⟩,rfl⟩
 | .v s::as, .d x::hs,us,os,args,Wc,hh,ho,e=>by
   cases us with
   |nil=>exact hh.elim
   | cons u us=>
     obtain⟨r,e1,e2⟩:=bnd e;cases e2;obtain⟨h1,h2⟩:=mkArgs_at ol el tb lk sm (as:=as) (hs:=hs) hh.2 ho e1;exact⟨⟨some u,us.map some,fun _=>0,Wc,rfl,qKs (DAt.same sm hh.1),h1,fun a=>by(try dsimp only);omega⟩,by rw[aY,aY,h2]⟩
 | .b s::as, .d x::hs,us,os,args,Wc,hh,ho,e=>by
   cases us with
   |nil=>exact hh.elim
   | cons u us=>
     obtain⟨r,e1,e2⟩:=bnd e;cases e2;obtain⟨h1,h2⟩:=mkArgs_at ol el tb lk sm (as:=as) (hs:=hs) hh.2 ho e1;exact⟨⟨some u,us.map some,fun _=>0,Wc,rfl,qKs (DAt.same sm hh.1),h1,fun a=>by(try dsimp only);omega⟩,by rw[aY,aY,h2]⟩
 | .b s::as, .p i π::hs,us,os,args,Wc,hh,ho,e=>by
   cases us with
   |nil=>exact hh.elim
   | cons u us=>
     obtain⟨o0,e0,e⟩:=bnd e;obtain⟨o,e5,e⟩:=bnd e;obtain⟨r,e1,e2⟩:=bnd e;cases e2;obtain⟨h1,h2⟩:=mkArgs_at ol el tb lk sm (as:=as) (hs:=hs) hh.2 ho e1;have hw:vT H σ i π=some u:=hh.1;have dd:DAt K c Fc u (fzO o):=by
      obtain⟨v,Z,R,g1,g2,g3⟩:=zQ8 ol el e0;obtain⟨v1,Z1,R1,k1,k2,k3,k4⟩:=OAt.focus g2 e5;have:v1=u:=by
       unfold vT at hw;rw[g1]at hw;exact Option.some.inj (k1.symm.trans hw)
      subst this;exact k2.dat sm fun a z=>lk a (by rw[g3,k3];omega)
     exact⟨⟨some u,us.map some,fun _=>0,Wc,rfl,qKs dd,h1,fun a=>by(try dsimp only);omega⟩,by rw[aY,aY,h2]⟩
 | .io i::as, .p j []::hs,us,os,args,Wc,hh,ho,e=>by
   cases us with
   |nil=>exact hh.elim
   | cons u us=>
     cases os with
     |nil=>cases e
     | cons o os=>
       obtain⟨r,e1,e2⟩:=bnd e;cases e2;rw[show qQj (.io i::as) (u::us)=u::qQj as us from rfl,OsAt.cons]at ho;obtain⟨v,r',Z1,Z2,z,k1,k2,k3⟩:=ho;cases z;obtain⟨h1,h2⟩:=mkArgs_at ol el tb lk sm (as:=as) (hs:=hs) hh.2 k2 e1;exact⟨⟨some u,us.map some,Z1,Z2,rfl,k1.keep sm fun _ _=>rfl,h1,k3⟩,by rw[aY,aY,h2]⟩
 |.v _::_,.p _ _::_,_,_,_,_,_,_,e=>by cases e
 |.io _::_,.d _::_,_,_,_,_,_,_,e=>by cases e
 |.io _::_,.p _ (_::_)::_,_,_,_,_,_,_,e=>by cases e
 |[],_::_,_,_,_,_,_,_,e=>by cases e
 |.v _::_,[],_,_,_,_,_,_,e=>by cases e
 |.b _::_,[],_,_,_,_,_,_,e=>by cases e
 |.io _::_,[],_,_,_,_,_,_,e=>by cases e
theorem outOs_at:∀{as:List Am} {e:Ev} {us:List V} {os:List O} {W:Fp},SlAt K c F H e (us.map some) W->qZp as e=some os->∃W',OsAt K c F H os (qQj as us) W' /\∀a,W' a<=W a
 | [],[],us,os,W,h,e=>by
   cases e;have:us=[]:=by simpa using h.1.1
   exact⟨fun _=>0,OsAt.nil.mpr ⟨rfl,fun _=>rfl⟩,fun _=>dF _⟩
 | .io i::as, .s true o::e,us,os,W,h,eq=>by
   obtain⟨r,e1,e2⟩:=bnd eq;cases e2;obtain⟨x,t,Z1,Z2,z,b,cc,d⟩:=h;cases us with
   |nil=>cases z
   | cons u us=>
     rw[bJ,List.cons.injEq]at z;obtain⟨z1,z2⟩:=z;subst z1 z2;obtain⟨W',h1,h2⟩:=outOs_at cc e1;exact⟨fun a=>Z1 a+W' a,OsAt.cons.mpr ⟨u,_,Z1,W',rfl,b,h1,fun _=>rfl⟩,fun a=>by have:=h2 a;rw[d];(try dsimp only);omega⟩
 | .v _::as,s::e,us,os,W,h,eq=>by
   obtain⟨x,t,Z1,Z2,z,b,cc,d⟩:=h;cases us with
   |nil=>cases z
   | cons u us=>
     rw[bJ,List.cons.injEq]at z;obtain⟨z1,z2⟩:=z;subst z2;obtain⟨W',h1,h2⟩:=outOs_at (as:=as) cc (by simpa[qZp] using eq);exact⟨W',h1,fun a=>by have:=h2 a;rw[d];omega⟩
 | .b _::as,s::e,us,os,W,h,eq=>by
   obtain⟨x,t,Z1,Z2,z,b,cc,d⟩:=h;cases us with
   |nil=>cases z
   | cons u us=>
     rw[bJ,List.cons.injEq]at z;obtain⟨z1,z2⟩:=z;subst z2;obtain⟨W',h1,h2⟩:=outOs_at (as:=as) cc (by simpa[qZp] using eq);exact⟨W',h1,fun a=>by have:=h2 a;rw[d];omega⟩
 |.io _::_,.un ::_,_,_,_,_,eq=>by cases eq
 |.io _::_,.s false _::_,_,_,_,_,eq=>by cases eq
 |[],_::_,_,_,_,_,eq=>by cases eq
 |.v _::_,[],_,_,_,_,eq=>by cases eq
 |.b _::_,[],_,_,_,_,eq=>by cases eq
 |.io _::_,[],_,_,_,_,eq=>by cases eq
theorem qQq{lo:List O}:∀{as:List Am} {hs:List Hn} {us:List V} {os:List O} {args:Ev},xY K c F σ H us hs->j9 ls lo as hs os=some args->(wT as hs).map (fun j=>σ[j]?)=(qQj as us).map (fun v=>some (some v))
 |[],[],us,os,args,hh,_=>by cases us <;> rfl
 | .io i::as, .p j []::hs,us,os,args,hh,e=>by
   cases us with
   |nil=>exact hh.elim
   | cons u us=>
     cases os with
     |nil=>cases e
     | cons o os=>
       obtain⟨r,e1,_⟩:=bnd e;have w:vT H σ j []=some u:=hh.1;have w2:σ[j]?=some (some u):=by
        unfold vT at w;cases e:σ[j]? with
        |none=>grind
        | some y=>
          rw[e]at w;cases y with
          |none=>cases w
          | some v=>have:v=u:=by cases v <;> simpa [walk] using w
                    rw[this]
       simp only[wT,qQj,bJ];rw[w2,qQq hh.2 e1]
 | .v s::as, .d x::hs,us,os,args,hh,e=>by
   cases us with
   |nil=>exact hh.elim
   | cons u us=>
     obtain⟨r,e1,_⟩:=bnd e;simp only[wT];exact qQq hh.2 e1
 | .b s::as, .d x::hs,us,os,args,hh,e=>by
   cases us with
   |nil=>exact hh.elim
   | cons u us=>
     obtain⟨r,e1,_⟩:=bnd e;simp only[wT];exact qQq hh.2 e1
 | .b s::as, .p i π::hs,us,os,args,hh,e=>by
   cases us with
   |nil=>exact hh.elim
   | cons u us=>
     obtain⟨o0,_,e⟩:=bnd e;obtain⟨o,_,e⟩:=bnd e;obtain⟨r,e1,_⟩:=bnd e;simp only[wT];exact qQq hh.2 e1
 |.v _::_,.p _ _::_,_,_,_,_,e=>by cases e
 |.io _::_,.d _::_,_,_,_,_,e=>by cases e
 |.io _::_,.p _ (_::_)::_,_,_,_,_,e=>by cases e
 |[],_::_,_,_,_,_,e=>by cases e
 |.v _::_,[],_,_,_,_,e=>by cases e
 |.b _::_,[],_,_,_,_,e=>by cases e
 |.io _::_,[],_,_,_,_,e=>by cases e
end
def vJa(lo:List O)(r:O)(os:List O):Bool:=lo.isEmpty || (vWn r && flatOs os) || (lo.all dcFz && ndO r && ndOs os)
def qZq(F:Fn)(as:List Am)(hs:List Hn)(env:Ev):Res (O×Ev):=(opt (qQb (zM as hs) env)).bind fun t0=>(opt (qQb (wT as hs) t0.2)).bind fun t=>(opt (j9 (zM as hs) t0.1 as hs t.1)).bind fun args=>(F args).bind fun q=>(opt (qZp as q.2)).bind fun os=>
 cond (vJa t0.1 q.1 os) (.ok (q.1,putS env (zM as hs) t0.1 (putS env (wT as hs) os t.2))) .no
def qY(F:Fn)(as:List Am):SE:=fun env=>(evOs (as.map Am.o) env).bind fun r=>qZq F as r.1 r.2
theorem zQn{e1:Ev}:∀{js:List Nat} {os:List O} {env:Ev} {i:Nat},i∉js->(putS e1 js os env)[i]?=env[i]?
 |[],os,env,i,_=>by cases os <;> rfl
 |j::js,[],env,i,_=>rfl
 | j::js,o::os,env,i,h=>by
   simp only[putS];rw[zQn fun z=>h (aK _ z),bY fun z=>h (by rw[z];exact aA)]
theorem qWc{K:aQ}{hs:List Hn}{F:Fn}(cf:Cf K c env σ H B W)(hh:xY K c (hide (hd2 B W) H) σ H us hs)(hw:(qZq F as hs env).wp (fun r=>∀u H' W' Z,Got K c env σ H B W r.2 H' W' Z r.1 u->Q u H') (erP K c E H B W)):spD K c as.length F us H Q E:=by
 obtain⟨t0,e0,w0⟩:=qH hw
 obtain⟨t,e1,w1⟩:=qH w0
 obtain⟨args,e2,w2⟩:=qH w1
 obtain⟨lo,eL⟩:=t0
 obtain⟨os,eR⟩:=t
 obtain⟨lv,L,R1,l1,l2,l3,l4,l5,l6,l7,l8⟩:=vQq cf.at_ e0
 obtain⟨vs,Wc,R,a1,a2,a3,a4',a5,a6,a7,a8⟩:=vQq l3 e1
 have a4:∀a,W a=L a+(Wc a+R a):=fun a=>by rw[l4,a4']
 have hv:=qQq hh e2
 have hvs:vs=qQj as us:=by
  have e:vs.map (fun v=>some (some v))=(qQj as us).map (fun v=>some (some v)):=a1.symm.trans hv
  exact List.map_inj_right (f:=fun v:V=>some (some v)) (fun x y h=>Option.some.inj (Option.some.inj h)) |>.mp e
 subst hvs
 have nd:∀a,B a+(L a+(Wc a+R a))<=1:=fun a=>by have:=cf.nd a;rw[a4]at this;exact this
 let Bc:Fp:=fun a=>B a+R a
 have bc:∀a,Bc a=B a+R a:=fun _=>rfl
 have smc:Same (hide (hd2 B W) H) (hide (hd2 Bc Wc) H):=zS fun a z=>by have:=a4 a;have:=bc a;dsimp only[hd2]at *;omega
 have Lv:∀a,L a≠0->hide (hd2 Bc Wc) H a=H a:=fun a q=>zK (by have:=nd a;have:=bc a;dsimp only[hd2];omega)
 obtain⟨sA,la⟩:=mkArgs_at l2 l1 (cf.at_.tab.same smc) Lv smc (as:=as) (hs:=hs) hh a2 e2
 have hbR:∀a,B a+(L a+R a)≠0->∃o,H a=some o/\Hb o:=fun a z=>cf.hbs (by rw[a4];omega)
 have cfc:Cf K c args (us.map some) H Bc Wc:=⟨sA,fun a=>by have:=nd a;rw[bc];omega,fun a z=>hbR a (by rw[bc]at z;omega)⟩
 refine⟨args,Bc,Wc,la,cfc,wp_mono (fun q w3 v H' W' Z g=>?_) (fun C fs he H2 Y ox sx er=>?_) (qP.mp w2)⟩
 rotate_left
 · -- an error:what lies aside stays
   have eq:hide (hd2 B fun a=>Y a+R a) H2=hide (hd2 Bc Y) H2:=vO fun a=>by have:=bc a;dsimp only[hd2];omega
   exact he H2 (fun a=>Y a+R a) ox ⟨by rw[eq];exact smc.trans sx.same,fun a z=>sx.by_ a (by rw[bc];omega),sx.dom⟩ (by rw[eq];exact er)
 obtain⟨os',e3,w4⟩:=qH w3
 obtain⟨hf,w5⟩:=v6 w4
 have cellR:∀a,R a≠0->H' a=H a:=fun a z=>g.st.by_ a (by rw[bc];omega)
 have cellL:∀a,L a≠0->H' a=H a:=fun a z=>by
  obtain⟨o,h1,_⟩:=hbR a (by omega)
  have h2:=g.st.same a o (by rw[Lv a z];exact h1)
  rw[(yT h2).2,h1]
 have cellB:∀a,B a≠0->H' a=H a:=fun a z=>g.st.by_ a (by rw[bc];omega)
 obtain⟨W2,b1,b2⟩:=outOs_at g.cf.at_ e3
 have newL:∀a,L a≠0->W' a+Z a=0:=fun a z=>by
  by_cases q0:W' a+Z a=0
  ·exact q0
  ·rcases g.st.new a (by dsimp only [hd2];omega) with q1 | q1
   ·have:=nd a;omega
   ·obtain⟨o,h1,_⟩:=hbR a (by omega);rw[q1]at h1;cases h1
 have nd4:∀a,B a+Z a+(L a+(R a+W2 a))<=1:=fun a=>by
  have n1:=g.cf.nd a
  have n2:=b2 a
  have n3:=nd a
  have n4:=bc a
  dsimp only[hd2]at n1
  by_cases z:L a=0
  ·omega
  ·have:=newL a z;omega
 have sm4:Same (hide (hd2 B W) H) (hide (hd2 (hd2 B Z) (fun a=>L a+(R a+W2 a))) H'):=fun a o h=>by
  obtain⟨z1,z2⟩:=yT h
  obtain⟨z3,z4⟩:=yT (g.st.same a o (smc a o h))
  rw[zK]
  ·exact z4
  ·have:=a4 a;have:=b2 a
   dsimp only[hd2]at *
   omega
 have kF:∀(P:HO->Prop),(∀a,L a≠0->∃o,H a=some o/\P o)->∀a o,hide (hd2 (hd2 Bc Z) W') H' a=some o->¬P o->hide (hd2 (hd2 B Z) (fun a=>L a+(R a+W2 a))) H' a=some o:=fun P hP a o q1 q2=>by
  obtain⟨z1,z2⟩:=yT q1
  rw[zK]
  ·exact z2
  ·have:=b2 a;have:=bc a
   by_cases z:L a=0
   ·dsimp only[hd2]at *;omega
   ·obtain⟨o2,h1,h2⟩:=hP a z
    rw[cellL a z,h1]at z2
    cases z2
    exact absurd h2 q2
 have fin:OAt K c (hide (hd2 (hd2 B Z) (fun a=>L a+(R a+W2 a))) H') H' q.1 v Z/\OsAt K c (hide (hd2 (hd2 B Z) (fun a=>L a+(R a+W2 a))) H') H' os' (qQj as us) W2:=by
  unfold vJa at hf
  rw[Bool.or_eq_true,Bool.or_eq_true]at hf
  rcases hf with(hf|hf)|hf
  ·have hl0:lo=[]:=List.isEmpty_iff.mp hf
   subst hl0
   rw[OsAt.nil]at l2
   have sm:Same (hide (hd2 (hd2 Bc Z) W') H') (hide (hd2 (hd2 B Z) (fun a=>L a+(R a+W2 a))) H'):=zS fun a z=>by have:=b2 a;have:=l2.2 a;have:=bc a;dsimp only[hd2]at *;omega
   exact⟨g.at_.keep sm fun _ _=>rfl,b1.keep sm fun _ _=>rfl⟩
  ·rw [aE] at hf
   have k:=kF Hb fun a z=>by obtain⟨o,h1,h2⟩:=hbR a (by omega);exact⟨o,h1,h2⟩
   exact⟨g.at_.flat k hf.1,b1.flat k hf.2⟩
  ·rw [aE,aE] at hf
   have hP:∀{lo:List O} {lv:List V} {L:Fp},lo.all dcFz=true->OsAt K c (hide (hd2 B W) H) H lo lv L->∀a,L a≠0->∃o,H a=some o/\isDK o:=fun {lo}=>by
    induction lo with
    |nil=>intro lv L _ h a z;rw[OsAt.nil]at h;exact absurd (h.2 a) z
    | cons o lo ih=>
      intro lv L hl h a z
      rw[List.all_cons,aE]at hl
      rw[OsAt.cons]at h
      obtain⟨v,r,Z1,Z2,_,p1,p2,p3⟩:=h
      by_cases y:Z1 a=0
      ·exact ih hl.2 p2 a (by rw[p3]at z;omega)
      ·exact jVq p1 hl.1 a y
   have k:=kF isDK (hP hf.1.1 l2)
   exact⟨g.at_.nd' k hf.1.2,b1.nd' k hf.2⟩
 have sl3:=vJm (e1:=env) (a3.keep sm4 cellR) a5 a6 a1 fin.2 (Y:=fun a=>R a+W2 a) fun _=>rfl
 have sl4:=vJm (e1:=env) sl3 l5 (fun j hj=>by
  by_cases z:j∈wT as hs
  · -- taken twice:not so
    exfalso
    have:eL[j]?=some .un :=l6 j hj
    have key:∀{js:List Nat} {env:Ev} {q:List O×Ev},env[j]?=some .un ->j∈js->qQb js env=some q->False:=by
     intro js
     induction js with
     |nil=>intro env q _ z;simp at z
     | cons i is ih=>
       intro env q hu z ht
       simp only[qQb]at ht
       by_cases hi:i=j
       ·subst hi;rw[hu]at ht;cases ht
       ·rcases aH.mp z with z | z
        ·exact hi z.symm
        ·cases e3:env[i]? with
         |none=>rw[e3]at ht;cases ht
         | some s=>
           rw[e3]at ht
           cases s with
           |un=>cases ht
           | s io o=>
             obtain⟨q',e4,_⟩:=bnd ht
             exact ih (by rw[bY hi];exact hu) z e4
    exact key this z e1
  ·rw[zQn z,a7 j z];exact l6 j hj) l1 (l2.keep sm4 cellL) (Y:=fun a=>L a+(R a+W2 a)) fun a=>by(try dsimp only);omega
 refine w5 v H' (fun a=>L a+(R a+W2 a)) Z ⟨⟨?_,cellB,fun a z=>?_,g.st.dom,fun a z1 z2=>?_,fun i o h=>?_,by rw[vQs,vQs,a8,l8]⟩,⟨sl4,fun a=>nd4 a,fun a z=>?_⟩,fin.1⟩
 ·rw [show hide (hd2 B (hd2 (fun a=>L a + (R a + W2 a)) Z)) H' =hide (hd2 (hd2 B Z) (fun a=>L a + (R a + W2 a))) H' from vO fun a=>by dsimp only [hd2];omega]
  exact sm4
 ·by_cases q0:L a + R a=0
  ·rcases g.st.new a (by have:=b2 a;dsimp only [hd2] at *;omega) with q1 | q1
   ·exact .inl (by rw[a4];omega)
   ·exact .inr q1
  ·exact .inl (by rw[a4];omega)
 ·by_cases q1:L a=0
  ·by_cases q0:R a=0
   ·exact g.st.pin a (by rw[a4]at z1;omega) (by have:=b2 a;dsimp only[hd2]at *;omega)
   ·exact .of (cellR a q0)
  ·exact .of (cellL a q1)
 ·refine⟨?_,rfl⟩
  have fl:flag env i=true->∃o0,env[i]?=some (.s true o0):=fun h2=>by
   unfold flag at h2
   split at h2
   ·rename_i io o' e
    rw[h2]at e
    exact⟨o',e⟩
   ·cases h2
  rcases vQt h with⟨h1,h2⟩|h1
  ·exact fl h2
  ·rcases vQt h1 with⟨h1,h2⟩ | h1
   ·exact fl h2
   ·by_cases z:i∈wT as hs
    ·rw[a6 i z]at h1;cases h1
    ·rw [a7 i z] at h1
     by_cases y:i∈zM as hs
     ·rw[l6 i y]at h1;cases h1
     ·rw[l7 i y]at h1;exact⟨o,h1⟩
 ·by_cases q0:B a=0
  ·exact g.cf.hb a (by have:=bc a;dsimp only[hd2]at *;omega)
  ·rw[cellB a q0];exact cf.hb a q0
theorem vW0{K:aQ}{F:Fn}(h:tE K c E (qY F as) σ H Q):vKr (spD K c as.length F) [] E (tOs K c E (as.map Am.o)) σ H Q:=by
 obtain⟨env,B,W,cf,w⟩:=h;refine qZz cf (qP.mp w) fun r1 w1 us H1 W1 g=>?_
 rw[bM];exact qWc g.cf g.at_ (wp_mono (fun r q v H' W' Z g2=>q v H' W' Z (g2.back g.st)) (fun _ _ he=>he.back g.st) w1)
section
variable{X:Cx}{c:Nat->aV}{E:XK}{k:Nat}{f:aV}{fd:aG}{ps:List Str}{x:Str}{p pos:Pos}{e:Expr}{es:List Expr}{F:Fn}{as:List Am}
theorem vJw(G:FnOk X.prog X.w X.K X.mg X.base (CXd X.prog X.w) k f fd ps (spD X.K c as.length F))(hr:Room k X.A)(hg:Gl X x)(hm:X.mg x=some (.ref f))(hk:bT X.K (.ref f)=true)(hb:j8 X.K fd ps [])(hx:jS (CXd X.prog X.w) X E)(ha:OsD X c E (e::es) (as.map Am.o))(hdb:(x == ("__debug__":Str))=false:=by decide)(he:aJ (e::es) X.env=(false,eval e X.env)::aJ es X.env:=by rfl)(hpl:(cU pos (aJ es X.env)).any (·.1)=false:=by rfl):
  ED X c E (.Call (.Name x p) (e::es) [] pos) (qY F as):=
 ⟨PE.imp (zQq G hr hg hm hk hb .nil hx ha.h hdb he hpl) fun _ _ _ h=>vW0 h⟩
theorem vV(h:PE X e (tVar i)):OD X c E e (Am.io i).o :=by
 refine⟨PE.imp h fun σ H Q=>?_⟩;rintro⟨env,B,W,h1,cf,e0,q⟩;simp only[pIo]at e0;cases e1:env[i]? with
 |none=>grind
 | some s=>
   rw[e1]at e0;cases s with
   |un=>cases e0
   | s io o=>
     cases e0;obtain⟨x,Z1,R,h1,h2,h3,h4⟩:=cf.focus e1;cases x with
     |none=>exact h2.elim
     |some v=>exact⟨v,h1,q v (by show vT H σ i []=some v;unfold vT;rw[h1];simp[walk])⟩
end
def hasF(m:Str)(fs:List Str):Bool:=fs.any fun g=>decide (m=g)
def jZp(env:Ev)(h:Hn)(C:Nat)(m:Str):Bool:=match rsv env h with
 |some (.nd (.obj C' fs) _)=>C' == C &&!hasF m fs
 |_=>false
def vL(C:Nat)(m:Str)(F:Fn)(a0:Am)(as:List Am):SE:=fun env=>(evO a0.o env).bind fun r0=>cond (jZp r0.2 r0.1 C m && (r0.1.st || (as.map Am.o).all Oe.isP)) ((evOs (as.map Am.o) r0.2).bind fun r=>qZq F (a0::as) (r0.1::r.1) r.2) .no
theorem vZm{m:Str}:∀{fs:List Str} {vs:List V},hasF m fs=false->(fs.zip vs).lookup m=none
 |[],vs,_=>by simp
 |g::r,[],_=>by simp
 | g::r,v::vs,h=>by
   unfold hasF at h;rw[List.any_cons,Bool.or_eq_false_iff]at h;rw[dW,List.lookup,show(m == g)=false from beq_eq_false_iff_ne.mpr (of_decide_eq_false h.1)];exact vZm h.2
section
variable{K:aQ}{c:Nat->aV}{E:XK}
theorem vWy{m:Str}{F:Fn}{a0:Am}(h:tE K c E (vL C m F a0 as) σ H Q):zJc (c C) m (spD K c (a0::as).length F) [] E (tO K c E a0.o) (tOs K c E (as.map Am.o)) σ H Q:=by
 obtain⟨env,B,W,cf,w⟩:=h;refine x8 cf (qP.mp w) fun r0 w1 u H1 W1 g1=>?_
 obtain⟨hs,w2⟩:=v6 w1;rw[aE]at hs;obtain⟨ho,hst⟩:=hs;have obj:∃a dx fs,u=.ref a/\H1 a=some (.ins (c C) dx fs)/\fs.lookup m=none:=by
  unfold jZp at ho;split at ho
  ·rename_i C' fs ds e;rw[aE,Bool.not_eq_true']at ho;obtain⟨p,vs,rfl,⟨h1,dx,h2⟩,h3⟩:=(jO g1.cf g1.at_ e).un;have:C' =C:=by simpa using ho.1
   subst this;exact⟨p,dx,_,rfl,h2,vZm ho.2⟩
  ·cases ho
 obtain⟨a,dx,fs,rfl,h2,h3⟩:=obj;refine⟨a,dx,fs,rfl,h2,h3,?_⟩;refine qZz g1.cf (wp_mono (fun _ q=>q) (fun _ _ he=>he.back g1.st) (qP.mp w2)) fun r w3 us H2 W2 g2=>?_
 rw[bM];have hh:xY K c (hide (hd2 B W2) H2) σ H2 (.ref a::us) (r0.1::r.1):=by
  refine⟨?_,g2.at_⟩;cases e:r0.1.st with
  |true=>exact g1.at_.step g2.st.same e
  | false=>
    rw[e]at hst;obtain⟨e1,e2,_⟩:=g2.pu (by simpa using hst);rw[e1,e2];exact g1.at_
 exact qWc g2.cf hh (wp_mono (fun r q v H' W' Z g=>q v H' W' Z (g.back (g1.st.trans g2.st))) (fun _ _ he=>he.back (g1.st.trans g2.st)) w3)
end
section
variable{X:Cx}{c:Nat->aV}{E:XK}{k:Nat}{f:aV}{fd:aG}{ps:List Str}{x m:Str}{p pos apos:Pos}{e o:Expr}{es:List Expr}{F:Fn}{a0:Am}{as:List Am}{C:Nat}
theorem jVm(ho:OD X c E o a0.o)(hc:Cls X.K (c C))(hm:Meth X.K (c C) m f)(G:FnOk X.prog X.w X.K X.mg X.base (CXd X.prog X.w) k f fd ps (spD X.K c (a0::as).length F))(hr:Room k X.A)(hb:j8 X.K fd ps [])(hx:jS (CXd X.prog X.w) X E)(ha:OsD X c E (e::es) (as.map Am.o))(hst:aJ (e::es) X.env=(false,eval e X.env)::aJ es X.env:=by rfl)(hpl:(cU pos (aJ es X.env)).any (·.1)=false:=by rfl)(ht:eval (.Call (.Attribute o m apos) (e::es) [] pos) X.env=(do
   let ov ←eval o X.env;standAt apos.atName;let (f,first) ←holding [ov] (getMethod ov m pl);callWith pos f first (cU pos (aJ (e::es) X.env)) (backToKw pos (keywordEach [] X.env))):=by rfl):
  ED X c E (.Call (.Attribute o m apos) (e::es) [] pos) (vL C m F a0 as):=
 ⟨PE.imp (jQi ho.h hc hm G hr hb .nil hx ha.h hst hpl ht) fun _ _ _ h=>vWy h⟩
theorem zY5(ho:OD X c E o a0.o)(hc:Cls X.K (c C))(hm:Meth X.K (c C) m f)(G:FnOk X.prog X.w X.K X.mg X.base (CXd X.prog X.w) k f fd ps (spD X.K c 1 F))(hr:Room k X.A)(hb:j8 X.K fd ps [])(hx:jS (CXd X.prog X.w) X E)(ht:eval (.Call (.Attribute o m apos) [] [] pos) X.env=(do
   let ov ←eval o X.env;standAt apos.atName;let (f,first) ←holding [ov] (getMethod ov m pl);callWith pos f first (cU pos (aJ [] X.env)) (backToKw pos (keywordEach [] X.env))):=by rfl):
  ED X c E (.Call (.Attribute o m apos) [] [] pos) (vL C m F a0 []):=
 ⟨PE.imp (zX0 ho.h hc hm G hr hb .nil hx ht) fun _ _ _ h=>vWy (as:=[]) h⟩
end
noncomputable def popL(env:Ev)(n:Nat):Option (O×Ev):=match env[n]? with
 |some (.s _ o)=>some (o,env.take n)
 |_=>none
noncomputable def vKz(C:Nat)(F:Fn)(as:List Am):SE:=fun env=>(evOs (as.map Am.o) env).bind fun r=>(qZq F (.io r.2.length::as) (.p r.2.length []::r.1) (r.2 ++ [.s false (.ow (.obj C []) [])])).bind fun q=>match q.1 with
 |.fz .non =>opt (popL q.2 r.2.length)
 |_=>.no
section
variable{K:aQ}{c:Nat->aV}{E:XK}
theorem vV8(sm:Same H H'):∀{π:List Nat} {v u:V},walk H v π=some u->walk H' v π=some u
 |[],v,u,h=>by cases v <;> simpa[walk] using h
 | j::π,v,u,h=>by
   cases v with
   | ref p=>
     simp only[walk]at h⊢;cases e:H p with
     |none=>grind
     | some o=>
       rw[e]at h;rw[sm p o e];dsimp only at h⊢;cases e2:(kids o)[j]? with
       |none=>grind
       |some v=>rw[e2]at h;exact vV8 sm h
   |_=>cases h
theorem xY.push{F:Hp}{y:L2.St}(sF:Same F F')(sm:Same H H'):∀{us:List V} {hs:List Hn},xY K c F σ H us hs->xY K c F' (σ ++ y) H' us hs
 |[],[],_=>trivial
 | u::us,h::hs,a=>by
   refine⟨?_,xY.push sF sm a.2⟩;cases h with
   |d x=>exact DAt.same sF a.1
   | p i π=>
     have w:vT H σ i π=some u:=a.1;show vT H' (σ ++ y) i π=some u;unfold vT at w⊢;cases e:σ[i]? with
     |none=>grind
     | some x=>
       rw[e]at w;rw[cC (aB.mp e).1,e];cases x with
       |none=>cases w
       |some v=>exact vV8 sm w
 |[],_::_,a=>a.elim
 |_::_,[],a=>a.elim
theorem SlAt.pop{F:Hp}:∀{env:Ev} {σ:L2.St} {s:Slot} {x:Option V} {Z:Fp} {n:Nat},SlAt K c F H env (σ ++ [x]) Z->env[n]?=some s->n=σ.length->∃Z1 R,wQ K c F H s x Z1/\SlAt K c F H (env.take n) σ R/\∀a,Z a=Z1 a+R a
 |[],σ,s,x,Z,n,h,e,hn=>by simp at e
 | s0::env,[],s,x,Z,n,h,e,hn=>by
   subst hn;obtain⟨y,r,Z1,Z2,e1,b,cc,d⟩:=h;cases e1;cases e;have:env=[]:=by
    cases env with
    |nil=>rfl
    |cons s1 env=>obtain⟨_,_,_,_,z,_⟩:=cc;cases z
   grind
 | s0::env,y::σ,s,x,Z,n,h,e,hn=>by
   subst hn;obtain⟨y',r,Z1,Z2,e1,b,cc,d⟩:=h;cases e1;obtain⟨Z3,R,h1,h2,h3⟩:=SlAt.pop (σ:=σ) cc (by simpa using e) rfl;exact⟨Z3,fun a=>Z1 a+R a,h1,⟨_,_,Z1,R,rfl,b,h2,fun _=>rfl⟩,fun a=>by rw[d,h3];(try dsimp only);omega⟩
theorem zXe{F:Fn}(h:tE K c E (vKz C F as) σ H Q):jV1 (c C) (spD K c (as.length+1) F) [] E (tOs K c E (as.map Am.o)) σ H Q:=by
 obtain⟨env,B,W,cf,w⟩:=h;refine qZz cf (qP.mp w) fun r w1 us H1 W1 g=>?_
 intro x dx hx hdx hne;rw[bM];have sm1:Same H1 (upd H1 dx (.own x)):=.upd hdx;have hx1:upd H1 dx (.own x) x=none:=by rw[qM fun z=>hne z.symm];exact hx
 have sm2:Same (upd H1 dx (.own x)) (upd (upd H1 dx (.own x)) x (.ins (c C) dx [])):=.upd hx1;have cf1:=g.cf.grow sm1;have gl:Got K c r.2 σ (upd H1 dx (.own x)) B W1 r.2 (upd (upd H1 dx (.own x)) x (.ins (c C) dx [])) W1 (one x) (.ow (.obj C []) ([].map .fz)) (.ref x):=Got.lay cf1 hx1 sm2 (k:=.obj C []) (vs:=[]) (ds:=[]) ⟨rfl,dx,upd_same⟩ .nil;generalize hH:upd (upd H1 dx (.own x)) x (.ins (c C) dx [])=H2 at *;have stG:Step r.2 σ H1 B W1 r.2 σ H2 (hd2 W1 (one x)):=(Step.grow g.cf sm1).trans gl.st;have lenσ:σ.length=r.2.length:=g.cf.len.symm;have hid:hide (hd2 (hd2 B (one x)) W1) H2=hide (hd2 B (hd2 W1 (one x))) H2:=vO fun a=>by dsimp only[hd2];omega
 have cfP:Cf K c (r.2 ++ [.s false (.ow (.obj C []) [])]) (σ ++ [some (.ref x)]) H2 B (hd2 W1 (one x)):=by
  refine⟨?_,fun a=>by have:=gl.cf.nd a;dsimp only[hd2]at *;omega,fun a z=>gl.cf.hb a (by dsimp only[hd2];omega)⟩;rw[←hid];refine(gl.cf.at_.append (env' :=[.s false (.ow (.obj C []) [])]) (σ' :=[some (.ref x)]) (Z' :=one x) ⟨some (.ref x),[],one x,fun _=>0,rfl,gl.at_,⟨⟨rfl,gl.cf.at_.tab⟩,fun _=>rfl⟩,fun a=>by(try dsimp only);omega⟩)
 have hh:xY K c (hide (hd2 B (hd2 W1 (one x))) H2) (σ ++ [some (.ref x)]) H2 (.ref x::us) (.p r.2.length []::r.1):=by
  refine⟨?_,xY.push stG.same (sm1.trans sm2) g.at_⟩;show vT H2 (σ ++ [some (.ref x)]) r.2.length []=some (.ref x);unfold vT;rw[cS (by omega),show r.2.length - σ.length=0 by omega];rfl
 refine qWc (as:=.io r.2.length::as) cfP hh (wp_mono (fun q w2 v H' W' Z gq=>?_) (fun C fs he=>?_) (qP.mp w1));rotate_left
 ·exact(he.back g.st).back stG
 obtain⟨q1,q2⟩:=q;cases q1 with
 |ow k os=>exact w2.elim
 | fz d=>
   cases d with
   | non=>
     have ev:=gq.at_;have hv:v=.non :=by cases ev.1;rfl
     refine⟨hv,?_⟩;obtain⟨p,e1,w3⟩:∃p,popL q2 r.2.length=some p/\∀u H' W' Z,Got K c env σ H B W p.2 H' W' Z p.1 u->Q u H' :=by
      cases e:popL q2 r.2.length with
      |none=>dsimp only at w2;rw[e]at w2;exact w2.elim
      |some p=>dsimp only at w2;rw[e]at w2;exact⟨p,rfl,w2⟩
     unfold popL at e1;split at e1
     ·rename_i io o e2;cases e1;obtain⟨Z1,R,h1,h2,h3⟩:=SlAt.pop gq.cf.at_ e2 lenσ.symm;have zz:∀a,Z a=0:=ev.2;have hd1:hide (hd2 (hd2 B Z) W') H' =hide (hd2 (hd2 B Z1) R) H' :=vO fun a=>by dsimp only[hd2];rw[h3,zz];omega
      have hd3:hide (hd2 B (hd2 R Z1)) H' =hide (hd2 B (hd2 W' Z)) H' :=vO fun a=>by dsimp only[hd2];rw[h3,zz];omega
      refine w3 (.ref x) H' R Z1 ⟨(g.st.trans stG).trans ⟨by rw[hd3];exact gq.st.same,gq.st.by_,fun a z=>gq.st.new a (by dsimp only[hd2]at *;rw[h3];omega),gq.st.dom,fun a z1 z2=>gq.st.pin a z1 (by dsimp only[hd2]at *;rw[h3];omega),fun i o' h=>?_,?_⟩,⟨by rw[←hd1];exact h2,fun a=>by have:=gq.cf.nd a;dsimp only[hd2]at *;rw[h3,zz]at this;omega,fun a z=>?_⟩,by rw[←hd1];exact h1⟩
      ·have hi:i<r.2.length:=by
        grind
       rw[List.getElem?_take_of_lt hi]at h;obtain⟨⟨o0,k1⟩,k2⟩:=gq.st.io i o' h;grind
      ·grind
      ·by_cases q0:B a=0
       ·exact h1.hb (by dsimp only[hd2]at z;omega)
       ·exact gq.cf.hb a (by dsimp only[hd2];omega)
     ·cases e1
   |_=>exact w2.elim
end
section
variable{X:Cx}{c:Nat->aV}{E:XK}{k:Nat}{f:aV}{fd:aG}{ps:List Str}{x:Str}{p pos:Pos}{e:Expr}{es:List Expr}{F:Fn}{as:List Am}{C:Nat}
theorem jVn(M:Mk X.K (c C) f)(G:FnOk X.prog X.w X.K X.mg X.base (CXd X.prog X.w) k f fd ps (spD X.K c (as.length+1) F))(hr:Room (k+1) X.A)(hg:Gl X x)(hm:X.mg x=some (.ref (c C)))(hb:j8 X.K fd ps [])(hx:jS (CXd X.prog X.w) X E)(ha:OsD X c E (e::es) (as.map Am.o))(hdb:(x == ("__debug__":Str))=false:=by decide)(he:aJ (e::es) X.env=(false,eval e X.env)::aJ es X.env:=by rfl)(hpl:(cU pos (aJ es X.env)).any (·.1)=false:=by rfl):
  ED X c E (.Call (.Name x p) (e::es) [] pos) (vKz C F as):=
 ⟨PE.imp (jQj M G hr hg hm hb .nil hx ha.h hdb he hpl) fun _ _ _ h=>zXe h⟩
end
abbrev lim:Nat:=1000000
theorem vYi(h:n<=lim):n<aM:=dA h (by decide)
section
variable{K:aQ}{c:Nat->aV}{env env' :Ev}{σ:L2.St}{H H' :Hp}{B W Z:Fp}{i:Nat}{π:List Nat}{k:Kd}{os:List O}
theorem Cf.mut(cf:Cf K c env σ H (hd2 B Z) W)(e:getE env i π=some (.ow k os)):∃p vs Zk,vT H σ i π=some (.ref p)/\OwAt c H p k vs/\OsAt K c (hide (hd2 (hd2 B Z) W) H) H os vs Zk/\
  ∀k' os' vs' Zk' Z2 ho,OsAt K c (hide (hd2 (hd2 B Z) W) H) H os' vs' Zk' ->(∀a,Zk' a+Z2 a<=Zk a+Z a)->OwAt c (upd H p ho) p k' vs' ->Hb ho->Pin (H p) (some ho)->
   ∃W',Cf K c (setE env i π (.ow k' os')) σ (upd H p ho) (hd2 B Z2) W' /\Step env σ H B (hd2 W Z) (setE env i π (.ow k' os')) σ (upd H p ho) (hd2 W' Z2)/\
    ∀o v,OAt K c (hide (hd2 (hd2 B Z) W) H) H o v Z2->OAt K c (hide (hd2 (hd2 B Z2) W') (upd H p ho)) (upd H p ho) o v Z2:=by
 obtain⟨v1,Z1,R,h1,h2,h3,h4⟩:=cf.place e;rw[OAt.ow]at h2;obtain⟨p,vs,Zk,rfl,b,cc,d⟩:=h2;refine⟨p,vs,Zk,h1,b,cc,fun k' os' vs' Zk' Z2 ho hk hz hp hb pn=>?_⟩;have nd:∀a,B a+Z a+(one p a+Zk a+R a)<=1:=fun a=>by have:=cf.nd a;rw[h3,d]at this;dsimp only[hd2]at this;omega
 have np:B p=0/\Z p=0/\Zk p=0/\R p=0:=by have:=nd p;rw[wG]at this;omega
 have nz:Zk' p=0/\Z2 p=0:=by have:=hz p;omega
 have hid:∀a,(hd2 (hd2 B Z) W) a=B a+Z a+(one p a+Zk a+R a):=fun a=>by dsimp only[hd2];rw[h3,d]
 have sm:Same (hide (hd2 (hd2 B Z) W) H) (hide (hd2 (hd2 B Z2) (fun a=>(one p a+Zk' a)+R a)) (upd H p ho)):=zH fun a o z q=>by
  rw[hid]at z;have:=hz a;have ne:a≠p:=fun y=>by rw[y,wG]at z;omega
  exact⟨by dsimp only[hd2];omega,by rw[qM ne];exact q⟩
 have cell:∀a,a≠p->upd H p ho a=H a:=fun a z=>qM z
 refine⟨fun a=>(one p a+Zk' a)+R a,h4 (upd H p ho) (hd2 B Z2) _ (.ow k' os') (fun a=>one p a+Zk' a) sm (fun _=>rfl) (fun a z=>cell a fun y=>by rw[y]at z;omega) (OAt.ow.mpr ⟨p,vs',Zk',rfl,hp,hk.keep sm fun a z=>cell a fun y=>by rw[y]at z;omega,fun _=>rfl⟩) (fun a=>?_) (fun a z=>?_),⟨?_,fun a z=>cell a fun y=>by rw[y]at z;omega,fun a z=>.inl ?_,fun a z=>?_,fun a z1 z2=>?_,fun j o q=>⟨qKu q,rfl⟩,qXv⟩,fun o v h=>h.keep sm fun a z=>cell a fun y=>by rw[y]at z;omega⟩
 ·have:=nd a;have:=hz a;dsimp only[hd2];omega
 ·by_cases y:a=p
  ·subst y;exact⟨ho,upd_same,hb⟩
  ·rw [cell a y];by_cases q:B a=0
   ·exact cf.hbs (by have h5:=hid a;have h6:=hz a;dsimp only[hd2]at h5 z⊢;omega)
   ·exact cf.hb a (by dsimp only[hd2];omega)
 ·rw [show hide (hd2 B (hd2 W Z)) H=hide (hd2 (hd2 B Z) W) H from vO fun a=>by dsimp only [hd2];omega,show hide (hd2 B (hd2 (fun a=>(one p a + Zk' a) + R a) Z2)) (upd H p ho)=hide (hd2 (hd2 B Z2) (fun a=>(one p a + Zk' a) + R a)) (upd H p ho) from vO fun a=>by dsimp only [hd2];omega];exact sm
 ·have:=hz a;dsimp only[hd2]at *;rw[h3,d];omega
 ·by_cases y:a=p
  ·subst y;rw[upd_same]at z;cases z
  ·rw[cell a y]at z;exact z
 ·by_cases y:a=p
  ·subst y;rw[upd_same];exact pn
  ·exact .of (cell a y)
def stab(env env1:Ev)(i:Nat):List Nat->Bool
 |[]=>true
 | [j]=>match env[i]?,env1[i]? with
   | some (.s _ (.ow (.obj _ fs) _)),some (.s _ (.ow _ _))=>match fs[j]? with
     |some f=>pinF f
     |none=>false
   |_,_=>false
 |_=>false
theorem vW1{K:aQ}{F:Hp}{kd:Kd}{os:List O}{x:Option V}{Z1:Fp}(h:wQ K c F H (.s io (.ow kd os)) x Z1):∃p vs,x=some (.ref p)/\OwAt c H p kd vs/\Z1 p≠0:=by
 cases x with
 |none=>exact h.elim
 | some v=>
   have h' :OAt K c F H (.ow kd os) v Z1:=h;obtain⟨p,vs,Z',rfl,b,_,d⟩:=h';exact⟨p,vs,rfl,b,by rw[d,wG];omega⟩
theorem vZd{Y:Fp}{u:V}(cf:Cf K c env σ H B W)(st:Step env σ H B W env' σ H' Y)(cf' :Cf K c env' σ H' B' W')(hY:∀a,W' a≠0->Y a≠0)(hs:stab env env' i π=true)(h:vT H σ i π=some u):vT H' σ i π=some u:=by
 cases π with
 | nil=>
   unfold vT at h⊢;cases e:σ[i]? with
   |none=>rw[e]at h;cases h
   | some x=>
     rw[e]at h;cases x with
     |none=>cases h
     |some v=>simpa[walk] using h
 | cons j π=>
   cases π with
   |cons _ _=>simp[stab]at hs
   | nil=>
     simp only[stab]at hs;split at hs
     ·rename_i io C fs os io' k' os' e1 e2;split at hs
      ·rename_i f ef;obtain⟨x,Z1,R,h1,h2,h3,_⟩:=cf.focus e1;obtain⟨x',Z1',R',h1',h2',h3',_⟩:=cf'.focus e2;obtain⟨p,vs,rfl,⟨b1,dx,b2⟩,zp⟩:=vW1 h2;obtain⟨p',vs',rfl,_,zp'⟩:=vW1 h2';rw[h1]at h1';cases h1';have pn:=st.pin p (by rw[h3];omega) (hY p (by rw[h3'];omega));rw[b2]at pn;obtain⟨fs',e3,q⟩:=pn;unfold vT at h⊢;rw[h1]at h⊢;simp only[walk,b2,kids,qZ4 b1]at h;cases ev:vs[j]? with
       |none=>rw[ev]at h;cases h
       | some v=>
         rw[ev]at h;have hv:v=u:=by cases v <;> simpa[walk] using h
         subst hv;have hz:(fs.zip vs)[j]?=some (f,v):=by rw[List.getElem?_zip_eq_some];exact⟨ef,ev⟩
         have h5:=q j f v hs hz;have h6:(kids (.ins (c C) dx fs'))[j]?=some v:=by
          show(fs'.map (·.2))[j]?=some v;rw[cN,h5];rfl
         show walk H' (.ref p) [j]=some v;rw[qYj e3 h6];simp[walk]
      ·cases hs
     ·cases hs
end
noncomputable def qVm(env:Ev)(i:Nat)(π:List Nat):Option (List O):=match getE env i π with
 |some (.ow .lst os)=>some os
 |_=>none
theorem qYu{os:List O}(h:qVm env i π=some os):getE env i π=some (.ow .lst os):=by
 unfold qVm at h;grind
noncomputable def eMu1(s:SP)(a:SE)(f:List O->O->Option (O×List O)):SE:=fun env=>(opt (s env)).bind fun h=>match h with
 |.p i π=>(opt (qVm env i π)).bind fun _=>(a env).bind fun r=>(opt (qVm r.2 i π)).bind fun os=>cond (stab env r.2 i π) ((opt (f os r.1)).bind fun z=>.ok (z.1,setE r.2 i π (.ow .lst z.2))) .no
 |_=>.no
noncomputable def apF(os:List O)(x:O):Option (O×List O):=cond (decide (os.length<=lim)) (some (.fz .non,os ++ [x])) none
noncomputable def PrM(K:aQ)(c:Nat->aV)(r:V->List V->Hp->VK->Prop)(f:List O->O->Option (O×List O)):Prop:=∀(p:aV) (vs:List V) (u:V) (F H:Hp) (os os' :List O) (x o:O) (Zk Z:Fp) (Q:VK),H p=some (.lst vs)->OsAt K c F H os vs Zk->OAt K c F H x u Z->f os x=some (o,os')->
 (∀v vs' Zk',o=.fz .non ->v=.non ->OsAt K c F H os' vs' Zk' ->(∀a,Zk' a<=Zk a+Z a)->Q v (upd H p (.lst vs')))->r (.ref p) [u] H Q
section
variable{K:aQ}{c:Nat->aV}{E:XK}
theorem zV4:PrM K c rAppend apF:=fun p vs u F H os os' x o Zk Z Q h1 h2 h3 e q=>by
 obtain⟨q1,q2⟩:=jF e;cases q2;exact⟨p,vs,u,rfl,rfl,h1,by rw[h2.length];exact vYi (of_decide_eq_true q1),q .non _ _ rfl rfl (h2.append (OsAt.one.mpr h3)) fun a=>aD _⟩
theorem zKe{r:V->List V->Hp->VK->Prop}{f:List O->O->Option (O×List O)}(hp:PrM K c r f){s:SP}{a:SE}(h:tE K c E (eMu1 s a f) σ H Q):tBM K "list" r (tP K c s) (qY5 (tE K c E a) tNil) σ H Q:=by
 obtain⟨env,B,W,cf,w⟩:=h;obtain⟨h1,e0,w1⟩:=qH w;refine⟨env,B,W,h1,cf,e0,fun u hu=>?_⟩;cases h1 with
 |d x=>exact w1.elim
 | p i π=>
   obtain⟨os0,e1,w2⟩:=qH w1;have hu' :vT H σ i π=some u:=hu;obtain⟨v1,Z1,R,g1,g2,g3,g4⟩:=cf.place (qYu e1);rw[hu']at g1;cases g1;obtain⟨p,vs0,Z0,rfl,b,_,_⟩:=g2;refine⟨.inl ⟨rfl,vs0,SqL.of b⟩,env,B,W,cf,wp_mono (fun r1 w3 x H1 W1 Z g=>?_) (fun _ _ he=>he) (qP.mp w2)⟩;obtain⟨os,e2,w4⟩:=qH w3;obtain⟨hs,w5⟩:=v6 w4;obtain⟨z,e3,w6⟩:=qH w5;have hw:=vZd cf g.st g.cf (fun a z=>by dsimp only[hd2];omega) hs hu';obtain⟨p',vs,Zk,k1,k2,k3,k4⟩:=g.cf.mut (qYu e2);rw[hw]at k1;cases k1;refine hp p vs x _ H1 os z.2 r1.1 z.1 Zk Z Q k2 k3 g.at_ e3 fun v vs' Zk' ho hv hk hz=>?_
   subst hv;obtain⟨W',c1,c2,c3⟩:=k4 .lst z.2 vs' Zk' (fun _=>0) (.lst vs') hk (fun a=>by have:=hz a;omega) upd_same trivial (by have k2' :H1 p=some (.lst vs):=k2;rw[k2'];trivial);refine w6 .non _ W' (fun _=>0) ⟨g.st.trans c2,c1,by rw[ho,OAt.fz];exact⟨.non,fun _=>rfl⟩⟩
end
section
variable{X:Cx}{c:Nat->aV}{E:XK}{o e:Expr}{apos cpos:Pos}{s:SP}{a:SE}
theorem zZt(ho:OD X c E o (.p s))(ha:ED X c E e a)(hbase:attributeBase o "append" X.env (eval o X.env)=eval o X.env:=by rfl)(hfew:((cU cpos (aJ [e] X.env)).all (fun x=>!x.1) && (backToKw cpos (keywordEach [] X.env)).all (fun x=>x.1.isSome) && decide (([e]:List Expr).length+([]:List Keyword).length+(if([]:List Keyword).isEmpty then 0 else 1)<30))=true:=by rfl)(hline:(apos.endLine == cpos.line)=true:=by rfl)(hs:aJ [e] X.env=(false,eval e X.env)::aJ [] X.env:=by rfl)(hplain:(cU cpos (aJ [] X.env)).any (·.1)=false:=by rfl):
  ED X c E (.Call (.Attribute o "append" apos) [e] [] cpos) (eMu1 s a apF):=
 ⟨PE.imp (zJj PySem.F.plainAttrs_list PySem.F.slot_list_append PySem.F.type_list_append vZk ho.h (wC ha.h qVa hs) hbase hfew hline hs hplain) fun _ _ _ h=>zKe zV4 h⟩
end
section
variable{κ α:Type}[DecidableEq κ]
theorem vWr{k:κ}{v:α}:∀{ks:List κ} {vs:List α},ks.length=vs.length->(ks ++ [k]).zip (vs ++ [v])=ks.zip vs ++ [(k,v)]
 |[],[],_=>rfl
 | g::r,w::vs,h=>by
   rw[cW,cW,dW,vWr (Nat.succ.inj h)];rfl
 |[],_::_,h=>by cases h
 |_::_,[],h=>by cases h
end
noncomputable def sSetI(s k:SP)(a:SE):SS:=fun env=>(a env).bind fun r=>(opt (s r.2)).bind fun h=>(opt (k r.2)).bind fun hk=>(opt (rsv r.2 hk)).bind fun y=>(opt (yF y)).bind fun n=>match h with
 |.p i π=>(opt (qVm r.2 i π)).bind fun os=>(opt (ixN os.length n)).bind fun j=>.ok (.nx (setE r.2 i π (.ow .lst (os.set j r.1))))
 |.d _=>.no
theorem OsAt.put{K:aQ}{F:Hp}{os:List O}{Zk:Fp}{o:O}{u:V}(h:OsAt K c F H os vs Zk)(hj:j<os.length)(ho:OAt K c F H o u Z):∃Y,OsAt K c F H (os.set j o) (vs.set j u) Y/\∀a,Y a<=Zk a+Z a:=by
 obtain⟨v,Z1,R,h1,h2,h3,h4⟩:=h.focus (aO hj);exact⟨_,h4 F H o u Z (Same.refl _) (fun _ _=>rfl) ho,fun a=>by rw[h3];(try dsimp only);omega⟩
section
variable{X:Cx}{c:Nat->aV}{E:XK}{o k e:Expr}{pos pos' :Pos}{s sk:SP}{a:SE}
theorem zKm(ho:OD X c E o (.p s))(hk:OD X c E k (.p sk))(hv:ED X c E e a)(hs:swapsWithSole [.Subscript o k pos'] e pos.line X.env=pure false:=by rfl)(hw:swappedStores [.Subscript o k pos'] e X.env=pure none:=by rfl)(h1:(assignEach [.Subscript o k pos'] X.env).map (·.2)=[assign (.Subscript o k pos') X.env]:=by rfl)(ha:∀v,assign (.Subscript o k pos') X.env v=(do
   let ov ←holding [v] (eval o X.env);let iv ←holding [v,ov] (eval k X.env);standAt pos';holding [v,ov,iv] (setItem ov iv v);release [v,ov,iv] []):=by intro _;rfl):SD X c E (.Assign [.Subscript o k pos'] e pos) (sSetI s sk a):=by
 refine⟨PS.imp (zWe hv.h (jJy ho.h hk.h zXl ha) hs hw h1) fun D σ H=>?_⟩;rintro⟨env,B,W,cf,w⟩;refine⟨env,B,W,cf,wp_mono (fun r w1 u H1 W1 Z g=>?_) (fun _ _ he=>he) (qP.mp w)⟩;obtain⟨h,e1,w2⟩:=qH w1;obtain⟨hk1,e2,w3⟩:=qH w2;obtain⟨y,e3,w4⟩:=qH w3;obtain⟨n,e4,w5⟩:=qH w4;refine⟨r.2,_,W1,h,g.cf,e1,fun x hx=>⟨r.2,_,W1,hk1,g.cf,e2,fun yv hy=>?_⟩⟩;cases h with
 |d x=>exact w5.elim
 | p i π=>
   obtain⟨os,e5,w6⟩:=qH w5;obtain⟨j,e6,w7⟩:=qH w6;have hx' :vT H1 σ i π=some x:=hx;obtain⟨p,vs,Zk,k1,k2,k5,k6⟩:=g.cf.mut (qYu e5);rw[hx']at k1;cases k1;have hlen:=k5.length;have e6' :ixN vs.length n=some j:=by rw[hlen];exact e6
   refine⟨p,vs,n,j,rfl,jE (jO g.cf hy e3) e4,k2,e6',?_⟩;have hj:j<os.length:=by rw[←hlen];have:=(vJp e6').2.1;omega
   obtain⟨Y,y1,y2⟩:=k5.put hj g.at_;obtain⟨W',c1,c2,_⟩:=k6 .lst _ _ Y (fun _=>0) (.lst (vs.set j u)) y1 (fun a=>by have:=y2 a;omega) upd_same trivial (by have k2' :H1 p=some (.lst vs):=k2;rw[k2'];trivial);exact w7 σ _ W' (g.st.trans (c2.cast (fun _=>rfl) (fun _=>rfl) fun _=>rfl)) (c1.cast (fun _=>rfl) fun _=>rfl)
end
theorem vW6{f:Str}:∀{fs:List Str} {vs:List V},fs.length=vs.length->putF f v (fs.zip vs)=match fidx f fs with
  |some j=>fs.zip (vs.set j v)
  |none=>(fs ++ [f]).zip (vs ++ [v])
 |[],[],_=>rfl
 | g::r,w::vs,h=>by
   rw[dW];simp only[putF,fidx];by_cases q:f=g
   ·simp_all
   ·rw [if_neg q,if_neg fun z=>q z.symm,vW6 (Nat.succ.inj h)];cases fidx f r <;> rfl
 |[],_::_,h=>by cases h
 |_::_,[],h=>by cases h
theorem vQ4{f:Str}:∀{fs:List Str} {j:Nat},fidx f fs=some j->fs[j]?=some f
 |[],j,h=>by cases h
 | g::r,j,h=>by
   simp only[fidx]at h;by_cases q:f=g
   ·rw[if_pos q]at h;cases h;rw[q];rfl
   ·rw [if_neg q] at h;obtain⟨i,h1,rfl⟩:=bL.mp h;simpa using vQ4 h1
def vKw(C:Nat)(fs:List Str)(os:List O)(f:Str)(o:O):Option O:=match fidx f fs with
 |some j=>cond (!pinF f) (some (.ow (.obj C fs) (os.set j o))) none
 |none=>cond (decide (os.length<1000)) (some (.ow (.obj C (fs ++ [f])) (os ++ [o]))) none
def vV2(env:Ev)(i:Nat)(π:List Nat):Option (Nat×List Str×List O):=match getE env i π with
 |some (.ow (.obj C fs) os)=>some (C,fs,os)
 |_=>none
theorem qYr(h:vV2 env i π=some q):getE env i π=some (.ow (.obj q.1 q.2.1) q.2.2):=by
 unfold vV2 at h;split at h
 ·rename_i e;cases h;exact e
 ·cases h
section
variable{K:aQ}{c:Nat->aV}{env:Ev}{σ:L2.St}{H:Hp}{B W Z:Fp}{i:Nat}{π:List Nat}
theorem Cf.fld{f:Str}{o o' :O}{u:V}{p:aV}(cf:Cf K c env σ H (hd2 B Z) W)(e:vV2 env i π=some q)(hw:vT H σ i π=some (.ref p))(ho:OAt K c (hide (hd2 (hd2 B Z) W) H) H o u Z)(e2:vKw q.1 q.2.1 q.2.2 f o=some o')(hl:q.2.2.length<=999):
  ∃dx fs W',H p=some (.ins (c q.1) dx fs)/\fs.length<1000/\Cf K c (setE env i π o') σ (upd H p (.ins (c q.1) dx (putF f u fs))) B W' /\Step env σ H B (hd2 W Z) (setE env i π o') σ (upd H p (.ins (c q.1) dx (putF f u fs))) W' :=by
 obtain⟨p',vs,Zk,k1,⟨k2,dx,k4⟩,k5,k6⟩:=cf.mut (qYr e);rw[hw]at k1;cases k1;refine⟨dx,q.2.1.zip vs,?_⟩;have hlen:(q.2.1.zip vs).length<1000:=by rw[List.length_zip,k5.length];omega
 rw[vW6 k2];unfold vKw at e2;cases e6:fidx f q.2.1 with
 | some j=>
   rw[e6]at e2;obtain⟨pn,e3⟩:=jF e2;cases e3;have hj:j<q.2.2.length:=by
    have:=(aB.mp (vQ4 e6)).1;rw[←k5.length,←k2];exact this
   obtain⟨Y,y1,y2⟩:=k5.put hj ho;obtain⟨W',c1,c2,_⟩:=k6 (.obj q.1 q.2.1) _ _ Y (fun _=>0) (.ins (c q.1) dx (q.2.1.zip (vs.set j u))) y1 (fun a=>by have:=y2 a;omega) ⟨by rw[cV];exact k2,dx,upd_same⟩ trivial (by
    rw[k4];refine⟨_,rfl,fun j' f' v' hp hz=>?_⟩;rw[List.getElem?_zip_eq_some]at hz⊢;refine⟨hz.1,?_⟩;rw[bY fun y=>?_]
    ·exact hz.2
    ·subst y;rw[vQ4 e6]at hz;cases hz.1;rw[hp]at pn;cases pn)
   grind
 | none=>
   rw[e6]at e2;obtain⟨pn,e3⟩:=jF e2;cases e3;obtain⟨W',c1,c2,_⟩:=k6 (.obj q.1 (q.2.1 ++ [f])) _ _ _ (fun _=>0) (.ins (c q.1) dx ((q.2.1 ++ [f]).zip (vs ++ [u]))) (k5.append (OsAt.one.mpr ho)) (fun a=>by(try dsimp only);omega) ⟨by rw[aW,aW,k2];rfl,dx,upd_same⟩ trivial (by
    rw[k4];refine⟨_,rfl,fun j' f' v' hp hz=>?_⟩;rw[vWr k2,cC (aB.mp hz).1];exact hz)
   grind
end
noncomputable def vWj(cs:List Nat)(f:Str)(s:SP)(a:SE):SS:=fun env=>(a env).bind fun r=>(opt (s r.2)).bind fun h=>match h with
 |.p i π=>(opt (vV2 r.2 i π)).bind fun q=>cond (cs.contains q.1 && decide (q.2.2.length<=999)) ((opt (vKw q.1 q.2.1 q.2.2 f r.1)).bind fun o=>.ok (.nx (setE r.2 i π o))) .no
 |.d _=>.no
def vKv(cs:List Nat)(f:Str)(g:D->D->Option D)(s:SP)(a:SV):SS:=fun env=>(opt (s env)).bind fun h=>match h with
 | .p i π=>(opt (vV2 env i π)).bind fun q=>(opt (fidx f q.2.1)).bind fun j=>(opt (q.2.2[j]?)).bind fun o0=>match o0 with
   |.fz x=>cond (cs.contains q.1) ((a env).bind fun r=>cond (stab env r.2 i π) ((opt (g x r.1)).bind fun z=>(opt (vV2 r.2 i π)).bind fun q' =>cond (decide (q'.1=q.1) && decide (q'.2.2.length<=999)) ((opt (vKw q'.1 q'.2.1 q'.2.2 f (.fz z))).bind fun o=>.ok (.nx (setE r.2 i π o))) .no) .no) .no
   |.ow _ _=>.no
 |.d _=>.no
section
variable{X:Cx}{c:Nat->aV}{E:XK}{o e:Expr}{f:Str}{pos pos' :Pos}{s:SP}{a:SE}{cs:List Nat}
theorem zKn(ok:qZt X.K c cs f)(ho:OD X c E o (.p s))(hv:ED X c E e a)(hs:swapsWith e (some (.Attribute o f pos')) pos.line X.env=pure false:=by rfl):SD X c E (.Assign [.Attribute o f pos'] e pos) (vWj cs f s a):=by
 refine⟨PS.imp (jJr ho.h hv.h hs) fun D σ H=>?_⟩;rintro⟨env,B,W,cf,w⟩;refine⟨env,B,W,cf,wp_mono (fun r w1 u H1 W1 Z g=>?_) (fun _ _ he=>he) (qP.mp w)⟩;obtain⟨h,e1,w2⟩:=qH w1;refine⟨r.2,_,W1,h,g.cf,e1,fun x hx=>?_⟩;cases h with
 |d x=>exact w2.elim
 | p i π=>
   obtain⟨q,e5,w6⟩:=qH w2;obtain⟨hc,w7⟩:=v6 w6;obtain⟨o',e6,w8⟩:=qH w7;rw[aE]at hc;have hx' :vT H1 σ i π=some x:=hx;obtain⟨p,_,_,k1,_⟩:=g.cf.mut (qYr e5);rw[hx']at k1;cases k1;obtain⟨dx,fs,W',m1,m2,m3,m4⟩:=g.cf.fld e5 hx' g.at_ e6 (of_decide_eq_true hc.2);obtain⟨c1,c2⟩:=ok q.1 (qKz hc.1);exact⟨p,_,dx,fs,rfl,m1,c1,c2,m2,w8 σ _ W' (g.st.trans m4) m3⟩
theorem zKo{rd:V->V->Hp->VK->Prop}{g:D->D->Option D}{t:SV}(ok:qZt X.K c cs f)(ho:OD X c E o (.p s))(hv:EV X c E e t)(hop:InOp X op rd)(hp:PrS2 X.K c rd g):SD X c E (.AugAssign (.Attribute o f pos') op e pos) (vKv cs f g s t):=by
 refine⟨PS.imp (zV3 ho.h hv.h hop) fun D σ H=>?_⟩;rintro⟨env,B,W,cf,w⟩;obtain⟨h,e1,w2⟩:=qH w;refine⟨env,B,W,h,cf,e1,fun x hx=>?_⟩;cases h with
 |d x=>exact w2.elim
 | p i π=>
   obtain⟨q,e2,w3⟩:=qH w2;obtain⟨j,e3,w4⟩:=qH w3;obtain⟨o0,e4,w5⟩:=qH w4;cases o0 with
   |ow _ _=>exact w5.elim
   | fz y=>
     have hx' :vT H σ i π=some x:=hx;have cf0:Cf X.K c env σ H (hd2 B fun _=>0) W:=cf.cast (fun _=>rfl) fun _=>rfl
     obtain⟨p,vs,Zk,k1,⟨k2,dx,k4⟩,k5,k6⟩:=cf0.mut (qYr e2);rw[hx']at k1;cases k1;obtain⟨v,Z1,R,g1,g2,g3,_⟩:=k5.focus e4;have hd:DAt X.K c (hide (hd2 B W) H) v y:=g2.1;obtain⟨hcs,w5⟩:=v6 w5;obtain⟨c1,c2⟩:=ok q.1 (qKz hcs);refine⟨p,_,dx,_,v,rfl,k4,c1,c2,qV4 e3 g1,env,B,W,cf,wp_mono (fun r w6 u H1 W1 gd=>?_) (fun _ _ he=>he) (qP.mp w5)⟩;obtain⟨hc,w7⟩:=v6 w6;obtain⟨z,e5,w8⟩:=qH w7;obtain⟨q',e6,w9⟩:=qH w8;obtain⟨hc',w10⟩:=v6 w9;obtain⟨o',e7,w11⟩:=qH w10;rw[aE]at hc';have hw:=vZd cf gd.st gd.cf (fun a z=>z) hc hx';refine hp v u H1 y r.1 z _ ((hd.same gd.st.same).same vD) (gd.at_.same vD) e5 fun v3 hv3=>?_
     have cf1:Cf X.K c r.2 σ H1 (hd2 B fun _=>0) W1:=gd.cf.cast (fun _=>rfl) fun _=>rfl
     obtain⟨dx',fs',W',m1,m2,m3,m4⟩:=cf1.fld e6 hw (Z:=fun _=>0) (u:=v3) (by rw[OAt.fz];exact⟨hv3 _,fun _=>rfl⟩) e7 (of_decide_eq_true hc'.2);have hq:q'.1=q.1:=of_decide_eq_true hc'.1;rw[hq]at m1 m3 m4;exact⟨dx',fs',m1,m2,w11 σ _ W' (gd.st.trans (m4.cast (fun _=>rfl) (fun _=>rfl) fun _=>rfl)) m3⟩
end
noncomputable def sAug(i:Nat)(f:D->D->Option D)(s:SV):SS:=fun env=>match env[i]? with
 |some (.s _ (.fz x))=>(s env).bind fun r=>(opt (f x r.1)).bind fun z=>.ok (.nx (r.2.set i (.s false (.fz z))))
 |_=>.no
theorem vYa{pos':Pos}{x:Str}{ti:TIp}{f:D->D->Option D}{s:SV}(hN:X.N.Nodup)(hi:X.N[i]?=some x)(hx:Loc X.env.scope x)(he:EV X c E e s)(ho:PIp X op ti)(hp:PrS2 X.K c ti f)(hf:X.fn x=true\/X.env.scope.names.lookup x=some .local :=by first|exact .inl rfl|exact .inr rfl|assumption):SD X c E (.AugAssign (.Name x pos') op e pos) (sAug i f s):=by
 refine⟨PS.len (PS.imp (jJs hN hi hx he.h ho hf) fun D σ H=>?_)⟩;rintro⟨hl,env,B,W,cf,w⟩;unfold sAug at w;split at w
 ·rename_i io d e0;obtain⟨x,Z1,R,h1,h2,h3,h4⟩:=cf.focus e0;cases x with
  |none=>exact h2.elim
  | some v=>
    have h2' :OAt X.K c (hide (hd2 B W) H) H (.fz d) v Z1:=h2;refine⟨v,h1,env,B,W,cf,wp_mono (fun r1 w1 u H1 W1 g=>?_) (fun _ _ he=>he) (qP.mp w)⟩;obtain⟨z,e1,w2⟩:=qH w1;refine hp v u H1 d r1.1 z _ ((h2'.1.same g.st.same).same vD) (g.at_.same vD) e1 fun v3 hv3=>?_
    have g3:GotD X.K c env σ H B W r1.2 H1 W1 z v3:=⟨g.st,g.cf,hv3 _⟩
    obtain⟨W2,s2,c2⟩:=g3.own.r.put (qKt g.cf hl hi);exact w2 _ H1 W2 s2 c2
 ·exact w.elim
instance decMul(i j:Int):Decidable (IntMulOk i j):=by unfold IntMulOk;infer_instance
instance decDivP(i j:Int):Decidable (qQe i j):=by unfold qQe;infer_instance
instance decPow(i j:Int):Decidable (CPow i j):=by unfold CPow;infer_instance
instance decMulS(x:Str)(n:Int):Decidable (MulOk x n):=by unfold MulOk;infer_instance
def i2(g:Int->Int->Int)(x y:D):Option D:=(yF x).bind fun i=>(yF y).bind fun j=>some (.int (g i j))
def i2g(C:Int->Int->Prop)[∀i j,Decidable (C i j)](g:Int->Int->Int)(x y:D):Option D:=(yF x).bind fun i=>(yF y).bind fun j=>if C i j then some (.int (g i j)) else none
def c2(g:Int->Int->Bool)(x y:D):Option D:=(yF x).bind fun i=>(yF y).bind fun j=>some (.bl (g i j))
theorem vJr{P:Prop}[Decidable P]{x y:α}(h:(if P then some x else none)=some y):P/\x=y:=by
 grind
section
variable{K:aQ}{c:Nat->aV}
theorem zJh(g:Int->Int->Int):PrS2 K c (rI0 fun i j=>.int (g i j)) (i2 g):=fun u w H x y z Q hx hy e q=>by
 obtain⟨i,e1,e2⟩:=bnd e;obtain⟨j,e3,e4⟩:=bnd e2;cases e4;exact⟨i,j,jE hx e1,jE hy e3,q _ fun _=>.int _⟩
theorem vZ8(C:Int->Int->Prop)[∀i j,Decidable (C i j)](g:Int->Int->Int):PrS2 K c (rI C fun i j=>.int (g i j)) (i2g C g):=fun u w H x y z Q hx hy e q=>by
 obtain⟨i,e1,e2⟩:=bnd e;obtain⟨j,e3,e4⟩:=bnd e2;obtain⟨p,rfl⟩:=vJr e4;exact⟨i,j,jE hx e1,jE hy e3,p,q _ fun _=>.int _⟩
theorem qZx(g:Int->Int->Bool):PrS2 K c (rI0 fun i j=>.bl (g i j)) (c2 g):=fun u w H x y z Q hx hy e q=>by
 obtain⟨i,e1,e2⟩:=bnd e;obtain⟨j,e3,e4⟩:=bnd e2;cases e4;exact⟨i,j,jE hx e1,jE hy e3,q _ fun _=>.bl _⟩
theorem vQf(g:Int->Int->Int):PrS2 K c (ipI g) (i2 g):=fun u w H x y z Q hx hy e q=>by
 obtain⟨i,j,e1,e2,r⟩:=zJh g u w H x y z Q hx hy e q;exact⟨i,j,e1,e2,r⟩
noncomputable def addS(x y:D):Option D:=(qK6 x).bind fun i=>(qK6 y).bind fun j=>if i.length+j.length<=aM then some (.str (i ++ j)) else none
theorem jQb:PrS2 K c (fun x y H Q=>∃i j,x=.str i/\y=.str j/\i.length+j.length<=aM/\Q (.str (i ++ j)) H) addS:=fun u w H x y z Q hx hy e q=>by
 obtain⟨i,e1,e2⟩:=bnd e;obtain⟨j,e3,e4⟩:=bnd e2;obtain⟨p,rfl⟩:=vJr e4;exact⟨i,j,qQo hx e1,qQo hy e3,p,q _ fun _=>.str _⟩
def leS(x y:D):Option D:=(qK6 x).bind fun i=>(qK6 y).bind fun j=>some (.bl (!decide (j.cps.toList<i.cps.toList)))
theorem qQ9:PrS2 K c rLeS leS:=fun u w H x y z Q hx hy e q=>by
 obtain⟨i,e1,e2⟩:=bnd e;obtain⟨j,e3,e4⟩:=bnd e2;cases e4;exact⟨i,j,qQo hx e1,qQo hy e3,q _ fun _=>.bl _⟩
noncomputable def mulS(x y:D):Option D:=(qK6 x).bind fun i=>(yF y).bind fun j=>if MulOk i j then some (.str (Txt.mul i j)) else none
theorem zK6:PrS2 K c (fun x y H Q=>∃z n,x=.str z/\y=.int n/\MulOk z n/\Q (.str (Txt.mul z n)) H) mulS:=fun u w H x y z Q hx hy e q=>by
 obtain⟨i,e1,e2⟩:=bnd e;obtain⟨j,e3,e4⟩:=bnd e2;obtain⟨p,rfl⟩:=vJr e4;exact⟨i,j,qQo hx e1,jE hy e3,p,q _ fun _=>.str _⟩
end
section
variable{K:aQ}{c:Nat->aV}
noncomputable def toV:D->Option V
 |.non =>some .non
 |.int i=>some (.int i)
 |.str x=>some (.str x)
 |.bl b=>some (.bl b)
 |_=>none
noncomputable def allV:List D->Option (List V)
 |[]=>some []
 |d::r=>(toV d).bind fun v=>(allV r).bind fun vs=>some (v::vs)
theorem vX7{F:Hp}{u:V}{d:D}(h:DAt K c F u d)(e:toV d=some v):u=v/\qWg v=true:=by
 cases h <;> cases e <;> exact⟨rfl,rfl⟩
theorem vJ0{F:Hp}:∀{us:List V} {ds:List D} {vs:List V},DsAt K c F us ds->allV ds=some vs->us=vs/\vs.all qWg=true
 |us,[],vs,h,e=>by cases e;exact⟨h.un0,rfl⟩
 | us,d::ds,vs,h,e=>by
   obtain⟨u,r,rfl,a,b⟩:=h.un;obtain⟨v,e1,e2⟩:=bnd e;obtain⟨ws,e3,e4⟩:=bnd e2;cases e4;obtain⟨h1,h2⟩:=vX7 a e1;obtain⟨h3,h4⟩:=vJ0 b e3;grind
noncomputable def inB(x y:D):Option Bool:=match y with
 |.nd (.dct ks) _=>(vV4 x).bind fun k=>some (kidx k ks).isSome
 |.nd .lst ds=>(toV x).bind fun v=>(allV ds).bind fun vs=>some (inV v vs)
 |.nd .tup ds=>(toV x).bind fun v=>(allV ds).bind fun vs=>some (inV v vs)
 |_=>none
noncomputable def inD(x y:D):Option D:=(inB x y).map .bl
noncomputable def niD(x y:D):Option D:=(inB x y).map fun b=>.bl (!b)
noncomputable def rInA(K:aQ)(neg:Bool):R2:=fun x y H Q=>rIn K neg x y H Q\/∃a o,y=.ref a/\DGet H a x o/\Q (.bl (if neg then !o.isSome else o.isSome)) H
theorem jWc(hu:X.A.units+1<cLine):OpR X (bA .In) (rInA X.K false):=zV9.or (jWb hu)
theorem zV8(hu:X.A.units+1<cLine):OpR X (bA .NotIn) (rInA X.K true):=vJ7.or (zV7 hu)
theorem zWw{neg:Bool}{u w:V}{x y:D}{b:Bool}(hx:DAt K c H u x)(hy:DAt K c H w y)(e:inB x y=some b)(q:Q (.bl (if neg then !b else b)) H):rInA K neg u w H Q:=by
 unfold inB at e;split at e
 ·obtain⟨k,e1,e2⟩:=bnd e;cases e2;obtain⟨p,vs,rfl,⟨h1,h2,h3⟩,h4⟩:=hy.un;rw[vQy hx e1];refine .inr ⟨p,_,rfl,zW3 h3,?_⟩;rw[vQn h1];rename_i ks ds;have:((kidx k ks).bind fun j=>vs[j]?).isSome =(kidx k ks).isSome :=by
   cases e5:kidx k ks with
   |none=>rfl
   | some j=>
     have:=(zQw e5).1;grind
  grind
 ·obtain⟨v,e1,e2⟩:=bnd e;obtain⟨vs',e3,e4⟩:=bnd e2;cases e4;obtain⟨p,vs,rfl,h1,h2⟩:=hy.un;obtain⟨g1,g2⟩:=vX7 hx e1;obtain⟨g3,g4⟩:=vJ0 h2 e3;subst g1 g3;exact .inl ⟨p,vs,rfl,.inl h1,g2,g4,q⟩
 ·obtain⟨v,e1,e2⟩:=bnd e;obtain⟨vs',e3,e4⟩:=bnd e2;cases e4;obtain⟨p,vs,rfl,h1,h2⟩:=hy.un;obtain⟨g1,g2⟩:=vX7 hx e1;obtain⟨g3,g4⟩:=vJ0 h2 e3;subst g1 g3;exact .inl ⟨p,vs,rfl,.inr h1,g2,g4,q⟩
 ·cases e
theorem jX5:PrS2 K c (rInA K false) inD:=fun u w H x y z Q hx hy e q=>by
 obtain⟨b,e1,rfl⟩:=bL.mp e;exact zWw (neg:=false) hx hy e1 (q _ fun _=>.bl _)
theorem zXy:PrS2 K c (rInA K true) niD:=fun u w H x y z Q hx hy e q=>by
 obtain⟨b,e1,rfl⟩:=bL.mp e;exact zWw (neg:=true) hx hy e1 (q _ fun _=>.bl _)
noncomputable def negD(x:D):Option D:=(yF x).bind fun i=>some (.int (-i))
end
abbrev oAdd:=o2 (i2 fun i j=>i+j)
abbrev oSub:=o2 (i2 fun i j=>i - j)
abbrev oMul:=o2 (i2g IntMulOk fun i j=>i * j)
abbrev oDiv:=o2 (i2g qQe fun i j=>i / j)
noncomputable abbrev oMod:=o2 (i2g (fun _ j=>0<j) fun i j=>i % j)
noncomputable abbrev oPow:=o2 (i2g CPow fun i j=>i ^ j.toNat)
abbrev oLt:=o2 (c2 fun i j=>decide (i<j))
abbrev oLe:=o2 (c2 fun i j=>decide (i<=j))
noncomputable abbrev oGt:=o2 (c2 fun i j=>decide (j<i))
section
variable{X:Cx}{c:Nat->aV}{E:XK}{a b d e:Expr}{oa ob oc:Oe}{pos:Pos}{k:Nat}
theorem qVk(ha:OD X c E a oa)(hb:OD X c E b ob):OD X c E (.BinOp a .Add b pos) (oAdd oa ob):=qY8 jWd (zJh _) ha hb
theorem jZg(ha:OD X c E a oa)(hb:OD X c E b ob):OD X c E (.BinOp a .Sub b pos) (oSub oa ob):=qY8 jJ8 (zJh _) ha hb
theorem vWm(ha:OD X c E a oa)(hb:OD X c E b ob):OD X c E (.BinOp a .Mult b pos) (oMul oa ob):=qY8 jQn (vZ8 _ _) ha hb
theorem qXd(ha:OD X c E a oa)(hb:OD X c E b ob):OD X c E (.BinOp a .FloorDiv b pos) (oDiv oa ob):=qY8 zX5 (vZ8 _ _) ha hb
theorem wS(ha:OD X c E a oa)(hb:OD X c E b ob):OD X c E (.BinOp a .Mod b pos) (oMod oa ob):=qY8 jWa (vZ8 _ _) ha hb
theorem vWl(ha:OD X c E a oa)(hb:OD X c E b ob):OD X c E (.BinOp a .Pow b pos) (oPow oa ob):=qY8 jJ9 (vZ8 _ _) ha hb
theorem jR(ha:OD X c E a oa)(hb:OD X c E b ob):OD X c E (.BinOp a .Add b pos) (o2 addS oa ob):=qY8 vY8 jQb ha hb
theorem jWh(ha:OD X c E a oa)(hb:OD X c E b ob):OD X c E (.BinOp a .Mult b pos) (o2 mulS oa ob):=qY8 vY7 zK6 ha hb
theorem o_le(ha:OD X c E a oa)(hb:OD X c E b ob):OD X c E (.Compare a [.LtE] [b] pos) (oLe oa ob):=vZ9 qXc (qZx _) ha hb (qWr _)
theorem jQr(hr:Room k X.A)(ha:OD X c E a oa)(hb:OD X c E b ob)(hm:behindInMarks .NotIn b=false:=by rfl):OD X c E (.Compare a [.NotIn] [b] pos) (o2 niD oa ob):=vZ9 (zV8 (zJp hr)) zXy ha hb hm
theorem t_lt(ha:OD X c E a oa)(hb:OD X c E b ob):TD X c E (.Compare a [.Lt] [b] pos) (asB (oLt oa ob)):=vQc jYg (qZx _) ha hb (qWr _)
theorem t_gt(ha:OD X c E a oa)(hb:OD X c E b ob):TD X c E (.Compare a [.Gt] [b] pos) (asB (oGt oa ob)):=vQc jYh (qZx _) ha hb (qWr _)
theorem t_in(hr:Room k X.A)(ha:OD X c E a oa)(hb:OD X c E b ob)(hm:behindInMarks .In b=false:=by rfl):TD X c E (.Compare a [.In] [b] pos) (asB (o2 inD oa ob)):=vQc (jWc (zJp hr)) jX5 ha hb hm
theorem jYl(ha:OD X c E a oa):OD X c E (.UnaryOp .USub a pos) (o1 negD oa):=jYi jZ0 (fun u H x z Q hx e q=>by
 obtain⟨i,e1,e2⟩:=bnd e;cases e2;exact⟨i,jE hx e1,q _ fun _=>.int _⟩) ha
theorem o_ix(hr:Room k X.A)(ha:OD X c E a oa)(hb:OD X c E b ob)(hs:vJ1 b:=by exact fun _ _=>rfl):OD X c E (.Subscript a b pos) (oIx oa ob):=jYk (zJp hr) ha hb hs
end
noncomputable def iSeq(K:aQ)(tl:TE):TI:=fun σ H R=>tl σ H fun x H1=>∃a,x=.ref a/\(((∃xs,SqL K H1 a xs)/\R (Itl K a) H1)\/((∃xs,SqT K H1 a xs)/\R (Itt K a) H1))
theorem jJw{tg l:Expr}{tl:TE}(hl:PE X l tl):PI X tg l (iSeq X.K tl):=by
 intro pins s σ H R I h;refine thn (hl pins s σ H _ I h) fun v s1 ⟨x,H1,I1,r1,q1⟩=>?_
 obtain⟨a,e,q1⟩:=q1;subst e;cases r1;rcases q1 with⟨⟨xs,hq⟩,q⟩|⟨⟨xs,hq⟩,q⟩
 ·obtain⟨its,rv,p,hz⟩:=I1.list hq;refine wpAny_pyIter_list p.isList ?_
  refine⟨s1.heap.objs.size,[s1.heap.objs.size],_,_,H1,rfl,I1.kept (t' :=s1.toks) fun b o e=>aU _ e,zVs a _,⟨_,aN _ rfl,rfl,rfl⟩,fun b hb=>?_,q⟩;have e:b=s1.heap.objs.size:=by simpa using hb
  subst e;exact I1.fpOk (aD _) (I1.hok.fresh (aD _))
 ·obtain⟨its,rv,p,hz⟩:=I1.tuple hq;refine wpAny_pyIter_tuple (show s1.heap.IsTuple a its.toArray from p) ?_
  refine⟨s1.heap.objs.size,[s1.heap.objs.size],_,_,H1,rfl,I1.kept (t' :=s1.toks) fun b o e=>aU _ e,vYt a _,⟨_,aN _ rfl,rfl,rfl⟩,fun b hb=>?_,q⟩;have e:b=s1.heap.objs.size:=by simpa using hb
  subst e;exact I1.fpOk (aD _) (I1.hok.fresh (aD _))
section
variable{K:aQ}{c:Nat->aV}{F:Hp}{a b:aV}{xs ys:List V}{ds es:List D}
theorem zYn(h:SqL K F a xs)(k:DsAt K c F xs ds):ItD K c F (Itl K a) ds:=by
 intro i H T sm hb;have h' :SqL K H a xs:=yV vD (yV sm h);refine⟨fun d hd=>?_,fun hi=>⟨xs,h',by rw[k.len];omega⟩⟩;obtain⟨v,h1,h2⟩:=k.get hd;refine⟨⟨xs,v,h',h1⟩,fun x H' y=>?_⟩;obtain⟨rfl,y2⟩:=y;have:=y2 xs h';rw[h1]at this;cases this;exact⟨Same.refl _,h2.same sm⟩
theorem jQ5(h:SqT K F a xs)(k:DsAt K c F xs ds):ItD K c F (Itt K a) ds:=by
 intro i H T sm hb;have h' :SqT K H a xs:=vD.tup (sm.tup h);refine⟨fun d hd=>?_,fun hi=>⟨xs,h',by rw[k.len];omega⟩⟩;obtain⟨v,h1,h2⟩:=k.get hd;refine⟨⟨xs,v,h',h1⟩,fun x H' y=>?_⟩;obtain⟨rfl,y2⟩:=y;have:=y2 xs h';rw[h1]at this;cases this;exact⟨Same.refl _,h2.same sm⟩
noncomputable def rngD(lo:Int)(n:Nat):List D:=(List.range n).map fun(j:Nat)=>D.int (lo+(j:Int))
theorem jQ7{lo:Int}:ItD K c F (Itr lo n) (rngD lo n):=by
 intro i H T sm hb;unfold rngD;refine⟨fun d hd=>?_,fun hi=>by rw[aP,List.length_range]at hi;exact Nat.le_of_eq hi.symm⟩;rw[cN]at hd;cases q:(List.range n)[i]? with
 |none=>rw[q]at hd;cases hd
 | some j=>
   rw[q]at hd;cases hd;obtain⟨hl,e⟩:=aB.mp q;rw[List.getElem_range]at e;subst e;rw[List.length_range]at hl;refine⟨hl,fun x H' y=>?_⟩;obtain⟨rfl,rfl⟩:=y;exact⟨Same.refl _,.int _⟩
noncomputable def zipD:List D->List D->List D
 |d::ds,e::es=>D.tup [d,e]::zipD ds es
 |_,_=> []
theorem qKc:∀(ds es:List D),(zipD ds es).length =min ds.length es.length
 |[],es=>by simp[zipD]
 |d::ds,[]=>by simp[zipD]
 |d::ds,e::es=>by simp only[zipD,aY,qKc ds es];omega
theorem zipD_get:∀{ds es:List D} {i:Nat} {z:D},(zipD ds es)[i]?=some z->∃d e,ds[i]?=some d/\es[i]?=some e/\z=D.tup [d,e]
 |[],es,i,z,h=>by simp[zipD]at h
 |d::ds,[],i,z,h=>by simp[zipD]at h
 |d::ds,e::es,0,z,h=>by simp only[zipD,dH,Option.some.injEq]at h;exact⟨d,e,rfl,rfl,h.symm⟩
 | d::ds,e::es,i + 1,z,h=>by
   obtain⟨d',e',h1,h2,h3⟩:=zipD_get (ds:=ds) (es:=es) (i:=i) (z:=z) (by simpa[zipD] using h);exact⟨d',e',by simpa using h1,by simpa using h2,h3⟩
theorem vXb{T:Fp}{x y:V}{d e:D}{p:aV}(hn:H p=none)(hb:∀a,T a≠0->∃o,H a=some o/\Hb o)(hx:DAt K c (hide T H) x d)(hy:DAt K c (hide T H) y e):Same H (upd H p (.tup [x,y]))/\DAt K c (hide T (upd H p (.tup [x,y]))) (.ref p) (D.tup [d,e]):=by
 have sm:Same H (upd H p (.tup [x,y])):=.upd hn;have hp:T p=0:=by
  grind
 have ss:Same (hide T H) (hide T (upd H p (.tup [x,y]))):=zH fun a o z q=>⟨z,sm a o q⟩
 exact⟨sm,.of (k:=.tup) (SqT.of (by rw[zK hp,upd_same])) (.cons (hx.same ss) (.cons (hy.same ss) .nil))⟩
noncomputable def yQ:Nat->List D->List D
 |_,[]=> []
 |n,d::ds=>D.tup [.int (n:Int),d]::yQ (n+1) ds
theorem qYa:∀(n:Nat) (ds:List D),(yQ n ds).length =ds.length
 |_,[]=>rfl
 |n,d::ds=>by simp only[yQ,aY,qYa (n+1) ds]
theorem enumD_get:∀{n:Nat} {ds:List D} {i:Nat} {z:D},(yQ n ds)[i]?=some z->∃d,ds[i]?=some d/\z=D.tup [.int ((n+i:Nat):Int),d]
 |n,[],i,z,h=>by simp[yQ]at h
 |n,d::ds,0,z,h=>by simp only[yQ,dH,Option.some.injEq]at h;exact⟨d,rfl,h.symm⟩
 | n,d::ds,i + 1,z,h=>by
   obtain⟨d',h1,h2⟩:=enumD_get (n:=n+1) (ds:=ds) (i:=i) (z:=z) (by simpa[yQ] using h);exact⟨d',by simpa using h1,by rw[h2,show n+1+i=n+(i+1) by omega]⟩
theorem zYo(h:SqL K F a xs)(k:DsAt K c F xs ds):ItD K c F (Ite K a) (yQ 0 ds):=by
 intro i H T sm hb;have g1:SqL K H a xs:=yV vD (yV sm h);refine⟨fun z hz=>?_,fun hi=>⟨xs,g1,by rw[qYa,←k.len]at hi;omega⟩⟩;obtain⟨d,e1,rfl⟩:=enumD_get hz;obtain⟨v,v1,v2⟩:=k.get e1;refine⟨⟨xs,v,g1,v1⟩,fun x H' y=>?_⟩;obtain⟨p,rfl,hn,y2⟩:=y;rw[y2 xs v g1 v1,Nat.zero_add];exact vXb hn hb (.int _) (v2.same sm)
end
noncomputable def qY6:D->Option (List D)
 |.nd .lst ds=>some ds
 |.nd .tup ds=>some ds
 |_=>none
noncomputable def qVl:D->Option (List D)
 |.nd .lst ds=>some ds
 |_=>none
noncomputable def vVy:D->Option (List D)
 |.nd .tup ds=>some ds
 |_=>none
section
variable{K:aQ}{c:Nat->aV}{F:Hp}{u:V}{d:D}{ds:List D}
theorem vXf(h:DAt K c F u d)(e:qVl d=some ds):∃p vs,u=.ref p/\SqL K F p vs/\DsAt K c F vs ds:=by
 unfold qVl at e;split at e
 ·cases e;exact h.un
 ·cases e
theorem zXb(h:DAt K c F u d)(e:vVy d=some ds):∃p vs,u=.ref p/\SqT K F p vs/\DsAt K c F vs ds:=by
 unfold vVy at e;split at e
 ·cases e;exact h.un
 ·cases e
theorem zXm(h:DAt K c F u d)(e:qY6 d=some ds):∃p vs,u=.ref p/\(SqL K F p vs\/SqT K F p vs)/\DsAt K c F vs ds:=by
 unfold qY6 at e;split at e
 ·cases e;obtain⟨p,vs,a,b,r⟩:=h.un;exact⟨p,vs,a,.inl b,r⟩
 ·cases e;obtain⟨p,vs,a,b,r⟩:=h.un;exact⟨p,vs,a,.inr b,r⟩
 ·cases e
end
noncomputable def iV(s:SV):SI:=fun env=>(s env).bind fun r=>(opt (qY6 r.1)).bind fun ds=>.ok (ds,r.2)
noncomputable def iL(f:List D->Option (List D))(ss:List SV):SI:=fun env=>(evVs ss env).bind fun r=>(opt (f r.1)).bind fun ds=>.ok (ds,r.2)
noncomputable def in62(j:Int):Bool:=decide (-(2 ^ 62)<=j) && decide (j<2 ^ 62)
theorem zQ5{j:Int}(h:in62 j=true): -(2 ^ 62)<=j/\j<2 ^ 62:=by
 unfold in62 at h;grind
noncomputable def rg1:List D->Option (List D)
 |[.int j]=>cond (in62 j) (some (rngD 0 j.toNat)) none
 |_=>none
noncomputable def zpL:List D->Option (List D)
 |[x,y]=>(qVl x).bind fun ds=>(qVl y).bind fun es=>some (zipD ds es)
 |_=>none
noncomputable def zpT:List D->Option (List D)
 |[x,y]=>(vVy x).bind fun ds=>(vVy y).bind fun es=>some (zipD ds es)
 |_=>none
noncomputable def zpM:List D->Option (List D)
 |[x,y]=>(vVy x).bind fun ds=>(qVl y).bind fun es=>some (zipD ds es)
 |_=>none
noncomputable def enL:List D->Option (List D)
 |[x]=>(qVl x).bind fun ds=>some (yQ 0 ds)
 |_=>none
section
variable{X:Cx}{c:Nat->aV}{E:XK}{tg e e1 e2:Expr}{s:SV}{ss:List SV}{p pos tpos:Pos}{elts:List Expr}{kk:Nat}
theorem qWs(h:EV X c E e s):ID' X c E tg e (iV s):=by
 refine⟨PI.imp (jJw h.h) fun σ H R=>?_⟩;rintro⟨env,B,W,cf,w⟩;refine⟨env,B,W,cf,wp_mono (fun r w1 u H1 W1 g=>?_) (fun _ _ he=>he) (qP.mp w)⟩;obtain⟨ds,e1,w2⟩:=qH w1;obtain⟨q,vs,rfl,b1,b2⟩:=zXm g.at_ e1;rcases b1 with b1|b1
 ·exact⟨q,rfl,.inl ⟨⟨vs,yV vD b1⟩,w2 _ H1 W1 g.st g.cf (zYn b1 b2)⟩⟩
 ·exact⟨q,rfl,.inr ⟨⟨vs,vD.tup b1⟩,w2 _ H1 W1 g.st g.cf (jQ5 b1 b2)⟩⟩
theorem ds1{K:aQ}{F:Hp}{x:D}(h:DsAt K c F us [x]):∃u,us=[u]/\DAt K c F u x:=by
 obtain⟨u,r,rfl,a,b⟩:=h.un;rw[b.un0];exact⟨u,rfl,a⟩
theorem ds2{K:aQ}{F:Hp}{x y:D}(h:DsAt K c F us [x,y]):∃u w,us=[u,w]/\DAt K c F u x/\DAt K c F w y:=by
 obtain⟨u,r,rfl,a,b⟩:=h.un;obtain⟨w,rfl,b2⟩:=ds1 b;exact⟨u,w,rfl,a,b2⟩
theorem yS(hg:Gl X "range")(hm:X.mg "range"=none)(ha:VsD X c E [e] ss)(hs:aJ [e] X.env=[(false,eval e X.env)]:=by rfl):ID' X c E tg (.Call (.Name "range" p) [e] [] pos) (iL rg1 ss):=by
 refine⟨PI.imp (zV6 hg hm ha.h hs) fun σ H R=>?_⟩;rintro⟨env,B,W,cf,w⟩;refine qYe cf (qP.mp w) fun r w1 us H1 W1 g=>?_
 obtain⟨ds,e1,w2⟩:=qH w1;have ga:=g.at_;unfold rg1 at e1;split at e1
 ·rename_i j e2;rw[e2]at ga;obtain⟨u,rfl,a⟩:=ds1 ga;obtain⟨q1,q2⟩:=jF e1;cases q2;cases a;exact⟨j,rfl,(zQ5 q1).1,(zQ5 q1).2,w2 _ H1 W1 g.st g.cf jQ7⟩
 ·cases e1
theorem vJt(hg:Gl X "enumerate")(hm:X.mg "enumerate"=none)(ha:VsD X c E [e] ss)(hs:aJ [e] X.env=[(false,eval e X.env)]:=by rfl)(hs2:aJ [] X.env=[]:=by rfl):ID' X c E (.Tuple elts kk tpos) (.Call (.Name "enumerate" p) [e] [] pos) (iL enL ss):=by
 refine⟨PI.imp (jQf hg hm ha.h hs hs2) fun σ H R=>?_⟩;rintro⟨env,B,W,cf,w⟩;refine qYe cf (qP.mp w) fun r w1 us H1 W1 g=>?_
 obtain⟨ds,e1,w2⟩:=qH w1;have ga:=g.at_;unfold enL at e1;split at e1
 ·rename_i x e2;rw[e2]at ga;obtain⟨u,rfl,a⟩:=ds1 ga;obtain⟨xs,q1,e3⟩:=bnd e1;cases e3;obtain⟨q,vs,rfl,c1,c2⟩:=vXf a q1;exact⟨q,rfl,⟨_,yV vD c1⟩,w2 _ H1 W1 g.st g.cf (zYo c1 c2)⟩
 ·cases e1
end
noncomputable def Res.ne{α:Type}:Res α->Res α
 |.ok a=>.ok a
 |_=>.no
theorem jVz{Q:α->Prop}{E E' :Nat->List (Str×D)->Prop}:∀{x:Res α},x.ne.wp Q E->x.wp Q E'
 |.ok _,h=>h
 |.er _ _,h=>h.elim
 |.no,h=>h.elim
noncomputable def qQd(g:SG)(t:ST)(el:SV):List D->Ev->Res (List D×Ev)
 |[],env=>.ok ([],env)
 |d::ds,env=>(opt (g d env)).bind fun e1=>(t e1).ne.bind fun r=>cond r.1 ((el r.2).ne.bind fun v=>(qQd g t el ds v.2).bind fun q=>.ok (v.1::q.1,q.2)) (qQd g t el ds r.2)
noncomputable def capO(cs:List (Nat×Nat))(i:Nat):Option Nat:=match cs with
 |[]=>none
 |c::r=>if c.1=i then some c.2 else capO r i
theorem qJb:∀{cs:List (Nat×Nat)} {i j:Nat},capO cs i=some j->(i,j)∈cs
 |[],i,j,h=>by cases h
 | c::r,i,j,h=>by
   simp only[capO]at h;split at h
   ·grind
   ·exact aK _ (qJb h)
theorem zQi:∀{cs:List (Nat×Nat)} {i i' j:Nat},(cs.map (·.2)).Nodup ->(i,j)∈cs->(i',j)∈cs->i=i'
 | c::r,i,i',j,hn,h1,h2=>by
   rw[bJ,eQ]at hn;rcases aH.mp h1 with a1|a1
   ·grind
   ·rcases aH.mp h2 with a2 | a2
    ·grind
    ·exact zQi hn.2 a1 a2
noncomputable def capS{α:Type}(cs:List (Nat×Nat))(u:α)(l:List α):Nat->Nat->List α
 |_,0=> []
 | i,n + 1=>(match capO cs i with
   |some j=>l.getD j u
   |none=>u)::capS cs u l (i+1) n
theorem qX2{cs:List (Nat×Nat)}{u:α}{l:List α}:∀(n i:Nat),(capS cs u l i n).length =n
 | 0,i=>rfl
 |n+1,i=>by rw[capS,aY,qX2 n]
theorem qX3{cs:List (Nat×Nat)}{u:α}{l:List α}:∀(n i k:Nat),k<n->(capS cs u l i n)[k]?=some (match capO cs (i+k) with
  |some j=>l.getD j u
  |none=>u)
 | 0,i,k,h=>by omega
 |n+1,i,0,h=>by rw[capS];rfl
 | n + 1,i,k + 1,h=>by
   rw[capS,List.getElem?_cons_succ,qX3 n (i+1) k (by omega),show i+1+k=i+(k+1) by omega]
theorem zVx{l:List (Option α)}{v:α}(h:l.getD j none=some v):l[j]?=some (some v):=by
 rw[bP]at h;cases e:l[j]? with
 |none=>rw[e]at h;cases h
 |some o=>rw[e]at h;cases h;rfl
noncomputable def qVi(cs:List (Nat×Nat)):Nat->Nat->Ev->Ev
 |_,0,env=>env
 | i,n + 1,env=>qVi cs (i + 1) n (match capO cs i with
   |some j=>env.set j .un
   |none=>env)
noncomputable def putI(cs:List (Nat×Nat)):Nat->Ev->Ev->Ev
 |_,[],env=>env
 | i,s::inn,env=>putI cs (i + 1) inn (match capO cs i with
   |some j=>env.set j s
   |none=>env)
noncomputable def vWp(cs:List (Nat×Nat))(T:List Nat)(n m:Nat):Bool:=decide ((cs.map (·.1)).Nodup /\(cs.map (·.2)).Nodup /\∀c∈cs,c.1<n/\c.2<m/\c.1∉T)
theorem qYk{cs:List (Nat×Nat)}:∀{n i:Nat} {env:Ev},(qVi cs i n env).length =env.length
 | 0,i,env=>rfl
 | n + 1,i,env=>by
   rw[qVi,qYk];grind
theorem vW5{cs:List (Nat×Nat)}:∀{inn:Ev} {i:Nat} {env:Ev},(putI cs i inn env).length =env.length
 |[],i,env=>rfl
 | s::inn,i,env=>by
   rw[putI,vW5];grind
theorem vWx{cs:List (Nat×Nat)}{k:Nat}{o:O}:∀{n i:Nat} {env:Ev},(qVi cs i n env)[k]?=some (.s true o)->env[k]?=some (.s true o)
 | 0,i,env,h=>h
 | n + 1,i,env,h=>by
   rw[qVi]at h;have:=vWx h;cases e:capO cs i with
   |none=>rw[e]at this;exact this
   |some j=>rw[e]at this;exact(qWu (fun _ z=>by cases z) this).2
theorem zQo{cs:List (Nat×Nat)}{k:Nat}{o:O}:∀{inn:Ev} {i:Nat} {env:Ev},(putI cs i inn env)[k]?=some (.s true o)->env[k]?=some (.s true o)\/∃i',capO cs i' =some k/\i<=i' /\inn[i' - i]?=some (.s true o)
 |[],i,env,h=>.inl h
 | s::inn,i,env,h=>by
   rw[putI]at h;rcases zQo h with h|⟨i',h1,h2,h3⟩
   ·cases e:capO cs i with
    |none=>rw[e]at h;exact .inl h
    | some j=>
      rw[e]at h;by_cases z:j=k
      ·subst z;dsimp only at h;rw[List.getElem?_set]at h;simp only[if_true]at h;split at h
       ·exact .inr ⟨i,e,aD _,by rw[Nat.sub_self];exact h⟩
       ·cases h
      ·dsimp only at h;rw[bY z]at h;exact .inl h
   ·exact .inr ⟨i',h1,by omega,by rw[show i' - i=(i' - (i+1))+1 by omega,List.getElem?_cons_succ];exact h3⟩
section
variable{K:aQ}{c:Nat->aV}{F H:Hp}{cs:List (Nat×Nat)}
theorem cap_in{env0:Ev}(h2:(cs.map (·.2)).Nodup)(h3:∀e∈cs,e.2<env0.length):∀{n i:Nat} {env:Ev} {W:Fp},SlAt K c F H env σ W->(∀i' j,i<=i' ->capO cs i' =some j->env[j]?=env0[j]?)->
  ∃Wi R,SlAt K c F H (capS cs .un env0 i n) (capS cs none σ i n) Wi/\SlAt K c F H (qVi cs i n env) σ R/\∀a,W a=Wi a+R a
 | 0,i,env,W,h,q=>⟨fun _=>0,W,⟨⟨rfl,h.tab⟩,fun _=>rfl⟩,h,fun a=>by(try dsimp only);omega⟩
 | n + 1,i,env,W,h,q=>by
   cases e:capO cs i with
   | none=>
     obtain⟨Wi,R,a1,a2,a3⟩:=cap_in h2 h3 (n:=n) (i:=i+1) h fun i' j hi he=>q i' j (by omega) he
     refine⟨Wi,R,?_,?_,a3⟩
     ·rw [capS,capS,e];exact⟨none,_,fun _=>0,Wi,rfl,fun _=>rfl,a1,fun a=>by(try dsimp only);omega⟩
     ·rw[qVi,e];exact a2
   | some j=>
     have hm:=qJb e;have hj:j<env0.length:=h3 _ hm;have e1:env[j]?=some env0[j]:=by rw[q i j (aD _) e];exact aO hj
     obtain⟨x,Z1,R1,k1,k2,k3,k4⟩:=h.focus e1;have k5:=k4 F H .un x (fun _=>0) R1 (Same.refl _) (fun _ _=>rfl) (fun _=>rfl) fun a=>by(try dsimp only);omega
     rw[qQp k1]at k5;obtain⟨Wi,R,a1,a2,a3⟩:=cap_in h2 h3 (n:=n) (i:=i+1) k5 fun i' j' hi he=>by
      have nj:j≠j' :=fun z=>by
       subst z;have:=zQi h2 hm (qJb he);omega
      rw[bY nj];exact q i' j' (by omega) he
     refine⟨fun a=>Z1 a+Wi a,R,?_,?_,fun a=>by rw[k3,a3];(try dsimp only);omega⟩
     ·rw [capS,capS,e];refine⟨x,_,Z1,Wi,?_,?_,a1,fun _=>rfl⟩
      ·dsimp only;rw[bP,k1];rfl
      ·dsimp only;rw[bP,aO hj];exact k2
     ·rw[qVi,e];exact a2
theorem cap_out:∀{inn:Ev} {σ2:L2.St} {i:Nat} {env:Ev} {R Wi:Fp},SlAt K c F H inn σ2 Wi->SlAt K c F H env σ R->(∀(k j:Nat),capO cs (i+k)=some j->k<inn.length->j<env.length/\σ2[k]?=σ[j]?)->(∀a,Wi a+R a<=1)->∃W,SlAt K c F H (putI cs i inn env) σ W/\∀a,W a<=Wi a+R a
 |[],σ2,i,env,R,Wi,h,k,q,_=>⟨R,k,fun a=>by omega⟩
 | s::inn,σ2,i,env,R,Wi,h,k,q,nd=>by
   obtain⟨x,r,Z1,Z2,rfl,b,cc,d⟩:=h;cases e:capO cs i with
   | none=>
     obtain⟨W,h1,h2⟩:=cap_out (i:=i+1) cc k (fun m j he hm=>by
      obtain⟨q1,q2⟩:=q (m+1) j (by rw[show i+(m+1)=i+1+m by omega];exact he) (by rw[aY];omega);exact⟨q1,by simpa using q2⟩) (fun a=>by have:=nd a;rw[d]at this;omega)
     refine⟨W,?_,fun a=>by have:=h2 a;rw[d];omega⟩;rw[putI,e];exact h1
   | some j=>
     obtain⟨q1,q2⟩:=q 0 j (by rw[Nat.add_zero];exact e) (by rw[aY];omega);rw[dH]at q2;obtain⟨y,Y1,R1,k1,k2,k3,k4⟩:=k.focus (aO q1);rw[←q2]at k1;cases k1;have k5:=k4 F H s x Z1 (fun a=>Z1 a+R1 a) (Same.refl _) (fun _ _=>rfl) b fun _=>rfl
     rw[qQp q2.symm]at k5;obtain⟨W,h1,h2⟩:=cap_out (i:=i+1) cc k5 (fun m j' he hm=>by
      obtain⟨g1,g2⟩:=q (m+1) j' (by rw[show i+(m+1)=i+1+m by omega];exact he) (by rw[aY];omega);exact⟨by rw[cV];exact g1,by simpa using g2⟩) (fun a=>by have:=nd a;rw[d,k3]at this;(try dsimp only);omega)
     refine⟨W,?_,fun a=>by have:=h2 a;(try dsimp only at this);rw[d,k3];omega⟩;rw[putI,e];exact h1
theorem Cf.write{p:aV}{ho:HO}(cf:Cf K c env σ H B W)(hp:B p≠0)(hb:Hb ho):Cf K c env σ (upd H p ho) B W:=by
 have hh:(hd2 B W) p≠0:=by dsimp only[hd2];omega
 have np:∀a,W a≠0->a≠p:=fun a z y=>by have:=cf.nd a;rw[y]at z this;omega
 refine⟨by rw[vQ1 hh];exact cf.at_.keep (Same.refl _) fun a z=>qM (np a z),cf.nd,fun a z=>?_⟩;by_cases y:a=p
 ·subst y;exact⟨ho,upd_same,hb⟩
 ·rw[qM y];exact cf.hb a z
end
noncomputable def compS(n:Nat)(cs:List (Nat×Nat))(T:List Nat)(it:SI)(g:SG)(t:ST)(el:SV):SE:=fun env=>(it env).bind fun r=>cond (vWp cs T n r.2.length && decide (r.1.length<=lim))
 ((qQd g t el r.1 (capS cs .un r.2 0 n)).bind fun q=>.ok (.ow .lst (q.1.map .fz),putI cs 0 q.2 (qVi cs 0 n r.2))) .no
structure TDs(X:Cx)(c:Nat->aV)(E:XK)(ifs:List Expr)(t:ST):Prop where
 h:PTs X ifs (tT X.K c E t)
def bTrue:ST:=fun env=>.ok (true,env)
theorem PTs.imp{e:List Expr}{t:TT}(h:PTs X e t)(k:∀σ H Q,t' σ H Q->t σ H Q):PTs X e t' :=fun pins s σ H Q I q=>h pins s σ H Q I (k σ H Q q)
theorem wM:TDs X c E [] bTrue:=by
 refine⟨PTs.imp zKz fun σ H Q=>?_⟩;rintro⟨env,B,W,cf,w⟩;exact w H W .refl cf
noncomputable abbrev EN' :XK:=fun _ _ _=>False
set_option maxHeartbeats 1000000 in
theorem vWz{K:aQ}{cs:List (Nat×Nat)}{T:List Nat}{t:ST}{el:SV}(h:tE K c E (compS n cs T it g t el) σ H Q):
  tComp (tIt K c E it) (tG K c T g) (tT K c EN' t) (tV K c EN' el) (fun σ=>capS cs none σ 0 n) σ H Q:=by
 obtain⟨env,B,W,cf,w⟩:=h;refine⟨env,B,W,cf,wp_mono (fun r1 h1 J H1 W1 st1 cf1 iter p hp=>?_) (fun _ _ he=>he) (qP.mp w)⟩;obtain⟨ds,e1⟩:=r1;obtain⟨hck,h1⟩:=v6 h1;rw[aE]at hck;obtain⟨n1,n2,n3⟩:=(of_decide_eq_true hck.1:(cs.map (·.1)).Nodup /\(cs.map (·.2)).Nodup /\∀c∈cs,c.1<n/\c.2<e1.length/\c.1∉T)
 have hlim:ds.length<=lim:=of_decide_eq_true hck.2;obtain⟨Wi,R,i1,i2,i3⟩:=cap_in n2 (fun e he=>(n3 e he).2.1) (n:=n) (i:=0) cf1.at_ (fun _ _ _ _=>rfl);have nd1:∀a,B a+(Wi a+R a)<=1:=fun a=>by have:=cf1.nd a;rw[i3]at this;exact this
 obtain⟨pB,pW⟩:=cf1.fresh hp;have pWi:Wi p=0/\R p=0:=by have:=i3 p;omega
 have smp:Same H1 (upd H1 p (.lst [])):=.upd hp;have cellp:∀a,a≠p->upd H1 p (.lst []) a=H1 a:=fun a z=>qM z
 let B0:Fp:=fun a=>B a+R a
 have hB0:∀a,B0 a=B a+R a:=fun _=>rfl
 have sm0:Same (hide (hd2 B W1) H1) (hide (hd2 (hd2 B0 (one p)) Wi) (upd H1 p (.lst []))):=zH fun a o z q=>by
  have ne:a≠p:=fun y=>by rw[y,hp]at q;cases q
  have:=xE ne;have:=i3 a;have:=hB0 a;dsimp only[hd2]at *;exact⟨by omega,by rw[cellp a ne];exact q⟩
 have cfI:Cf K c (capS cs .un e1 0 n) (capS cs none σ 0 n) (upd H1 p (.lst [])) (hd2 B0 (one p)) Wi:=by
  refine⟨i1.keep sm0 fun a z=>cellp a fun y=>by rw[y]at z;omega,fun a=>?_,fun a z=>?_⟩
  ·have:=nd1 a;have:=hB0 a;by_cases y:a=p
   ·subst y;dsimp only[hd2];rw[wG];omega
   ·dsimp only[hd2];rw[xE y];omega
  ·by_cases y:a=p
   ·subst y;exact⟨_,upd_same,trivial⟩
   ·rw [cellp a y];exact cf1.hbs (by have:=i3 a;have:=hB0 a;dsimp only[hd2]at z;rw[xE y]at z;omega)
 generalize hPost:(fun r:List D×Ev=>∀u H' W' Z,Got K c env σ H B W (putI cs 0 r.2 (qVi cs 0 n e1)) H' W' Z (.ow .lst (r.1.map .fz)) u->Q u H')=Post
 let Inv:Nat->Nat->L2.St->List V->Hp->Prop:=fun i m σ2 ys H2=>m=ds.length - i/\i<=ds.length/\∃inn W2 out,Step (capS cs .un e1 0 n) (capS cs none σ 0 n) (upd H1 p (.lst [])) B0 (hd2 Wi (one p)) inn σ2 H2 (hd2 W2 (one p))/\Cf K c inn σ2 H2 (hd2 B0 (one p)) W2/\
  H2 p=some (.lst ys)/\DsAt K c (hide (hd2 (hd2 B0 (one p)) W2) H2) ys out/\ys.length<=i/\(∀e∈cs,σ2[e.1]?=(capS cs none σ 0 n)[e.1]?)/\(qQd g t el (ds.drop i) inn).wp (fun q=>Post (out ++ q.1,q.2)) (fun _ _=>True)
 refine⟨Inv,⟨ds.length,by simp,dF _,_,Wi,[],.refl,cfI,upd_same,.nil,aD _,fun _ _=>rfl,?_⟩,?_⟩
 ·refine wp_mono (fun q hq=>?_) (fun _ _ _=>trivial) (qP.mp h1);subst hPost;exact hq
 rintro i m σ2 ys H2 ⟨rfl,hi,inn,W2,out,st2,cf2,at2,dsO,hly,hσ,w2⟩;refine⟨at2,vYi (by omega),?_⟩;have eqI:hide (hd2 (hd2 B0 (one p)) Wi) (upd H1 p (.lst []))=hide (hd2 B0 (hd2 Wi (one p))) (upd H1 p (.lst [])):=vO fun a=>by dsimp only[hd2];omega
 have eq2:hide (hd2 (hd2 B0 (one p)) W2) H2=hide (hd2 B0 (hd2 W2 (one p))) H2:=vO fun a=>by dsimp only[hd2];omega
 have smI:Same (hide (hd2 B W1) H1) (hide (hd2 (hd2 B0 (one p)) W2) H2):=sm0.trans (by rw[eqI,eq2];exact st2.same);have p0:B0 p=0:=by rw[hB0];omega
 have pBp:(hd2 B0 (one p)) p≠0:=by dsimp only[hd2];rw[wG];omega
 obtain⟨it1,it2⟩:=iter i H2 (hd2 (hd2 B0 (one p)) W2) smI (fun a z=>cf2.hbs z);by_cases hlt:i<ds.length
 ·obtain⟨go,yl⟩:=it1 ds[i] (aO hlt);refine .inr ⟨go,fun x H3 y=>?_⟩;obtain⟨sm3,hx⟩:=yl x H3 y;rw[dY hlt]at w2;obtain⟨e3,e2,w3⟩:=qH w2;refine⟨inn,_,W2,ds[i],e3,cf2.grow sm3,hx,e2,fun σ4 W4 st4 cf4 kσ=>⟨e3,_,W4,cf4,wp_mono (fun r q H5 W5 st5 cf5=>?_) (fun _ _ he=>he) (jVz (E' :=erP K c EN' H3 (hd2 B0 (one p)) W4) (qP.mp w3))⟩⟩;obtain⟨b,e5⟩:=r;have st25:=((Step.grow cf2 sm3).trans st4).trans st5;have at5:H5 p=some (.lst ys):=by rw[st25.by_ p pBp];exact at2
  have hσ4:∀e∈cs,σ4[e.1]?=(capS cs none σ 0 n)[e.1]?:=fun e he=>(kσ e.1 (n3 e he).2.2).trans (hσ e he)
  cases b with
  | false=>
    have l25:=st25.lift (B:=B0) (Z:=one p) (W' :=hd2 W2 (one p)) (Y' :=hd2 W5 (one p)) (fun _=>rfl) (fun _=>rfl) (fun _=>rfl);exact⟨ds.length - (i+1),by omega,rfl,hlt,e5,W5,out,st2.trans l25,cf5,at5,dsO.same st25.same,by omega,hσ4,q⟩
  | true=>
    refine⟨e5,_,W5,cf5,wp_mono (fun r q u H6 W6 g6=>?_) (fun _ _ he=>he) (jVz (E' :=erP K c EN' H5 (hd2 B0 (one p)) W5) (qP.mp q))⟩;obtain⟨v,e6⟩:=r;have st26:=st25.trans g6.st;have at6:H6 p=some (.lst ys):=by rw[st26.by_ p pBp];exact at2
    have l26:=st26.lift (B:=B0) (Z:=one p) (W' :=hd2 W2 (one p)) (Y' :=hd2 W6 (one p)) (fun _=>rfl) (fun _=>rfl) (fun _=>rfl);have hh6:(hd2 (hd2 B0 (one p)) W6) p≠0:=by dsimp only[hd2]at *;omega
    have hh7:(hd2 B0 (hd2 W6 (one p))) p≠0:=by dsimp only[hd2];rw[wG];omega
    have wr:Step e6 σ4 H6 B0 (hd2 W6 (one p)) e6 σ4 (upd H6 p (.lst (ys ++ [u]))) (hd2 W6 (one p)):=by
     refine⟨by rw[vQ1 hh7];exact Same.refl _,fun a z=>qM fun y=>by rw[y]at z;exact z p0,fun a z=>.inl z,fun a z=>?_,fun a _ _=>?_,fun _ o h=>⟨⟨o,h⟩,rfl⟩,rfl⟩
     ·by_cases y:a=p
      ·subst y;rw[upd_same]at z;cases z
      ·rw[qM y]at z;exact z
     ·by_cases y:a=p
      ·subst y;rw[at6];trivial
      ·exact .of (qM y)
    refine⟨at6,ds.length - (i+1),by omega,rfl,hlt,e6,W6,out ++ [v],(st2.trans l26).trans wr,g6.cf.write pBp trivial,upd_same,?_,by rw[aW,List.length_singleton];omega,hσ4,?_⟩
    ·rw [vQ1 hh6];exact(dsO.same st26.same).append (.cons g6.at_ .nil)
    ·exact wp_mono (fun q hq=>by rw[bX];exact hq) (fun _ _ _=>trivial) (qP.mp q)
 ·have hi2:i=ds.length:=by omega
  subst hi2;refine .inl ⟨it2 rfl,?_⟩;rw[List.drop_length]at w2;have w3:Post (out ++ [],inn):=w2;rw[bM,←hPost]at w3;have nd2:∀a,B a+R a+one p a+W2 a<=1:=fun a=>by have:=cf2.nd a;have:=hB0 a;dsimp only[hd2]at *;omega
  have cellR:∀a,R a≠0->H2 a=H1 a:=fun a z=>by
   rw[st2.by_ a (by rw[hB0];omega)];exact cellp a fun y=>by rw[y]at z;omega
  have linn:inn.length=n:=by rw[st2.len,qX2]
  obtain⟨W3,o1,o2⟩:=cap_out (cs:=cs) (i:=0) cf2.at_ (i2.keep smI cellR) (fun k j he hk=>by
   rw[Nat.zero_add]at he;have hm:=qJb he;obtain⟨m1,m2,_⟩:=n3 _ hm;refine⟨by rw[qYk];exact m2,?_⟩;rw[hσ _ hm];show(capS cs none σ 0 n)[k]?=σ[j]?;have hj:j < σ.length:=by rw[←cf1.len];exact m2
   rw[qX3 n 0 k m1,Nat.zero_add,he];dsimp only;rw[bP,aO hj];rfl) (fun a=>by have:=nd2 a;omega)
  have smE:Same (hide (hd2 (hd2 B0 (one p)) W2) H2) (hide (hd2 (hd2 B (one p)) W3) H2):=zS fun a z=>by have:=o2 a;have:=hB0 a;dsimp only[hd2]at *;omega
  have eqE:hide (hd2 (hd2 B (one p)) W3) H2=hide (hd2 B (hd2 W3 (one p))) H2:=vO fun a=>by dsimp only[hd2];omega
  refine w3 (.ref p) H2 W3 (one p) ⟨st1.trans ⟨by rw[←eqE];exact smI.trans smE,fun a z=>?_,fun a z=>?_,fun a z=>?_,fun a z1 z2=>?_,fun k o h=>⟨?_,rfl⟩,by rw[vW5,qYk]⟩,⟨o1.keep smE fun _ _=>rfl,fun a=>?_,fun a z=>?_⟩,OAt.ow.mpr ⟨p,ys,fun _=>0,rfl,at2,OsAt.fzs.mpr ⟨dsO.same smE,fun _=>rfl⟩,fun _=>rfl⟩⟩
  ·rw [st2.by_ a (by rw [hB0];omega)];exact cellp a fun y=>by rw[y]at z;omega
  ·by_cases y:a=p
   ·exact .inr (by rw[y];exact hp)
   ·have y1:=xE y;have:=o2 a;by_cases q:R a=0
    ·rcases st2.new a (by dsimp only [hd2] at *;omega) with q1 | q1
     ·exact .inl (by rw[i3];dsimp only[hd2]at q1;omega)
     ·exact .inr (by rw[cellp a y]at q1;exact q1)
    ·exact .inl (by rw[i3];omega)
  ·have:=st2.dom a z;by_cases y:a=p
   ·subst y;rw[upd_same]at this;cases this
   ·rw[cellp a y]at this;exact this
  ·have y:a≠p:=fun y=>by rw [y] at z1;exact z1 pW
   have y1:=xE y;by_cases q:R a=0
   ·have:=st2.pin a (by have:=i3 a;dsimp only [hd2];omega) (by have:=o2 a;dsimp only [hd2] at *;omega);rw[cellp a y]at this;exact this
   ·exact .of (cellR a q)
  ·rcases zQo h with h | ⟨i',k1,_,k3⟩
   ·exact⟨o,vWx h⟩
   ·rw [Nat.sub_zero] at k3;obtain⟨⟨o0,k4⟩,_⟩:=st2.io i' o k3;have hi' :i'<n:=by rw[←linn];exact(aB.mp k3).1
    rw[qX3 n 0 i' hi',Nat.zero_add,k1]at k4;have k5:=Option.some.inj k4;dsimp only at k5;rw[bP]at k5;cases e:e1[k]? with
    |none=>rw[e]at k5;cases k5
    |some s=>rw[e]at k5;exact⟨o0,by rw[←k5];rfl⟩
  ·have:=nd2 a;have:=o2 a;dsimp only[hd2];omega
  ·exact cf2.hb a (by have:=hB0 a;dsimp only[hd2]at *;omega)
noncomputable def CapP(X:Cx)(ns:List (Str×NameKind))(Nc:List Str):List (Nat×Nat)->Prop
 |[]=>True
 |c::r=>(∃x,Nc[c.1]?=some x/\X.N[c.2]?=some x/\ns.lookup x=some .cell /\X.env.kindOf x=some .cell)/\CapP X ns Nc r
noncomputable def zJu(X:Cx):List (Str×aV)->Prop
 |[]=>True
 |p::r=>X.env.cells.lookup p.1=some p.2/\zJu X r
theorem vXo{ns:List (Str×NameKind)}:∀{cs:List (Nat×Nat)} {c:Nat×Nat},CapP X ns Nc cs->c∈cs->∃x,Nc[c.1]?=some x/\X.N[c.2]?=some x/\ns.lookup x=some .cell /\X.env.kindOf x=some .cell
 | d::r,c,h,m=>by
   rcases aH.mp m with rfl|m
   ·exact h.1
   ·exact vXo h.2 m
theorem vZv:∀{cl:List (Str×aV)} {x:Str} {c:aV},zJu X cl->cl.lookup x=some c->X.env.cells.lookup x=some c
 |[],x,c,_,e=>by cases e
 | p::r,x,c,h,e=>by
   rw[List.lookup_cons]at e;split at e
   ·rename_i q;have q' :x=p.1:=by simpa using q
    cases e;rw[q'];exact h.1
   ·exact vZv h.2 e
theorem qWm:∀{cl:List (Str×α)} {x:Str},x∈cl.map (·.1)->∃c,cl.lookup x=some c
 | p::r,x,h=>by
   rw[List.lookup_cons];split
   ·exact⟨_,rfl⟩
   ·rename_i q;rw[bJ]at h;rcases aH.mp h with z|z
    ·subst z;simp at q
    ·exact qWm z
theorem zJs{cl:List (Str×aV)}(cs:List (Nat×Nat))(ns:List (Str×NameKind))(xs:List Str)(hrel:(relabel scope X.env).names =ns)(hclos:closureFor scope X.env=pure cl)(hxs:cl.map (·.1)=xs)(hk:scope.kind=.function)(hnc:∀y∈scope.names,y.2≠ .cell)(hnm:∀y∈scope.names,y.2=.local ->scope.names.lookup y.1=some .local)(hcell:zJu X cl)(honly:∀y∈ns,y.2=.cell \/y.2=.free ->y.1∈xs)(hcap:CapP X ns Nc cs):
  Caps X scope cl Nc (fun σ=>capS cs none σ 0 Nc.length) where
 clos:=hclos;kind:=hk;nocell:=hnc;names:=hnm;cells:=fun y d e=>vZv hcell e
 has:=fun y h=>by
  rw[hrel]at h;refine qWm ?_
  rw[hxs];rcases h with h|h
  ·exact honly _ (cD h) (.inl rfl)
  ·exact honly _ (cD h) (.inr rfl)
 len:=fun σ=>qX2 _ _
 cap:=fun σ k y v e1 e2 _=>by
  have hk:k<Nc.length:=(aB.mp e1).1;rw[qX3 _ 0 k hk,Nat.zero_add]at e2;cases q:capO cs k with
  |none=>rw[q]at e2;cases e2
  | some j=>
    rw[q]at e2;obtain⟨x,h1,h2,h3,h4⟩:=vXo hcap (qJb q);dsimp only at h1 h2;rw[e1]at h1;cases h1;exact⟨.inl (by rw[hrel];exact h3),.inl h4,j,h2,zVx (Option.some.inj e2),.inr (.inl h4)⟩
theorem qVy(hk:scope.kind=.function)(hfree:∀x∈scope.names,x.2≠ .free)(hcell:∀x∈scope.names,x.2≠ .cell)(hnames:∀y∈scope.names,y.2=.local ->scope.names.lookup y.1=some .local):
  Caps X scope [] Nc (fun σ=>capS [] none σ 0 Nc.length):=by
 have e:(fun σ:L2.St=>capS [] none σ 0 Nc.length)=(fun _=>List.replicate Nc.length none):=by
  funext σ;have:∀n i,capS [] (none:Option V) σ i n=List.replicate n none:=fun n=>by
   induction n with
   |zero=>intro i;rfl
   |succ n ih=>intro i;rw[capS,ih,cT];rfl
  grind
 rw[e];exact jY7 hk hfree hcell hnames
section
variable{X:Cx}{c:Nat->aV}{E:XK}{tg iter elt:Expr}{ifs:List Expr}{scope:Scope}{cl:List (Str×aV)}{Nc:List Str}{cs:List (Nat×Nat)}{T:List Nat}{pos:Pos}{it:SI}{g:SG}{t:ST}{el:SV}
theorem qV1(hc:X.calm=true)(cp:Caps X scope cl Nc (fun σ=>capS cs none σ 0 Nc.length))(hi:ID' X c E tg iter it)(hg:∀C s H fp,GD (cCx X scope cl C Nc s H fp) c tg T g)(ht:∀C s H fp,TDs (cCx X scope cl C Nc s H fp) c EN' ifs t)(he:∀C s H fp,EV (cCx X scope cl C Nc s H fp) c EN' elt el)(hs:∀x,foldedSetIterable iter X.env x=pure x:=by intro _;rfl):ED X c E (.ListComp elt [⟨tg,iter,ifs,0⟩] scope pos) (compS Nc.length cs T it g t el):=
 ⟨PE.imp (jQk hc cp hi.h (fun C s H fp=>(hg C s H fp).h) (fun C s H fp=>(ht C s H fp).h) (fun C s H fp=>(he C s H fp).h) hs) fun _ _ _ h=>vWz h⟩
theorem jJa{K:aQ}{s:SE}{D:Ends}{x:Str}(hi:N[i]?=some x)(hl:σ.length=N.length)(h:tS K c E (sSet i s) D σ H):tE K c E s σ H fun x H1=>vK5 i x σ H1 D.nx:=by
 obtain⟨env,B,W,cf,w⟩:=h;refine⟨env,B,W,cf,wp_mono (fun r1 h1 u H1 W1 Z g=>?_) (fun _ _ he=>he) (qP.mp w)⟩;obtain⟨W2,s2,c2⟩:=g.r.put (qKt g.cf hl hi);exact h1 _ H1 W2 s2 c2
theorem qXm{y:Str}{py spos:Pos}(hc:X.calm=true)(hN:X.N.Nodup)(hiy:X.N[i]?=some y)(hy:Loc X.env.scope y)(cp:Caps X scope cl Nc (fun σ=>capS cs none σ 0 Nc.length))(hi:ID' X c E tg iter it)(hg:∀C s H fp,GD (cCx X scope cl C Nc s H fp) c tg T g)(ht:∀C s H fp,TDs (cCx X scope cl C Nc s H fp) c EN' ifs t)(he:∀C s H fp,EV (cCx X scope cl C Nc s H fp) c EN' elt el)(hsw:swapsWith (.ListComp elt [⟨tg,iter,ifs,0⟩] scope pos) (some (.Name y py)) spos.line X.env=pure true:=by rfl)(hs:∀x,foldedSetIterable iter X.env x=pure x:=by intro _;rfl)(hf:X.fn y=true\/X.env.scope.names.lookup y=some .local :=by first|exact .inl rfl|exact .inr rfl|assumption):
  SD X c E (.Assign [.Name y py] (.ListComp elt [⟨tg,iter,ifs,0⟩] scope pos) spos) (sSet i (compS Nc.length cs T it g t el)):=
 ⟨PS.len (PS.imp (zK5 hc hN hiy hy cp hi.h (fun C s H fp=>(hg C s H fp).h) (fun C s H fp=>(ht C s H fp).h) (fun C s H fp=>(he C s H fp).h) hsw hs hf) fun D σ H h=>vWz (n:=Nc.length) (cs:=cs) (T:=T) (it:=it) (g:=g) (t:=t) (el:=el) (jJa hiy h.1 h.2))⟩
end
def evI:Option SV->Ev->Res (Option Int×Ev)
 |none,env=>.ok (none,env)
 |some s,env=>(s env).bind fun r=>(opt (yF r.1)).bind fun i=>.ok (some i,r.2)
noncomputable def tI(K:aQ)(c:Nat->aV)(E:XK)(s:Option SV):TO:=fun σ H Q=>∃env B W,Cf K c env σ H B W/\(evI s env).wp (fun r=>∀H' W',Step env σ H B W r.2 σ H' W' ->Cf K c r.2 σ H' B W' ->Q r.1 H') (erP K c E H B W)
structure PD(X:Cx)(c:Nat->aV)(E:XK)(e:Option Expr)(s:Option SV):Prop where
 h:PO X e (tI X.K c E s)
theorem PO.imp{e:Option Expr}{t t' :TO}(h:PO X e t)(k:∀σ H Q,t' σ H Q->t σ H Q):PO X e t' :=fun pins s σ H Q I q=>h pins s σ H Q I (k σ H Q q)
theorem qXn:PD X c E none none:=by
 refine⟨PO.imp jQd fun σ H Q=>?_⟩;rintro⟨env,B,W,cf,w⟩;exact w H W .refl cf
theorem qVz{s:SV}(h:EV X c E e s):PD X c E (some e) (some s):=by
 refine⟨PO.imp (jQc h.h) fun σ H Q=>?_⟩;rintro⟨env,B,W,cf,w⟩;refine⟨env,B,W,cf,wp_mono (fun r1 h1 u H1 W1 g=>?_) (fun _ _ he=>he) (qP.mp w)⟩;obtain⟨i,e1,h2⟩:=qH h1;exact⟨i,jE g.at_ e1,h2 H1 W1 g.st g.cf⟩
noncomputable def cutL{α:Type}(xs:List α)(lo hi:Option Int):List α:=(xs.drop (HT.sIx xs.length 0 lo)).take (HT.sIx xs.length xs.length hi - HT.sIx xs.length 0 lo)
theorem jXj{K:aQ}{F:Hp}{ds:List D}{lo hi:Option Int}(h:DsAt K c F vs ds):DsAt K c F (cutV vs lo hi) (cutL ds lo hi):=by
 unfold cutV cutL;rw[h.len];exact(h.drop _).take _
noncomputable def eSlL(o:Oe)(lo hi:Option SV):SE:=fun env=>(evO o env).bind fun r=>(evI lo r.2).bind fun r1=>(evI hi r1.2).bind fun r2=>cond r.1.st ((rsvB r2.2 r.1).bind fun x=>(opt (qVl x.1)).bind fun ds=>.ok (.ow .lst ((cutL ds r1.1 r2.1).map .fz),x.2)) .no
section
variable{X:Cx}{c:Nat->aV}{E:XK}{e:Expr}{lo hi:Option Expr}{pos p2:Pos}{o:Oe}{sl sh:Option SV}
theorem Vw.lst{K:aQ}{F:Hp}{u:V}{x:D}{ds:List D}(s:Same F H)(h:Vw K c F H u x)(e:qVl x=some ds):∃p vs,u=.ref p/\SqL K H p vs/\DsAt K c F vs ds:=by
 unfold qVl at e;split at e
 ·cases e;exact h.un s
 ·cases e
theorem vXl(he:OD X c E e o)(hl:PD X c E lo sl)(hu:PD X c E hi sh):ED X c E (.Subscript e (.Slice lo hi none p2) pos) (eSlL o sl sh):=by
 refine⟨PE.imp (vW8 zKj he.h hl.h hu.h) fun σ H Q=>?_⟩;rintro⟨env,B,W,cf,w⟩;refine x8 cf (qP.mp w) fun r w1 u H1 W1 g=>?_
 refine⟨r.2,B,W1,g.cf,wp_mono (fun r2 h2 H2 W2 st2 cf2=>?_) (fun _ _ he=>he.back g.st) (qP.mp w1)⟩;refine⟨r2.2,B,W2,cf2,wp_mono (fun r3 h3 H3 W3 st3 cf3=>?_) (fun _ _ he=>he.back (g.st.trans st2)) (qP.mp h2)⟩;obtain⟨hs,w4⟩:=v6 h3;have ha:=(g.at_.step st2.same hs).step st3.same hs;obtain⟨x,env4,W4,st4,cf4,vw,w5⟩:=zQl cf3 ha (qP.mp w4);obtain⟨ds,e1,w6⟩:=qH w5;obtain⟨p,vs,rfl,b1,b2⟩:=vw.lst vD e1;refine⟨p,vs,rfl,b1,fun q hq=>?_⟩;have sm:Same H3 (upd H3 q (.lst (cutV vs r2.1 r3.1))):=.upd hq;exact w6 (.ref q) _ W4 _ ((Got.lay cf4 hq sm (k:=.lst) upd_same ((jXj b2).same (qXy cf4 hq sm))).back (((g.st.trans st2).trans st3).trans st4))
end
section
variable{K:aQ}{c:Nat->aV}
def lenD:List D->Option D
 |[.nd .lst ds]=>some (.int ds.length)
 |[.nd .tup ds]=>some (.int ds.length)
 |[.nd (.dct ks) _]=>some (.int ks.length)
 |[.str z]=>cond (decide (z.length<=aM)) (some (.int z.length)) none
 |_=>none
noncomputable def rLen(K:aQ):List V->Hp->VK->Prop:=fun xs H Q=>(∃p ys,xs=[.ref p]/\(SqL K H p ys\/SqT K H p ys)/\Q (.int ys.length) H)\/(∃z,xs=[.str z]/\z.length<=aM/\Q (.int z.length) H)\/(∃p ws,xs=[.ref p]/\Rd H p (.dK ws)/\Q (.int (ws.length:Nat)) H)
theorem zZz:jC X (.builtin "len") (fun xs H Q=>∃p ws,xs=[.ref p]/\Rd H p (.dK ws)/\Q (.int (ws.length:Nat)) H):=by
 intro pins s σ H xs us Q I r h;obtain⟨p,ws,rfl,hp,q⟩:=h;obtain⟨u,rfl,ru⟩:=qQa r;cases ru;exact jY4 I hp fun t s' I' =>⟨.int ws.length,H,I',⟨_,rfl⟩,q⟩
theorem zZ0:jC X (.builtin "len") (rLen X.K):=vWg.or (vWf.or zZz)
theorem jJu:PrSN K c (rLen K) lenD:=fun us H xs z Q hv e q=>by
 unfold lenD at e;split at e
 ·cases e;obtain⟨u,rfl,a⟩:=ds1 hv;obtain⟨p,vs,rfl,h1,h2⟩:=a.un;exact .inl ⟨p,vs,rfl,.inl h1,by rw[h2.len];exact q _ fun _=>.int _⟩
 ·cases e;obtain⟨u,rfl,a⟩:=ds1 hv;obtain⟨p,vs,rfl,h1,h2⟩:=a.un;exact .inl ⟨p,vs,rfl,.inr h1,by rw[h2.len];exact q _ fun _=>.int _⟩
 ·cases e;obtain⟨u,rfl,a⟩:=ds1 hv;obtain⟨p,vs,rfl,⟨h1,h2,h3⟩,h4⟩:=a.un;refine .inr (.inr ⟨p,_,rfl,h3,?_⟩);rw[List.length_zip,←h1,Nat.min_self];exact q _ fun _=>.int _
 ·rename_i z';obtain⟨q1,q2⟩:=jF e;cases q2;obtain⟨u,rfl,a⟩:=ds1 hv;cases a;exact .inr (.inl ⟨z',rfl,of_decide_eq_true q1,q _ fun _=>.int _⟩)
 ·cases e
noncomputable def strD:List D->Option D
 |[.int i]=>cond (decide (i.natAbs.log2<1920)) (some (.str (toString i))) none
 |_=>none
theorem jJt:PrSN K c (fun xs H Q=>∃i,xs=[.int i]/\i.natAbs.log2<1920/\Q (.str (toString i)) H) strD:=fun us H xs z Q hv e q=>by
 unfold strD at e;split at e
 ·obtain⟨q1,q2⟩:=jF e;cases q2;obtain⟨u,rfl,a⟩:=ds1 hv;cases a;exact⟨_,rfl,of_decide_eq_true q1,q _ fun _=>.str _⟩
 ·cases e
noncomputable def max2D:List D->Option D
 |[.int i,.int j]=>some (.int (if j > i then j else i))
 |_=>none
theorem zK7:PrSN K c (fun xs H Q=>∃i j,xs=[.int i,.int j]/\Q (.int (if j > i then j else i)) H) max2D:=fun us H xs z Q hv e q=>by
 unfold max2D at e;split at e
 ·cases e;obtain⟨u,w,rfl,a,b⟩:=ds2 hv;cases a;cases b;exact⟨_,_,rfl,q _ fun _=>.int _⟩
 ·cases e
noncomputable def listD:List D->Option (List D)
 |[d]=>qY6 d
 |_=>none
theorem vws1{F:Hp}{x:D}(h:Vws K c F H us [x]):∃u,us=[u]/\Vw K c F H u x:=by
 cases us with
 |nil=>exact h.elim
 | cons u us=>
   cases us with
   |nil=>exact⟨u,rfl,h.1⟩
   |cons _ _=>exact h.2.elim
theorem Vw.seq{F:Hp}{u:V}{d:D}{ds:List D}(s:Same F H)(h:Vw K c F H u d)(e:qY6 d=some ds):∃p vs,u=.ref p/\(SqL K H p vs\/SqT K H p vs)/\DsAt K c F vs ds:=by
 unfold qY6 at e;split at e
 ·cases e;obtain⟨p,vs,a,b,r⟩:=h.un s;exact⟨p,vs,a,.inl b,r⟩
 ·cases e;obtain⟨p,vs,a,b,r⟩:=h.un s;exact⟨p,vs,a,.inr b,r⟩
 ·cases e
theorem zZf{T:Fp}{p:aV}(hn:H p=none)(sm:Same H H'):Same (hide T H) (hide (hd2 T (one p)) H'):=zH fun a o z q=>⟨by
 have np:a≠p:=fun z=>by rw[z,hn]at q;cases q
 have:=xE np;dsimp only[hd2];omega,sm a o q⟩
theorem zK8:PrF K c (fun xs H Q=>∃p ys,xs=[.ref p]/\(SqL K H p ys\/SqT K H p ys)/\∀l,H l=none->Q (.ref l) (upd H l (.lst ys))) listD:=fun us H T xs ds Q hb hv e q=>by
 unfold listD at e;split at e
 ·obtain⟨u,rfl,v⟩:=vws1 hv;obtain⟨p,vs,rfl,h1,h2⟩:=v.seq vD e;exact⟨p,vs,rfl,h1,fun l hl=>q l vs _ hl (.upd hl) upd_same (h2.same (zZf hl (.upd hl)))⟩
 ·cases e
noncomputable def tupleD:List D->Option D
 |[.nd .lst ds]=>some (.tup ds)
 |_=>none
theorem zXx:PrA K c (fun xs H Q=>∃p ys,xs=[.ref p]/\((SqL K H p ys/\∀l,H l=none->Q (.ref l) (upd H l (.tup ys)))\/(SqT K H p ys/\Q (.ref p) H))) tupleD:=fun us H T xs z Q hb hv e q=>by
 unfold tupleD at e;split at e
 ·cases e;obtain⟨u,rfl,v⟩:=vws1 hv;obtain⟨p,vs,rfl,h1,h2⟩:=v.un vD;refine⟨p,vs,rfl,.inl ⟨h1,fun l hl=>?_⟩⟩;have sm:Same H (upd H l (.tup vs)):=.upd hl;have hp:T l=0:=by
   grind
  exact q _ _ sm (.of (k:=.tup) (SqT.of (by rw[zK hp,upd_same])) (h2.same (zH fun a o z y=>⟨z,sm a o y⟩)))
 ·cases e
end
noncomputable def jX1(K:aQ):R2:=fun x y H Q=>∃l b xs zs,x=.ref l/\y=.ref b/\SqL K H l xs/\SqL K H b zs/\xs.length+zs.length<=aM/\∀p,H p=none->Q (.ref p) (upd H p (.lst (xs ++ zs)))
theorem jQo:OpR X (binaryOp .Add) (jX1 X.K):=by
 intro pins s σ H x y v u Q I rx ry h;obtain⟨l,b,xs,zs,rfl,rfl,hH,hB,hz,q⟩:=h;cases rx;cases ry;obtain⟨its,r,pl,_⟩:=I.list hH;obtain⟨its2,r2,pl2,_⟩:=I.list hB;obtain⟨⟨cls,dd,data,sl⟩,n,ho,hc,_,hd⟩:=pl;obtain⟨⟨cls2,dd2,data2,sl2⟩,n2,ho2,hc2,_,hd2⟩:=pl2;subst hc hd hc2 hd2;have hl:=r.length;have hl2:=r2.length;refine concat_meets ⟨_,ho,rfl⟩ ⟨_,ho2,rfl⟩ noFill_list_add seq_list_add PySem.F.slot_list_add PySem.F.entry_list_add (PySem.F.args_list_add_2 _ _) (list_addW l b its.toArray its2.toArray n n2 dd dd2 sl sl2 (by simp only[bV];omega)) ⟨ho,ho2,?_⟩;have ea:its.toArray ++ its2.toArray=(its ++ its2).toArray :=by simp
 rw[ea];exact⟨.ref _,_,I.lnew (t' :=s.toks) (r.append r2) (by rw[aW];omega),rfl,q _ I.fresh⟩
noncomputable def eCat(a b:Oe):SE:=fun env=>(evO a env).bind fun r1=>(evO b r1.2).bind fun r2=>cond (r1.1.st || b.isP) ((qY7 [r1.1,r2.1] r2.2).bind fun q=>match q.1 with
 |[x,y]=>(opt (qVl x)).bind fun ds=>(opt (qVl y)).bind fun es=>cond (decide (ds.length+es.length<=lim)) (.ok (.ow .lst ((ds ++ es).map .fz),q.2)) .no
 |_=>.no) .no
theorem jXg{a b:Expr}{oa ob:Oe}(ha:OD X c E a oa)(hb:OD X c E b ob):ED X c E (.BinOp a .Add b pos) (eCat oa ob):=by
 refine⟨PE.imp (zJi jQo ha.h hb.h) fun σ H Q=>?_⟩;rintro⟨env,B,W,cf,w⟩;refine x8 cf (qP.mp w) fun r1 w1 u H1 W1 g1=>?_
 refine x8 g1.cf (wp_mono (fun _ q=>q) (fun C fs he=>he.back g1.st) (qP.mp w1)) fun r2 w2 v H2 W2 g2=>?_
 obtain⟨hs,w3⟩:=v6 w2;obtain⟨xs,env4,W4,st4,cf4,vw,w4⟩:=rsvBs_wp (hs:=[r1.1,r2.1]) (us:=[u,v]) g2.cf ⟨g1.next g2 hs,g2.at_,trivial⟩ (qP.mp w3);obtain⟨x,xs,rfl⟩:∃x r,xs=x::r:=by cases xs with
  |nil=>exact vw.elim
  |cons x r=>grind
 obtain⟨y,rfl,v2⟩:∃y,xs=[y]/\Vw X.K c (hide (hd2 B W4) H2) H2 v y:=by
  cases xs with
  |nil=>exact vw.2.elim
  | cons y r=>cases r with
    |nil=>exact⟨y,rfl,vw.2.1⟩
    |cons _ _=>exact vw.2.2.elim
 obtain⟨ds,e1,w5⟩:=qH w4;obtain⟨es,e2,w6⟩:=qH w5;obtain⟨hl,w7⟩:=v6 w6;obtain⟨p,vs,rfl,b1,b2⟩:=vw.1.lst vD e1;obtain⟨q,ws,rfl,d1,d2⟩:=v2.lst vD e2;refine⟨p,q,vs,ws,rfl,rfl,b1,d1,by have:=vYi (of_decide_eq_true hl);rw[b2.len,d2.len];omega,fun l hq=>?_⟩;have sm:Same H2 (upd H2 l (.lst (vs ++ ws))):=.upd hq;exact w7 (.ref l) _ W4 _ ((Got.lay cf4 hq sm (k:=.lst) upd_same ((b2.append d2).same (qXy cf4 hq sm))).back ((g1.st.trans g2.st).trans st4))
noncomputable def tyN:D->String
 |.non =>"NoneType"
 |.int _=>"int"
 |.str _=>"str"
 |.bl _=>"bool"
 |.nd .lst _=>"list"
 |.nd .tup _=>"tuple"
 |.nd (.dct _) _=>"dict"
 |_=>""
noncomputable def isiB(t n:String):Bool:=(t == n) || (t == "bool" && n == "int")
theorem jQ0{K:aQ}{t n:String}{b:Bool}(h:PySem.W.kitMeta n=true)(e:(fastBuiltinMro t).map (·.contains (.type n))=some b)(hne:(Value.type t == Value.type n)=false):bK K (.type t) (.type n)=some b:=by
 unfold bK;rw[hne];show(if PySem.W.kitMeta n=true then PySem.W.subIn K (.type t) (.type n) else none)=some b;rw[if_pos h];exact e
theorem zYj{K:aQ}{t:String}:bK K (.type t) (.type t)=some true:=by
 unfold bK;grind
abbrev tys:List String:=["NoneType","int","str","tuple","bool","list","dict"]
theorem jQ1{K:aQ}:∀t∈tys,∀n∈(["int","str","tuple","bool","list","dict"]:List String),bK K (.type t) (.type n)=some (isiB t n):=by
 have go:∀t∈tys,∀n∈(["int","str","tuple","bool","list","dict"]:List String),t=n\/(PySem.W.kitMeta n=true/\(fastBuiltinMro t).map (·.contains (.type n))=some (isiB t n)/\(Value.type t == Value.type n)=false):=by
  decide +kernel
 intro t ht n hn;rcases go t ht n hn with rfl|⟨h1,h2,h3⟩
 ·rw[zYj,show isiB t t=true by simp[isiB]]
 ·exact jQ0 h1 h2 h3
theorem zZ2:jC X (.builtin "isinstance") (fun xs H Q=>∃a vs n b,xs=[.ref a,.ty n]/\SqL X.K H a vs/\bK X.K (.type "list") (.type n)=some b/\Q (.bl b) H):=by
 intro pins s σ H xs us Q I r h;obtain⟨a,vs,n,b,rfl,ht,e,q⟩:=h;obtain⟨u,w',rfl,r1,r2⟩:=vWi r;cases(show u=Value.ref a from r1);cases(show w' =Value.type n from r2);obtain⟨its,_,⟨o,n',h1,h2,_⟩,_⟩:=I.list ht;exact bR PySem.W.kitx_list I.kIn ⟨o,h1,h2⟩ e (fun z=>nomatch z) fun tk=>⟨.bl b,H,I.tok tk,rfl,q⟩
noncomputable def zJg(K:aQ):List V->Hp->VK->Prop:=fun xs H Q=>rIsi K xs H Q\/(∃a vs n b,xs=[.ref a,.ty n]/\SqT K H a vs/\bK K (.type "tuple") (.type n)=some b/\Q (.bl b) H)\/(∃a vs n b,xs=[.ref a,.ty n]/\SqL K H a vs/\bK K (.type "list") (.type n)=some b/\Q (.bl b) H)
theorem vX5:jC X (.builtin "isinstance") (zJg X.K):=zY7.or (zZ1.or zZ2)
noncomputable def isiD(n:String)(d:D):Option D:=cond (tyN d != "") (some (.bl (isiB (tyN d) n))) none
theorem jW2{K:aQ}{u:V}{d z:D}{n:String}(hn:n∈(["int","str","tuple","bool","list","dict"]:List String))(h:DAt K c H u d)(e:isiD n d=some z)(q:∀v,(∀F,DAt K c F v z)->Q v H):zJg K [u,.ty n] H Q:=by
 obtain⟨q1,q2⟩:=jF e;cases q2;have fin:Q (.bl (isiB (tyN d) n)) H:=q _ fun _=>.bl _
 have k:tyN d∈tys->bK K (.type (tyN d)) (.type n)=some (isiB (tyN d) n):=fun hm=>jQ1 (tyN d) hm n hn
 cases h with
 |non=>exact .inl ⟨_,_,_,_,rfl,.non,k (by simp[tyN]),fin⟩
 |int i=>exact .inl ⟨_,_,_,_,rfl,.int i,k (by simp[tyN]),fin⟩
 |str i=>exact .inl ⟨_,_,_,_,rfl,.str i,k (by simp[tyN]),fin⟩
 |bl i=>exact .inl ⟨_,_,_,_,rfl,.bl i,k (by simp[tyN]),fin⟩
 |fn j=>simp[tyN]at q1
 | @nd p kd vs ds h l r=>
   cases kd with
   |lst=>exact .inr (.inr ⟨p,vs,n,_,rfl,h,k (by simp[tyN]),fin⟩)
   |tup=>exact .inr (.inl ⟨p,vs,n,_,rfl,h,k (by simp[tyN]),fin⟩)
   | dct ks=>
     rcases h.2.2 with e|⟨o,e⟩
     ·exact .inl ⟨_,_,_,_,rfl,.dK e,k (by simp[tyN]),fin⟩
     ·exact .inl ⟨_,_,_,_,rfl,.dZ e,k (by simp[tyN]),fin⟩
   |dcT ks=>simp[tyN]at q1
   |obj C fs=>simp[tyN]at q1
   |exc C fs=>simp[tyN]at q1
theorem qQh{n:String}{x y:Str}{p q:Pos}{o:Oe}(hn:n∈(["int","str","tuple","bool","list","dict"]:List String))(hg:Gl X x)(hm:X.mg x=none)(hv:dQ x=some (.builtin "isinstance"))(hg2:Gl X y)(hm2:X.mg y=none)(hv2:dQ y=some (.type n))(ha:OD X c E e o)(hx:x≠"__name__":=by decide)(hdb:(x == ("__debug__":Str))=false:=by decide)(hy:y≠"__name__":=by decide)(hdy:(y == ("__debug__":Str))=false:=by decide)(he:aJ [e, .Name y q] X.env=(false,eval e X.env)::aJ [.Name y q] X.env:=by rfl)(hs2:aJ [.Name y q] X.env=(false,eval (.Name y q) X.env)::aJ [] X.env:=by rfl)(hpl:(cU pos (aJ [.Name y q] X.env)).any (·.1)=false:=by rfl):
  OD X c E (.Call (.Name x p) [e, .Name y q] [] pos) (o1 (isiD n) o):=by
 refine⟨PE.imp (qXx vX5 hg hm hv (wC ha.h (wC (zQr hg2 hm2 hv2 (v:=.ty n) rfl hy hdy) qVa hs2) he) hx hdb he hpl) fun σ H Q h=>?_⟩;exact vKs (K:=X.K) (r:=fun u H Q=>zJg X.K [u,.ty n] H Q) (fun u H x z Q hx e q=>jW2 hn hx e q) h
section
variable{X:Cx}{c:Nat->aV}{E:XK}{e e2:Expr}{pos p:Pos}{o oa:Oe}
theorem wF(hg:Gl X "len")(hm:X.mg "len"=none)(ha:OD X c E e o)(he:aJ [e] X.env=[(false,eval e X.env)]:=by rfl)(h0:aJ [] X.env=[]:=by rfl):OD X c E (.Call (.Name "len" p) [e] [] pos) (oL lenD [o]):=
 vQu zZ0 jJu hg hm Boot.«len» (qE ha qK (by rw[he,h0])) (by decide) (by decide) (by rw[he,h0]) (by rw[h0];rfl)
theorem vKy(hg:Gl X "str")(hm:X.mg "str"=none)(ha:OD X c E e o)(he:aJ [e] X.env=[(false,eval e X.env)]:=by rfl)(h0:aJ [] X.env=[]:=by rfl):OD X c E (.Call (.Name "str" p) [e] [] pos) (oL strD [o]):=
 vZj vWd jJt hg hm Boot.«str» (qE ha qK (by rw[he,h0])) (by decide) (by decide) (by rw[he,h0]) (by rw[h0];rfl)
theorem zWj(hc:X.calm=true)(hg:Gl X "max")(hm:X.mg "max"=none)(ha:OD X c E e o)(hb:OD X c E e2 oa)(he:aJ [e,e2] X.env=(false,eval e X.env)::aJ [e2] X.env:=by rfl)(he2:aJ [e2] X.env=(false,eval e2 X.env)::aJ [] X.env:=by rfl)(h0:aJ [] X.env=[]:=by rfl):OD X c E (.Call (.Name "max" p) [e,e2] [] pos) (oL max2D [o,oa]):=
 vQu (zZy hc) zK7 hg hm Boot.«max» (qE ha (qE hb qK he2) he) (by decide) (by decide) he (by rw[he2,h0];rfl)
theorem qXl(hg:Gl X "tuple")(hm:X.mg "tuple"=none)(ha:OD X c E e o)(he:aJ [e] X.env=[(false,eval e X.env)]:=by rfl)(h0:aJ [] X.env=[]:=by rfl):EV X c E (.Call (.Name "tuple" p) [e] [] pos) (svA tupleD [o]):=
 zZr vVx zXx hg hm Boot.«tuple» (qE ha qK (by rw[he,h0])) (by decide) (by decide) (by rw[he,h0]) (by rw[h0];rfl)
theorem jXh(hg:Gl X "list")(hm:X.mg "list"=none)(ha:OD X c E e o)(he:aJ [e] X.env=[(false,eval e X.env)]:=by rfl)(h0:aJ [] X.env=[]:=by rfl):ED X c E (.Call (.Name "list" p) [e] [] pos) (eF listD [o]):=
 zZs vWe zK8 hg hm Boot.«list» (qE ha qK (by rw[he,h0])) (by decide) (by decide) (by rw[he,h0]) (by rw[h0];rfl)
end
structure MethAt(K:aQ)(x qual:Str)(st:Stmt)(ps:List Str)(f:aV)(fd:aG):Prop where
 F:Fun K x qual st f fd
 b:j8 K fd ps []
def pOf:Oe->SP
 |.p s=>s
 |.v _=>fun _=>none
theorem fnNo{K:aQ}{k:Nat}{f:aV}:FnOk P w K mg base CX k f fd ps (spD K c n fun _=>.no):=
 ⟨fun vs H Q E z=>(by obtain⟨_,_,_,_,_,z⟩:=z;exact z.elim),fun _ _ _ _ _ _ _ _ _ _ _ _ _ z=>(by obtain⟨_,_,_,_,_,z⟩:=z;exact z.elim)⟩
theorem FnOk.lv{K:aQ}{k:Nat}{f:aV}{sp:Sp}(e:j=k)(h:FnOk P w K mg base CX j f fd ps sp):FnOk P w K mg base CX k f fd ps sp:=by grind
section
variable{X:Cx}{c:Nat->aV}{E:XK}{o k e:Expr}{pos pos' apos cpos:Pos}{oo ok:Oe}{a:SE}{cs:List Nat}{f:Str}
theorem qK9(h:OD X c E e oo)(hp:oo.isP=true:=by rfl):OD X c E e (Am.b (pOf oo)).o :=by
 cases oo with
 |p s=>exact h
 |v s=>cases hp
theorem qX1(ho:OD X c E o oo)(ha:ED X c E e a)(hp:oo.isP=true:=by rfl)(hbase:attributeBase o "append" X.env (eval o X.env)=eval o X.env:=by rfl)(hfew:((cU cpos (aJ [e] X.env)).all (fun x=>!x.1) && (backToKw cpos (keywordEach [] X.env)).all (fun x=>x.1.isSome) && decide (([e]:List Expr).length+([]:List Keyword).length+(if([]:List Keyword).isEmpty then 0 else 1)<30))=true:=by rfl)(hline:(apos.endLine == cpos.line)=true:=by rfl)(hs:aJ [e] X.env=(false,eval e X.env)::aJ [] X.env:=by rfl)(hplain:(cU cpos (aJ [] X.env)).any (·.1)=false:=by rfl):
  ED X c E (.Call (.Attribute o "append" apos) [e] [] cpos) (eMu1 (pOf oo) a apF):=by
 cases oo with
 |p s=>exact zZt ho ha hbase hfew hline hs hplain
 |v s=>cases hp
theorem vYb(okF:qZt X.K c cs f)(ho:OD X c E o oo)(hv:ED X c E e a)(hp:oo.isP=true:=by rfl)(hs:swapsWith e (some (.Attribute o f pos')) pos.line X.env=pure false:=by rfl):SD X c E (.Assign [.Attribute o f pos'] e pos) (vWj cs f (pOf oo) a):=by
 cases oo with
 |v s=>cases hp
 |p s=>exact zKn okF ho hv hs
theorem zWb{rd:TIp}{g:D->D->Option D}{t:SV}(okF:qZt X.K c cs f)(ho:OD X c E o oo)(hv:EV X c E e t)(hop:PIp X op rd)(hpr:PrS2 X.K c rd g)(hp:oo.isP=true:=by rfl):SD X c E (.AugAssign (.Attribute o f pos') op e pos) (vKv cs f g (pOf oo) t):=by
 cases oo with
 |v s=>cases hp
 |p s=>exact zKo okF ho hv hop hpr
end
noncomputable def zpA(xs:List D):Option (List D):=match zpL xs with
 |some r=>some r
 | none=>match zpT xs with
   |some r=>some r
   |none=>zpM xs
noncomputable def vKu(C:aV)(f:Str):Sp:=fun vs H Q _=>∃ea t v,vs=[.ref ea,v]/\H ea=some (.ext (ExcR ea (.ref C) t none))/\∀dx,H dx=none->Q .non (upd (upd H ea (.ext (ExcR ea (.ref C) t (some dx)))) dx (.xd [(f,v)]))
theorem iniD{K:aQ}{x:Str}{st:Stmt}{C:aV}{a b f:Str}{s0:Stmt}(F:Fun K x qual st fI fd)(S:FnScope [a,b] [a,b] (qW st))(hn:bO K (.ref C) f=some none)(hb:∀(cdv:Value) (A:cE) (outer:List Env) (s:aX) (H:Hp) (E:XK),PS (cxOf (CXd P w) P w K mg base [a,b] qual (qW st) fI cdv A outer s H E) s0 (sXF K C (tVar 0) (tVar 1) f))(hst:jY st=[s0]):
  FnOk P w K mg base (CXd P w) 1 fI fd [a,b] (vKu C f):=by
 refine F.okD S (fun vs H Q E h=>?_) (fun cdv Ar outer s H vs Q E hr h=>?_)
 ·obtain⟨ea,t,v,rfl,_⟩:=h;rfl
 ·obtain⟨ea,t,v,rfl,he,q⟩:=h;refine⟨_,by rw[hst];exact vW7 (hb cdv Ar outer s H E) zQp,?_⟩;exact⟨v,rfl,.ref ea,rfl,ea,t,rfl,he,hn,fun dx hd=>q dx hd⟩
def jZ(C:Nat)(f:Str)(s:SV):SS:=fun env=>(s env).bind fun r=>.er C [(f,r.1)]
theorem zVz{x f:Str}{k:Nat}{s:SV}{np cpos:Pos}(ce:IniCls X.K (c C) fI)(F:FnOk X.prog X.w X.K X.mg X.base (CXd X.prog X.w) k fI fd ps (vKu (c C) f))(hr:Room (k+1) X.A)(hb:j8 X.K fd ps [])(hg:Gl X x)(hm:X.mg x=some (.ref (c C)))(hcalm:X.calm=true)(hex:X.ex=[])(he:EV X c E e s)(ht:qK4 X (c C) (fun ea dx H1=>E (.ref (c C)) (some dx) (but1 H1 ea)))(hs:aJ [e] X.env=[(false,eval e X.env)]:=by rfl)(hdb:(x == ("__debug__":Str))=false:=by decide):SD X c E (.Raise (some (.Call (.Name x np) [e] [] cpos)) none pos) (jZ C f s):=by
 refine⟨PS.imp (zV2 ce F hr hb hg hm hcalm hex he.h ht hs hdb) fun D σ H=>?_⟩;rintro⟨env,B,W,cf,w⟩;refine⟨env,B,W,cf,wp_mono (fun r w1 u H1 W1 g=>⟨rfl,fun ea t hn=>?_⟩) (fun _ _ he=>he) (qP.mp w)⟩;refine⟨ea,t,u,rfl,upd_same,fun dx hd=>⟨rfl,dx,?_⟩⟩;have ne:ea≠dx:=vI upd_same hd;have hd1:H1 dx=none:=by rw[qM ne.symm]at hd;exact hd
 refine⟨by rw[qM ne,upd_same],?_⟩;have eq:but1 (upd (upd (upd H1 ea (.ext (ExcR ea (.ref (c C)) t none))) ea (.ext (ExcR ea (.ref (c C)) t (some dx)))) dx (.xd [(f,u)])) ea=upd H1 dx (.xd [(f,u)]):=by
  funext b;by_cases z:b=ea
  ·subst z;rw[qYy,qM ne,hn]
  ·rw [qK2 z];by_cases y:b=dx
   ·subst y;rw[upd_same,upd_same]
   ·rw[qM y,qM y,qM z,qM z]
 dsimp only;rw[eq];have nw:hd2 B W1 dx=0:=by
  by_cases z:hd2 B W1 dx=0
  ·exact z
  ·obtain⟨o,e1,_⟩:=g.cf.hbs z;grind
 have sm:Same (hide (hd2 B W1) H1) (hide (hd2 B W1) (upd H1 dx (.xd [(f,u)]))):=zH fun a o z q=>⟨z,by rw[qM (vI q hd1)];exact q⟩
 refine w1 _ W1 (some dx) ⟨g.st.same.trans sm,fun a z=>?_,fun a z=>?_⟩ ⟨[(f,u)],upd_same,rfl,.cons (g.at_.same sm) .nil⟩
 ·rw [qM]
  ·exact g.st.by_ a z
  ·grind
 ·by_cases y:a=dx
  ·subst y;rw[upd_same]at z;cases z
  ·rw[qM y]at z;exact g.st.dom a z
section
variable{X:Cx}{c:Nat->aV}{E:XK}{e:Expr}{es:List Expr}{s:SV}{ss:List SV}{a:SE}{K:aQ}
theorem jV5{F:Hp}(t:TabF c F):∀{us:List V} {xs:List D},DsAt K c F us xs->SlAt K c F H (xs.map fun d=>Slot.s false (.fz d)) (us.map some) fun _=>0
 |us,[],h=>by rw[h.un0];exact⟨⟨rfl,t⟩,fun _=>rfl⟩
 | us,x::xs,h=>by
   obtain⟨u,r,rfl,a,b⟩:=h.un;exact⟨some u,r.map some,fun _=>0,fun _=>0,rfl,(show OAt K c F H (.fz x) u (fun _=>0) from OAt.fz.mpr ⟨a,fun _=>rfl⟩),jV5 t b,fun _=>rfl⟩
end
theorem qYs{K:aQ}{x:Str}{st:Stmt}{f:aV}{oc:Value}{od an:Option aV}{osl:Array (Option Value)}{kV doc pm cdv ct:Value}(l:K.lookup f=some ⟨oc,od,.func (cB x qual (j6 st) (jY st) (qW st) .none kV doc pm an cdv ct),osl⟩)(c:PySem.W.codeIn K cdv qual=true)(k:bT K (.ref f)=true)(b:∀(kV doc pm:Value) (an:Option aV) (cdv ct:Value) (us:List Value),us.length=ps.length->bindArgs (cB x qual (j6 st) (jY st) (qW st) .none kV doc pm an cdv ct) ⟨us,[]⟩=pure (ps.zip us)):
  MethAt K x qual st ps f (cB x qual (j6 st) (jY st) (qW st) .none kV doc pm an cdv ct):=⟨vJf l c k,(vJf l c k).binds b⟩
theorem jVf{K:aQ}{f:Str}:qZt K c [] f:=fun _ h=>nomatch h
theorem zYw{K:aQ}{cs:List Nat}{f:Str}(h:Cls K (c C))(n:qQn K (c C) f)(r:qZt K c cs f):qZt K c (C::cs) f:=fun D hD=>by
 rcases aH.mp hD with rfl|hD
 ·exact⟨h,n⟩
 ·exact r D hD
theorem zVf{K:aQ}{F:Hp}:∀ns:List Int,DsAt K c F (ns.map V.int) (ns.map D.int)
 |[]=>.nil
 |n::ns=>.cons (.int n) (zVf ns)
noncomputable def jZq(K:aQ)(C:aV):Bool:=
 match K.lookup C with
 | some ⟨.type "type",_, .cls kd,zs⟩=>(match zs.toList,kd.mro with
   |[_,_,_,_,some (.builtin m),_],.ref B::rs=>PySem.W.tailIn K vErr rs && (!kd.hasDel && (m == "ValueError.__new__" && B == C))
   |_,_=>false)
 |_=>false
theorem jW4{K:aQ}{C:aV}(q:jZq K C=true):∃nm q N bs bm hdct sn sub ab col dd k0 k1 k2 k3 k5,K.lookup C=some (excClassObj nm q C N bs bm hdct sn sub ab col dd k0 k1 k2 k3 k5 "ValueError.__new__")/\PySem.W.tailIn K vErr bm=true:=by
 unfold jZq at q;split at q
 ·rename_i dd cd sl ho;split at q
  ·rename_i k0 k1 k2 k3 n k5 B bm hs hm;simp only[aE,beq_iff_eq,Bool.not_eq_true']at q;obtain⟨ht,hdel,rfl,rfl⟩:=q;obtain⟨nm,bs,mro,ns,qn,hd,sn,sub,ab,col,del⟩:=cd;dsimp only at hm hdel;subst hm hdel;have hsl:sl=#[k0,k1,k2,k3,some (.builtin "ValueError.__new__"),k5]:=by
    obtain⟨l⟩:=sl;simp only at hs;rw[hs]
   subst hsl;exact⟨nm,qn,ns,bs,bm,hd,sn,sub,ab,col,dd,k0,k1,k2,k3,k5,ho,ht⟩
  ·cases q
 ·cases q
theorem jXn{l:PySem.W.OpenLaw}{q:bQ}{loose:List Str}{XP:(Str->Option Value)->Heap->Prop}{YP:bH->Heap->Prop}{d:DefRec}{K:Params->aQ}{F:Fn}{k:Nat}{x:Str}(hn:l.most=some 63)(hdf:d.params.defaults=[])(hr:Room k callerA)(hY:∀(w:bH) (h:Heap),YP w h->(K w.params).In h)(law:∀ns:List Int,ns.length<=63->∃e,F [.s false (.fz (.nd .lst (ns.map D.int)))]=.ok (.fz (.bl true),e))(hF:∀(w:bH) (mg:Str->Option Value) (fa:aV) (h:Heap),(K w.params).In h->h.Ns cG mg->mg d.name=some (.ref fa)->
   ∃(c:Nat->aV) (fd:aG),c 77=0/\(∀(s:aX) (u:Value),BindsTo s fd ⟨[u],[]⟩ [(x,u)])/\
    ∀base:Heap,(K w.params).In base->base.Ns cG mg->FnOk l.prog w (K w.params) mg base (CXd l.prog w) k fa fd [x] (spD (K w.params) c 1 F)):
  PySem.W.WalkO q loose XP YP l.row.toRowW d [] (fun f vs=>PySem.call f vs):=by
 refine zKb (CX:=fun w=>CXd l.prog w) (sp:=fun w vs H Q E=>∀c:Nat->aV,c 77=0->spD (K w.params) c 1 F vs H Q E) (x:=x) hn (by decide) hdf hr hY (fun w mg fa h hk hN hm=>?_) (fun w H a ns hl hO hS c h77=>?_) fun w H s e s' h=>?_
 ·obtain⟨c,fd,h77,hb,h2⟩:=hF w mg fa h hk hN hm;exact⟨fd,hb,fun base b1 b2=>FnOk.imp (h2 base b1 b2) fun vs H Q E z=>z c h77⟩
 ·obtain⟨e,he⟩:=law ns hl;have h0:hide (hd2 (fun _=>0) fun _=>0) H=H:=by funext a;unfold hide;rw[if_pos (by rfl)]
  have at_:DAt (K w.params) c (hide (hd2 (fun _=>0) fun _=>0) H) (.ref a) (.nd .lst (ns.map D.int)):=by
   exact .nd (k:=.lst) (vs:=ns.map V.int) hS (by rw[aP,aP]) (zVf ns).r
  refine⟨[.s false (.fz (.nd .lst (ns.map D.int)))],fun _=>0,fun _=>0,rfl,⟨jV5 (fun z=>absurd h77 z) (us:=[.ref a]) (xs:=[.nd .lst (ns.map D.int)]) (.cons at_ .nil),fun a=>by show 0+0<=1;omega,fun a z=>absurd rfl z⟩,?_⟩;rw[he];intro v H' W' Z g;have:=(OAt.fz.mp g.at_).1;cases this;rfl
 ·obtain⟨_,_,_,_,_,_,_,_,_,_,_,_,_,_,_,_,h⟩:=h;exact h
end DX
namespace L2
open PySem PySem.Spec PySem.W PyProof.Rows
theorem zQf{ws:List Str}:∀{its:List Value},Vals (ws.map V.str) its->∃l:List (Str×Tok),its=strValues l/\l.map (·.1)=ws:=by
 induction ws with
 | nil=>
   intro its r;cases r;exact⟨[],rfl,rfl⟩
 | cons w ws ih=>
   intro its r;cases r with
   | cons h t=>
     obtain⟨tk,rfl⟩:=h;obtain⟨l,rfl,e⟩:=ih t;exact⟨(w,tk)::l,rfl,by rw[bJ,e]⟩
theorem jQv{X:Cx}:MtR X "str.join" (fun x vs H Q=>∃sep a ws,x=.str sep/\vs=[.ref a]/\SqL X.K H a (ws.map V.str)/\Builtin.Str.tooLong (ws.toArray.foldl (· + ·.length+sep.length) 0)=false/\(Str.join sep ws).length <=aM/\Q (.str (Str.join sep ws)) H):=by
 intro pins s σ H x xs v us Q I rx rs h;obtain⟨sep,a,ws,rfl,rfl,ha,hl,hz,q⟩:=h;obtain⟨t,rfl⟩:=rx;obtain⟨u,rfl,ru⟩:=qQa rs;cases(show u=Value.ref a from ru);obtain⟨its,r1,p1,_⟩:=I.list ha;obtain⟨l,rfl,e⟩:=zQf r1;refine call_meets PySem.F.slot_str_join (eJ _ _ _) PySem.F.entry_str_join (PySem.F.args_str_join_2 _ _) (meets_str_join_list sep t a l (by rw[e];exact hl)) ⟨p1.isList,?_⟩;match l,e with
 | [p],e=>
   have:ws=[p.1]:=by rw[←e];rfl
   subst this;exact⟨.str p.1,H,I,⟨p.2,rfl⟩,q⟩
 | [],e=>
   have:ws=[]:=by rw[←e];rfl
   subst this;have g:=dI sep [];refine⟨?_,.str (Builtin.Str.glued sep []),H,I.tok _,⟨_,rfl⟩,?_⟩
   ·grind
   ·grind
 | p::p2::r,e=>
   have g:=dI sep ((p::p2::r).map (·.1));rw[e]at g;refine⟨?_,.str (Builtin.Str.glued sep ((p::p2::r).map (·.1))),H,I.tok _,⟨_,rfl⟩,?_⟩
   ·grind
   ·grind
end L2
namespace DX
open PySem L2 PyProof.Rows
variable{sep:Str}{j:Nat}{pos apos cpos:Pos}{e:Expr}{oe:Oe}{K:aQ}{F:Fn}
section
variable{X:Cx}{c:Nat->aV}{E:XK}
theorem o_sm{name:Str}{id:String}{r:List V->Hp->VK->Prop}{f:List D->Option D}(slot:PySem.Slot "str" name id)(hty:typeOf (.builtin id)=pure (.type "method_descriptor"))(hm:MtR X id fun x vs H Q=>x=.str sep/\r vs H Q)(hp:PrSN X.K c r f)(he:OD X c E e oe)(m:M1 X (.Constant (.str sep) j pos) name apos e cpos)(hs:aJ [e] X.env=(false,eval e X.env)::aJ [] X.env:=by rfl):OD X c E (.Call (.Attribute (.Constant (.str sep) j pos) name apos) [e] [] cpos) (oL f [oe]):=by
 refine⟨PE.imp (zJj F.plainAttrs_str slot hty hm vYd (wC he.h qVa hs) m.base m.few m.line hs) fun σ H Q h=>?_⟩;exact⟨rfl,zJb (os:=[oe]) (f:=f) (r:=fun vs H Q=>V.str sep=.str sep/\r vs H Q) (fun us H xs z Q hx e q=>⟨rfl,hp us H xs z Q hx e q⟩) h⟩
noncomputable def qWt:List D->Option (List Str)
 |[]=>some []
 |d::r=>(qK6 d).bind fun i=>(qWt r).bind fun xs=>some (i::xs)
theorem vVj:∀xs:List Str,qWt (xs.map D.str)=some xs
 |[]=>rfl
 |x::xs=>by rw[bJ,qWt,vVj xs];rfl
theorem qY0{F:Hp}:∀{vs:List V} {ds:List D} {ns:List Str},DsAt K c F vs ds->qWt ds=some ns->vs=ns.map V.str
 |vs,[],ns,h,e=>by cases e;rw[h.un0];rfl
 | vs,d::ds,ns,h,e=>by
   obtain⟨v,r,rfl,a,b⟩:=h.un;obtain⟨i,e1,e2⟩:=bnd e;obtain⟨xs,e3,e4⟩:=bnd e2;cases e4;rw[bJ,←qY0 b e3,qQo a e1]
noncomputable def jnS(sep:Str)(ws:List Str):Option D:=cond (!Builtin.Str.tooLong (ws.toArray.foldl (· + ·.length+sep.length) 0) && decide ((Str.join sep ws).length <=aM)) (some (.str (Str.join sep ws))) none
noncomputable def qXg(sep:Str):List D->Option D
 |[.nd .lst ds]=>(qWt ds).bind (jnS sep)
 |[.nd .tup ds]=>(qWt ds).bind (jnS sep)
 |_=>none
noncomputable def jV7(K:aQ)(sep:Str):List V->Hp->VK->Prop:=fun vs H Q=>∃a ws,vs=[.ref a]/\(SqL K H a (ws.map V.str)\/SqT K H a (ws.map V.str))/\Builtin.Str.tooLong (ws.toArray.foldl (· + ·.length+sep.length) 0)=false/\(Str.join sep ws).length <=aM/\Q (.str (Str.join sep ws)) H
theorem zQ1{ws:List Str}{z:D}(e:jnS sep ws=some z):Builtin.Str.tooLong (ws.toArray.foldl (· + ·.length+sep.length) 0)=false/\(Str.join sep ws).length <=aM/\z=.str (Str.join sep ws):=by
 unfold jnS at e;grind
theorem jQa:PrSN K c (jV7 K sep) (qXg sep):=fun us H xs z Q hx e q=>by
 unfold qXg at e;split at e
 ·obtain⟨ws,e1,e2⟩:=bnd e;obtain⟨a,b,rfl⟩:=zQ1 e2;obtain⟨u,rfl,h⟩:=ds1 hx;obtain⟨p,vs,rfl,h1,h2⟩:=h.un;refine⟨p,ws,rfl,.inl ?_,a,b,q _ fun _=>.str _⟩;rw[←qY0 h2 e1];exact h1
 ·obtain⟨ws,e1,e2⟩:=bnd e;obtain⟨a,b,rfl⟩:=zQ1 e2;obtain⟨u,rfl,h⟩:=ds1 hx;obtain⟨p,vs,rfl,h1,h2⟩:=h.un;refine⟨p,ws,rfl,.inr ?_,a,b,q _ fun _=>.str _⟩;rw[←qY0 h2 e1];exact h1
 ·cases e
theorem zYb:MtR X "str.join" (fun x vs H Q=>x=.str sep/\jV7 X.K sep vs H Q):=by
 intro pins s σ H x xs v us Q I rx rs h;obtain⟨rfl,a,ws,rfl,ha,hl,hz,q⟩:=h;rcases ha with ha|ha
 ·exact jQv pins s σ H (.str sep) [.ref a] v us Q I rx rs ⟨sep,a,ws,rfl,rfl,ha,hl,hz,q⟩
 obtain⟨t,rfl⟩:=rx;obtain⟨u,rfl,ru⟩:=qQa rs;cases(show u=Value.ref a from ru);obtain⟨its,r1,p1,_⟩:=I.tuple ha;obtain⟨l,rfl,e⟩:=zQf r1;refine call_meets PySem.F.slot_str_join (eJ _ _ _) PySem.F.entry_str_join (PySem.F.args_str_join_2 _ _) (meets_str_join_tuple sep t a l (by rw[e];exact hl)) ⟨by obtain⟨o,e1,e2,n,e3⟩:=p1;exact⟨o,n,e1,e2,e3⟩,?_⟩;match l,e with
 | [p],e=>
   have:ws=[p.1]:=by rw[←e];rfl
   subst this;exact⟨.str p.1,H,I,⟨p.2,rfl⟩,q⟩
 | [],e=>
   have:ws=[]:=by rw[←e];rfl
   subst this;have g:=dI sep [];refine⟨?_,.str (Builtin.Str.glued sep []),H,I.tok _,⟨_,rfl⟩,?_⟩
   ·grind
   ·grind
 | p::p2::r,e=>
   have g:=dI sep ((p::p2::r).map (·.1));rw[e]at g;refine⟨?_,.str (Builtin.Str.glued sep ((p::p2::r).map (·.1))),H,I.tok _,⟨_,rfl⟩,?_⟩
   ·grind
   ·grind
theorem vQi(he:OD X c E e oe)(m:M1 X (.Constant (.str sep) j pos) "join" apos e cpos)(hs:aJ [e] X.env=(false,eval e X.env)::aJ [] X.env:=by rfl):OD X c E (.Call (.Attribute (.Constant (.str sep) j pos) "join" apos) [e] [] cpos) (oL (qXg sep) [oe]):=o_sm F.slot_str_join F.type_str_join zYb jQa he m hs
end
section
variable{X:Cx}{c:Nat->aV}{E:XK}{e:Expr}{lo hi:Option Expr}{pos p2:Pos}{o:Oe}{sl sh:Option SV}
theorem zKi:SlR X (fun x lo hi H Q=>∃z,x=.str z/\z.length<=aM/\Q (.str (Txt.slice z lo hi)) H):=by
 intro pins s σ H x v vl vu lo hi sl Q I rx hs pl pu h;obtain⟨z,rfl,hz,q⟩:=h;obtain⟨t,rfl⟩:=rx;have k:∀(l u:Option (Int×Tok)),l.map (·.1)=lo->u.map (·.1)=hi->∀(t' :Tok) (k:Nat),L2.EP X pins σ Q (.str (Txt.slice z (l.map (·.1)) (u.map (·.1))) t') {s with toks:=k}:=fun l u e1 e2 t' k=>⟨.str (Txt.slice z lo hi),H,I.tok _,⟨_,by rw[e1,e2]⟩,q⟩
 cases pl with
 | none=>
   cases pu with
   |none=>exact⟨"str",_,PySem.F.slot_str_getitem.lookup,eJ _ _ _,wpAny_getItem_str_slice (l:=none) (u:=none) (st:=none) hs rfl (post_val_or_str ⟨aS (Txt.slice_le z _ _) hz,k none none rfl rfl⟩)⟩
   |int j tj=>exact⟨"str",_,PySem.F.slot_str_getitem.lookup,eJ _ _ _,wpAny_getItem_str_slice (l:=none) (u:=some (j,tj)) (st:=none) hs rfl (post_val_or_str ⟨aS (Txt.slice_le z _ _) hz,k none (some (j,tj)) rfl rfl⟩)⟩
 | int i ti=>
   cases pu with
   |none=>exact⟨"str",_,PySem.F.slot_str_getitem.lookup,eJ _ _ _,wpAny_getItem_str_slice (l:=some (i,ti)) (u:=none) (st:=none) hs rfl (post_val_or_str ⟨aS (Txt.slice_le z _ _) hz,k (some (i,ti)) none rfl rfl⟩)⟩
   |int j tj=>exact⟨"str",_,PySem.F.slot_str_getitem.lookup,eJ _ _ _,wpAny_getItem_str_slice (l:=some (i,ti)) (u:=some (j,tj)) (st:=none) hs rfl (post_val_or_str ⟨aS (Txt.slice_le z _ _) hz,k (some (i,ti)) (some (j,tj)) rfl rfl⟩)⟩
def cutS(lo hi:Option Int):D->Option D
 |.str z=>cond (decide (z.length<=aM)) (some (.str (Txt.slice z lo hi))) none
 |_=>none
noncomputable def qZv(o:Oe)(lo hi:Option SV):SV:=fun env=>(evO o env).bind fun r=>(evI lo r.2).bind fun r1=>(evI hi r1.2).bind fun r2=>cond r.1.st ((opt (rsv r2.2 r.1)).bind fun x=>(opt (cutS r1.1 r2.1 x)).bind fun z=>.ok (z,r2.2)) .no
theorem qWb(he:OD X c E e o)(hl:PD X c E lo sl)(hu:PD X c E hi sh):EV X c E (.Subscript e (.Slice lo hi none p2) pos) (qZv o sl sh):=by
 refine⟨PE.imp (vW8 zKi he.h hl.h hu.h) fun σ H Q=>?_⟩;rintro⟨env,B,W,cf,w⟩;refine x8 cf (qP.mp w) fun r w1 u H1 W1 g=>?_
 refine⟨r.2,B,W1,g.cf,wp_mono (fun r2 h2 H2 W2 st2 cf2=>?_) (fun _ _ he=>he.back g.st) (qP.mp w1)⟩;refine⟨r2.2,B,W2,cf2,wp_mono (fun r3 h3 H3 W3 st3 cf3=>?_) (fun _ _ he=>he.back (g.st.trans st2)) (qP.mp h2)⟩;obtain⟨hs,w4⟩:=v6 h3;have ha:=(g.at_.step st2.same hs).step st3.same hs;obtain⟨x,e0,w5⟩:=qH w4;obtain⟨y,e1,w6⟩:=qH w5;have d0:=jO cf3 ha e0;unfold cutS at e1;split at e1
 ·rename_i z;cases q:decide (z.length<=aM) <;> rw[q]at e1 <;> cases e1
  cases d0;exact⟨z,rfl,of_decide_eq_true q,w6 _ H3 W3 ⟨(g.st.trans st2).trans st3,cf3,.str _⟩⟩
 ·cases e1
end
noncomputable def qXj(F:Fn)(a:SE)(t:SP):SE:=fun env=>(a env).bind fun q=>(opt (t q.2)).bind fun h=>match h with
 |.d d=>(F [.s false q.1,.s false (.fz d)]).bind fun z=>.ok (z.1,q.2)
 |.p _ _=>.no
section
variable{X:Cx}{c:Nat->aV}{E:XK}{e e2:Expr}{a:SE}{t:SP}{K:aQ}
theorem zVv{σ:L2.St}{H:Hp}{Q:VK}(h:tE K c E (qXj F a t) σ H Q):vKr (spD K c 2 F) [] E (qY5 (tE K c E a) (qY5 (tO K c E (.p t)) tNil)) σ H Q:=by
 obtain⟨env,B,W,cf,w⟩:=h;refine⟨env,B,W,cf,wp_mono (fun q w2 u H2 W2 Z g2=>?_) (fun _ _ z=>z) (qP.mp w)⟩;obtain⟨h,e1,w2⟩:=qH w2;cases h with
 |p i π=>exact w2.elim
 |d d=>
 refine⟨q.2,hd2 B Z,W2,.d d,g2.cf,e1,fun y hy=>?_⟩;have dy:DAt K c (hide (hd2 (hd2 B W2) Z) H2) y d:=by
  have:DAt K c (hide (hd2 (hd2 B Z) W2) H2) y d:=hy;rw[show hide (hd2 (hd2 B Z) W2) H2=hide (hd2 (hd2 B W2) Z) H2 from vO fun a=>by dsimp only[hd2];omega]at this;exact this
 have at2:OAt K c (hide (hd2 (hd2 B W2) Z) H2) H2 q.1 u Z:=by
  have:=g2.at_;rw[show hide (hd2 (hd2 B Z) W2) H2=hide (hd2 (hd2 B W2) Z) H2 from vO fun a=>by dsimp only[hd2];omega]at this;exact this
 have st01:Step env σ H B W q.2 σ H2 (hd2 W2 Z):=g2.st;have sl:SlAt K c (hide (hd2 (hd2 B W2) Z) H2) H2 [.s false q.1,.s false (.fz d)] [some u,some y] Z:=
  ⟨some u,[some y],Z,fun _=>0,rfl,at2,⟨some y,[],fun _=>0,fun _=>0,rfl,(show OAt K c _ H2 (.fz d) y (fun _=>0) from OAt.fz.mpr ⟨dy,fun _=>rfl⟩),⟨⟨rfl,TabF.same (by have:=g2.cf.at_.tab;exact this) (by rw[show hide (hd2 (hd2 B Z) W2) H2=hide (hd2 (hd2 B W2) Z) H2 from vO fun a=>by dsimp only[hd2];omega];exact Same.refl _)⟩,fun _=>rfl⟩,fun _=>rfl⟩,fun _=>rfl⟩
 refine⟨_,hd2 B W2,Z,rfl,⟨sl,fun a=>?_,fun a z=>?_⟩,wp_mono (fun z w3 v H' W3 Z3 g3=>?_) (fun C fs he=>?_) (qP.mp w2)⟩
 ·have:=g2.cf.nd a;dsimp only[hd2]at *;omega
 ·exact g2.cf.hbs (by dsimp only[hd2]at *;omega)
 ·have k1:∀a,hd2 B W2 a≠0->H' a=H2 a:=fun a z=>g3.st.by_ a z
  have s3:Same (hide (hd2 B (hd2 W2 Z)) H2) (hide (hd2 B (hd2 W2 Z3)) H'):=by
   rw[show hide (hd2 B (hd2 W2 Z)) H2=hide (hd2 (hd2 B W2) Z) H2 from vO fun a=>by dsimp only[hd2];omega];exact g3.st.same.trans (zS fun a z=>by dsimp only[hd2]at *;omega)
  refine w3 v H' W2 Z3 ⟨st01.trans ⟨s3,fun a z=>k1 a (by dsimp only[hd2];omega),fun a z=>?_,g3.st.dom,fun a z y=>?_,fun _ o h=>⟨⟨o,h⟩,rfl⟩,rfl⟩,⟨?_,fun a=>?_,fun a z=>?_⟩,?_⟩
  ·by_cases y:W2 a=0
   ·rcases g3.st.new a (by dsimp only [hd2] at *;omega) with x | x
    ·exact .inl (by dsimp only[hd2];omega)
    ·exact .inr x
   ·exact .inl (by dsimp only[hd2];omega)
  ·by_cases x:W2 a=0
   ·exact g3.st.pin a (by dsimp only[hd2]at *;omega) (by dsimp only[hd2]at *;omega)
   ·exact .of (k1 a (by dsimp only[hd2];omega))
  ·refine g2.cf.at_.keep ?_ fun a z=>k1 a (by dsimp only [hd2];omega)
   have:=s3;rw[show hide (hd2 B (hd2 W2 Z)) H2=hide (hd2 (hd2 B Z) W2) H2 from vO fun a=>by dsimp only[hd2];omega,show hide (hd2 B (hd2 W2 Z3)) H' =hide (hd2 (hd2 B Z3) W2) H' from vO fun a=>by dsimp only[hd2];omega]at this;exact this
  ·have:=g3.cf.nd a;dsimp only[hd2]at *;omega
  ·exact g3.cf.hb a (by dsimp only[hd2]at *;omega)
  ·exact g3.at_.keep (zS fun a z=>by dsimp only[hd2]at *;omega) fun _ _=>rfl
 ·exact erP.lift (Z:=W2) (W' :=hd2 W2 Z) (fun _=>rfl) (fun a=>by dsimp only[hd2];omega) (he.back st01)
theorem qX0{k:Nat}{f:aV}{fd:aG}{ps:List Str}{x:Str}{p:Pos}(G:FnOk X.prog X.w X.K X.mg X.base (CXd X.prog X.w) k f fd ps (spD X.K c 2 F))(hr:Room k X.A)(hg:Gl X x)(hm:X.mg x=some (.ref f))(hk:bT X.K (.ref f)=true)(hb:j8 X.K fd ps [])(hx:jS (CXd X.prog X.w) X E)(ha:ED X c E e a)(ht:OD X c E e2 (.p t))(hdb:(x == ("__debug__":Str))=false:=by decide)(he:aJ [e,e2] X.env=(false,eval e X.env)::aJ [e2] X.env:=by rfl)(he2:aJ [e2] X.env=(false,eval e2 X.env)::aJ [] X.env:=by rfl)(hpl:(cU pos (aJ [e2] X.env)).any (·.1)=false:=by rfl):
  ED X c E (.Call (.Name x p) [e,e2] [] pos) (qXj F a t):=
 ⟨PE.imp (zQq G hr hg hm hk hb .nil hx (wC ha.h (wC ht.h qVa he2) he) hdb he hpl) fun _ _ _ h=>zVv h⟩
end
end DX
namespace L2
open PySem PySem.Spec PySem.W PyProof.Rows SG
noncomputable def StK(prog:bQ)(w:bH)(a:aV)(l:List L2.Key):HO:=.ext (fun h=>SetK prog w a l h)
theorem jZ9{prog:bQ}{w:bH}{H:Hp}{a:aV}{l:List L2.Key}{h:Heap}(p:SetK prog w a l h):v5 prog w H h a (StK prog w a l):=by
 refine⟨p,?_,fun _ _ q k=>q.at k⟩;obtain⟨o,_,_,_,e,_⟩:=p;exact⟨o,e⟩
section
variable{X:Cx}
theorem vKo:jC X (.builtin "len") (fun xs H Q=>∃(a:aV) (l:List L2.Key),xs=[.ref a]/\H a=some (StK X.prog X.w a l)/\Q (.int (l.length:Nat)) H):=by
 intro pins s σ H xs us Q I r h;obtain⟨a,l,rfl,ha,q⟩:=h;obtain⟨u,rfl,ru⟩:=qQa r;cases(show u=Value.ref a from ru);obtain⟨⟨o,es,ep,t,e1,hex,hda,hel,hme,hsm,hft,z⟩,_,_⟩:=(show v5 X.prog X.w H s.heap a (StK X.prog X.w a l) from I.hok a _ ha)
 refine call_len_set e1 hex hda hft (by have:es.size<4096:=hsm;omega) ?_
 rw[z];exact⟨.int (l.length:Nat),H,I.tok _,⟨_,rfl⟩,q⟩
theorem zZg:∀{k:L2.Key} {u:Value},RelV (kV k) u->qXf k u=true
 |.inl _,_,⟨_,e⟩=>by rw[e];exact vZo _ _
 |.inr _,_,⟨_,e⟩=>by rw[e];exact vZn _ _
theorem zQx:∀{its:List Value} {xs:List L2.Key},Vals (xs.map kV) its->zVq its xs
 |[],_,_,i,v,h=>by simp at h
 |u::us,[],r,i,v,h=>by cases r
 | u::us,x::xs,r,0,v,h=>by
   cases h;cases r with
   |cons a _=>exact zZg a
 | u::us,x::xs,r,i + 1,v,h=>by
   cases r with
   |cons _ b=>exact zQx b i v h
theorem vKn(hc:X.calm=true):jC X (.type "set") (fun xs H Q=>∃(a:aV) (ts:List L2.Key) (b:Bool),xs=[.ref a]/\cond b (SqL X.K H a (ts.map kV)) (SqT X.K H a (ts.map kV))/\ts.length<=2000/\∀p,H p=none->Q (.ref p) (upd H p (StK X.prog X.w p (fmK (vK ts) ts.length)))):=by
 intro pins s σ H xs us Q I r h;obtain⟨a,ts,b,rfl,hl,few,q⟩:=h;obtain⟨u,rfl,ru⟩:=qQa r;cases(show u=Value.ref a from ru);obtain⟨its,rv,pl⟩:∃its:List Value,Vals (ts.map kV) its/\cond b (s.heap.IsList a its.toArray) (s.heap.IsTuple a its.toArray):=by
  cases b with
  |true=>obtain⟨its,rv,pl,_⟩:=I.list hl;exact⟨its,rv,pl.isList⟩
  |false=>obtain⟨its,rv,pl,_⟩:=I.tuple hl;exact⟨its,rv,pl⟩
 have len:=rv.length;rw[aP]at len;refine zZx (I.ok.hd hc) b pl (xs:=ts) (by simpa using zQx rv) (by rw[bV,←len];show ts.length+1<4096;omega) fun h' tk g kept=>?_
 have e:its.toArray.size=ts.length:=by rw[bV,←len]
 rw[e]at g;exact⟨.ref _,_,I.laid (t' :=tk) (a:=s.heap.objs.size) (o:=StK X.prog X.w s.heap.objs.size _) (h' :=h') (fun b o e=>kept b o (aC e) e) (aD _) (jZ9 g),rfl,q _ (I.hok.fresh (aD _))⟩
end
end L2
namespace DX
open PySem L2 PyProof.Rows SG
section
variable{X:Cx}{K:aQ}{c:Nat->aV}{E:XK}{e:Expr}{o:Oe}{p pos p2 pos2:Pos}
noncomputable def alK:List D->Option (List L2.Key)
 |[]=>some []
 |d::ds=>(vV4 d).bind fun k=>(alK ds).bind fun r=>some (k::r)
theorem zW7{F:Hp}:∀{vs:List V} {ds:List D} {ts:List L2.Key},DsAt K c F vs ds->alK ds=some ts->vs=ts.map kV
 |vs,[],ts,h,e=>by cases e;rw[h.un0];rfl
 | vs,d::ds,ts,h,e=>by
   obtain⟨v,r,rfl,a,b⟩:=h.un;obtain⟨k,e1,e2⟩:=bnd e;obtain⟨xs,e3,e4⟩:=bnd e2;cases e4;rw[bJ,←zW7 b e3,vQy a e1]
noncomputable def zJm:List D->Option (Bool×List L2.Key)
 |[.nd .lst ds]=>(alK ds).bind fun ts=>some (true,ts)
 |[.nd .tup ds]=>(alK ds).bind fun ts=>some (false,ts)
 |_=>none
theorem vwsK{T:Fp}{H:Hp}{us:List V}{xs:List D}{b:Bool}{ts:List L2.Key}(hv:Vws K c (hide T H) H us xs)(e:zJm xs=some (b,ts)):∃p,us=[.ref p]/\cond b (SqL K H p (ts.map kV)) (SqT K H p (ts.map kV)):=by
 unfold zJm at e;split at e
 all_goals first
  |cases e
  | obtain⟨ts',e1,e2⟩:=bnd e
    cases e2;obtain⟨u,rfl,v⟩:=vws1 hv;obtain⟨p,vs,rfl,h1,h2⟩:=v.un vD;rw[zW7 h2 e1]at h1;exact⟨p,rfl,h1⟩
noncomputable abbrev qK8(ts:List L2.Key):List L2.Key:=fmK (vK ts) ts.length
noncomputable def lenTD(xs:List D):Option D:=match zJm xs with
 |some (_,ts)=>cond (decide (ts.length<=2000)) (some (.int ((qK8 ts).length :Nat))) none
 |none=>none
noncomputable def zJf(X:Cx):List V->Hp->VK->Prop:=fun xs H Q=>∃(a:aV) (ts:List L2.Key) (b:Bool),xs=[.ref a]/\cond b (SqL X.K H a (ts.map kV)) (SqT X.K H a (ts.map kV))/\ts.length<=2000/\∀p,H p=none->Q (.ref p) (upd H p (StK X.prog X.w p (qK8 ts)))
noncomputable def rLeT(X:Cx):List V->Hp->VK->Prop:=fun xs H Q=>∃(a:aV) (l:List L2.Key),xs=[.ref a]/\H a=some (StK X.prog X.w a l)/\Q (.int (l.length:Nat)) H
noncomputable def rTw(r1 r2:List V->Hp->VK->Prop):List V->Hp->VK->Prop:=fun xs H Q=>r1 xs H fun x H1=>r2 [x] H1 Q
theorem zK9:PrA X.K c (rTw (zJf X) (rLeT X)) lenTD:=fun us H T xs z Q hb hv e q=>by
 unfold lenTD at e;split at e
 ·rename_i b ts e1;obtain⟨q1,q2⟩:=jF e;cases q2;obtain⟨p,rfl,h1⟩:=vwsK hv e1;exact⟨p,ts,b,rfl,h1,of_decide_eq_true q1,fun P hP=>⟨P,_,rfl,upd_same,q _ _ (.upd hP) (.int _)⟩⟩
 ·cases e
theorem jZz(hc:X.calm=true)(hg:Gl X "set")(hm:X.mg "set"=none)(hg2:Gl X "len")(hm2:X.mg "len"=none)(h1:OD X c E e o)(hs:aJ [e] X.env=[(false,eval e X.env)]:=by rfl)(h0:aJ [] X.env=[]:=by rfl)(he:aJ [Expr.Call (.Name "set" p) [e] [] pos] X.env=(false,eval (.Call (.Name "set" p) [e] [] pos) X.env)::aJ [] X.env:=by rfl):
  EV X c E (.Call (.Name "len" p2) [.Call (.Name "set" p) [e] [] pos] [] pos2) (svA lenTD [o]):=by
 have ha:=(qE h1 qK (by rw[hs,h0])).h;have:PE X (.Call (.Name "len" p2) [.Call (.Name "set" p) [e] [] pos] [] pos2) (tCB (rLeT X) (qY5 (tCB (zJf X) _) tNil)):=
  qXx vKo hg2 hm2 Boot.«len» (wC (qJ8 (vKn hc) hg hm Boot.«set» ha (by decide) (by decide) (by rw[hs,h0]) (by rw[h0];rfl)) qVa he) (by decide) (by decide) he (by rw[h0];rfl)
 exact⟨PE.imp this fun _ _ _ h=>jV2 (r:=rTw (zJf X) (rLeT X)) zK9 h⟩
end
end DX
namespace L2
open PySem PySem.Spec PyProof.Rows
noncomputable abbrev Cx.mute(X:Cx):Cx:={X with xe:=fun _ _=>False}
section
variable{X:Cx}{pins:List (aV×Obj)}{σ:St}{H:Hp}{s:aX}
theorem Inv.mute(I:Inv X pins σ H s):Inv X.mute pins σ H s:=
 ⟨⟨I.ok.mod,I.ok.kind,I.ok.glob,I.ok.blt,I.ok.above,I.ok.inj,I.ok.has,I.ok.cab,I.ok.hd,I.ok.frames,I.ok.stk,I.ok.exf,I.ok.bs,I.ok.bsz,I.ok.noex,I.ok.exfs,I.ok.funs,I.ok.frf⟩,
   I.os,I.bare,I.base,I.loc,I.cell,I.free,I.freeC,I.pin,I.hok,I.len⟩
theorem Inv.unmute(I:Inv X.mute pins σ H s):Inv X pins σ H s:=
 ⟨⟨I.ok.mod,I.ok.kind,I.ok.glob,I.ok.blt,I.ok.above,I.ok.inj,I.ok.has,I.ok.cab,I.ok.hd,I.ok.frames,I.ok.stk,I.ok.exf,I.ok.bs,I.ok.bsz,I.ok.noex,I.ok.exfs,I.ok.funs,I.ok.frf⟩,
   I.os,I.bare,I.base,I.loc,I.cell,I.free,I.freeC,I.pin,I.hok,I.len⟩
end
noncomputable def jXs(K:aQ)(Ch:Value)(i:Nat)(sp:Sp)(t:TA)(ts:TS):TS:=fun D σ H=>t σ H fun vs H1=>sp vs H1 (fun _ H2=>D.nx σ H2)
 (fun cls ox H2=>(∃C,cls=.ref C)/\PySem.W.exmOne K cls Ch=some true/\∀ea,H2 ea=none->ts {nx:=fun σ' H' =>D.nx (σ'.set i none) H',rt:=D.rt} (σ.set i (some (.ref ea))) (upd H2 ea (.ext (ExcD ea cls ox))))
section
variable{X:Cx}{k:Nat}{f:aV}{fd:aG}{ps:List Str}{sp:Sp}{x c n:Str}{p cpos epos np hpos pos:Pos}{e:Expr}{es:List Expr}{t:TA}{b₀:Stmt}{suite:List Stmt}{ts:TS}{i:Nat}{Ch:Value}
theorem zK3(F:FnOk X.prog X.w X.K X.mg X.base (CXd X.prog X.w) k f fd ps sp)(hr:Room k X.A)(hg:Gl X x)(hm:X.mg x=some (.ref f))(hk:bT X.K (.ref f)=true)(hb:j8 X.K fd ps [])(ha:PA X.mute (e::es) t)(hgc:Gl X c)(hmc:X.mg c=some Ch)(hN:X.N.Nodup)(hi:X.N[i]?=some n)(hn:X.env.scope.names.lookup n=some .local)(hsu:∀ea,PSs (X.marked ea) (b₀::suite) ts)(hex:X.ex=[])(hst:X.stack=X.env::X.outer)(hfr:X.env.frame=some X.env.locals)(hdb:(x == ("__debug__":Str))=false:=by decide)(hdc:(c == ("__debug__":Str))=false:=by decide)(he:aJ (e::es) X.env=(false,eval e X.env)::aJ es X.env:=by rfl)(hpl:(cU cpos (aJ es X.env)).any (·.1)=false:=by rfl)(hs:swapsWith (.Call (.Name x p) (e::es) [] cpos) none epos.line X.env=pure false:=by rfl):
  PS X (.Try [.Expr (.Call (.Name x p) (e::es) [] cpos) epos] [.ExceptHandler (some (.Name c np)) (some n) (b₀::suite) hpos] [] [] pos) (jXs X.K Ch i sp t ts):=by
 intro pins s σ H D I h;have frm:X.A.frames=some (X.env::X.outer):=by rw[I.ok.frames,hst]
 refine wpAny_Try_except (wpAny_execs_cons (wpAny_Expr_any ?_ I.quiet hs));refine eY (qJ6 I hg hm ?_ hdb);refine PySem.W.callWith_K (h₀:=X.base) I.ok.mod.kin hk (cZ (ha cpos pins s σ H _ I.mute h) (fun us s1 hq=>?_) fun _ _ z=>z.elim) he hpl;obtain⟨vs,H1,I0,r,q⟩:=hq;have I1:=I0.unmute;refine⟨I1.kIn,?_⟩;have hl:(us ++ []).length =ps.length:=by rw[bM,←r.length];exact F.len _ _ _ _ q
 have hbd:=hb s1 us I1.kIn hl;rw[bM]at hbd;refine wpAny_call (codeAny_mono (F.run X.A X.stack s1 H1 ⟨us,[]⟩ us vs _ _ hr I1.env0 hbd r q) fun res s' hq=>?_);cases res with
 | ok fl=>
   cases fl with
   | ret u=>
     obtain⟨v,H2,I2,_,q2⟩:=I1.after hq;exact wpAny_execs_nil (wpAny_execs_nil ⟨σ,H2,I2,q2⟩)
   |next=>exact False.elim hq
   |brk=>exact False.elim hq
   |cont=>exact False.elim hq
 | error ev=>
   obtain⟨ea,cls,a0,H2,B,ox,rfl,hos,bare,un,hok,fl,cov,hea,sea,⟨oe,hoe,hdic⟩,⟨C,rfl⟩,hx,hsuite⟩:=hq;rw[hst]at fl;refine cZ ((qX5 _ _).any (wpAny_looks_onW (E:=fun _ _=>False) (Q:=fun _ t' =>∃h4,t' ={s' with heap:=h4}/\Heap.HeldW B (X.env::X.outer) ea (.ref C) a0 X.env.locals h4/\s'.heap.UpToSlots h4) frm hfr fl fun h4 held4 sm4=>⟨h4,rfl,held4,sm4⟩)) (fun _ t4 hq4=>?_) fun _ _ z=>z.1.elim
   obtain⟨⟨h4,rfl,held4,sm4⟩,dk4⟩:=hq4;refine cZ ((qV5 _ _).any (wpAny_landsW (E:=fun _ _=>False) (s:={s' with heap:=h4}) (Q:=fun _ t' =>∃h5,t' ={s' with heap:=h5}/\Heap.FlyingW B (X.env::X.outer) ea (.ref C) a0 h5/\h4.UpToSlots h5) held4 fun h5 fl5 sm5=>⟨h5,rfl,fl5,sm5⟩)) (fun _ t5 hq5=>?_) fun _ _ z=>z.1.elim
   obtain⟨⟨h5,rfl,fl5,sm5⟩,dk5⟩:=hq5;have fl5' :Heap.FlyingW B X.stack ea (.ref C) a0 h5:=by rw[hst];exact fl5
   have I5:Inv X pins σ H2 {s' with heap:=h5}:=vXn I1 hos bare un hok fl5' cov (sm4.trans sm5);refine wpAny_handleBy_cons (codeAny_handlers_test (qJ6 (I5.marked ea) hgc hmc ?_ hdc)) (by intro q;cases q);obtain⟨ob,hob,hobc⟩:=fl5.there;have LT:PySem.W.Looks (model X.prog X.w) h5 (typeOf (.ref ea)) (.ref C):=hobc▸(PySem.W.Looks.ld hob).andThen .now;refine(PySem.W.exm_one I5.kIn LT hx).here ?_
   refine codeAny_handlers_suite_as ?_
   refine cZ ((qV5 _ _).any (lands_againW (E:=fun _ _=>False) (s:={s' with heap:=h5}) (Q:=fun _ t' =>∃h6,t' ={s' with heap:=h6}/\Heap.FlyingW B (X.env::X.outer) ea (.ref C) a0 h6/\h5.UpToSlots h6) fl5 fun h6 fl6 sm6=>⟨h6,rfl,fl6,sm6⟩)) (fun _ t6 hq6=>?_) fun _ _ z=>z.1.elim
   obtain⟨⟨h6,rfl,fl6,sm6⟩,dk6⟩:=hq6;have fl6' :Heap.FlyingW B X.stack ea (.ref C) a0 h6:=by rw[hst];exact fl6
   have I6:Inv X pins σ H2 {s' with heap:=h6}:=vXn I1 hos bare un hok fl6' cov ((sm4.trans sm5).trans sm6);obtain⟨ob6,hob6,hobc6,vs6,hv6⟩:∃ob,h6.get? ea=some ob/\ob.cls=.ref C/\∃vs,ob.data=.fields vs:=by
    obtain⟨_,_,_,oe',vs',_,_,_,z1,z2,z3,_⟩:=fl6;exact⟨oe',z1,z2.1,vs',z3⟩
   have hd6:ob6.dict=ox:=by
    obtain⟨o',e1,e2⟩:=((dk4.trans dk5).trans dk6) ea oe hoe;rw[show h6.get? ea=some ob6 from hob6]at e1;cases e1;exact e2.trans hdic
   have ne1:∀b o,s1.heap.get? b=some o->b≠ea:=fun b o e z=>by rw[z,sea]at e;cases e
   have I7:Inv X pins σ (upd H2 ea (.ext (ExcD ea (.ref C) ox))) {s' with heap:=h6}:=by
    refine I6.adopt hea ?_ ?_ (fun y cc e=>?_) (fun p hp=>?_) (zY2 ⟨ob6,hob6,hobc6,hd6,vs6,hv6⟩)
    ·cases q:X.s₀.heap.get? ea with
     |none=>rfl
     | some o=>
       obtain⟨o',z⟩:=I1.base.there ea o q (by rw[hex];simp);rw[sea]at z;cases z
    ·obtain⟨m,⟨o,_,_,z,_⟩,_⟩:=I1.loc;exact(ne1 _ _ z).symm
    ·obtain⟨v,o,z,_⟩:=I1.cell y cc e;exact ne1 _ _ z
    ·exact ne1 _ _ (I1.pin p hp).1
   refine qVn I7 hN hi (Or.inl hn) (v:=.ref ea) rfl (fun s8 I8=>?_) (.inr hn);refine cZ (hsu ea pins s8 _ _ _ (I8.marked ea) (hsuite ea hea)) (fun fw s9 h9=>?_) fun _ _ z=>z.elim
   cases fw with
   | next=>
     obtain⟨σ9,H9,I9,q9⟩:=h9;exact vZb (I9.unmarked I.ok.hd) hN hi hn fun s10 I10=>⟨_,H9,I10,q9⟩
   | ret v=>
     obtain⟨v9,σ9,H9,I9,r9,q9⟩:=h9;exact vZb (I9.unmarked I.ok.hd) hN hi hn fun s10 I10=>⟨v9,_,H9,I10,r9,q9⟩
   |brk=>obtain⟨_,_,_,z⟩:=h9;exact z.elim
   |cont=>obtain⟨_,_,_,z⟩:=h9;exact z.elim
end
end L2
namespace L2
open PySem PySem.Spec PySem.W PySem.Calls PyProof.Rows
variable{tk:Tok}{Q:Value->aX->Prop}{X:Cx}
section
variable{prog:bQ}{w:bH}{A:cE}{E:Value->aX->Prop}{h:Heap}{g:Array GenState}{d:Drawn}{t:Nat}{os:OsState}{a C dx:aV}{o:Obj}{K:Frag}{f:Str}{u:Value}{mA:Str->Option Value}{vs:Array Value}
theorem vKd{Q:Fin->aX->Prop}(X:K.In h)(hh:hasDictIn K C=true)(hf:findIn K (.ref C) f=some none)(hx:h.get? a=some o)(hc:o.cls=.ref C)(hd:o.dict=some dx)(hv:o.data=.fields vs)(hn:h.Ns dx mA)(hm:mA f=some u)(hq:Q (.done (.ret u)) ⟨h,g,d,t,os⟩):
  aR (model prog w) A (Builtin.«object.__getattribute__» ⟨[.ref a,.str f tk],[]⟩) Q E ⟨h,g,d,t,os⟩:=by
 have L3:=looks_findIn (M:=model prog w) X hf;repeat (any_goals (first|assumption|with_reducible refine L3.at ?_|(with_reducible refine cI hx ?_;rw[hc])|(with_reducible refine cI hx ?_;rw[hd])|wp_step))
 rw[hv];obtain⟨cd,hcd,hdd⟩:=any_some hh;refine aZ (wpAny_loadPart hx ?_);rw[hc,hd];refine aZ ((looks_clsIn X hcd).here (s:=⟨h,g,d,t,os⟩) ?_);rw[hdd];refine aL ?_
 refine wpAny_nsGet hn ?_
 rw[hm];repeat (any_goals (first|assumption|wp_step))
theorem zZp{R:Result->aX->Prop}(X:K.In h)(k:ExcKit K C)(hh:hasDictIn K C=true)(hf:findIn K (.ref C) f=some none)(hx:h.get? a=some o)(hc:o.cls=.ref C)(hd:o.dict=some dx)(hv:o.data=.fields vs)(hn:h.Ns dx mA)(hm:mA f=some u)(hq:R (.ok (.ret u)) ⟨h,g,d,t,os⟩):
  codeAny (model prog w) A (.call (.builtin "BaseException.__getattribute__") ⟨[.ref a,.str f tk],[]⟩) R ⟨h,g,d,t,os⟩:=
 eP F.attrBase_ValueError.ga.plain F.entry_bexc_ga (vZs X k hx hc (vKd X hh hf hx hc hd hv hn hm hq))
theorem jVk{fill expr:Bool}(X:K.In h)(k:ExcKit K C)(hh:hasDictIn K C=true)(hf:findIn K (.ref C) f=some none)(hx:h.get? a=some o)(hc:o.cls=.ref C)(hd:o.dict=some dx)(hv:o.data=.fields vs)(hn:h.Ns dx mA)(hm:mA f=some u)(hu:handedIn u=true)(hq:Q u ⟨h,g,d,t,os⟩):
  aR (model prog w) A (getAttrBy (.ref a) (.str f tk) fill expr) Q E ⟨h,g,d,t,os⟩:=by
 have f3:=F.attrBase_ValueError.ga.bind (.ref a);have hx0:(expr && onTheHeap (Value.builtin "BaseException.__getattribute__"))=false:=by cases expr <;> rfl
 have hx2:(Value.builtin "BaseException.__getattribute__" == Value.builtin "object.__getattribute__")=false:=by decide +kernel
 have L1:=looks_findIn (M:=model prog w) X k.ga;have L2:=looks_findIn (M:=model prog w) X k.gx;repeat (any_goals (first|assumption|with_reducible refine L1.at ?_|with_reducible refine L2.at ?_|(with_reducible refine cI hx ?_;rw[hc])|wp_step))
 refine zZp X k hh hf hx hc hd hv hn hm ?_
 repeat (any_goals (first|assumption|wp_step))
 have:=handedOut_of hu;unfold handedOut at this;rw[this];exact aL hq
theorem zZq{b:Bool}(X:K.In h)(k:ExcKit K C)(hh:hasDictIn K C=true)(hf:findIn K (.ref C) f=some none)(hx:h.get? a=some o)(hc:o.cls=.ref C)(hd:o.dict=some dx)(hv:o.data=.fields vs)(hn:h.Ns dx mA)(hm:mA f=some u)(hu:handedIn u=true)(hq:Q u ⟨h,g,d,t+1,os⟩):
  aR (model prog w) A (getAttr (.ref a) f b) Q E ⟨h,g,d,t,os⟩:=by
 repeat (any_goals (first|assumption|with_reducible apply jVk X k hh hf hx hc hd hv hn hm hu|wp_step))
end
noncomputable def tXF(K:Frag)(ta:TE)(f:Str):TE:=fun σ H Q=>ta σ H fun x H1=>∃p C dx fs v,x=.ref p/\H1 p=some (.ext (ExcD p (.ref C) (some dx)))/\H1 dx=some (.xd fs)/\ExcKit K C/\hasDictIn K C=true/\findIn K (.ref C) f=some none/\fs.lookup f=some v/\Q v H1
theorem jX6{e:Expr}{f:Str}{pos:Pos}{ta:TE}(he:PE X e ta)(hb:attributeBase e f X.env (eval e X.env)=eval e X.env):PE X (.Attribute e f pos) (tXF X.K ta f):=by
 intro pins s σ H Q I h;refine zVn hb (thn (he pins s σ H _ I h) fun u s1 ⟨x,H1,I1,rx,p,C,dx,fs,v,ex,e1,e2,k,hh,hf,l,q⟩=>?_);subst ex;obtain rfl:u=Value.ref p:=rx;obtain⟨⟨o,h1,h2,h3,vs,h4⟩,_,_⟩:=(show v5 X.prog X.w H1 s1.heap p _ from I1.hok p _ e1)
 obtain⟨mA,n1,r⟩:=(show v5 X.prog X.w H1 s1.heap dx (.xd fs) from I1.hok dx _ e2)
 obtain⟨u',hu,ru⟩:=RelO.some_of (v:=v) (o:=mA f) (by rw[←l];exact r f);exact zZq I1.kIn k hh hf h1 h2 h3 h4 n1.ns hu (vZr ru) ⟨v,H1,I1.tok _,ru,q⟩
theorem vKp:jC X (.builtin "isinstance") (fun xs H Q=>∃p c cv C ox b,xs=[.ref p,c]/\((∃n,c=.ty n)\/∃a,c=.ref a)/\RelV c cv/\H p=some (.ext (ExcD p (.ref C) ox))/\ExcKit X.K C/\kitOne X.K (.ref C) cv=some b/\Q (.bl b) H):=by
 intro pins s σ H xs us Q I r h;obtain⟨p,c,cv,C,ox,b,rfl,hk,rc,hp,k,e,q⟩:=h;obtain⟨u,w',rfl,r1,r2⟩:=vWi r;cases(show u=Value.ref p from r1);cases zXq hk rc r2;obtain⟨⟨o,h1,h2,_⟩,_,_⟩:=(show v5 X.prog X.w H s.heap p (.ext (ExcD p (.ref C) ox)) from I.hok p _ hp)
 exact kia_one (zYi k) I.kIn ⟨o,h1,h2⟩ e (fun z=>nomatch z) fun tk=>⟨.bl b,H,I.tok tk,rfl,q⟩
end L2
namespace DX
open PySem L2 PyProof.Rows
variable{K:aQ}{c:Nat->aV}{β:Type}
noncomputable def vQb:Slot->Slot
 |.s _ (.fz d)=>.s false (.fz d)
 |_=>.un
theorem SlAt.drop{F F' H H' :Hp}(e:Same F F'):∀{env:Ev} {σ:L2.St} {Z:Fp},SlAt K c F H env σ Z->SlAt K c F' H' (env.map vQb) σ (fun _=>0)
 |[],_,_,h=>⟨⟨h.1.1,h.1.2.same e⟩,fun _=>rfl⟩
 | s::env,_,_,h=>by
   obtain⟨x,r,Z1,Z2,a,b,cc,d⟩:=h;refine⟨x,r,fun _=>0,fun _=>0,a,?_,SlAt.drop e cc,fun _=>rfl⟩;cases s with
   |un=>exact fun _=>rfl
   | s io o=>
     cases o with
     |ow k os=>exact fun _=>rfl
     | fz y=>
       cases x with
       |none=>exact b.elim
       | some v=>
         have b' :OAt K c F H (.fz y) v Z1:=b;exact qKs (b'.1.same e)
theorem vWs{α:Type}:∀ws:List (α×β),(ws.map (·.1)).zip (ws.map (·.2))=ws
 |[]=>rfl
 |w::ws=>by rw[bJ,bJ,dW,vWs ws]
noncomputable def sTry(F:Fn)(as:List Am)(hd:Nat->Bool)(i:Nat)(su:SS):SS:=fun env=>match evOs (as.map Am.o) env with
 | .ok r=>match qZq F as r.1 r.2 with
   |.ok q=>.ok (.nx q.2)
   | .er C fs=>cond (hd C && decide (i < env.length)) (match su ((r.2.map vQb).set i (.s false (.fz (.nd (.exc C (fs.map (·.1))) (fs.map (·.2)))))) with
     |.ok (.rt o e)=>.ok (.rt o e)
     |_=>.no) .no
   |.no =>.no
 |_=>.no
section
variable{X:Cx}{c:Nat->aV}{E:XK}{k:Nat}{f:aV}{fd:aG}{ps:List Str}{x cn n:Str}{p cpos epos np hpos pos:Pos}{e:Expr}{es:List Expr}{b₀:Stmt}{suite:List Stmt}{su:SS}{i:Nat}{Ch:Value}{F:Fn}{as:List Am}{hd:Nat->Bool}
theorem jJb(G:FnOk X.prog X.w X.K X.mg X.base (CXd X.prog X.w) k f fd ps (spD X.K c as.length F))(hr:Room k X.A)(hg:Gl X x)(hm:X.mg x=some (.ref f))(hk:bT X.K (.ref f)=true)(hb:j8 X.K fd ps [])(ha:OsD X.mute c E0 (e::es) (as.map Am.o))(hgc:Gl X cn)(hmc:X.mg cn=some Ch)(hN:X.N.Nodup)(hi:X.N[i]?=some n)(hn:X.env.scope.names.lookup n=some .local)(hx:∀C,hd C=true->PySem.W.exmOne X.K (.ref (c C)) Ch=some true)(hsu:∀ea,SDs (X.marked ea) c E0 (b₀::suite) su)(hex:X.ex=[]:=by rfl)(hst:X.stack=X.env::X.outer:=by rfl)(hfr:X.env.frame=some X.env.locals:=by rfl)(hdb:(x == ("__debug__":Str))=false:=by decide)(hdc:(cn == ("__debug__":Str))=false:=by decide)(he:aJ (e::es) X.env=(false,eval e X.env)::aJ es X.env:=by rfl)(hpl:(cU cpos (aJ es X.env)).any (·.1)=false:=by rfl)(hs:swapsWith (.Call (.Name x p) (e::es) [] cpos) none epos.line X.env=pure false:=by rfl):
  SD X c E (.Try [.Expr (.Call (.Name x p) (e::es) [] cpos) epos] [.ExceptHandler (some (.Name cn np)) (some n) (b₀::suite) hpos] [] [] pos) (sTry F as hd i su):=by
 refine⟨PS.imp (zK3 G hr hg hm hk hb ha.h hgc hmc hN hi hn (ts:=tS X.K c E0 su) (fun ea=>(hsu ea).h) hex hst hfr hdb hdc he hpl hs) fun D σ H=>?_⟩;rintro⟨env,B,W,cf,w⟩;unfold sTry at w;cases e0:evOs (as.map Am.o) env with
 |er C fs=>rw[e0]at w;exact w.elim
 |no=>rw[e0]at w;exact w.elim
 |ok r=>
 rw[e0]at w;refine qZz cf (show(evOs (as.map Am.o) env).wp (fun r' =>r' =r) _ by rw[e0];rfl) fun r' hr' us H1 W1 g=>?_
 subst hr';dsimp only at w;refine qWc g.cf g.at_ ?_
 cases e1:qZq F as r'.1 r'.2 with
 |no=>rw[e1]at w;exact w.elim
 | ok q=>
   rw[e1]at w;exact fun u H' W' Z g2=>w σ H' W' (g.st.trans g2.fz.st) g2.fz.cf
 | er C fs=>
   rw[e1]at w;obtain⟨hc,w2⟩:=v6 w;rw[aE]at hc;have hli:=of_decide_eq_true hc.2;intro H' Y ox sx er;refine⟨⟨_,rfl⟩,hx C hc.1,fun ea hea=>?_⟩;have ne:∀a o,H' a=some o->a≠ea:=fun a o q z=>by rw[z,hea]at q;cases q
   have sm:Same (hide (hd2 B Y) H') (hide (hd2 B fun _=>0) (upd H' ea (.ext (ExcD ea (.ref (c C)) ox)))):=zH fun a o z q=>⟨by dsimp only[hd2]at *;omega,by rw[qM (ne a o q)];exact q⟩
   have hb3:∀a,B a≠0->∃o,H' a=some o/\Hb o:=fun a z=>by rw[sx.by_ a z];exact g.cf.hb a z
   have cf2:Cf X.K c (r'.2.map vQb) σ (upd H' ea (.ext (ExcD ea (.ref (c C)) ox))) B (fun _=>0):=⟨SlAt.drop (sx.same.trans sm) g.cf.at_,fun a=>by have:=g.cf.nd a;(try dsimp only);omega,fun a z=>by
    obtain⟨o,q,b⟩:=hb3 a z;exact⟨o,by rw[qM (ne a o q)];exact q,b⟩⟩
   have hB0:B ea=0:=by
    grind
   have dE:DAt X.K c (hide (hd2 B fun _=>0) (upd H' ea (.ext (ExcD ea (.ref (c C)) ox)))) (.ref ea) (.nd (.exc C (fs.map (·.1))) (fs.map (·.2))):=by
    have fe:hide (hd2 B fun _=>0) (upd H' ea (.ext (ExcD ea (.ref (c C)) ox))) ea=some (.ext (ExcD ea (.ref (c C)) ox)):=by rw[zK (by dsimp only[hd2];omega),upd_same]
    cases ox with
    | none=>
      cases(show fs=[] from er);exact .nd (k:=.exc C []) (vs:=[]) ⟨rfl,none,fe,rfl⟩ rfl fun i v d a _=>by simp at a
    | some dx=>
      obtain⟨ws,h1,h2,h3⟩:=er;refine .nd (k:=.exc C (fs.map (·.1))) (vs:=ws.map (·.2)) ⟨?_,some dx,fe,?_⟩ h3.len (h3.same sm).r
      ·grind
      ·show hide _ _ dx=some (.xd ((fs.map (·.1)).zip (ws.map (·.2))));rw[←h2,vWs,zK,qM (ne dx _ h1)]
       ·exact h1
       ·by_cases z:B dx=0
        ·exact z
        ·obtain⟨o,q,b⟩:=hb3 dx z;rw[h1]at q;cases q;exact b.elim
   have hl2:i<(r'.2.map vQb).length :=by rw[aP,g.st.len];exact hli
   obtain⟨W',cf3,sm3,z3⟩:=cf2.put (B:=B) (Z:=fun _=>0) (io:=false) (i:=i) (fun _=>rfl) (OAt.fz.mpr ⟨dE,fun _=>rfl⟩) hl2;have w0:∀a,W' a=0:=fun a=>by
    grind
   have st3:Step env σ H B W ((r'.2.map vQb).set i (.s false (.fz (.nd (.exc C (fs.map (·.1))) (fs.map (·.2)))))) (σ.set i (some (.ref ea))) (upd H' ea (.ext (ExcD ea (.ref (c C)) ox))) W' :=by
    refine⟨(g.st.same.trans sx.same).trans (sm.trans sm3),fun a z=>?_,fun a z=>absurd (w0 a) z,fun a z=>?_,fun a _ z=>absurd (w0 a) z,fun j o z=>?_,by rw[cV,aP,g.st.len]⟩
    ·obtain⟨o,q,_⟩:=hb3 a z;rw[qM (ne a o q),sx.by_ a z,g.st.by_ a z]
    ·by_cases y:a=ea
     ·subst y;rw[upd_same]at z;cases z
     ·rw[qM y]at z;exact g.st.dom a (sx.dom a z)
    ·rw [List.getElem?_set] at z;split at z
     ·grind
     ·rw [cN] at z;cases e2:r'.2[j]? with
      |none=>grind
      | some s=>
        rw[e2]at z;cases s with
        |un=>cases z
        |s io o' =>cases o' <;> cases z
   cases e3:su ((r'.2.map vQb).set i (.s false (.fz (.nd (.exc C (fs.map (·.1))) (fs.map (·.2)))))) with
   |no=>rw[e3]at w2;exact w2.elim
   |er _ _=>rw[e3]at w2;exact w2.elim
   | ok o=>
     rw[e3]at w2;cases o with
     |nx _=>exact w2.elim
     |bk _=>exact w2.elim
     |ct _=>exact w2.elim
     | rt r e' =>
       refine⟨_,B,W',cf3,?_⟩;rw[e3];exact fun v σ' H2 W2 Z g3=>w2 v σ' H2 W2 Z ⟨st3.trans g3.st,g3.cf,g3.at_⟩
end
noncomputable def isxD(tb:List (Nat×Bool)):D->Option D
 |.nd (.exc C _) _=>(tb.lookup C).map D.bl
 |_=>none
noncomputable def xfD(Cs:List Nat)(f:Str):D->Option D
 | .nd (.exc C fs) ds=>cond (Cs.contains C) (match(fs.zip ds).lookup f with
   |some (.int i)=>some (.int i)
   |_=>none) none
 |_=>none
theorem qW6:∀{l:List (Nat×β)} {a:Nat} {b:β},l.lookup a=some b->(a,b)∈l
 |[],_,_,h=>by cases h
 | (x,y)::l,a,b,h=>by
   rw[List.lookup_cons]at h;cases z:a == x with
   |true=>grind
   |false=>rw[z]at h;exact aK _ (qW6 h)
theorem vZl{F:Hp}{f:Str}:∀{fs:List Str} {vs:List V} {ds:List D} {d:D},DsAt K c F vs ds->(fs.zip ds).lookup f=some d->∃v,(fs.zip vs).lookup f=some v/\DAt K c F v d
 |[],_,_,_,_,h=>by cases h
 |x::fs,vs,[],_,_,h=>by cases h
 | x::fs,vs,y::ds,d,hd,h=>by
   obtain⟨v,r,rfl,a,b⟩:=hd.un;rw[dW,List.lookup_cons]at h⊢;cases z:f == x with
   |true=>rw[z]at h;cases h;exact⟨v,rfl,a⟩
   |false=>rw[z]at h;exact vZl b h
section
variable{X:Cx}{c:Nat->aV}{E:XK}{e:Expr}{x y f:Str}{p q pos:Pos}{o:Oe}{cv:V}{cu:Value}{tb:List (Nat×Bool)}{Cs:List Nat}
theorem qVx(hk:(∃n,cv=.ty n)\/∃a,cv=.ref a)(rc:RelV cv cu)(hT:∀C b,(C,b)∈tb->ExcKit X.K (c C)/\bK X.K (.ref (c C)) cu=some b)(hg:Gl X x)(hm:X.mg x=none)(hv:dQ x=some (.builtin "isinstance"))(h2:PE X (.Name y q) (tC cv))(ha:OD X c E e o)(hx:x≠"__name__":=by decide)(hdb:(x == ("__debug__":Str))=false:=by decide)(he:aJ [e, .Name y q] X.env=(false,eval e X.env)::aJ [.Name y q] X.env:=by rfl)(hs2:aJ [.Name y q] X.env=(false,eval (.Name y q) X.env)::aJ [] X.env:=by rfl)(hpl:(cU pos (aJ [.Name y q] X.env)).any (·.1)=false:=by rfl):
  OD X c E (.Call (.Name x p) [e, .Name y q] [] pos) (o1 (isxD tb) o):=by
 refine⟨PE.imp (qXx vKp hg hm hv (wC ha.h (wC h2 qVa hs2) he) hx hdb he hpl) fun σ H Q h=>?_⟩;refine vKs (K:=X.K) (r:=fun u H Q=>∃p c' cv' C ox b,[u,cv]=[.ref p,c']/\((∃n,c' =.ty n)\/∃a,c' =.ref a)/\RelV c' cv' /\H p=some (.ext (ExcD p (.ref C) ox))/\ExcKit X.K C/\bK X.K (.ref C) cv' =some b/\Q (.bl b) H) (fun u H x z Q hx e q=>?_) h;unfold isxD at e;split at e
 ·rename_i C fs ds;obtain⟨p',vs,rfl,⟨_,ox,h1,_⟩,_⟩:=hx.un;cases e1:tb.lookup C with
  |none=>rw[e1]at e;cases e
  | some b=>
    rw[e1]at e;cases e;obtain⟨t1,t2⟩:=hT C b (qW6 e1);exact⟨p',cv,cu,c C,ox,b,rfl,hk,rc,h1,t1,t2,q _ fun _=>.bl b⟩
 ·cases e
theorem zJk(hC:∀C∈Cs,ExcKit X.K (c C)/\PySem.W.hasDictIn X.K (c C)=true/\bO X.K (.ref (c C)) f=some none)(ha:OD X c E e o)(hb:attributeBase e f X.env (eval e X.env)=eval e X.env:=by rfl):OD X c E (.Attribute e f pos) (o1 (xfD Cs f) o):=by
 refine⟨PE.imp (jX6 ha.h hb) fun σ H Q h=>?_⟩;refine vKs (K:=X.K) (r:=fun u H Q=>∃p C dx fs v,u=.ref p/\H p=some (.ext (ExcD p (.ref C) (some dx)))/\H dx=some (.xd fs)/\ExcKit X.K C/\PySem.W.hasDictIn X.K C=true/\bO X.K (.ref C) f=some none/\fs.lookup f=some v/\Q v H) (fun u H x z Q hx e q=>?_) h;unfold xfD at e;split at e
 ·rename_i C fs ds;obtain⟨p',vs,rfl,⟨_,ox,h1,h2⟩,hds⟩:=hx.un;cases hc:Cs.contains C with
  |false=>grind
  | true=>
    rw[hc]at e;obtain⟨k1,k2,k3⟩:=hC C (dP.mp hc);split at e
    ·rename_i i e1;cases e;cases ox with
     |none=>cases(show fs=[] from h2);cases e1
     | some dx=>
       obtain⟨v,l1,l2⟩:=vZl hds e1;cases l2;exact⟨p',c C,dx,_,_,rfl,h1,h2,k1,k2,k3,l1,q _ fun _=>.int i⟩
    ·cases e
 ·cases e
end
end DX
namespace L2
open PySem PySem.Spec PyProof.Rows PySem.Builtin.Str
section
variable{X:Cx}{CX:CXT}{k:Nat}{f:aV}{fd:aG}{ps:List Str}{sp:Sp}{dvs:List V}{ds:List Value}{E:XK}{x:Str}{p pos:Pos}{e:Expr}{es:List Expr}{t:TA}{i:Nat}
theorem zX2(F:FnOk X.prog X.w X.K X.mg X.base CX k f fd ps sp)(hr:Room k X.A)(hk:bT X.K (.ref f)=true)(hb:j8 X.K fd ps ds)(hd:Vals dvs ds)(hx:jS CX X E)(hv:PE X (.Name x p) (tVar i))(ha:PA X (e::es) t)(he:aJ (e::es) X.env=(false,eval e X.env)::aJ es X.env)(hpl:(cU pos (aJ es X.env)).any (·.1)=false):
  PE X (.Call (.Name x p) (e::es) [] pos) (fun σ H Q=>σ[i]?=some (some (.ref f))/\vKr sp dvs E t σ H Q):=by
 intro pins s σ H Q I h;refine eY (thn (hv pins s σ H (fun v H1=>v=.ref f/\H1=H) I ⟨.ref f,h.1,rfl,rfl⟩) fun u s1 ⟨v,H1,I1,rv,ev,eH⟩=>?_);subst ev eH;cases(show u=Value.ref f from rv);refine PySem.W.callWith_K (h₀:=X.base) I1.ok.mod.kin hk (thn (ha pos pins s1 σ H1 _ I1 h.2) fun us s2 ⟨vs,H2,I2,r,q⟩=>⟨I2.kIn,?_⟩) he hpl;exact vZ5 F hr hb hd hx I2 r q
theorem zXg{prog:bQ}{w:bH}{A:cE}{Eh:Value->aX->Prop}{s:aX}{z y:Str}{t u:Tok}{Q:Value->aX->Prop}(hy:(y.length == 0)=false)(hz:z.length+2<=aM)(h:∀l o k,l.map (·.1)=Txt.split z y->o=({cls:=.type "list",data:=.seq (strValues l).toArray }:Obj)->Q (.ref s.heap.objs.size) {s with heap:=s.heap.push o,toks:=k}):
  aR (model prog w) A (call (.builtin "str.split") [.str z t,.str y u]) Q Eh s:=by
 have hn:(partsBetween z (occurrences z y 0 z.length (z.length+1)) y.length).length <=aM:=by
  have:=StrLaws.occ_length_le z y 0 z.length (z.length+1);rw[length_partsBetween];omega
 have hz' :z.length<=aM:=by omega
 by_cases h1:(decide (z.length<y.length) || decide (strKind z<strKind y))=true
 ·exact call_meets F.slot_str_split (eJ _ _ _) F.entry_str_split (F.args_str_split_2 _ _) (meets_str_split_cannot_occur z y t u h1) (h [(z,t)] _ s.toks (by unfold Txt.split;rw[if_pos h1];rfl) rfl)
 ·have h2:=Bool.eq_false_iff.mpr h1;by_cases hf:(occurrences z y 0 z.length (z.length+1)).isEmpty =true
  ·exact call_meets F.slot_str_split (eJ _ _ _) F.entry_str_split (F.args_str_split_2 _ _) (meets_str_split_not_found z y t u h2 hy hf) (h [(z,t)] _ s.toks (by unfold Txt.split;rw[if_neg h1,if_pos hf];rfl) rfl)
  ·refine call_meets F.slot_str_split (eJ _ _ _) F.entry_str_split (F.args_str_split_2 _ _) (meets_str_split_sep z y t u h2 hy (Bool.eq_false_iff.mpr hf) hz' hn) ?_
   have:=h (numbered s.toks (partsBetween z (occurrences z y 0 z.length (z.length+1)) y.length)) {cls:=.type "list",data:=.seq (strsFrom s.toks (partsBetween z (occurrences z y 0 z.length (z.length+1)) y.length)).toArray } (s.toks+(partsBetween z (occurrences z y 0 z.length (z.length+1)) y.length).length) (by rw[numbered_texts];unfold Txt.split;rw[if_neg h1,if_neg hf]) (by rw[strsFrom_eq]);exact this
theorem vV9:∀{l:List (Str×Tok)} {ws:List Str},l.map (·.1)=ws->Vals (ws.map V.str) (strValues l)
 |[],_,e=>by cases e;exact .nil
 | (a,t)::l,_,e=>by
   cases e;exact .cons ⟨t,rfl⟩ (vV9 rfl)
theorem zXh(z y:Str):(Txt.split z y).length <=z.length+2:=by
 unfold Txt.split;split
 ·simp
 ·split
  ·simp
  ·have:=StrLaws.occ_length_le z y 0 z.length (z.length + 1);rw[length_partsBetween];omega
theorem zYa:MtR X "str.split" (fun x vs H Q=>∃z y,x=.str z/\vs=[.str y]/\(y.length == 0)=false/\z.length+2<=aM/\∀l,H l=none->Q (.ref l) (upd H l (.lst ((Txt.split z y).map V.str)))):=by
 intro pins s σ H x xs v us Q I rx rs h;obtain⟨z,y,rfl,rfl,hy,hz,q⟩:=h;obtain⟨t,rfl⟩:=rx;obtain⟨u,rfl,ru⟩:=qQa rs;obtain⟨t2,rfl⟩:=ru;refine zXg hy hz fun l o k e eo=>?_
 subst eo;exact⟨.ref s.heap.objs.size,_,I.laid (t' :=k) (fun b u e=>aU _ e) (aD _) (show v5 X.prog X.w _ _ _ (.lst _) from⟨by rw[aP];exact aS (zXh z y) hz,_,0,vV9 e,Heap.get?_push_at rfl rfl⟩),rfl,q _ I.fresh⟩
end
end L2
namespace DX
open PySem L2 PyProof.Rows
variable{j:Nat}{y:Str}
noncomputable def vV5(tb:List (Nat×Fn))(i:Nat)(as:List Am):SE:=fun env=>match env[i]? with
 | some (.s _ (.fz (.fn j)))=>match tb.lookup j with
   |some F=>qY F as env
   |none=>.no
 |_=>.no
noncomputable def FnT(X:Cx)(c:Nat->aV)(n:Nat)(tb:List (Nat×Fn)):Prop:=∀j F,(j,F)∈tb->∃k fd ps,Room k X.A/\FnOk X.prog X.w X.K X.mg X.base (CXd X.prog X.w) k (c j) fd ps (spD X.K c n F)/\bT X.K (.ref (c j))=true/\j8 X.K fd ps []
section
variable{X:Cx}{c:Nat->aV}{E:XK}{n i:Nat}{tb:List (Nat×Fn)}{x:Str}{p pos:Pos}{e:Expr}{es:List Expr}{as:List Am}
theorem zQ9:FnT X c n []:=fun _ _ h=>by cases h
theorem zYu{k:Nat}{f:aV}{fd:aG}{ps:List Str}{F:Fn}(e1:X.mg y=some (.ref (c j)))(e2:X.mg y=some (.ref f))(hr:Room k X.A)(G:FnOk X.prog X.w X.K X.mg X.base (CXd X.prog X.w) k f fd ps (spD X.K c n F))(hk:bT X.K (.ref f)=true)(hb:j8 X.K fd ps [])(t:FnT X c n tb):FnT X c n ((j,F)::tb):=fun j' F' h=>by
 have e3:c j=f:=Value.ref.inj (Option.some.inj (e1.symm.trans e2));subst e3;rcases aH.mp h with h|h
 ·cases h;exact⟨k,fd,ps,hr,G,hk,hb⟩
 ·exact t j' F' h
theorem vXm(T:FnT X c as.length tb)(hv:PE X (.Name x p) (tVar i))(hx:jS (CXd X.prog X.w) X E)(ha:OsD X c E (e::es) (as.map Am.o))(he:aJ (e::es) X.env=(false,eval e X.env)::aJ es X.env:=by rfl)(hpl:(cU pos (aJ es X.env)).any (·.1)=false:=by rfl):
  ED X c E (.Call (.Name x p) (e::es) [] pos) (vV5 tb i as):=by
 refine⟨fun pins s σ H Q I h=>?_⟩;obtain⟨env,B,W,cf,w⟩:=h;unfold vV5 at w;split at w
 ·rename_i io j e1;split at w
  ·rename_i F e2;obtain⟨v,Z1,R,h1,h2,_⟩:=cf.focus e1;cases v with
   |none=>exact h2.elim
   | some v=>
     have h2' :OAt X.K c (hide (hd2 B W) H) H (.fz (.fn j)) v Z1:=h2;cases h2'.1;obtain⟨k,fd,ps,hr,G,hk,hb⟩:=T j F (qW6 e2);exact zX2 G hr hk hb .nil hx hv ha.h he hpl pins s σ H Q I ⟨h1,vW0 ⟨env,B,W,cf,w⟩⟩
  ·exact w.elim
 ·exact w.elim
noncomputable def vYn(y:Str)(o:Oe):SE:=fun env=>(evO o env).bind fun r=>(opt (rsv r.2 r.1)).bind fun x=>match x with
 |.str z=>cond (!(y.length == 0) && decide (z.length+2<=1000000)) (.ok (.ow .lst (((Txt.split z y).map D.str).map .fz),r.2)) .no
 |_=>.no
theorem zVe{K:aQ}{F:Hp}:∀ws:List Str,DsAt K c F (ws.map V.str) (ws.map D.str)
 |[]=>.nil
 |w::ws=>.cons (.str w) (zVe ws)
theorem jVr{o:Expr}{oo:Oe}{apos cpos p2:Pos}(ho:OD X c E o oo)(m:M1 X o "split" apos (.Constant (.str y) j p2) cpos)(hs:aJ [.Constant (.str y) j p2] X.env=(false,eval (.Constant (.str y) j p2) X.env)::aJ [] X.env:=by rfl):ED X c E (.Call (.Attribute o "split" apos) [.Constant (.str y) j p2] [] cpos) (vYn y oo):=by
 refine⟨PE.imp (zJj F.plainAttrs_str F.slot_str_split F.type_str_split zYa ho.h (wC vYd qVa hs) m.base m.few m.line hs) fun σ H Q h=>?_⟩;obtain⟨env,B,W,cf,w⟩:=h;refine x8 cf (qP.mp w) fun r w1 u H1 W1 g=>?_
 obtain⟨x,e1,w2⟩:=qH w1;cases x with
 | str z=>
   have d0:=jO g.cf g.at_ e1;cases d0;obtain⟨hc,w3⟩:=v6 w2;rw[aE,Bool.not_eq_true']at hc;have hz:=of_decide_eq_true hc.2;refine⟨rfl,z,y,rfl,rfl,hc.1,aS hz (by decide),fun l hl=>?_⟩;refine w3 _ _ W1 _ ((Got.lay g.cf hl (.upd hl) (k:=.lst) upd_same (zVe _)).back g.st)
 |non=>exact w2.elim
 |int _=>exact w2.elim
 |bl _=>exact w2.elim
 |fn _=>exact w2.elim
 |nd _ _=>exact w2.elim
end
end DX
namespace L2
open PySem PySem.Spec PyProof.Rows
def Itsg(x:Str):It:=⟨fun i _=>i<x.cps.size,fun i H v H' =>H' =H/\∃c,x.cps[i]?=some c/\v=.str ⟨#[c]⟩,fun i _=>i=x.cps.size⟩
theorem vWw{P:bQ}{w:bH}{K:aQ}{tg:Expr}{x:Str}{t:Tok}{it:aV}{nm:String}(hnm: ["enumerate","zip","dict_itemiterator","dict_reverseitemiterator","odict_iterator","itertools.zip_longest","itertools.pairwise"].contains nm=false)(W:∀A:cE,A.handled=none->Walks P w A it [it] [it] x.cps.size (SignAt x) fun i h=>h.IsStrIter it nm x t i)(hs:∀(A:cE) (i:Nat) (s:aX) (Q:Value->aX->Prop) (E:Value->aX->Prop),s.heap.IsStrIter it nm x t i->Q (.ref it) s->aR (model P w) A (pyIter (.ref it)) Q E s):Turn P w K tg (Itsg x) [it] it (fun i h=>h.IsStrIter it nm x t i) where
 mem:=by simp
 obj:=fun i h st b hb=>by
  have e:b=it:=by simpa using hb
  subst e;obtain⟨o,e,c,d⟩:=st;grind
 keep:=fun i h h' st k=>by
  obtain⟨o,e,c,d⟩:=st;exact⟨o,k it (by simp) o e,c,d⟩
 item:=by
  intro X hP hw hK hc i pins s σ H E I hf st hg;obtain⟨f0,f1,f2,f3,f4,f5⟩:=hf it (by simp);refine(W X.A (I.ok.hd hc)).item i s _ _ hg st fun v h' tk pv st2 keep=>?_
  obtain⟨cc,u,hcc,rfl⟩:=pv;have I1:Inv X pins σ H {s with heap:=h',toks:=tk}:=I.turned (t' :=tk) (fun b o hb e=>keep b o (by simpa using hb) e) f0 f1 f3 f4 f5;obtain⟨o,e,c,d⟩:=id st2;exact⟨_,rfl,vK4 (s:={s with heap:=h',toks:=tk}) e c d hnm ⟨.str ⟨#[cc]⟩,H,I1,⟨u,rfl⟩,⟨rfl,cc,hcc,rfl⟩,st2,fun b hb=>(hf b hb).1⟩⟩
 done:=by
  intro X hP hw hK hc i pins s σ H E I hf st hg;obtain⟨f0,f1,f2,f3,f4,f5⟩:=hf it (by simp);have hg' :i=x.cps.size:=hg;subst hg';exact(W X.A (I.ok.hd hc)).done s _ _ st fun h' tk keep=>⟨rfl,I.turned (t' :=tk) (fun b o hb e=>keep b o (by simpa using hb) e) f0 f1 f3 f4 f5⟩
 self:=hs
section
variable{X:Cx}{tg:Expr}
noncomputable def iStr(tl:TE):TI:=fun σ H R=>tl σ H fun v H1=>∃x,v=.str x/\R (Itsg x) H1
theorem jJv{l:Expr}{tl:TE}(hl:PE X l tl):PI X tg l (iStr tl):=by
 intro pins s σ H R I h;refine thn (hl pins s σ H _ I h) fun v s1 ⟨y,H1,I1,r1,q1⟩=>?_
 obtain⟨x,e,q⟩:=q1;subst e;obtain⟨t,rfl⟩:=r1;have fin:∀b∈ [s1.heap.objs.size],FpOk X pins H1 b:=fun b hb=>by
  have e:b=s1.heap.objs.size:=by simpa using hb
  subst e;exact I1.fpOk (aD _) (I1.hok.fresh (aD _))
 cases ha:x.cps.all (· < 128)
 ·exact wpAny_pyIter_wide ha ⟨s1.heap.objs.size,[s1.heap.objs.size],_,_,H1,rfl,I1.kept (t' :=s1.toks) fun b o e=>aU _ e,vWw (by decide) (fun A' hA=>Walks.strWide hA _ x t) (fun _ _ _ _ _ st h=>wpAny_pyIter_striter_wide st h),⟨_,aN _ rfl,rfl,rfl⟩,fin,q⟩
 ·exact wpAny_pyIter_ascii ha ⟨s1.heap.objs.size,[s1.heap.objs.size],_,_,H1,rfl,I1.kept (t' :=s1.toks) fun b o e=>aU _ e,vWw (by decide) (fun A' hA=>Walks.strAscii hA _ x t) (fun _ _ _ _ _ st h=>wpAny_pyIter_striter_ascii st h),⟨_,aN _ rfl,rfl,rfl⟩,fin,q⟩
theorem zZ4{its:List Value}:∀{bs:List Bool},Vals (bs.map V.bl) its->∀(j:Nat) v,its[j]?=some v->v=Value.bool (bs.getD j true):=by
 induction its with
 |nil=>intro bs _ j v h;simp at h
 | cons u its ih=>
   intro bs r j v h;cases bs with
   |nil=>cases r
   | cons b bs=>
     cases r with
     | cons h1 h2=>
       cases j with
       |zero=>simp at h;rw[←h];exact h1
       |succ j=>simpa using ih h2 j v (by simpa using h)
theorem vY4(bs:List Bool):((List.range bs.length).all fun i=>bs.getD i true)=bs.all id:=by
 induction bs with
 |nil=>rfl
 | cons b bs ih=>
   rw[aY,List.range_succ_eq_map,List.all_cons,List.all_map,List.all_cons,←ih];rfl
theorem zY8(hc:X.calm=true):jC X (.builtin "all") (fun xs H Q=>∃(p:aV) (bs:List Bool),xs=[.ref p]/\SqL X.K H p (bs.map V.bl)/\Q (.bl (bs.all id)) H):=by
 intro pins s σ H xs us Q I r h;obtain⟨p,bs,rfl,hp,q⟩:=h;obtain⟨u,rfl,ru⟩:=qQa r;cases ru;obtain⟨its,rv,pl,_⟩:=I.list hp;have lp:p<s.heap.objs.size:=by obtain⟨_,e,_⟩:=pl.isList;exact aC e
 have le:its.length=bs.length:=by rw[←rv.length,aP]
 refine call_all_walk (wpAny_pyIter_list pl.isList ?_);refine⟨s.heap.objs.size,_,_,_,_,_,fun j=>bs.getD j true,rfl,Walks.list (A:=X.A.in1) (I.ok.hd hc) s.heap.objs.size p (bW lp) its.toArray,⟨⟨_,aN _ rfl,rfl,rfl⟩,pl.isList.at fun o e=>aU _ e⟩,fun j v s' Q' E' hP hQ=>?_,fun h' tk kk=>?_⟩
 ·cases zZ4 rv j v (by simpa using hP);exact dJ hQ
 ·rw [show its.toArray.size=bs.length by rw [bV,le],vY4];refine⟨.bl _,H,I.kept (t' :=tk) fun b o e=>kk b o (fun z=>?_) (aU _ e),rfl,q⟩;have z' :b=s.heap.objs.size:=by simpa using z
  exact absurd (aC e) (by rw[z'];exact cF _)
theorem zZ3:jC X (.type "int") (fun xs H Q=>∃(x:Str) (n:Int),xs=[.str x]/\PySem.intText? x=some n/\x.length<=640/\Q (.int n) H):=by
 intro pins s σ H xs us Q I r h;obtain⟨x,n,rfl,hn,hl,q⟩:=h;obtain⟨u,rfl,ru⟩:=qQa r;obtain⟨t,rfl⟩:=ru;exact PySem.W.KIN.call_text hn hl ⟨.int n,H,I.tok _,⟨_,rfl⟩,q⟩
end
end L2
namespace DX
open PySem L2 PyProof.Rows
variable{K:aQ}{c:Nat->aV}{F:Hp}
def signsD(x:Str):List D:=x.cps.toList.map fun c=>D.str ⟨#[c]⟩
noncomputable def zJ7:D->Option (List D)
 |.str x=>some (signsD x)
 |_=>none
noncomputable def iS(s:SV):SI:=fun env=>(s env).bind fun r=>(opt (zJ7 r.1)).bind fun ds=>.ok (ds,r.2)
theorem jQ6{x:Str}:ItD K c F (Itsg x) (signsD x):=by
 intro i H T sm hb;unfold signsD;refine⟨fun d hd=>?_,fun hi=>by rw[aP,Array.length_toList]at hi;exact hi⟩;rw[cN,Array.getElem?_toList]at hd;cases q:x.cps[i]? with
 |none=>rw[q]at hd;cases hd
 | some cc=>
   rw[q]at hd;cases hd;refine⟨(Array.getElem?_eq_some_iff.mp q).1,fun y H' z=>?_⟩;obtain⟨rfl,c',e,rfl⟩:=z;rw[q]at e;cases e;exact⟨Same.refl _,.str _⟩
noncomputable def vV6:List D->Option (List Bool)
 |[]=>some []
 |.bl b::r=>(vV6 r).bind fun bs=>some (b::bs)
 |_=>none
theorem vXp:∀{vs:List V} {ds:List D} {bs:List Bool},DsAt K c F vs ds->vV6 ds=some bs->vs=bs.map V.bl
 |vs,[],bs,h,e=>by cases e;rw[h.un0];rfl
 | vs, .bl b::ds,bs,h,e=>by
   obtain⟨v,r,rfl,a,b⟩:=h.un;obtain⟨xs,e3,e4⟩:=bnd e;cases e4;cases a;rw[vXp b e3];rfl
noncomputable def allD:List D->Option D
 |[.nd .lst ds]=>(vV6 ds).bind fun bs=>some (.bl (bs.all id))
 |_=>none
noncomputable def qWf:List D->Option D
 |[.str x]=>cond (decide (x.length<=640)) ((PySem.intText? x).bind fun n=>some (.int n)) none
 |_=>none
section
variable{X:Cx}{c:Nat->aV}{E:XK}{tg e:Expr}{s:SV}{o:Oe}{p pos:Pos}
theorem jW5(h:EV X c E e s):ID' X c E tg e (iS s):=by
 refine⟨PI.imp (jJv h.h) fun σ H R=>?_⟩;rintro⟨env,B,W,cf,w⟩;refine⟨env,B,W,cf,wp_mono (fun r w1 u H1 W1 g=>?_) (fun _ _ he=>he) (qP.mp w)⟩;obtain⟨ds,e1,w2⟩:=qH w1;unfold zJ7 at e1;split at e1
 ·rename_i x e2;cases e1;have:=g.at_;rw[e2]at this;cases this;exact⟨x,rfl,w2 _ H1 W1 g.st g.cf jQ6⟩
 ·cases e1
theorem jYn(hc:X.calm=true)(hg:Gl X "all")(hm:X.mg "all"=none)(ha:OD X c E e o)(he:aJ [e] X.env=[(false,eval e X.env)]:=by rfl)(h0:aJ [] X.env=[]:=by rfl):OD X c E (.Call (.Name "all" p) [e] [] pos) (oL allD [o]):=by
 refine vQu (zY8 hc) (fun us H xs z Q hx e q=>?_) hg hm Boot.«all» (qE ha qK (by rw[he,h0])) (by decide) (by decide) (by rw[he,h0]) (by rw[h0];rfl);unfold allD at e;split at e
 ·obtain⟨u,rfl,h⟩:=ds1 hx;obtain⟨p',vs,rfl,h1,h2⟩:=h.un;obtain⟨bs,e1,e2⟩:=bnd e;cases e2;have:=vXp h2 e1;subst this;exact⟨p',bs,rfl,h1,q _ fun _=>.bl _⟩
 ·cases e
theorem vYf(hg:Gl X "int")(hm:X.mg "int"=none)(ha:OD X c E e o)(he:aJ [e] X.env=[(false,eval e X.env)]:=by rfl)(h0:aJ [] X.env=[]:=by rfl):OD X c E (.Call (.Name "int" p) [e] [] pos) (oL qWf [o]):=by
 refine vZj zZ3 (fun us H xs z Q hx e q=>?_) hg hm Boot.«int» (qE ha qK (by rw[he,h0])) (by decide) (by decide) (by rw[he,h0]) (by rw[h0];rfl);unfold qWf at e;split at e
 ·rename_i x;obtain⟨u,rfl,h⟩:=ds1 hx;cases h;cases hl:decide (x.length<=640) with
  |false=>grind
  | true=>
    rw[hl]at e;obtain⟨n,e1,e2⟩:=bnd e;cases e2;exact⟨x,n,rfl,e1,of_decide_eq_true hl,q _ fun _=>.int n⟩
 ·cases e
end
def eqFB:D->D->Option Bool
 |.int i,.int j=>some (i == j)
 |.str i,.str j=>some (decide (i=j))
 |.bl i,.bl j=>some (i == j)
 |_,_=>none
def eqF(x y:D):Option D:=(eqFB x y).map .bl
def neF(x y:D):Option D:=(eqFB x y).map fun b=>.bl (!b)
section
variable{X:Cx}{K:aQ}{c:Nat->aV}{E:XK}{a b:Expr}{oa ob:Oe}{pos:Pos}
theorem zVc{u w:V}{H:Hp}{x y:D}{z:Bool}(hx:DAt K c H u x)(hy:DAt K c H w y)(e:eqFB x y=some z):scal u w=true/\decide (u=w)=z:=by
 unfold eqFB at e;split at e
 ·cases e;cases hx;cases hy;exact⟨rfl,vJx⟩
 ·cases e;cases hx;cases hy;exact⟨rfl,decide_eq_decide.mpr ⟨fun h=>by cases h;rfl,fun h=>by rw[h]⟩⟩
 ·cases e;cases hx;cases hy;exact⟨rfl,vYo⟩
 ·cases e
theorem zWg:PrS2 K c rEq eqF:=fun u w H x y z Q hx hy e q=>by
 obtain⟨b,e1,rfl⟩:=bL.mp e;obtain⟨h1,h2⟩:=zVc hx hy e1;exact⟨h1,by rw[h2];exact q _ fun _=>.bl _⟩
theorem zWf:PrS2 K c rNe neF:=fun u w H x y z Q hx hy e q=>by
 obtain⟨b,e1,rfl⟩:=bL.mp e;obtain⟨h1,h2⟩:=zVc hx hy e1;exact⟨h1,by rw[h2];exact q _ fun _=>.bl _⟩
theorem vV3(ha:OD X c E a oa)(hb:OD X c E b ob):OD X c E (.Compare a [.Eq] [b] pos) (o2 eqF oa ob):=vZ9 jZe zWg ha hb (qWr _)
theorem jYm(ha:OD X c E a oa)(hb:OD X c E b ob):OD X c E (.Compare a [.NotEq] [b] pos) (o2 neF oa ob):=vZ9 jZd zWf ha hb (qWr _)
theorem jT(ha:OD X c E a oa)(hb:OD X c E b ob):TD X c E (.Compare a [.Eq] [b] pos) (asB (o2 eqF oa ob)):=vQc jZe zWg ha hb (qWr _)
theorem qY4(ha:OD X c E a oa)(hb:OD X c E b ob):TD X c E (.Compare a [.NotEq] [b] pos) (asB (o2 neF oa ob)):=vQc jZd zWf ha hb (qWr _)
end
end DX
namespace RF
open PySem L2 DX PyProof.Rows
noncomputable def vVl:Fn:=fnS 1 1 (sSeq (sSet 1 (owS (oV (oIx (oN 0) (oC (.int 0))))))
  (sSeq (sIf (asB (o2 eqF (oN 1) (oC (.str "if")))) (sRet (eLst [(oV (oIx (oN 0) (oC (.int 1)))),(oV (oIx (oN 0) (oC (.int 2)))),(oV (oIx (oN 0) (oC (.int 3))))])) sNil)
  (sSeq (sIf (asB (o2 inD (oN 1) (.v (qS [(oV (oC (.str "op"))),(oV (oC (.str "bind")))])))) (sRet (eLst [(oV (oIx (oN 0) (oC (.int 2)))),(oV (oIx (oN 0) (oC (.int 3))))])) sNil)
  (sSeq (sIf (asB (o2 inD (oN 1) (.v (qS [(oV (oC (.str "rest"))),(oV (oC (.str "field")))])))) (sRet (eLst [(oV (oIx (oN 0) (oC (.int 1))))])) sNil)
  (sSeq (sIf (asB (o2 eqF (oN 1) (oC (.str "record")))) (sRet (compS 2 [] [0,1] (iV (oV (oIx (oN 0) (oC (.int 1))))) (gT 2 (gCn (gN 0) (gCn (gN 1) gNl))) bTrue (oV (oN 1)))) sNil)
  (sSeq (sIf (asB (o2 eqF (oN 1) (oC (.str "call")))) (sRet (eF listD [(oIx (oN 0) (oC (.int 2)))])) sNil)
  (sRet (eLst []))))))))
noncomputable def xZ:Fn:=fnS 1 0 (sSeq (sIf (bOr (asB (oCh leS leS (oC (.str "a")) (oN 0) (oC (.str "z")))) (asB (oCh leS leS (oC (.str "A")) (oN 0) (oC (.str "Z"))))) (sRet (owS (oV (oC (.str "letter"))))) sNil)
  (sSeq (sIf (asB (oCh leS leS (oC (.str "0")) (oN 0) (oC (.str "9")))) (sRet (owS (oV (oC (.str "figure"))))) sNil)
  (sSeq (sIf (asB (o2 eqF (oN 0) (oC (.str " ")))) (sRet (owS (oV (oC (.str "blank"))))) sNil)
  (sRet (owS (oV (oC (.str "single"))))))))
noncomputable def vVm:SS:=(sAug 3 (i2 fun i j=>i+j) (oV (oC (.int 1))))
noncomputable def qJd:Fn:=fnS 2 2 (sSeq (sSet 2 (qY xZ [(.v (oV (oIx (oN 0) (oN 1))))]))
  (sSeq (sSet 3 (owS (oV (oAdd (oN 1) (oC (.int 1))))))
  (sSeq (zW (bAnd (asB (o2 neF (oN 2) (oC (.str "single")))) (bAnd (asB (oLt (oN 3) (oL lenD [(oN 0)]))) (asB (o2 eqF (.v (fzS (qY xZ [(.v (oV (oIx (oN 0) (oN 3))))]))) (oN 2))))) vVm 100000)
  (sRet (eMv 3)))))
noncomputable def yR:SS:=(sSeq (sSet 3 (qY qJd [(.v (oV (oN 0))),(.v (oV (oN 2)))]))
  (sSeq (sIf (asB (o2 neF (oIx (oN 0) (oN 2)) (oC (.str " ")))) (jG (eMu1 (pOf (oN 1)) (owS (qZv (oN 0) (some (oV (oN 2))) (some (oV (oN 3))))) apF)) sNil)
  (sSet 2 (owS (oV (oN 3))))))
noncomputable def qQr:Fn:=fnS 1 3 (sSeq (sSet 1 (eLst []))
  (sSeq (sSet 2 (owS (oV (oC (.int 0)))))
  (sSeq (zW (asB (oLt (oN 2) (oL lenD [(oN 0)]))) yR 100000)
  (sRet (eMv 1)))))
noncomputable def qQy:Fn:=fnS 3 0 (sSeq (vWj [9] "row" (pOf (oN 0)) (owS (oV (oN 1))))
  (sSeq (vWj [9] "words" (pOf (oN 0)) (owS (oV (oN 2))))
  (vWj [9] "place" (pOf (oN 0)) (owS (oV (oC (.int 0)))))))
def vC:Fn:=fnS 1 0 (sSeq (sIf (asB (oLt (oFld [9] "place" (oN 0)) (oL lenD [(oFld [9] "words" (oN 0))]))) (sRet (owS (oV (oIx (oFld [9] "words" (oN 0)) (oFld [9] "place" (oN 0)))))) sNil)
    (sRet (owS (oV (oC (.str ""))))))
def vW:Fn:=fnS 1 1 (sSeq (sSet 1 (vL 9 "ahead" vC (.b (pOf (oN 0))) []))
    (sSeq (vKv [9] "place" (i2 fun i j=>i+j) (pOf (oN 0)) (oV (oC (.int 1))))
    (sRet (eMv 1))))
def qT:Fn:=fnS 2 0 (sSeq (sIf (asB (o2 neF (.v (fzS (vL 9 "ahead" vC (.b (pOf (oN 0))) []))) (oN 1))) (sRet (owS (oV (oC (.bl false))))) sNil)
    (sSeq (vKv [9] "place" (i2 fun i j=>i+j) (pOf (oN 0)) (oV (oC (.int 1))))
    (sRet (owS (oV (oC (.bl true)))))))
def qL:Fn:=fnS 2 0 (sIf (bNot (asB (.v (fzS (vL 9 "passed" qT (.io 0) [(.v (oV (oN 1)))]))))) (jZ 23 "row" (oV (oFld [9] "row" (oN 0)))) sNil)
noncomputable def xO:Fn:=fnS 1 0 (sRet (owS (oV (oAnd (oCh (c2 fun i j=>decide (i<=j)) (c2 fun i j=>decide (i<=j)) (oC (.int 1)) (oL lenD [(oN 0)]) (oC (.int 8))) (oL allD [(.v (fzS (compS 1 [] [0] (iS (oV (oN 0))) (gN 0) bTrue (oV (oCh leS leS (oC (.str "a")) (oN 0) (oC (.str "z")))))))])))))
noncomputable def y9:Fn:=fnS 1 0 (sRet (owS (oV (oAnd (.v (fzS (qY xO [(.v (oV (oN 0)))]))) (o2 niD (oN 0) (oC (.tup [(.str "flip"),(.str "pick"),(.str "if"),(.str "rest")])))))))
noncomputable def wK:Fn:=fnS 1 0 (sRet (owS (oV (oAnd (oCh leS leS (oC (.str "0")) (.v (qZv (oN 0) none (some (oV (oC (.int 1)))))) (oC (.str "9"))) (oAnd (oLe (oL lenD [(oN 0)]) (oC (.int 12))) (oOr (o2 eqF (oN 0) (oC (.str "0"))) (o2 neF (oIx (oN 0) (oC (.int 0))) (oC (.str "0")))))))))
noncomputable def zG:Fn:=fnS 1 1 (sSeq (sSet 1 (vL 9 "next_word" vW (.io 0) []))
  (sSeq (sIf (bNot (asB (.v (fzS (qY y9 [(.v (oV (oN 1)))]))))) (jZ 23 "row" (oV (oFld [9] "row" (oN 0)))) sNil)
  (sRet (eMv 1))))
noncomputable def vY:Fn:=fnS 3 1 (sSeq (sSet 3 (vL 9 "next_word" vW (.io 0) []))
  (sSeq (sIf (bOr (bNot (asB (.v (fzS (qY wK [(.v (oV (oN 3)))]))))) (bNot (asB (oCh (c2 fun i j=>decide (i<=j)) (c2 fun i j=>decide (i<=j)) (oN 1) (oL qWf [(oN 3)]) (oN 2))))) (jZ 23 "row" (oV (oFld [9] "row" (oN 0)))) sNil)
  (sRet (owS (oV (oL qWf [(oN 3)]))))))
noncomputable def xB(R_read_term:Fn):Fn:=fnS 1 1 (sSeq (sSet 1 (qY zG [(.io 0)]))
  (sSeq (jG (vL 9 "need" qL (.io 0) [(.v (oV (oC (.str ":"))))]))
  (sRet (owS (qS [(oV (oN 1)),(fzS (qY R_read_term [(.io 0)]))])))))
noncomputable def wB:Fn:=fnS 1 1 (sSeq (sSet 1 (qY vY [(.io 0),(.v (oV (oC (.int 0)))),(.v (oV (oC (.int 999999999999))))]))
  (sSeq (jG (vL 9 "need" qL (.io 0) [(.v (oV (oC (.str ":"))))]))
  (sRet (owS (qS [(oV (oN 1)),(fzS (qY vY [(.io 0),(.v (oV (oC (.int 1)))),(.v (oV (oC (.int 1000000))))]))])))))
noncomputable def wI(R_read_term:Fn):SS:=(jG (eMu1 (pOf (oN 4)) (vV5 [(30,R_read_term),(31,wB),(32,(xB R_read_term)),(33,zG)] 3 [(.io 0)]) apF))
noncomputable def wX(R_read_term:Fn):Fn:=fnS 4 1 (sSeq (sIf (asB (.v (fzS (vL 9 "passed" qT (.io 0) [(.v (oV (oN 1)))])))) (sRet (owS (qS []))) sNil)
  (sSeq (sSet 4 (eLst [(fzS (vV5 [(30,R_read_term),(31,wB),(32,(xB R_read_term)),(33,zG)] 3 [(.io 0)]))]))
  (sSeq (zW (asB (.v (fzS (vL 9 "passed" qT (.io 0) [(.v (oV (oC (.str ","))))])))) (wI R_read_term) 100000)
  (sSeq (jG (vL 9 "need" qL (.io 0) [(.v (oV (oN 1)))]))
  (sSeq (sIf (asB (oGt (oL lenD [(oN 4)]) (oN 2))) (jZ 23 "row" (oV (oFld [9] "row" (oN 0)))) sNil)
  (sRet (owS (svA tupleD [(oN 4)]))))))))
noncomputable def wU:Fn:=fnS 2 0 (sIf (asB (oLt (.v (svA lenTD [(oN 1)])) (oL lenD [(oN 1)]))) (jZ 23 "row" (oV (oFld [9] "row" (oN 0)))) sNil)
noncomputable def yO(R_read_term:Fn):Fn:=fnS 3 1 (sSeq (sSet 3 (qY (wX R_read_term) [(.io 0),(.v (oV (oN 1))),(.v (oV (oC (.int 6)))),(.v (oV (oN 2)))]))
  (sSeq (sIf (asB (o2 eqF (oL lenD [(oN 3)]) (oC (.int 0)))) (jZ 23 "row" (oV (oFld [9] "row" (oN 0)))) sNil)
  (sSeq (jG (qY wU [(.b (pOf (oN 0))),(.v (fzS (compS 1 [] [0] (iV (oV (oN 3))) (gN 0) bTrue (oV (oIx (oN 0) (oC (.int 0)))))))]))
  (sRet (eMv 3)))))
noncomputable def qY1(R_read_term:Fn):Fn:=fnS 1 1 (sSeq (sSet 1 (qY (wX R_read_term) [(.io 0),(.v (oV (oC (.str ")")))),(.v (oV (oC (.int 3)))),(.v (oV (oC (.fn 30))))]))
  (sSeq (sIf (asB (oLt (oL lenD [(oN 1)]) (oC (.int 3)))) (jZ 23 "row" (oV (oFld [9] "row" (oN 0)))) sNil)
  (sRet (owS (qS [(oV (oC (.str "if"))),(oV (oIx (oN 1) (oC (.int 0)))),(oV (oIx (oN 1) (oC (.int 1)))),(oV (oIx (oN 1) (oC (.int 2))))])))))
noncomputable def qJv:Fn:=fnS 1 2 (sSeq (sSet 1 (qY vY [(.io 0),(.v (oV (oC (.int 1)))),(.v (oV (oC (.int 1000000))))]))
  (sSeq (jG (vL 9 "need" qL (.io 0) [(.v (oV (oC (.str "/"))))]))
  (sSeq (sSet 2 (qY vY [(.io 0),(.v (oV (oAdd (oN 1) (oC (.int 1))))),(.v (oV (oC (.int 1000000))))]))
  (sSeq (jG (vL 9 "need" qL (.io 0) [(.v (oV (oC (.str ")"))))]))
  (sRet (owS (qS [(oV (oC (.str "flip"))),(oV (oN 1)),(oV (oN 2))])))))))
noncomputable def qJt(R_read_term:Fn):Fn:=fnS 1 2 (sSeq (sSet 1 (qY R_read_term [(.io 0)]))
  (sSeq (jG (vL 9 "need" qL (.io 0) [(.v (oV (oC (.str ","))))]))
  (sSeq (sSet 2 (qY vY [(.io 0),(.v (oV (oC (.int 1)))),(.v (oV (oC (.int 999999999999))))]))
  (sSeq (jG (vL 9 "need" qL (.io 0) [(.v (oV (oC (.str ")"))))]))
  (sRet (owS (qS [(oV (oC (.str "rest"))),(oV (oN 1)),(oV (oN 2))])))))))
noncomputable def qZm(R_read_term:Fn):Fn:=fnS 2 0 (sSeq (jG (vL 9 "need" qL (.io 0) [(.v (oV (oC (.str "("))))]))
  (sSeq (sIf (asB (o2 eqF (oN 1) (oC (.str "if")))) (sRet (qY (qY1 R_read_term) [(.io 0)])) sNil)
  (sSeq (sIf (asB (o2 eqF (oN 1) (oC (.str "flip")))) (sRet (qY qJv [(.io 0)])) sNil)
  (sSeq (sIf (asB (o2 eqF (oN 1) (oC (.str "pick")))) (sRet (owS (qS [(oV (oC (.str "pick"))),(fzS (qY (yO R_read_term) [(.io 0),(.v (oV (oC (.str ")")))),(.v (oV (oC (.fn 31))))]))]))) sNil)
  (sRet (qY (qJt R_read_term) [(.io 0)]))))))
noncomputable def qZl(R_read_term:Fn):Fn:=fnS 2 0 (sSeq (sIf (bNot (asB (.v (fzS (qY y9 [(.v (oV (oN 1)))]))))) (jZ 23 "row" (oV (oFld [9] "row" (oN 0)))) sNil)
  (sSeq (sIf (asB (.v (fzS (vL 9 "passed" qT (.io 0) [(.v (oV (oC (.str "("))))])))) (sRet (owS (qS [(oV (oC (.str "call"))),(oV (oN 1)),(fzS (qY (wX R_read_term) [(.io 0),(.v (oV (oC (.str ")")))),(.v (oV (oC (.int 3)))),(.v (oV (oC (.fn 30))))]))]))) sNil)
  (sRet (owS (qS [(oV (oC (.str "name"))),(oV (oN 1))])))))
noncomputable def qJu(R_read_term:Fn):Fn:=fnS 1 2 (sSeq (sSet 1 (vL 9 "next_word" vW (.io 0) []))
  (sSeq (sIf (asB (o2 eqF (oN 1) (oC (.str "(")))) (sSeq (sSet 2 (qY R_read_term [(.io 0)]))
  (sSeq (jG (vL 9 "need" qL (.io 0) [(.v (oV (oC (.str ")"))))]))
  (sRet (eMv 2)))) sNil)
  (sSeq (sIf (asB (o2 eqF (oN 1) (oC (.str "{")))) (sRet (owS (qS [(oV (oC (.str "record"))),(fzS (qY (yO R_read_term) [(.io 0),(.v (oV (oC (.str "}")))),(.v (oV (oC (.fn 32))))]))]))) sNil)
  (sSeq (sIf (asB (o2 inD (oN 1) (oC (.tup [(.str "flip"),(.str "pick"),(.str "if"),(.str "rest")])))) (sRet (qY (qZm R_read_term) [(.io 0),(.v (oV (oN 1)))])) sNil)
  (sSeq (sIf (asB (.v (fzS (qY wK [(.v (oV (oN 1)))])))) (sRet (owS (qS [(oV (oC (.str "num"))),(oV (oL qWf [(oN 1)]))]))) sNil)
  (sRet (qY (qZl R_read_term) [(.io 0),(.v (oV (oN 1)))])))))))
noncomputable def vVp(R_read_term:Fn):SS:=(sSet 1 (owS (qS [(oV (oC (.str "field"))),(oV (oN 1)),(fzS (qY zG [(.io 0)]))])))
noncomputable def yN(R_read_term:Fn):Fn:=fnS 1 1 (sSeq (sSet 1 (qY (qJu R_read_term) [(.io 0)]))
  (sSeq (zW (asB (.v (fzS (vL 9 "passed" qT (.io 0) [(.v (oV (oC (.str "."))))])))) (vVp R_read_term) 100000)
  (sRet (eMv 1))))
noncomputable def qY3(R_read_term:Fn):SS:=(sSet 1 (owS (qS [(oV (oC (.str "op"))),(oV (oC (.str "*"))),(oV (oN 1)),(fzS (qY (yN R_read_term) [(.io 0)]))])))
noncomputable def xC(R_read_term:Fn):Fn:=fnS 1 1 (sSeq (sSet 1 (qY (yN R_read_term) [(.io 0)]))
  (sSeq (zW (asB (.v (fzS (vL 9 "passed" qT (.io 0) [(.v (oV (oC (.str "*"))))])))) (qY3 R_read_term) 100000)
  (sRet (eMv 1))))
noncomputable def vWh(R_read_term:Fn):SS:=(sSeq (sSet 2 (vL 9 "next_word" vW (.io 0) []))
  (sSet 1 (owS (qS [(oV (oC (.str "op"))),(oV (oN 2)),(oV (oN 1)),(fzS (qY (xC R_read_term) [(.io 0)]))]))))
noncomputable def xL(R_read_term:Fn):Fn:=fnS 1 2 (sSeq (sSet 1 (qY (xC R_read_term) [(.io 0)]))
  (sSeq (zW (asB (o2 inD (.v (fzS (vL 9 "ahead" vC (.b (pOf (oN 0))) []))) (.v (qS [(oV (oC (.str "+"))),(oV (oC (.str "-")))])))) (vWh R_read_term) 100000)
  (sRet (eMv 1))))
noncomputable def zF:Nat->Fn
 | 0=>fun _=>.no
 | h + 1=>fnS 1 2 (sSeq (sSet 1 (qY (xL (zF h)) [(.io 0)]))
   (sSeq (sIf (asB (o2 inD (.v (fzS (vL 9 "ahead" vC (.b (pOf (oN 0))) []))) (.v (qS [(oV (oC (.str "="))),(oV (oC (.str "<")))])))) (sSeq (sSet 2 (vL 9 "next_word" vW (.io 0) []))
   (sSet 1 (owS (qS [(oV (oC (.str "op"))),(oV (oN 2)),(oV (oN 1)),(fzS (qY (xL (zF h)) [(.io 0)]))])))) sNil)
   (sRet (eMv 1))))
noncomputable def yW:Fn:=fnS 1 0 (sSeq (jG (vL 9 "need" qL (.io 0) [(.v (oV (oC (.str "="))))]))
  (sRet (qY (zF 12) [(.io 0)])))
noncomputable def qXa:Fn:=fnS 1 2 (sSeq (sSet 1 (qY zG [(.io 0)]))
  (sSeq (jG (vL 9 "need" qL (.io 0) [(.v (oV (oC (.str "("))))]))
  (sSeq (sSet 2 (qY (wX (zF 12)) [(.io 0),(.v (oV (oC (.str ")")))),(.v (oV (oC (.int 3)))),(.v (oV (oC (.fn 33))))]))
  (sSeq (jG (qY wU [(.b (pOf (oN 0))),(.v (oV (oN 2)))]))
  (sRet (owS (qS [(oV (oC (.str "def"))),(oV (oN 1)),(oV (oN 2)),(fzS (qY yW [(.io 0)]))])))))))
noncomputable def qW9:Fn:=fnS 1 1 (sSeq (sSet 1 (qY zG [(.io 0)]))
  (sRet (owS (qS [(oV (oC (.str "let"))),(oV (oN 1)),(fzS (qY yW [(.io 0)]))]))))
noncomputable def qZn:Fn:=fnS 1 2 (sSeq (sSet 1 (qY vY [(.io 0),(.v (oV (oC (.int 0)))),(.v (oV (oC (.int 30))))]))
  (sSeq (sSet 2 (qY zG [(.io 0)]))
  (sRet (owS (qS [(oV (oC (.str "again"))),(oV (oN 1)),(oV (oN 2)),(fzS (qY yW [(.io 0)]))])))))
noncomputable def qZk:Fn:=fnS 1 1 (sSeq (sSet 1 (vL 9 "next_word" vW (.io 0) []))
  (sSeq (sIf (asB (o2 eqF (oN 1) (oC (.str "def")))) (sRet (qY qXa [(.io 0)])) sNil)
  (sSeq (sIf (asB (o2 eqF (oN 1) (oC (.str "let")))) (sRet (qY qW9 [(.io 0)])) sNil)
  (sSeq (sIf (asB (o2 eqF (oN 1) (oC (.str "again")))) (sRet (qY qZn [(.io 0)])) sNil)
  (sSeq (sIf (asB (o2 inD (oN 1) (.v (qS [(oV (oC (.str "see"))),(oV (oC (.str "ask")))])))) (sRet (owS (qS [(oV (oN 1)),(fzS (qY (zF 12) [(.io 0)]))]))) sNil)
  (jZ 23 "row" (oV (oFld [9] "row" (oN 0)))))))))
noncomputable def qQ7:SS:=(sSeq (sIf (asB (o2 inD (oN 3) (.v (qS [(oV (oC (.str "("))),(oV (oC (.str "{")))])))) (sAug 1 (i2 fun i j=>i+j) (oV (oC (.int 1)))) (sIf (asB (o2 inD (oN 3) (.v (qS [(oV (oC (.str ")"))),(oV (oC (.str "}")))])))) (sAug 1 (i2 fun i j=>i - j) (oV (oC (.int 1)))) sNil))
  (sSet 2 (owS (oV (oL max2D [(oN 2),(oN 1)])))))
noncomputable def jQ:Fn:=fnS 1 3 (sSeq (sSet 1 (owS (oV (oC (.int 0)))))
  (sSeq (sSet 2 (owS (oV (oC (.int 0)))))
  (sSeq (sFor (iV (oV (oN 0))) (gN 3) qQ7)
  (sRet (eMv 2)))))
noncomputable def zZ7(F_depth_h:Fn):SS:=(sSet 1 (owS (oV (oL max2D [(oN 1),(.v (fzS (qY F_depth_h [(.v (oV (oN 2)))])))]))))
noncomputable def qQ1:Nat->Fn
 | 0=>fun _=>.no
 | h + 1=>fnS 1 2 (sSeq (sSet 1 (owS (oV (oC (.int 0)))))
   (sSeq (sFor (iV (fzS (qY vVl [(.v (oV (oN 0)))]))) (gN 2) (zZ7 (qQ1 h)))
   (sRet (owS (oV (oAdd (oN 1) (oC (.int 1))))))))
noncomputable def vF:Fn:=fnS 2 3 (sSeq (sIf (asB (oGt (oL lenD [(oN 1)]) (oC (.int 1000)))) (jZ 23 "row" (oV (oN 0))) sNil)
  (sSeq (sSet 2 (qY qQr [(.v (oV (oN 1)))]))
  (sSeq (sIf (bOr (asB (oGt (oL lenD [(oN 2)]) (oC (.int 60)))) (asB (oGt (.v (fzS (qY jQ [(.v (oV (oN 2)))]))) (oC (.int 10))))) (jZ 23 "row" (oV (oN 0))) sNil)
  (sSeq (sSet 3 (vKz 9 qQy [(.v (oV (oN 0))),(.v (oV (oN 2)))]))
  (sSeq (sSet 4 (qY qZk [(.io 3)]))
  (sSeq (sIf (bOr (asB (o2 neF (.v (fzS (vL 9 "ahead" vC (.b (pOf (oN 3))) []))) (oC (.str "")))) (asB (oGt (.v (fzS (qY (qQ1 62) [(.v (oV (oIx (oN 4) (o1 negD (oC (.int 1))))))]))) (oC (.int 10))))) (jZ 23 "row" (oV (oN 0))) sNil)
  (sRet (eMv 4))))))))
noncomputable def qX4:SS:=(sSeq (sIf (asB (o2 eqF (oN 3) (oC (.int 40)))) (jZ 23 "row" (oV (oN 3))) sNil)
  (sSeq (sSet 5 (qY vF [(.v (oV (oN 3))),(.v (oV (oN 4)))]))
  (sSeq (sIf (asB (o2 neF (o2 eqF (oIx (oN 5) (oC (.int 0))) (oC (.str "ask"))) (o2 eqF (oN 3) (oSub (oL lenD [(oN 1)]) (oC (.int 1)))))) (jZ 23 "row" (oV (oN 3))) sNil)
  (jG (eMu1 (pOf (oN 2)) (owS (oV (oN 5))) apF)))))
noncomputable def wN:Fn:=fnS 1 5 (sSeq (sSet 1 (vYn "\n" (oN 0)))
  (sSeq (sSet 2 (eLst []))
  (sSeq (sFor (iL enL [(oV (oN 1))]) (gT 2 (gCn (gN 3) (gCn (gN 4) gNl))) qX4)
  (sRet (eMv 2)))))
end RF
namespace DX
open PySem L2 PyProof.Rows
variable{c:Nat->aV}{X:Cx}
noncomputable def jX0(K:aQ):R2:=fun x y H Q=>∃l i xs,x=.ref l/\y=.int i/\SqL K H l xs/\xs.length * i.toNat<=1000/\i.natAbs<=1000/\∀p,H p=none->Q (.ref p) (upd H p (.lst (List.replicate i.toNat xs).flatten))
theorem vWv{xs:List V}{us:List Value}(h:Vals xs us):∀n,Vals (List.replicate n xs).flatten (List.replicate n us).flatten
 | 0=>.nil
 | n + 1=>by
   rw[cT,cT,List.flatten_cons,List.flatten_cons];exact h.append (vWv h n)
theorem zW0{K:aQ}{F:Hp}{vs:List V}{ds:List D}(h:DsAt K c F vs ds):∀n,DsAt K c F (List.replicate n vs).flatten (List.replicate n ds).flatten
 | 0=>.nil
 | n + 1=>by
   rw[cT,cT,List.flatten_cons,List.flatten_cons];exact h.append (zW0 h n)
theorem jQm:OpR X (binaryOp .Mult) (jX0 X.K):=by
 intro pins s σ H x y v u Q I rx ry h
 obtain⟨l,i,xs,rfl,rfl,hH,hz,hi,q⟩:=h
 cases rx
 obtain⟨tk,rfl⟩:=ry
 obtain⟨its,r,pl,_⟩:=I.list hH
 obtain⟨⟨cls,dd,data,sl⟩,n,ho,hc,_,hd⟩:=pl
 simp only at hc hd
 subst hc hd
 have hl:=r.length
 have hsz' :its.length * i.toNat<=1000:=by rw[←hl];exact hz
 have hsz2:its.toArray.size * i.toNat<=1000:=by rw[bV];exact hsz'
 refine wpAny_binaryOp_repeat_ref (T:="list") (U:="int") (by decide) ⟨_,ho,rfl⟩ (fun s' =>typeIs_int s' i tk) noFill_list_mul F.fills_int_mul F.slot_int_rmul repeat_list F.slot_int_index.lookup
  (call_meets F.slot_int_rmul (typeIs_int s i tk) F.entry_int_rmul (F.args_int_rmul_2 _ _) (lm_int_rmul_list_any i tk l its.toArray n dd sl)
   ⟨ho,rfl,⟨_,ho,rfl⟩,call_meets F.slot_list_mul ⟨_,ho,rfl⟩ F.entry_list_mul (F.args_list_mul_2 _ _)
    (lm_list_mul_any l its.toArray n dd sl i tk (by simp[Builtin.List.listFitsIndex];omega) (by omega) (by simp[Builtin.List.listTooLong,aM];omega))
    ⟨ho,?_⟩⟩)
 rw[listMul_foldl_if]
 have e2:((List.replicate i.toNat xs).flatten).length <=aM:=by
  rw[List.length_flatten,List.map_replicate,List.sum_replicate_nat,Nat.mul_comm]
  exact aS hz (by decide)
 exact⟨.ref _,_,I.lnew (t' :=s.toks) (vWv r i.toNat) e2,rfl,q _ I.fresh⟩
noncomputable def vK7(a b:Oe):SE:=fun env=>(evO a env).bind fun r1=>(evO b r1.2).bind fun r2=>cond (r1.1.st || b.isP) ((qY7 [r1.1,r2.1] r2.2).bind fun q=>match q.1 with
 |[x,.int i]=>(opt (qVl x)).bind fun ds=>cond (decide (ds.length * i.toNat<=1000/\i.natAbs<=1000)) (.ok (.ow .lst ((List.replicate i.toNat ds).flatten.map .fz),q.2)) .no
 |_=>.no) .no
theorem jVl{E:XK}{a b:Expr}{pos:Pos}{oa ob:Oe}(ha:OD X c E a oa)(hb:OD X c E b ob):ED X c E (.BinOp a .Mult b pos) (vK7 oa ob):=by
 refine⟨PE.imp (zJi jQm ha.h hb.h) fun σ H Q=>?_⟩;rintro⟨env,B,W,cf,w⟩;refine x8 cf (qP.mp w) fun r1 w1 u H1 W1 g1=>?_
 refine x8 g1.cf (wp_mono (fun _ q=>q) (fun C fs he=>he.back g1.st) (qP.mp w1)) fun r2 w2 v H2 W2 g2=>?_
 obtain⟨hs,w3⟩:=v6 w2;obtain⟨xs,env4,W4,st4,cf4,vw,w4⟩:=rsvBs_wp (hs:=[r1.1,r2.1]) (us:=[u,v]) g2.cf ⟨g1.next g2 hs,g2.at_,trivial⟩ (qP.mp w3);dsimp only at w4;split at w4
 ·rename_i x i;obtain⟨ds,e1,w5⟩:=qH w4;obtain⟨hl,w7⟩:=v6 w5;obtain⟨hl1,hl2⟩:=of_decide_eq_true hl;obtain⟨p,vs,rfl,b1,b2⟩:=vw.1.lst vD e1;cases vw.2.1.dat vD;refine⟨p,i,vs,rfl,rfl,b1,by rw[b2.len];exact hl1,hl2,fun l hq=>?_⟩;have sm:Same H2 (upd H2 l (.lst (List.replicate i.toNat vs).flatten)):=.upd hq;exact w7 (.ref l) _ W4 _ ((Got.lay cf4 hq sm (k:=.lst) upd_same ((zW0 b2 i.toNat).same (qXy cf4 hq sm))).back ((g1.st.trans g2.st).trans st4))
 ·exact w4.elim
end DX
namespace X13
open PySem L2 DX RF PyProof.Rows
noncomputable def x5:SS:=(sSet 4 (owS (oV (o2 addS (oN 4) (oIx (oC (.str "mnouvwxyz")) (oMod (oDiv (oN 0) (oAdd (oN 5) (oC (.int 1)))) (oC (.int 9))))))))
noncomputable def xT:SS:=(sSeq (sSet 4 (owS (oV (oC (.str "")))))
  (sSeq (sFor (iL rg1 [(oV (oMod (oN 0) (oC (.int 7))))]) (gN 5) x5)
  (sSeq (sSet 6 (owS (oV (oMod (oDiv (oN 0) (oC (.int 7))) (oAdd (oL lenD [(oN 4)]) (oC (.int 1)))))))
  (jG (eMu1 (pOf (oN 2)) (owS (oV (o2 addS (o2 addS (.v (qZv (oN 4) none (some (oV (oN 6))))) (oIx (oC (.str "bcdeghjq")) (oN 3))) (.v (qZv (oN 4) (some (oV (oN 6))) none))))) apF)))))
noncomputable def wY:Fn:=fnS 2 5 (sSeq (sSet 2 (eLst []))
  (sSeq (sFor (iL rg1 [(oV (oN 1))]) (gN 3) xT)
  (sRet (eMv 2))))
noncomputable def v8:Fn:=fnS 2 2 (sSeq (sIf (bAnd (asB (oGt (oL lenD [(oN 0)]) (oC (.int 1)))) (asB (o2 eqF (oMod (oN 1) (oC (.int 3))) (oC (.int 1))))) (sSeq (sSet 2 (owS (oV (oMod (oDiv (oN 1) (oC (.int 3))) (oL lenD [(oN 0)])))))
  (sSeq (sSet 3 (owS (oV (oAdd (oC (.int 1)) (oMod (oDiv (oN 1) (oC (.int 24))) (oSub (oL lenD [(oN 0)]) (oC (.int 1))))))))
  (sSetI (pOf (oN 0)) (pOf (oN 2)) (owS (oV (oIx (oN 0) (oMod (oAdd (oN 2) (oN 3)) (oL lenD [(oN 0)])))))))) sNil)
  (sRet (eMv 0)))
noncomputable def j7:SS:=(sIf (asB (o2 inD (oIx (oN 0) (oN 1)) (.v (fzS (eSlL (oN 0) none (some (oV (oN 1)))))))) (sRet (owS (oV (oC (.bl true))))) sNil)
noncomputable def zV:Fn:=fnS 1 1 (sSeq (sFor (iL rg1 [(oV (oL lenD [(oN 0)]))]) (gN 1) j7)
  (sRet (owS (oV (oC (.bl false))))))
noncomputable def vM:Fn:=fnS 2 0 (sSeq (sIf (asB (o2 eqF (oN 1) (oC (.int 1)))) (sRet (owS (oV (o2 addS (oC (.str ",")) (oL (qXg ", ") [(oN 0)]))))) sNil)
  (sSeq (sIf (asB (o2 eqF (oN 1) (oC (.int 2)))) (sRet (owS (oV (o2 addS (oL (qXg ", ") [(oN 0)]) (oC (.str ",")))))) sNil)
  (sSeq (sIf (asB (o2 eqF (oN 1) (oC (.int 3)))) (sRet (owS (oV (oL (qXg ", , ") [(oN 0)])))) sNil)
  (sSeq (sIf (asB (o2 eqF (oN 1) (oC (.int 4)))) (sRet (owS (oV (oL (qXg " ") [(oN 0)])))) sNil)
  (sRet (owS (oV (oL (qXg ", ") [(oN 0)]))))))))
noncomputable def xM:Fn:=fnS 3 5 (sSeq (sSet 3 (qXj v8 (compS 2 [(1,1)] [0] (iL rg1 [(oV (oN 0))]) (gN 0) bTrue (oV (oMod (oAdd (oMul (oN 1) (oC (.int 31))) (oMul (oC (.int 37)) (oN 0))) (oPow (oC (.int 10)) (oC (.int 12)))))) (pOf (oN 1))))
  (sSeq (sSet 4 (compS 2 [(1,1)] [0] (iL rg1 [(oV (oN 0))]) (gN 0) bTrue (oV (oAdd (oC (.int 1)) (oMod (oAdd (oN 1) (oMul (oC (.int 104729)) (oN 0))) (oPow (oC (.int 10)) (oC (.int 6))))))))
  (sSeq (sSet 5 (compS 2 [] [0,1] (iL zpA [(oV (oN 3)),(oV (oN 4))]) (gT 2 (gCn (gN 0) (gCn (gN 1) gNl))) bTrue (oV (o2 addS (o2 addS (oL strD [(oN 0)]) (oC (.str ":"))) (oL strD [(oN 1)])))))
  (sSeq (sSet 6 (owS (oV (o2 addS (o2 addS (oC (.str "ask pick(")) (.v (fzS (qY vM [(.v (oV (oN 5))),(.v (oV (oN 2)))])))) (oC (.str ")"))))))
  (sSeq (sSet 7 (compS 2 [] [0,1] (iL zpA [(oV (oN 3)),(oV (oN 4))]) (gT 2 (gCn (gN 0) (gCn (gN 1) gNl))) bTrue (qS [(oV (oN 0)),(oV (oN 1))])))
  (sRet (owS (qS [(oV (oN 6)),(oV (oAnd (oCh (c2 fun i j=>decide (i<=j)) (c2 fun i j=>decide (i<=j)) (oC (.int 1)) (oN 0) (oC (.int 6))) (oNot (.v (fzS (qY zV [(.v (oV (oN 3)))])))))),(fzS (eLst [(qS [(oV (oC (.str "ask"))),(qS [(oV (oC (.str "pick"))),(svA tupleD [(oN 7)])])])]))]))))))))
noncomputable def wD:Fn:=fnS 3 4 (sSeq (sSet 3 (qXj v8 (qY wY [(.v (oV (oN 1))),(.v (oV (oN 0)))]) (pOf (oN 1))))
  (sSeq (sSet 4 (compS 2 [] [0,1] (iL enL [(oV (oN 3))]) (gT 2 (gCn (gN 0) (gCn (gN 1) gNl))) bTrue (oV (o2 addS (o2 addS (oN 1) (oC (.str ": "))) (oL strD [(oN 0)])))))
  (sSeq (sSet 5 (compS 2 [] [0,1] (iL enL [(oV (oN 3))]) (gT 2 (gCn (gN 0) (gCn (gN 1) gNl))) bTrue (qS [(oV (oN 1)),(qS [(oV (oC (.str "num"))),(oV (oN 0))])])))
  (sSeq (sSet 6 (owS (oV (o2 addS (o2 addS (oC (.str "ask {")) (.v (fzS (qY vM [(.v (oV (oN 4))),(.v (oV (oN 2)))])))) (oC (.str "}"))))))
  (sRet (owS (qS [(oV (oN 6)),(oV (oAnd (oCh (c2 fun i j=>decide (i<=j)) (c2 fun i j=>decide (i<=j)) (oC (.int 1)) (oN 0) (oC (.int 6))) (oNot (.v (fzS (qY zV [(.v (oV (oN 3)))])))))),(fzS (eLst [(qS [(oV (oC (.str "ask"))),(qS [(oV (oC (.str "record"))),(svA tupleD [(oN 5)])])])]))])))))))
noncomputable def xN:Fn:=fnS 3 2 (sSeq (sSet 3 (qXj v8 (compS 2 [(1,1)] [0] (iL rg1 [(oV (oN 0))]) (gN 0) bTrue (oV (oMod (oAdd (oN 1) (oMul (oC (.int 7919)) (oN 0))) (oPow (oC (.int 10)) (oC (.int 12)))))) (pOf (oN 1))))
  (sSeq (sSet 4 (owS (oV (o2 addS (o2 addS (oC (.str "ask f(")) (.v (fzS (qY vM [(.v (fzS (compS 1 [] [0] (iV (oV (oN 3))) (gN 0) bTrue (oV (oL strD [(oN 0)]))))),(.v (oV (oN 2)))])))) (oC (.str ")"))))))
  (sRet (owS (qS [(oV (oN 4)),(oV (oLe (oN 0) (oC (.int 3)))),(fzS (eLst [(qS [(oV (oC (.str "ask"))),(qS [(oV (oC (.str "call"))),(oV (oC (.str "f"))),(svA tupleD [(.v (fzS (compS 1 [] [0] (iV (oV (oN 3))) (gN 0) bTrue (qS [(oV (oC (.str "num"))),(oV (oN 0))]))))])])])]))])))))
noncomputable def y8:Fn:=fnS 3 3 (sSeq (sSet 3 (qXj v8 (qY wY [(.v (oV (oN 1))),(.v (oV (oN 0)))]) (pOf (oN 1))))
  (sSeq (sSet 4 (owS (oV (o2 addS (o2 addS (oC (.str "def f(")) (.v (fzS (qY vM [(.v (oV (oN 3))),(.v (oV (oN 2)))])))) (oC (.str ") = 1\nask 0"))))))
  (sSeq (sSet 5 (owS (oV (oAnd (oLe (oN 0) (oC (.int 3))) (oNot (.v (fzS (qY zV [(.v (oV (oN 3)))]))))))))
  (sRet (owS (qS [(oV (oN 4)),(oV (oN 5)),(fzS (eLst [(qS [(oV (oC (.str "def"))),(oV (oC (.str "f"))),(svA tupleD [(oN 3)]),(qS [(oV (oC (.str "num"))),(oV (oC (.int 1)))])]),(qS [(oV (oC (.str "ask"))),(qS [(oV (oC (.str "num"))),(oV (oC (.int 0)))])])]))]))))))
noncomputable def qWn(F_law_alike_h:Fn):SS:=(sIf (bNot (asB (.v (fzS (qY F_law_alike_h [(.v (oV (oN 2))),(.v (oV (oN 3)))]))))) (sRet (owS (oV (oC (.bl false))))) sNil)
noncomputable def zQ:Nat->Fn
 | 0=>fun _=>.no
 | h + 1=>fnS 2 2 (sSeq (sIf (asB (o1 (isiD "str") (oN 1))) (sRet (owS (oV (oAnd (o1 (isiD "str") (oN 0)) (o2 eqF (oN 0) (oN 1)))))) sNil)
   (sSeq (sIf (asB (o1 (isiD "int") (oN 1))) (sRet (owS (oV (oAnd (o1 (isiD "int") (oN 0)) (oAnd (oNot (o1 (isiD "bool") (oN 0))) (o2 eqF (oN 0) (oN 1))))))) sNil)
   (sSeq (sIf (bOr (asB (o2 neF (o1 (isiD "tuple") (oN 1)) (o1 (isiD "tuple") (oN 0)))) (asB (o2 neF (o1 (isiD "list") (oN 1)) (o1 (isiD "list") (oN 0))))) (sRet (owS (oV (oC (.bl false))))) sNil)
   (sSeq (sIf (asB (o2 neF (oL lenD [(oN 0)]) (oL lenD [(oN 1)]))) (sRet (owS (oV (oC (.bl false))))) sNil)
   (sSeq (sFor (iL zpA [(oV (oN 0)),(oV (oN 1))]) (gT 2 (gCn (gN 2) (gCn (gN 3) gNl))) (qWn (zQ h)))
   (sRet (owS (oV (oC (.bl true))))))))))
noncomputable def yC:SS:=(sSeq (sIf (bOr (asB (o1 (isxD [(23,false)]) (oN 2))) (bOr (asB (o1 (isxD [(23,false)]) (oN 2))) (bOr (asB (o1 (isxD [(23,false)]) (oN 2))) (asB (o1 (isxD [(23,false)]) (oN 2)))))) (sRet (owS (oV (oC (.bl false))))) sNil)
  (sSeq (sIf (bOr (asB (o1 (isxD [(23,false)]) (oN 2))) (bOr (asB (o1 (isxD [(23,false)]) (oN 2))) (asB (o1 (isxD [(23,false)]) (oN 2))))) (sRet (owS (oV (oC (.bl false))))) sNil)
  (sSeq (sIf (bOr (bNot (asB (o1 (isxD [(23,true)]) (oN 2)))) (bNot (asB (o1 (isxD [(23,true)]) (oN 2))))) (sRet (owS (oV (oC (.bl false))))) sNil)
  (sRet (owS (oV (oAnd (o1 (isiD "int") (o1 (xfD [23] "row") (oN 2))) (oAnd (oNot (o1 (isiD "bool") (o1 (xfD [23] "row") (oN 2)))) (o2 eqF (o1 (xfD [23] "row") (oN 2)) (oN 1))))))))))
noncomputable def jU:Fn:=fnS 2 1 (sSeq (sTry wN [(.v (oV (oN 0)))] (fun C=> [23].contains C) 2 yC)
  (sRet (owS (oV (oC (.bl false))))))
noncomputable def zL:Fn:=fnS 1 8 (sSeq (sSet 1 (owS (oV (oMod (oMul (oAdd (oMod (oN 0) (oPow (oC (.int 10)) (oC (.int 15)))) (oC (.int 7))) (oC (.int 630360016))) (oC (.int 2147483647))))))
  (sSeq (sSet 2 (owS (oV (oMod (oDiv (oN 1) (oC (.int 4))) (oC (.int 8))))))
  (sSeq (sSet 3 (owS (oV (oDiv (oN 1) (oC (.int 512))))))
  (sSeq (sSet 4 (owS (oV (oC (.int 0)))))
  (sSeq (sIf (asB (o2 eqF (oMod (oDiv (oN 1) (oC (.int 32))) (oC (.int 4))) (oC (.int 1)))) (sSet 4 (owS (oV (oAdd (oC (.int 1)) (oMod (oDiv (oN 1) (oC (.int 128))) (oC (.int 4))))))) sNil)
  (sSeq (sIf (bAnd (asB (oGt (oN 4) (oC (.int 2)))) (asB (oLt (oN 2) (oC (.int 2))))) (sSet 4 (owS (oV (oC (.int 1))))) sNil)
  (sSeq (sIf (asB (o2 eqF (oMod (oN 1) (oC (.int 4))) (oC (.int 0)))) (sAsg (fzS (qY xM [(.v (oV (oN 2))),(.v (oV (oN 3))),(.v (oV (oN 4)))])) (gT 3 (gCn (gN 5) (gCn (gN 6) (gCn (gN 7) gNl))))) (sIf (asB (o2 eqF (oMod (oN 1) (oC (.int 4))) (oC (.int 1)))) (sAsg (fzS (qY wD [(.v (oV (oN 2))),(.v (oV (oN 3))),(.v (oV (oN 4)))])) (gT 3 (gCn (gN 5) (gCn (gN 6) (gCn (gN 7) gNl))))) (sIf (asB (o2 eqF (oMod (oN 1) (oC (.int 4))) (oC (.int 2)))) (sAsg (fzS (qY xN [(.v (oV (oN 2))),(.v (oV (oN 3))),(.v (oV (oN 4)))])) (gT 3 (gCn (gN 5) (gCn (gN 6) (gCn (gN 7) gNl))))) (sAsg (fzS (qY y8 [(.v (oV (oN 2))),(.v (oV (oN 3))),(.v (oV (oN 4)))])) (gT 3 (gCn (gN 5) (gCn (gN 6) (gCn (gN 7) gNl))))))))
  (sSeq (sSet 8 (owS (oV (oMod (oDiv (oMod (oN 0) (oPow (oC (.int 10)) (oC (.int 15)))) (oC (.int 3))) (oC (.int 4))))))
  (sSeq (sSet 5 (owS (oV (o2 addS (o2 mulS (oC (.str "let a = 1\n")) (oN 8)) (oN 5)))))
  (sSeq (sIf (bOr (asB (oGt (oN 4) (oC (.int 0)))) (bNot (asB (oN 6)))) (sRet (qY jU [(.v (oV (oN 5))),(.v (oV (oN 8)))])) sNil)
  (sRet (qY (zQ 8) [(.v (fzS (qY wN [(.v (oV (oN 5)))]))),(.v (fzS (eCat (.v (fzS (vK7 (.v (fzS (eLst [(qS [(oV (oC (.str "let"))),(oV (oC (.str "a"))),(qS [(oV (oC (.str "num"))),(oV (oC (.int 1)))])])]))) (oN 8)))) (oN 7))))]))))))))))))
noncomputable def qK5:SS:=(sIf (bNot (asB (.v (fzS (qY zL [(.v (oV (oN 1)))]))))) (sRet (owS (oV (oC (.bl false))))) sNil)
noncomputable def zJt:Fn:=fnS 1 1 (sSeq (sFor (iV (fzS (eSlL (oN 0) none (some (oV (oC (.int 30))))))) (gN 1) qK5)
  (sRet (qY zL [(.v (oV (oL lenD [(oN 0)])))])))
end X13
namespace DX
open PySem L2 PyProof.Rows
variable{args env e1 e2 e:Ev}{C n:Nat}{it:SI}{g:SG}{ds xs vs:List D}{h1:Hn}{hs:List Hn}{ss:List SV}{XI:Res (List D×Ev)}{body:SS}{d:D}{X:Res Out}{as:List Am}{cs:List (Nat×Nat)}{T:List Nat}{el:SV}{XV:Res (D×Ev)}
section
variable{env e:Ev}{o:O}{d:D}{X:Res Out}{s t s1 s2:SS}{i n m:Nat}{a:SE}{v:SV}{b:ST}{q:Bool}
noncomputable def finO(n:Nat):Out->Res (O×Ev)
 |.nx e=>.ok (.fz .non,outs n e)
 |.rt r e=>.ok (r,outs n e)
 |_=>.no
theorem vE{o:Out}{X:Res (O×Ev)}(h:s (args ++ List.replicate m .un)=.ok o)(k:finO n o=X):fnS n m s args=X:=by
 unfold fnS;rw[h];cases o <;> exact k
theorem xG{fs:List (Str×D)}(h:s (args ++ List.replicate m .un)=.er C fs):fnS n m s args=.er C fs:=by
 unfold fnS;rw[h];rfl
theorem qO(k:t env=X):sSeq sNil t env=X:=k
theorem qYl(k:sSeq s1 (sSeq s2 t) env=X):sSeq (sSeq s1 s2) t env=X:=by
 rw[←k];unfold sSeq;cases s1 env with
 |ok o=>cases o <;> rfl
 |er C fs=>rfl
 |no=>rfl
theorem qD(h:b env=.ok (q,e))(k:cond q (sSeq s1 t e) (sSeq s2 t e)=X):sSeq (sIf b s1 s2) t env=X:=by
 unfold sSeq sIf;rw[h];cases q <;> exact k
theorem xR(h:a env=.ok (o,e))(k: .ok (.rt o e)=X):sSeq (sRet a) t env=X:=by
 unfold sSeq sRet;rw[h];exact k
theorem qC(h:a env=.ok (o,e))(k:t (e.set i (.s false o))=X):sSeq (sSet i a) t env=X:=by
 unfold sSeq sSet;rw[h];exact k
theorem qZ5(h:a env=.ok (o,e))(k:t e=X):sSeq (jG a) t env=X:=by
 unfold sSeq jG;rw[h];exact k
theorem jD(h:s env=.ok (.nx e))(k:t e=X):sSeq s t env=X:=by
 unfold sSeq;rw[h];exact k
theorem xK{fs:List (Str×D)}(h:s env=.er C fs):sSeq s t env=.er C fs:=by
 unfold sSeq;rw[h];rfl
theorem vQe(h:s env=.ok (.rt o e))(k: .ok (.rt o e)=X):sSeq s t env=X:=by
 unfold sSeq;rw[h];exact k
theorem yG(h:b env=.ok (q,e))(k:cond q (s1 e) (s2 e)=X):sIf b s1 s2 env=X:=by
 unfold sIf;rw[h];exact k
theorem wE(h:a env=.ok (o,e))(k: .ok (.rt o e)=X):sRet a env=X:=by
 unfold sRet;rw[h];exact k
theorem qJ3(h:a env=.ok (o,e))(k: .ok (.nx (e.set i (.s false o)))=X):sSet i a env=X:=by
 unfold sSet;rw[h];exact k
theorem qXq(h:a env=.ok (o,e))(k: .ok (.nx e)=X):jG a env=X:=by
 unfold jG;rw[h];exact k
theorem qQl(h:it env=.ok (ds,e))(k:forS g s ds e=X):sFor it g s env=X:=by
 unfold sFor;rw[h];exact k
theorem jXl{e' :Ev}(h:v env=.ok (d,e))(h2:g d e=some e')(k: .ok (.nx e')=X):sAsg v g env=X:=by
 unfold sAsg;rw[h];show(opt (g d e)).bind _=X;rw[h2];exact k
end
section
variable{env e e1 e2:Ev}{o:O}{d x y z:D}{a a1 a2:SE}{v v1 v2:SV}{b:ST}{q q1:Bool}{XE:Res (O×Ev)}{XV:Res (D×Ev)}{XB:Res (Bool×Ev)}{oa ob:Oe}
theorem zZ(h:v env=.ok (d,e))(k: .ok (.fz d,e)=XE):owS v env=XE:=by
 unfold owS;rw[h];exact k
theorem zP(h:a env=.ok (o,e))(k: .ok (fzO o,e)=XV):fzS a env=XV:=by
 unfold fzS;rw[h];exact k
theorem vS(h:oV oa env=.ok (d,e))(h2:blOf d=some q)(k: .ok (q,e)=XB):asB oa env=XB:=by
 unfold asB;rw[h];show(opt (blOf d)).bind _=_;rw[h2];exact k
theorem qQm{s t:ST}(h:s env=.ok (q,e))(k:cond q (t e) (.ok (false,e))=XB):bAnd s t env=XB:=by
 unfold bAnd;rw[h];exact k
theorem qQz{s t:ST}(h:s env=.ok (q,e))(k:cond q (.ok (true,e)) (t e)=XB):bOr s t env=XB:=by
 unfold bOr;rw[h];exact k
theorem not_of{s:ST}(h:s env=.ok (q,e))(k: .ok (!q,e)=XB):bNot s env=XB:=by
 unfold bNot;rw[h];exact k
theorem zC{XH:Res (Hn×Ev)}(h:v env=.ok (d,e))(k: .ok (.d d,e)=XH):evO (.v v) env=XH:=by
 show(v env).bind _=_;rw[h];exact k
theorem xV{os:List Oe}{XH:Res (List Hn×Ev)}(h:evO oa env=.ok (h1,e))(c:(h1.st || os.all Oe.isP)=true)(h2:evOs os e=.ok (hs,e1))(k: .ok (h1::hs,e1)=XH):evOs (oa::os) env=XH:=by
 show(evO oa env).bind _=_;rw[h];show cond (h1.st || os.all Oe.isP) ((evOs os e).bind _) _=_;rw[c,h2];exact k
theorem zY3{XH:Res (List D×Ev)}(k: .ok ([],env)=XH):evVs [] env=XH:=k
theorem qN{XH:Res (List D×Ev)}(h:v env=.ok (d,e))(h2:evVs ss e=.ok (ds,e1))(k: .ok (d::ds,e1)=XH):evVs (v::ss) env=XH:=by
 show(v env).bind _=_;rw[h];show(evVs ss e).bind _=_;rw[h2];exact k
theorem xD(h:evVs ss env=.ok (ds,e))(c:decide (ds.length<=1000)=true)(k: .ok (.tup ds,e)=XV):qS ss env=XV:=by
 unfold qS;rw[h];show cond (decide (ds.length<=1000)) _ _=_;grind
theorem vYg(h:evVs ss env=.ok (ds,e))(c:decide (ds.length<=1000)=true)(k: .ok (.ow .lst (ds.map .fz),e)=XE):eLst ss env=XE:=by
 unfold eLst;rw[h];show cond (decide (ds.length<=1000)) _ _=_;grind
theorem zJ6{f:D->D->Option D}{h2:Hn}(h:evO oa env=.ok (h1,e))(h' :evO ob e=.ok (h2,e1))(c:(h1.st || ob.isP)=true)(r1:rsv e1 h1=some x)(r2:rsv e1 h2=some y)(r3:f x y=some z)(k: .ok (z,e1)=XV):sv2 f oa ob env=XV:=by
 unfold sv2;rw[h];show(evO ob e).bind _=_;rw[h'];show cond (h1.st || ob.isP) ((opt (rsv e1 h1)).bind _) _=_;rw[c,r1];rw[r2];show(opt (f x y)).bind _=_;rw[r3];exact k
theorem jZ8{f:List D->Option D}{os:List Oe}(h:evOs os env=.ok (hs,e))(r1:rsvs e hs=some xs)(r3:f xs=some z)(k: .ok (z,e)=XV):svN f os env=XV:=by
 unfold svN;rw[h];show(opt (rsvs e hs)).bind _=_;rw[r1];show(opt (f xs)).bind _=_;rw[r3];exact k
theorem vQd{f:List D->Option D}{os:List Oe}(h:evOs os env=.ok (hs,e))(r1:qY7 hs e=.ok (xs,e1))(r3:f xs=some z)(k: .ok (z,e1)=XV):svA f os env=XV:=by
 unfold svA;rw[h];show(qY7 hs e).bind _=_;rw[r1];show(opt (f xs)).bind _=_;rw[r3];exact k
theorem vK3(h:v env=.ok (d,e))(r:qY6 d=some ds)(k: .ok (ds,e)=XI):iV v env=XI:=by
 unfold iV;rw[h];show(opt (qY6 d)).bind _=_;rw[r];exact k
theorem qXh{f:List D->Option (List D)}(h:evVs ss env=.ok (xs,e))(r:f xs=some ds)(k: .ok (ds,e)=XI):iL f ss env=XI:=by
 unfold iL;rw[h];show(opt (f xs)).bind _=_;rw[r];exact k
end
section
variable{env e e1:Ev}{F:Fn}{as:List Am}{hs:List Hn}{XE:Res (O×Ev)}{t0 t:List O×Ev}{args:Ev}{q:O×Ev}{os:List O}
theorem qJc(h0:qQb (zM as hs) env=some t0)(h1:qQb (wT as hs) t0.2=some t)(h2:j9 (zM as hs) t0.1 as hs t.1=some args)(h3:F args=.ok q)(h4:qZp as q.2=some os)(h5:vJa t0.1 q.1 os=true)(k: .ok (q.1,putS env (zM as hs) t0.1 (putS env (wT as hs) os t.2))=XE):qZq F as hs env=XE:=by
 unfold qZq;rw[h0];show(opt (qQb (wT as hs) t0.2)).bind _=_;rw[h1];show(opt (j9 (zM as hs) t0.1 as hs t.1)).bind _=_;rw[h2];show(F args).bind _=_;rw[h3];show(opt (qZp as q.2)).bind _=_;rw[h4];show cond (vJa t0.1 q.1 os) _ _=_;grind
theorem vQ5{fs:List (Str×D)}(h0:qQb (zM as hs) env=some t0)(h1:qQb (wT as hs) t0.2=some t)(h2:j9 (zM as hs) t0.1 as hs t.1=some args)(h3:F args=.er C fs):qZq F as hs env=.er C fs:=by
 unfold qZq;rw[h0];show(opt (qQb (wT as hs) t0.2)).bind _=_;rw[h1];show(opt (j9 (zM as hs) t0.1 as hs t.1)).bind _=_;rw[h2];show(F args).bind _=_;rw[h3];rfl
theorem jK(h:evOs (as.map Am.o) env=.ok (hs,e))(k:qZq F as hs e=XE):qY F as env=XE:=by
 unfold qY;rw[h];exact k
end
section
variable{env e e1:Ev}{s k:SP}{a:SE}{v:SV}{i j:Nat}{π:List Nat}{o x:O}{os:List O}{XE:Res (O×Ev)}{X:Res Out}
theorem vQj{f:List O->O->Option (O×List O)}{os0:List O}{z:O×List O}(h:s env=some (.p i π))(h0:qVm env i π=some os0)(h1:a env=.ok (x,e))(h2:qVm e i π=some os)(c:stab env e i π=true)(h3:f os x=some z)(k: .ok (z.1,setE e i π (.ow .lst z.2))=XE):eMu1 s a f env=XE:=by
 unfold eMu1;rw[h];show(opt (qVm env i π)).bind _=_;rw[h0];rw[h1];show(opt (qVm e i π)).bind _=_;rw[h2];show cond (stab env e i π) ((opt (f os x)).bind _) _=_;rw[c,h3];exact k
theorem zKl{hk:Hn}{y:D}{n:Int}(h1:a env=.ok (x,e))(h:s e=some (.p i π))(h2:k e=some hk)(h3:rsv e hk=some y)(h4:yF y=some n)(h5:qVm e i π=some os)(c:ixN os.length n=some j)(w: .ok (.nx (setE e i π (.ow .lst (os.set j x))))=X):sSetI s k a env=X:=by
 unfold sSetI;rw[h1];show(opt (s e)).bind _=_;rw[h];show(opt (k e)).bind _=_;rw[h2];show(opt (rsv e hk)).bind _=_;rw[h3];show(opt (yF y)).bind _=_;rw[h4];show(opt (qVm e i π)).bind _=_;rw[h5];show(opt (ixN os.length n)).bind _=_;rw[c];exact w
end
theorem xQ(h1:g d env=some e1)(h2:body e1=.ok (.nx e2))(k:forS g body ds e2=X):forS g body (d::ds) env=X:=by
 show(opt (g d env)).bind _=_;rw[h1];show(body e1).bind _=_;rw[h2];exact k
theorem jVd{o:O}(h1:g d env=some e1)(h2:body e1=.ok (.rt o e2))(k: .ok (.rt o e2)=X):forS g body (d::ds) env=X:=by
 show(opt (g d env)).bind _=_;rw[h1];show(body e1).bind _=_;rw[h2];exact k
theorem vJu{fs:List (Str×D)}(h1:g d env=some e1)(h2:body e1=.er C fs):forS g body (d::ds) env=.er C fs:=by
 show(opt (g d env)).bind _=_;rw[h1];show(body e1).bind _=_;rw[h2];rfl
section
variable{env e e1 e2:Ev}{o:O}{d x y z:D}{h1 h2 h3:Hn}{oa ob:Oe}{XV:Res (D×Ev)}{XH:Res (Hn×Ev)}{f:D->D->Option D}{f1:D->Option D}
theorem vQ(h:evO oa env=.ok (h1,e))(k:hnV e h1=XV):oV oa env=XV:=by
 cases oa with
 | p s=>
   change (opt (s env)).bind _=_ at h;show(opt (s env)).bind _=_;cases q:s env with
   |none=>rw[q]at h;cases h
   |some a=>rw[q]at h;cases h;exact k
 | v s=>
   change (s env).bind _=_ at h;show s env=_;cases q:s env with
   |no=>rw[q]at h;cases h
   |er C fs=>rw[q]at h;cases h
   |ok a=>rw[q]at h;cases h;exact k
theorem qJa{s:SP}(h:s env=some h1)(k: .ok (h1,env)=XH):evO (.p s) env=XH:=by
 show(opt (s env)).bind _=_;rw[h];exact k
theorem qK0{s:SP}(h:evO (.p s) env=.ok (h1,e)):s env=some h1/\e=env:=by
 change (opt (s env)).bind _=_ at h;cases q:s env with
 |none=>rw[q]at h;cases h
 |some a=>rw[q]at h;cases h;exact⟨rfl,rfl⟩
theorem qB(h:evO oa env=.ok (h1,e))(h' :evO ob e=.ok (h2,e1))(c:(h1.st || ob.isP)=true)(r1:rsv e1 h1=some x)(r2:rsv e1 h2=some y)(r3:f x y=some z)(k: .ok (.d z,e1)=XH):evO (o2 f oa ob) env=XH:=by
 cases oa with
 |v s=>exact zC (zJ6 h h' c r1 r2 r3 rfl) k
 | p s=>
   cases ob with
   |v t=>exact zC (zJ6 h h' c r1 r2 r3 rfl) k
   | p t=>
     obtain⟨q1,rfl⟩:=qK0 h;obtain⟨q2,rfl⟩:=qK0 h';refine qJa (h1:=.d z) ?_ k;show(s _).bind _=_;grind
theorem xS(h:evO oa env=.ok (h1,e))(h' :evO ob e=.ok (h2,e1))(c:(h1.st || (oa.isP && ob.isP))=true)(r:rsv e1 h2=some y)(r3:hnIx e1 y h1=some (.d z))(k: .ok (.d z,e1)=XH):evO (oIx oa ob) env=XH:=by
 have vv:∀(hc:h1.st=true),((evO oa env).bind fun r=>(evO ob r.2).bind fun r' =>cond r.1.st ((opt (rsv r'.2 r'.1)).bind fun y=>(opt (hnIx r'.2 y r.1)).bind fun h=>hnV r'.2 h) .no)=.ok (z,e1):=fun hc=>by
  rw[h];show(evO ob e).bind _=_;rw[h'];show cond h1.st ((opt (rsv e1 h2)).bind _) _=_;rw[hc,r];show(opt (hnIx e1 y h1)).bind _=_;rw[r3];rfl
 cases oa with
 |v s=>exact zC (vv (by simpa[Oe.isP] using c)) k
 | p s=>
   cases ob with
   |v t=>exact zC (vv (by simpa[Oe.isP] using c)) k
   | p t=>
     obtain⟨q1,rfl⟩:=qK0 h;obtain⟨q2,rfl⟩:=qK0 h';refine qJa (h1:=.d z) ?_ k;grind
theorem qKa{os:List Oe}{g:List D->Option D}(h:evOs os env=.ok (hs,e))(r1:rsvs e hs=some xs)(r3:g xs=some z)(k: .ok (.d z,e)=XH):evO (oL g os) env=XH:=by
 have vv:=jZ8 h r1 r3 rfl;unfold oL;split
 ·rename_i s;change ((opt (s env)).bind _).bind _=_ at h;cases q:s env with
  |none=>rw[q]at h;cases h
  | some a=>
    rw[q]at h;change cond (a.st || ([]:List Oe).all Oe.isP) (Res.ok ([a],env)) Res.no=_ at h;cases w:(a.st || ([]:List Oe).all Oe.isP) with
    |false=>grind
    | true=>
      rw[w]at h;cases h;refine qJa (h1:=.d z) ?_ k;rw[q];show(rsv env a).bind _=_;obtain⟨x,e1,r1⟩:=Option.bind_eq_some_iff.mp r1;cases r1;grind
 ·exact zC vv k
theorem zVb{XH:Res (List Hn×Ev)}(k: .ok ([],env)=XH):evOs (([]:List Am).map Am.o) env=XH:=k
theorem x9{s:SV}{XH:Res (List Hn×Ev)}(h:s env=.ok (d,e))(h2:evOs (as.map Am.o) e=.ok (hs,e1))(k: .ok (.d d::hs,e1)=XH):evOs ((Am.v s::as).map Am.o) env=XH:=xV (zC h rfl) rfl h2 k
theorem jZt{s:SP}{XH:Res (List Hn×Ev)}(h:s env=some h1)(c:(h1.st || (as.map Am.o).all Oe.isP)=true)(h2:evOs (as.map Am.o) env=.ok (hs,e1))(k: .ok (h1::hs,e1)=XH):evOs ((Am.b s::as).map Am.o) env=XH:=xV (qJa h rfl) c h2 k
theorem vYm{i:Nat}{XH:Res (List Hn×Ev)}(h:pIo i env=some (.p i []))(h2:evOs (as.map Am.o) env=.ok (hs,e1))(k: .ok (.p i []::hs,e1)=XH):evOs ((Am.io i::as).map Am.o) env=XH:=xV (qJa h rfl) rfl h2 k
end
theorem qK1{t:ST}{q:Ev}{XE:Res (O×Ev)}(h:it env=.ok (ds,e))(c:(vWp cs T n e.length && decide (ds.length<=lim))=true)(h2:qQd g t el ds (capS cs .un e 0 n)=.ok (vs,q))(k: .ok (.ow .lst (vs.map .fz),putI cs 0 q (qVi cs 0 n e))=XE):compS n cs T it g t el env=XE:=by
 unfold compS;rw[h];show cond (vWp cs T n e.length && decide (ds.length<=lim)) ((qQd g t el ds (capS cs .un e 0 n)).bind _) _=_;rw[c,h2];exact k
theorem compL_ok{t:ST}(R:Ev->Prop)(p:D->Option D):∀{ds:List D} {env:Ev},(∀d e,d∈ds->R e->∃e1,g d e=some e1/\((∃e2 v e3,t e1=.ok (true,e2)/\el e2=.ok (v,e3)/\p d=some v/\R e3)\/(∃e2,t e1=.ok (false,e2)/\p d=none/\R e2)))->R env->∃e',qQd g t el ds env=.ok (ds.filterMap p,e')/\R e'
 |[],env,_,r=>⟨env,rfl,r⟩
 | d::ds,env,h,r=>by
   obtain⟨e1,h1,h2⟩:=h d env (by simp) r;have ih:=fun {env:Ev} (r:R env)=>compL_ok R p (fun d e hd r=>h d e (aK _ hd) r) (env:=env) r
   rcases h2 with⟨e2,v,e3,a1,a2,a3,a4⟩|⟨e2,a1,a3,a4⟩
   ·obtain⟨e',b1,b2⟩:=ih a4;refine⟨e',?_,b2⟩;show(opt (g d env)).bind _=_;rw[h1];show((t e1).ne).bind _=_;rw[a1];show((el e2).ne).bind _=_;rw[a2];show(qQd g t el ds e3).bind _=_;rw[b1,List.filterMap_cons,a3];rfl
   ·obtain⟨e',b1,b2⟩:=ih a4;refine⟨e',?_,b2⟩;show(opt (g d env)).bind _=_;rw[h1];show((t e1).ne).bind _=_;rw[a1];show qQd g t el ds e2=_;rw[b1,List.filterMap_cons,a3]
theorem compL_map(R:Ev->Prop)(p:D->D)(h:∀d e,d∈ds->R e->∃e1 e3,g d e=some e1/\el e1=.ok (p d,e3)/\R e3)(r:R env):∃e',qQd g bTrue el ds env=.ok (ds.map p,e')/\R e' :=by
 obtain⟨e',a,b⟩:=compL_ok (g:=g) (t:=bTrue) (el:=el) R (fun d=>some (p d)) (fun d e hd r=>by
  obtain⟨e1,e3,h1,h2,h3⟩:=h d e hd r;exact⟨e1,h1,.inl ⟨e1,p d,e3,rfl,h2,rfl,h3⟩⟩) r
 refine⟨e',?_,b⟩;rw[a];congr 2;rw[List.filterMap_eq_map' (f:=p)]
theorem qXp:∀ds:List D,fzOs (ds.map .fz)=ds
 |[]=>rfl
 |d::ds=>by show fzO (.fz d)::fzOs (ds.map .fz)=_;rw[qXp ds];rfl
theorem xU{k:Kd}(ds:List D):fzO (.ow k (ds.map .fz))=.nd k ds:=by show D.nd k (fzOs _)=_;rw[qXp]
theorem qYw{t:ST}{q:Ev}(h:it env=.ok (ds,e))(c:(vWp cs T n e.length && decide (ds.length<=lim))=true)(h2:qQd g t el ds (capS cs .un e 0 n)=.ok (vs,q))(k: .ok (.nd .lst vs,putI cs 0 q (qVi cs 0 n e))=XV):fzS (compS n cs T it g t el) env=XV:=zP (qK1 h c h2 rfl) (by rw[xU];exact k)
theorem qXz(h:evVs ss env=.ok (ds,e))(c:decide (ds.length<=1000)=true)(k: .ok (.nd .lst ds,e)=XV):fzS (eLst ss) env=XV:=zP (vYg h c rfl) (by rw[xU];exact k)
end DX
namespace FW
variable{k c j:Nat}
noncomputable def qI(c:Nat):Nat:=if(97<=c/\c<=122)\/(65<=c/\c<=90) then 0 else if 48<=c/\c<=57 then 1 else if c=32 then 3 else 2
noncomputable def zB(k:Nat):List Nat->Nat
 |[]=>0
 |c::r=>if qI c=k then zB k r+1 else 0
noncomputable def qR:List Nat->Nat
 |[]=>0
 |c::r=>if qI c=2 then 1 else zB (qI c) r+1
theorem jP(k c:Nat)(r:List Nat):zB k (c::r)=if qI c=k then zB k r+1 else 0:=rfl
theorem v7(c:Nat)(r:List Nat):qR (c::r)=if qI c=2 then 1 else zB (qI c) r+1:=rfl
theorem vW3(k:Nat):∀r,zB k r<=r.length
 |[]=>aD _
 | c::r=>by
   have:=vW3 k r;rw[jP];split
   ·simp;omega
   ·exact dF _
theorem yJ(c:Nat)(r:List Nat):0<qR (c::r):=by
 rw[v7];split <;> omega
theorem qW5:∀r,qR r<=r.length
 |[]=>aD _
 | c::r=>by
   have:=vW3 (qI c) r;rw[v7];split
   ·simp
   ·simp;omega
noncomputable def qWp:Nat->List Nat->List (List Nat)
 | 0,_=> []
 |_,[]=> []
 |n+1,c::r=>(if c=32 then [] else [(c::r).take (qR (c::r))]) ++ qWp n ((c::r).drop (qR (c::r)))
theorem vVu:∀(n m:Nat) (r:List Nat),r.length<=n->r.length<=m->qWp n r=qWp m r:=by
 intro n;induction n with
 | zero=>
   intro m r h1 h2;have:r=[]:=List.length_eq_zero_iff.mp (by omega);subst this;cases m <;> rfl
 | succ n ih=>
   intro m r h1 h2;cases r with
   |nil=>cases m <;> rfl
   | cons c r=>
     cases m with
     |zero=>simp at h2
     | succ m=>
       have h3:=yJ c r;unfold qWp;rw[ih m]
       ·rw[cY];omega
       ·rw[cY];omega
noncomputable def parts(r:List Nat):List (List Nat):=qWp r.length r
theorem qJ9:parts []=[]:=rfl
theorem wV(c:Nat)(r:List Nat):parts (c::r)=(if c=32 then [] else [(c::r).take (qR (c::r))]) ++ parts ((c::r).drop (qR (c::r))):=by
 have h3:=yJ c r;unfold parts;show qWp (r.length+1) (c::r)=_;rw[qWp,vVu r.length ((c::r).drop (qR (c::r))).length _ (by rw[cY];simp;omega) (aD _)]
theorem qW7(c:Nat):qI c=3↔c=32:=by
 unfold qI;grind
noncomputable def Seam(R S:List Nat):Prop:=∀a b,R.getLast?=some a->S.head?=some b->qI a=qI b->qI a=2\/qI a=3
theorem qX9(k:Nat):∀(r S:List Nat),zB k (r ++ S)=if zB k r=r.length then r.length+zB k S else zB k r
 |[],S=>by simp[zB]
 | c::r,S=>by
   have ih:=qX9 k r S;show zB k (c::(r ++ S))=_;rw[jP,jP];grind
theorem vZe:∀{r:List Nat},zB k r=r.length->∀c∈r,qI c=k
 |[],_,c,h=>nomatch h
 | d::r,e,c,h=>by
   rw[jP]at e;by_cases q:qI d=k
   ·rw [if_pos q] at e;rcases aH.mp h with z|z
    ·grind
    ·exact vZe (by simpa using e) c z
   ·grind
theorem vXz:∀(S:List Nat),parts (S.drop (zB 3 S))=parts S
 |[]=>rfl
 | c::r=>by
   rw[jP];by_cases h:qI c=3
   ·rw [if_pos h];have hc:=(qW7 c).mp h;have e:qR (c::r)=zB 3 r+1:=by rw[v7,h,if_neg (by decide)]
    rw[wV,if_pos hc,eV,e]
   ·grind
theorem getLast_of_all{R:List Nat}(hne:R≠ [])(h:∀c∈R,qI c=k):∃a,R.getLast?=some a/\qI a=k:=by
 refine⟨R.getLast hne,List.getLast?_eq_some_getLast hne,h _ (List.getLast_mem hne)⟩
theorem vJ6:∀(n:Nat) (R S:List Nat),R.length<=n->Seam R S->parts (R ++ S)=parts R ++ parts S:=by
 intro n
 induction n with
 | zero=>
   intro R S h _
   have:R=[]:=List.length_eq_zero_iff.mp (by omega)
   subst this
   rfl
 | succ n ih=>
   intro R S h sm
   cases R with
   |nil=>rfl
   | cons c r=>
     have h3:=yJ c r
     have h4:=qW5 (c::r)
     by_cases hw:qR (c::(r ++ S))=qR (c::r)
     · -- the part ends within R,or just at its end
       rw[cW,wV,wV,hw]
       have e1:(c::(r ++ S)).take (qR (c::r))=(c::r).take (qR (c::r)):=by
        rw[←cW,List.take_append_of_le_length h4]
       have e2:(c::(r ++ S)).drop (qR (c::r))=(c::r).drop (qR (c::r)) ++ S:=by
        rw[←cW,List.drop_append_of_le_length h4]
       rw[e1,e2]
       have hlen:((c::r).drop (qR (c::r))).length <=n:=by rw[cY];simp at h⊢;omega
       rw[ih _ S hlen ?_,bX]
       intro a b ha hb
       refine sm a b ?_ hb
       by_cases hz:(c::r).drop (qR (c::r))=[]
       ·rw [hz] at ha
        cases ha
       ·rw [List.getLast?_drop] at ha
        split at ha
        ·cases ha
        ·exact ha
     · -- R is one part that goes on:blanks
       have hk:qI c≠2:=fun z=>hw (by rw[v7,v7,if_pos z,if_pos z])
       have f1:qR (c::r)=zB (qI c) r+1:=by rw[v7,if_neg hk]
       have f2:qR (c::(r ++ S))=zB (qI c) (r ++ S)+1:=by rw[v7,if_neg hk]
       rw[qX9]at f2
       have hall:zB (qI c) r=r.length:=by
        by_cases q:zB (qI c) r=r.length
        ·exact q
        ·rw [if_neg q] at f2
         exact absurd (f2.trans f1.symm) hw
       rw[if_pos hall]at f2
       have hrun:zB (qI c) S≠0:=fun z=>hw (by rw[f1,f2,z,hall])
       have hallR:∀d∈c::r,qI d=qI c:=fun d hd=>by
        rcases aH.mp hd with z|z
        ·rw[z]
        ·exact vZe hall d z
       obtain⟨a,ha,ka⟩:=getLast_of_all (R:=c::r) (by simp) hallR
       cases S with
       |nil=>exact absurd rfl hrun
       | cons b S=>
         have kb:qI b=qI c:=by
          rw[jP]at hrun
          by_cases q:qI b=qI c
          ·exact q
          ·rw [if_neg q] at hrun
           exact absurd rfl hrun
         have h5:=sm a b ha rfl (ka.trans kb.symm)
         rw[ka]at h5
         have h6:qI c=3:=h5.resolve_left hk
         have hc:=(qW7 c).mp h6
         have g1:(c::r).drop (qR (c::r))=[]:=by
          rw[f1,hall]
          simp
         rw[cW,wV,wV c r,if_pos hc,if_pos hc,g1,f2,qJ9,eV,eV,eV]
         have g2:(c::(r ++ b::S)).drop (r.length+zB (qI c) (b::S)+1)=(b::S).drop (zB (qI c) (b::S)):=by
          rw[List.drop_succ_cons,List.drop_append]
          rw[List.drop_eq_nil_of_le (by omega),eV,Nat.add_sub_cancel_left]
         rw[g2,h6,vXz]
theorem qX8:∀{r:List Nat},(∀c∈r,qI c=k)->zB k r=r.length
 |[],_=>rfl
 | c::r,h=>by
   rw[jP,if_pos (h c (aA ..)),qX8 fun d hd=>h d (aK _ hd)];rfl
theorem vVa{w:List Nat}(hne:w≠ [])(h:∀c∈w,qI c=k)(h2:k=2->w.length=1)(h3:k≠3):parts w=[w]:=by
 cases w with
 |nil=>exact absurd rfl hne
 | cons c r=>
   have kc:=h c (aA ..);have nb:c≠32:=fun z=>h3 (by rw[←kc];exact(qW7 c).mpr z)
   have e:qR (c::r)=(c::r).length :=by
    rw[v7];by_cases q:qI c=2
    ·rw [if_pos q];exact(h2 (kc.symm.trans q)).symm
    ·rw [if_neg q,kc,qX8 fun d hd=>h d (aK _ hd)];rfl
   rw[wV,if_neg nb,e,List.take_length,List.drop_length,qJ9,bM]
theorem vQx(c:Nat):qI c<=3:=by
 unfold qI;split
 ·omega
 ·split
  ·omega
  ·split <;> omega
theorem zZm{q:Char}(hq:q.isDigit=true):48<=q.toNat/\q.toNat<=57:=by
 have z:=hq;simp only[Char.isDigit,aE,decide_eq_true_eq]at z;have a1:48<=q.val.toNat:=by simpa using UInt32.le_iff_toNat_le.mp z.1
 have a2:q.val.toNat<=57:=by simpa using UInt32.le_iff_toNat_le.mp z.2
 exact⟨a1,a2⟩
theorem qZ8(h:48<=c/\c<=57):qI c=1:=by
 unfold qI;rw[if_neg (by omega),if_pos h]
theorem wZ(m:Nat):∀c∈(Nat.toDigits 10 m).map Char.toNat,48<=c/\c<=57:=by
 intro c hc;obtain⟨ch,h1,rfl⟩:=cQ.mp hc;exact zZm (Nat.isDigit_of_mem_toDigits (by decide) (by decide) h1)
theorem xI(m:Nat):(Nat.toDigits 10 m).map Char.toNat≠ []:=by
 simp_all
theorem vY2{r:List Nat}(h:r[j]?=some c)(hk:qI c=k):zB k (r.drop j)=zB k (r.drop (j+1))+1:=by
 have e:r.drop j=c::r.drop (j+1):=by
  have hj:=(aB.mp h).1;rw[dY hj];congr 1;exact(aB.mp h).2
 rw[e,jP,if_pos hk]
theorem vY1{r:List Nat}(h:r[j]?=some c)(hk:qI c≠k):zB k (r.drop j)=0:=by
 have e:r.drop j=c::r.drop (j+1):=by
  have hj:=(aB.mp h).1;rw[dY hj];grind
 rw[e,jP,if_neg hk]
theorem vW9{r:List Nat}{b:Nat}(h:r[b]?=some c):parts (r.drop b)=(if c=32 then [] else [(r.drop b).take (qR (r.drop b))]) ++ parts (r.drop (b+qR (r.drop b)))/\0<qR (r.drop b)/\b+qR (r.drop b)<=r.length
  /\qR (r.drop b)=if qI c=2 then 1 else zB (qI c) (r.drop (b+1))+1:=by
 have hj:=(aB.mp h).1;have e:r.drop b=c::r.drop (b+1):=by
  rw[dY hj];grind
 have hl:=qW5 (r.drop b);rw[cY]at hl;refine⟨?_,?_,by omega,?_⟩
 ·rw [←List.drop_drop,e];exact wV c _
 ·rw [e];exact yJ c _
 ·rw[e,v7]
end FW
namespace RF
open PySem L2 DX FW PyProof.Rows
variable{e1 e2 env:Ev}{k i m C l:Nat}{w:Str}{row lo hi:Int}{v1 v2 v:SV}{r':List Str}{d:D}{g:List Str->Pr}{vs:List SV}{us ds:List D}
local macro_rules | `(tactic|array_get_dec)=>`(tactic|first
 |with_reducible refine' vE ?_ ?_
 |with_reducible refine' qYl ?_
 |with_reducible refine' qD ?_ ?_
 |with_reducible refine' qO ?_
 |with_reducible refine' xR ?_ ?_
 |with_reducible refine' qC ?_ ?_
 |with_reducible refine' qZ5 ?_ ?_
 |with_reducible refine' jD ?_ ?_
 |with_reducible refine' yG ?_ ?_
 |with_reducible refine' wE ?_ ?_
 |with_reducible refine' qJ3 ?_ ?_
 |with_reducible refine' qXq ?_ ?_
 |with_reducible refine' qQl ?_ ?_
 |with_reducible refine' x9 ?_ ?_ ?_
 |with_reducible refine' jZt ?_ ?_ ?_ ?_
 |with_reducible refine' vYm ?_ ?_ ?_
 |with_reducible refine' qYw ?_ ?_ ?_ ?_
 |with_reducible refine' qXz ?_ ?_ ?_
 |with_reducible refine' jK ?_ ?_
 |with_reducible refine' qJc ?_ ?_ ?_ ?_ ?_ ?_ ?_
 |with_reducible refine' vK3 ?_ ?_ ?_
 |with_reducible refine' qXh ?_ ?_ ?_
 |rfl
 |with_reducible refine' zZ ?_ ?_
 |with_reducible refine' zP ?_ ?_
 |with_reducible refine' vS ?_ ?_ ?_
 |with_reducible refine' qQm ?_ ?_
 |with_reducible refine' qQz ?_ ?_
 |with_reducible refine' not_of ?_ ?_
 |with_reducible refine' xD ?_ ?_ ?_
 |with_reducible refine' vYg ?_ ?_ ?_
 |with_reducible refine' qN ?_ ?_ ?_
 |with_reducible refine' vQ ?_ ?_
 |with_reducible refine' zC ?_ ?_
 |with_reducible refine' qB ?_ ?_ ?_ ?_ ?_ ?_ ?_
 |with_reducible refine' xS ?_ ?_ ?_ ?_ ?_ ?_
 |with_reducible refine' qKa ?_ ?_ ?_ ?_
 |with_reducible refine' xV ?_ ?_ ?_ ?_
 |with_reducible refine' vQd ?_ ?_ ?_ ?_
 |with_reducible refine' vQj ?_ ?_ ?_ ?_ ?_ ?_ ?_
 |with_reducible refine' qK1 ?_ ?_ ?_ ?_)
abbrev S(r:List Nat):Str:=⟨r.toArray⟩
theorem zJ(r:List Nat):(S r).length =r.length:=by show r.toArray.size=_;simp
theorem qQ0(a b:List Nat):S a ++ S b=S (a ++ b):=by show(⟨a.toArray ++ b.toArray⟩:Str)=⟨(a ++ b).toArray⟩;simp
theorem qKb(r:List Nat):(S r).cps.toList=r:=rfl
noncomputable abbrev sS(x:Str):Slot:=.s false (.fz (.str x))
noncomputable abbrev sN(n:Int):Slot:=.s false (.fz (.int n))
noncomputable def kS:Nat->Str
 | 0=>"letter"
 | 1=>"figure"
 | 3=>"blank"
 |_=>"single"
theorem zJn:∀{a b:Nat},a<=3->b<=3->decide (kS a=kS b)=decide (a=b):=by
 have:∀a,a<=3->∀b,b<=3->decide (kS a=kS b)=decide (a=b):=by decide +kernel
 intro a b ha hb;exact this a ha b hb
noncomputable def jZf(x:Str):Res (O×Ev)->Bool
 |.ok (.fz (.str y),[.un])=>decide (x=y)
 |_=>false
theorem zX6{x:Str}:∀{r:Res (O×Ev)},jZf x r=true->r=.ok (.fz (.str x),[.un])
 |.ok (.fz (.str y),[.un]),h=>by rw[of_decide_eq_true h]
theorem zYk:(List.range 128).all (fun c=>jZf (kS (qI c)) (xZ [.s false (.fz (.str ⟨#[c]⟩))]))=true:=by decide +kernel
theorem jQ2{c:Nat}(h:c<128):xZ [.s false (.fz (.str ⟨#[c]⟩))]=.ok (.fz (.str (kS (qI c))),[.un]):=
 zX6 (List.all_eq_true.mp zYk c (List.mem_range.mpr h))
section
variable{R:List Nat}{env:Ev}{i j k c e n:Nat}{b:Int}
theorem zJo(h:R[k]?=some c)(hl:R.length<=1000):ixD (.str (S R)) (.int k)=some (.str ⟨#[c]⟩):=by
 show((atI R (k:Int)).bind fun ch=>cond (decide ((S R).length <=aM)) (some (D.str ⟨#[ch]⟩)) none)=_;rw[vJy h,zJ];rw[decide_eq_true (aS hl (show 1000<=aM by decide))];rfl
theorem ixc(h0:env[i]?=some (sS (S R)))(h1:env[j]?=some (sN k))(hx:R[k]?=some c)(hl:R.length<=1000):oV (oIx (oN i) (oN j)) env=.ok (.str ⟨#[c]⟩,env):=by
 show(opt (((qXb i) env).bind fun h=>((qXb j) env).bind fun h' =>(rsv env h').bind fun y=>hnIx env y h)).bind _=_;unfold qXb;rw[h0,h1];show(opt ((ixD (.str (S R)) (.int k)).map Hn.d)).bind _=_;rw[zJo hx hl];rfl
theorem jZm(h0:env[i]?=some (sS (S R)))(h1:env[j]?=some (sN k))(hx:R[k]?=some c)(hc:c<128)(hl:R.length<=1000):qY xZ [.v (oV (oIx (oN i) (oN j)))] env=.ok (.fz (.str (kS (qI c))),env):=by
 show((evO (.v (oV (oIx (oN i) (oN j)))) env).bind fun r=>cond (r.1.st || true) ((evOs [] r.2).bind _) _).bind _=_;rw[zC (ixc h0 h1 hx hl) rfl];show(xZ [.s false (.fz (.str ⟨#[c]⟩))]).bind _=_;rw[jQ2 hc];rfl
theorem qYg(hl:R.length<=1000):lenD [.str (S R)]=some (.int R.length):=by
 show cond (decide ((S R).length <=aM)) (some (D.int (S R).length)) _=_;rw[zJ,decide_eq_true (aS hl (show 1000<=aM by decide))];rfl
noncomputable abbrev endT:ST:=bAnd (asB (o2 neF (oN 2) (oC (.str "single")))) (bAnd (asB (oLt (oN 3) (oL lenD [(oN 0)]))) (asB (o2 eqF (.v (fzS (qY xZ [(.v (oV (oIx (oN 0) (oN 3))))]))) (oN 2))))
theorem lenx(hl:R.length<=1000){s:Slot}:asB (oLt (oN 3) (oL lenD [(oN 0)])) [sS (S R),sN b,s,sN e]=.ok (decide ((e:Int)<R.length),[sS (S R),sN b,s,sN e]):=by
 repeat' (first|array_get_dec|exact qYg hl)
theorem zVd(hl:R.length<=1000)(hk:k<=3)(h2:k≠2)(hx:R[e]?=some c)(hc:c<128):endT [sS (S R),sN b,sS (kS k),sN e]=.ok (decide (qI c=k),[sS (S R),sN b,sS (kS k),sN e]):=by
 have hlt:=(aB.mp hx).1;refine qQm (q:=true) (e:=[sS (S R),sN b,sS (kS k),sN e]) ?_ (qQm (q:=true) (e:=[sS (S R),sN b,sS (kS k),sN e]) ?_ ?_)
 ·show Res.ok (!decide (kS k=kS 2),_)=_;rw[zJn hk (by decide),decide_eq_false h2];rfl
 ·rw[lenx hl,decide_eq_true (by omega)]
 ·refine vS (d:= .bl (decide (kS (qI c)=kS k))) (vQ (h1:= .d (.bl (decide (kS (qI c)=kS k)))) (qB (h1:= .d (.str (kS (qI c)))) (h2:= .d (.str (kS k))) (zC (zP (jZm rfl rfl hx hc hl) rfl) rfl) rfl rfl rfl rfl rfl rfl) rfl) rfl ?_
  rw[zJn (vQx c) hk]
theorem zY4(hl:R.length<=1000)(h:R.length<=e)(hk:k<=3)(h2:k≠2):endT [sS (S R),sN b,sS (kS k),sN e]=.ok (false,[sS (S R),sN b,sS (kS k),sN e]):=by
 refine qQm (q:=true) (e:=[sS (S R),sN b,sS (kS k),sN e]) ?_ (qQm (q:=false) (e:=[sS (S R),sN b,sS (kS k),sN e]) ?_ rfl)
 ·show Res.ok (!decide (kS k=kS 2),_)=_;rw[zJn hk (by decide),decide_eq_false h2];rfl
 ·rw[lenx hl,decide_eq_false (by omega)]
theorem qKr{t:ST}{s:SS}(h:t env=.ok (true,e1))(h2:s e1=.ok (.nx e2)):zW t s (n+1) env=zW t s n e2:=by
 show(t env).bind _=_;rw[h];show(s e1).bind _=_;rw[h2];rfl
theorem qXk{t:ST}{s:SS}(h:t env=.ok (false,e1)):zW t s (n+1) env=.ok (.nx e1):=by
 show(t env).bind _=_;rw[h];rfl
theorem vXk(hl:R.length<=1000)(ha:∀c∈R,c<128)(hk:k<=3)(h2:k≠2):∀(n e:Nat),R.length<n+e->e<=R.length->zW endT vVm n [sS (S R),sN b,sS (kS k),sN e]=.ok (.nx [sS (S R),sN b,sS (kS k),sN ((e+zB k (R.drop e):Nat):Int)])
 | 0,e,h,_=>by omega
 | n + 1,e,h,he=>by
   cases hx:R[e]? with
   | none=>
     have hle:R.length<=e:=List.getElem?_eq_none_iff.mp hx;rw[qXk (zY4 hl hle hk h2),List.drop_of_length_le hle];rfl
   | some c=>
     have hc:=ha c (List.mem_of_getElem? hx);by_cases hq:qI c=k
     ·have t:=zVd (b:=b) hl hk h2 hx hc;rw[decide_eq_true hq]at t;rw[qKr t (e2:=[sS (S R),sN b,sS (kS k),sN ((e+1:Nat):Int)]) rfl,vXk hl ha hk h2 n (e+1) (by omega) (aB.mp hx).1,vY2 hx hq];grind
     ·have t:=zVd (b:=b) hl hk h2 hx hc;rw[decide_eq_false hq]at t;rw[qXk t,vY1 hx hq];rfl
theorem jXf(hl:R.length<=1000)(ha:∀c∈R,c<128)(hx:R[e]?=some c):qJd [sS (S R),sN e]=.ok (.fz (.int ((e+qR (R.drop e):Nat):Int)),[.un,.un]):=by
 have hc:=ha c (List.mem_of_getElem? hx);have hd:R.drop e=c::R.drop (e+1):=by
  have hlt:=(aB.mp hx)
  rw[dY hlt.1,hlt.2]
 have k1:=jZm (env:=[sS (S R),sN e,.un,.un]) (i:=0) (j:=1) rfl rfl hx hc hl;rw[hd,v7];refine vE (qC k1 (qC (o:=.fz (.int ((e+1:Nat):Int))) (e:=[sS (S R),sN e,sS (kS (qI c)),.un]) rfl ?_)) (o:=.rt (.fz (.int ((e+(if qI c=2 then 1 else zB (qI c) (R.drop (e+1))+1):Nat):Int))) [sS (S R),sN e,sS (kS (qI c)),.un]) rfl;by_cases h2:qI c=2
 ·rw [if_pos h2,h2];rfl
 ·rw [if_neg h2];refine jD (vXk hl ha (vQx c) h2 100000 (e+1) (by omega) (aB.mp hx).1) ?_
  rw[show e+1+zB (qI c) (R.drop (e+1))=e+(zB (qI c) (R.drop (e+1))+1) by omega];rfl
end

theorem zQj(R:List Nat){a b:Nat}(hab:a<=b)(hb:b<=R.length):Txt.slice (S R) (some (a:Int)) (some (b:Int))=S ((R.drop a).take (b - a)):=by
 have hb' :b<=(S R).length :=by rw[zJ];exact hb
 have h:=StrLaws.sliced_plain (S R) hab hb';unfold Txt.slice;split
 ·rename_i hw;rw[StrLaws.strSliceIndices_plain hab hb',zJ]at hw;have e2:b - a=R.length:=by simpa using hw
  have e3:a=0:=by omega
  grind
 ·rw[h]
noncomputable abbrev wO(ws:List (List Nat)):List O:=ws.map fun w=>.fz (.str (S w))
section
variable{R:List Nat}{c b n:Nat}{ws:List (List Nat)}{y q:Slot}
theorem jZl(hl:R.length<=1000):asB (oLt (oN 2) (oL lenD [(oN 0)])) [sS (S R),q,sN b,y]=.ok (decide ((b:Int)<R.length),[sS (S R),q,sN b,y]):=by
 repeat' (first|array_get_dec|exact qYg hl)
theorem jVu(hl:R.length<=1000)(ha:∀c∈R,c<128)(hx:R[b]?=some c)(hw:ws.length<=1000):yR [sS (S R),.s false (.ow .lst (wO ws)),sN b,y]=
  .ok (.nx [sS (S R),.s false (.ow .lst (wO (ws ++ if c=32 then [] else [(R.drop b).take (qR (R.drop b))]))),sN ((b+qR (R.drop b):Nat):Int),sN ((b+qR (R.drop b):Nat):Int)]):=by
 have hp:=vW9 hx;have e1:qY qJd [(.v (oV (oN 0))),(.v (oV (oN 2)))] [sS (S R),.s false (.ow .lst (wO ws)),sN b,y]=.ok (.fz (.int ((b+qR (R.drop b):Nat):Int)),[sS (S R),.s false (.ow .lst (wO ws)),sN b,y]):=by
  unfold qY;show(qJd [sS (S R),sN b]).bind _=_;rw[jXf hl ha hx];rfl
 generalize hE:b+qR (R.drop b)=E at *;have i1:=ixc (env:=[sS (S R),.s false (.ow .lst (wO ws)),sN b,sN (E:Int)]) (i:=0) (j:=2) rfl rfl hx hl;unfold yR;refine qC e1 (jD (e:=[sS (S R),.s false (.ow .lst (wO (ws ++ if c=32 then [] else [(R.drop b).take (qR (R.drop b))]))),sN b,sN (E:Int)]) ?_ rfl);have t1:asB (o2 neF (oIx (oN 0) (oN 2)) (oC (.str " "))) [sS (S R),.s false (.ow .lst (wO ws)),sN b,sN (E:Int)]=.ok (!decide (c=32),[sS (S R),.s false (.ow .lst (wO ws)),sN b,sN (E:Int)]):=by
  refine vS (d:=.bl (!decide (c=32))) (vQ (h1:=.d (.bl (!decide (c=32)))) (qB (h1:=.d (.str ⟨#[c]⟩)) (h2:=.d (.str ⟨#[32]⟩)) (xS (h1:=.d (.str (S R))) (h2:=.d (.int b)) rfl rfl rfl rfl ?_ rfl) rfl rfl rfl rfl ?_ rfl) rfl) rfl rfl
  ·show(ixD (.str (S R)) (.int b)).map Hn.d=_;rw[zJo hx hl];rfl
  ·show some (D.bl (!decide (Str.mk #[c]=Str.mk #[32])))=_;have:decide (Str.mk #[c]=Str.mk #[32])=decide (c=32):=by rw[cH];simp
   rw[this]
 refine yG t1 ?_
 by_cases h32:c=32
 ·rw[if_pos h32,h32,bM];rfl
 ·rw [if_neg h32,decide_eq_false h32];have sl:qZv (oN 0) (some (oV (oN 2))) (some (oV (oN 3))) [sS (S R),.s false (.ow .lst (wO ws)),sN b,sN (E:Int)]=.ok (.str (S ((R.drop b).take (qR (R.drop b)))),[sS (S R),.s false (.ow .lst (wO ws)),sN b,sN (E:Int)]):=by
   show(opt (cond (decide ((S R).length <=aM)) (some (D.str (Txt.slice (S R) (some (b:Int)) (some (E:Int))))) none)).bind _=_;rw[zJ,decide_eq_true (aS hl (show 1000<=aM by decide)),zQj R (by omega) (by omega),show E - b=qR (R.drop b) by omega];rfl
  show jG _ _=_;refine qXq (vQj (i:=1) (π:=[]) (os:=wO ws) (os0:=wO ws) rfl rfl (zZ sl rfl) rfl rfl (z:=(.fz .non,wO ws ++ [.fz (.str (S ((R.drop b).take (qR (R.drop b)))))])) ?_ rfl) ?_
  ·unfold apF;rw[decide_eq_true (show(wO ws).length <=lim from by rw[aP];exact aS hw (by decide))];rfl
  ·rw[show wO (ws ++ [(R.drop b).take (qR (R.drop b))])=wO ws ++ [.fz (.str (S ((R.drop b).take (qR (R.drop b)))))] from cX];rfl
theorem vQ6(hl:R.length<=1000)(ha:∀c∈R,c<128):∀(n b:Nat) (ws:List (List Nat)) (y:Slot),R.length<n+b->b<=R.length->ws.length<=b->
  ∃y',zW (asB (oLt (oN 2) (oL lenD [(oN 0)]))) yR n [sS (S R),.s false (.ow .lst (wO ws)),sN b,y]=.ok (.nx [sS (S R),.s false (.ow .lst (wO (ws ++ parts (R.drop b)))),sN (R.length:Int),y'])
 | 0,b,ws,y,h,hb,_=>by omega
 | n + 1,b,ws,y,h,hb,hw=>by
   cases hx:R[b]? with
   | none=>
     have hle:R.length<=b:=List.getElem?_eq_none_iff.mp hx;have t:=jZl (b:=b) (y:=y) (q:=.s false (.ow .lst (wO ws))) hl;rw[decide_eq_false (by omega)]at t;refine⟨y,?_⟩;rw[qXk t,List.drop_of_length_le hle,qJ9,bM,show R.length=b by omega]
   | some c=>
     obtain⟨p1,p2,p3,p4⟩:=vW9 hx;have t:=jZl (b:=b) (y:=y) (q:=.s false (.ow .lst (wO ws))) hl;rw[decide_eq_true (by omega)]at t;obtain⟨y',hy⟩:=vQ6 hl ha n (b+qR (R.drop b)) (ws ++ if c=32 then [] else [(R.drop b).take (qR (R.drop b))]) (sN ((b+qR (R.drop b):Nat):Int)) (by omega) p3 (by rw[aW];split <;> simp <;> omega);refine⟨y',?_⟩;rw[qKr t (jVu hl ha hx (by omega)),hy,p1,bX]
theorem zW9(hl:R.length<=1000)(ha:∀c∈R,c<128):qQr [sS (S R)]=.ok (.ow .lst (wO (parts R)),[.un]):=by
 obtain⟨y',hy⟩:=vQ6 hl ha 100000 0 [] .un (by omega) (dF _) (dF _);refine vE (qC (o:=.ow .lst []) (e:=[sS (S R),.un,.un,.un]) rfl (qC (o:=.fz (.int 0)) (e:=[sS (S R),.s false (.ow .lst []),.un,.un]) rfl (jD hy rfl))) rfl
end

noncomputable def cu(row:Int)(ws:List Str)(k:Nat):O:=.ow (.obj 9 ["row","words","place"]) [.fz (.int row),.fz (.nd .lst (ws.map D.str)),.fz (.int k)]
abbrev fz(d:D):Slot:=.s false (.fz d)
noncomputable abbrev er(row:Int){α:Type}:Res α:=.er 23 [("row",.int row)]
theorem getS{ws:List Str}(h:k<ws.length):ixD (.nd .lst (ws.map D.str)) (.int k)=some (.str (ws.getD k "")):=by
 show(ixN (ws.map D.str).length (k:Int)).bind (fun j=>(ws.map D.str)[j]?)=_;have e:ixN (ws.map D.str).length (k:Int)=some k:=by
  unfold ixN;rw[aP,if_pos (by omega),if_pos (by omega)];rfl
 rw[e];show(ws.map D.str)[k]?=_;rw[cN,aO h,bP,aO h];rfl
section
variable{row:Int}{ws:List Str}{k:Nat}{x:Str}{b:Bool}{e:Ev}
theorem vXq:vC [.s false (.fz (fzO (cu row ws k)))]=.ok (.fz (.str (ws.getD k "")),[.un]):=by
 have t:asB (oLt (oFld [9] "place" (oN 0)) (oL lenD [(oFld [9] "words" (oN 0))])) [.s false (.fz (fzO (cu row ws k)))]=.ok (decide ((k:Int)<((ws.map D.str).length :Nat)),[.s false (.fz (fzO (cu row ws k)))]):=rfl;by_cases h:k<ws.length
 ·rw [decide_eq_true (by rw [aP];omega)] at t;refine vE (qD t (xR (zZ (d:=.str (ws.getD k "")) (vQ (h1:=.d (.str (ws.getD k ""))) (xS (h1:=.d (.nd .lst (ws.map D.str))) (h2:=.d (.int k)) rfl rfl rfl rfl ?_ rfl) rfl) rfl) rfl)) rfl;show(ixD _ _).map Hn.d=_;rw[getS h];rfl
 ·rw [decide_eq_false (by rw [aP];omega)] at t;rw[show ws.getD k ""="" by rw[bP,List.getElem?_eq_none (by omega)];rfl];exact vE (qD t rfl) rfl
theorem vJo:vL 9 "ahead" vC (.b (pOf (oN 0))) [] (.s b (cu row ws k)::e)=.ok (.fz (.str (ws.getD k "")),.s b (cu row ws k)::e):=by
 show(vC [.s false (.fz (fzO (cu row ws k)))]).bind _=_;rw[vXq];rfl
theorem jQt:vW [.s true (cu row ws k)]=.ok (.fz (.str (ws.getD k "")),[.s true (cu row ws (k+1))]):=by
 exact vE (qC (vJo (e:=[.un])) rfl) rfl
theorem vQk:vL 9 "next_word" vW (.io 0) [] (.s b (cu row ws k)::e)=.ok (.fz (.str (ws.getD k "")),.s b (cu row ws (k+1))::e):=by
 show(vW [.s true (cu row ws k)]).bind _=_;rw[jQt];rfl
theorem vZg:qT [.s true (cu row ws k),sS x]=.ok (.fz (.bl (decide (ws.getD k ""=x))),[.s true (cu row ws (if ws.getD k ""=x then k+1 else k)),.un]):=by
 have t:asB (o2 neF (.v (fzS (vL 9 "ahead" vC (.b (pOf (oN 0))) []))) (oN 1)) [.s true (cu row ws k),sS x]=.ok (!decide (ws.getD k ""=x),[.s true (cu row ws k),sS x]):=
  vS (d:=.bl (!decide (ws.getD k ""=x))) (vQ (h1:=.d (.bl (!decide (ws.getD k ""=x)))) (qB (h1:=.d (.str (ws.getD k ""))) (h2:=.d (.str x)) (zC (zP vJo rfl) rfl) rfl rfl rfl rfl rfl rfl) rfl) rfl rfl
 unfold qT;by_cases h:ws.getD k ""=x
 ·rw [decide_eq_true h] at t⊢;rw[if_pos h];exact vE (qD t rfl) rfl
 ·rw [decide_eq_false h] at t⊢;rw[if_neg h];exact vE (qD t (xR rfl rfl)) rfl
theorem vQw:vL 9 "passed" qT (.io 0) [.v (oV (oC (.str x)))] (.s b (cu row ws k)::e)=.ok (.fz (.bl (decide (ws.getD k ""=x))),.s b (cu row ws (if ws.getD k ""=x then k+1 else k))::e):=by
 show(qT [.s true (cu row ws k),sS x]).bind _=_;rw[vZg];rfl
theorem qYt:vL 9 "passed" qT (.io 0) [.v (oV (oN 1))] (.s b (cu row ws k)::sS x::e)=.ok (.fz (.bl (decide (ws.getD k ""=x))),.s b (cu row ws (if ws.getD k ""=x then k+1 else k))::sS x::e):=by
 show(qT [.s true (cu row ws k),sS x]).bind _=_;rw[vZg];rfl
theorem zWm(h:ws.getD k ""=x):qL [.s true (cu row ws k),sS x]=.ok (.fz .non,[.s true (cu row ws (k+1)),.un]):=by
 have t:=qYt (row:=row) (b:=true) (e:=[]) (ws:=ws) (k:=k) (x:=x);rw[decide_eq_true h,if_pos h]at t;exact vE (yG (q:=false) (not_of (vS (vQ (zC (zP t rfl) rfl) rfl) rfl rfl) rfl) rfl) rfl
theorem zWn(h:ws.getD k ""≠x):qL [.s true (cu row ws k),sS x]=er row:=by
 have t:=qYt (row:=row) (b:=true) (e:=[]) (ws:=ws) (k:=k) (x:=x);rw[decide_eq_false h,if_neg h]at t;exact xG (yG (q:=true) (not_of (vS (vQ (zC (zP t rfl) rfl) rfl) rfl rfl) rfl) rfl)
theorem zYe(h:ws.getD k ""=x):vL 9 "need" qL (.io 0) [.v (oV (oC (.str x)))] (.s b (cu row ws k)::e)=.ok (.fz .non,.s b (cu row ws (k+1))::e):=by
 show(qL [.s true (cu row ws k),sS x]).bind _=_;rw[zWm h];rfl
theorem zYf(h:ws.getD k ""≠x):vL 9 "need" qL (.io 0) [.v (oV (oC (.str x)))] (.s b (cu row ws k)::e)=er row:=by
 show(qL [.s true (cu row ws k),sS x]).bind _=_;rw[zWn h];rfl
theorem zZc(h:ws.getD k ""=x):vL 9 "need" qL (.io 0) [.v (oV (oN 1))] (.s b (cu row ws k)::sS x::e)=.ok (.fz .non,.s b (cu row ws (k+1))::sS x::e):=by
 show(qL [.s true (cu row ws k),sS x]).bind _=_;rw[zWm h];rfl
theorem zZd(h:ws.getD k ""≠x):vL 9 "need" qL (.io 0) [.v (oV (oN 1))] (.s b (cu row ws k)::sS x::e)=er row:=by
 show(qL [.s true (cu row ws k),sS x]).bind _=_;rw[zWn h];rfl
end

section
variable{s t:Oe}{env:Ev}{p q:Bool}
theorem vAnd(h:asB s env=.ok (p,env))(k:p=true->oV t env=.ok (.bl q,env)):oV (oAnd s t) env=.ok (.bl (p && q),env):=by
 show(asB s env).bind _=_;rw[h];cases p with
 |true=>exact k rfl
 |false=>rfl
theorem vOr(h:asB s env=.ok (p,env))(k:p=false->oV t env=.ok (.bl q,env)):oV (oOr s t) env=.ok (.bl (p || q),env):=by
 show(asB s env).bind _=_;rw[h];cases p with
 |false=>exact k rfl
 |true=>rfl
theorem qZr(h:oV s env=.ok (.bl p,env)):asB s env=.ok (p,env):=by
 show(oV s env).bind _=_;rw[h];rfl
end
theorem leS1(a b:Nat):leS (.str ⟨#[a]⟩) (.str ⟨#[b]⟩)=some (.bl (decide (a<=b))):=by
 show some (D.bl (!decide ([b] < [a])))=_;have:(!decide ([b] < [a]))=decide (a<=b):=by rw[cH];simp[List.cons_lt_cons_iff]
 rw[this]
theorem chA{a c z:Nat}{m:Oe}(hm:evO m env=.ok (.d (.str ⟨#[c]⟩),env)):oV (oCh leS leS (oC (.str ⟨#[a]⟩)) m (oC (.str ⟨#[z]⟩))) env=.ok (.bl (decide (a<=c) && decide (c<=z)),env):=by
 show(evO m env).bind _=_;rw[hm];simp only[Res.bind,Hn.st,Bool.true_or,cond_true,rsv,opt,leS1,blOf];cases decide (a<=c) with
 |false=>rfl
 | true=>
   show Res.bind (opt (leS (.str ⟨#[c]⟩) (.str ⟨#[z]⟩))) (fun w=>Res.ok (w,env))=_;rw[leS1];rfl
theorem zKh(c:Nat)(l:List Nat):Txt.slice (S (c::l)) none (some 1)=S [c]:=by
 have h:=zQj (c::l) (a:=0) (b:=1) (by omega) (by rw[aY];omega);rw[show Txt.slice (S (c::l)) none (some 1)=Txt.slice (S (c::l)) (some ((0:Nat):Int)) (some ((1:Nat):Int)) from ?_]
 ·exact h
 ·unfold Txt.slice Builtin.Str.strSliceIndices;have:max (0:Int) (min 0 ((S (c::l)).length :Int))=0:=by omega
  simp[this]
noncomputable def qVc(R:List Nat):Bool:=match R with
 |[]=>false
 |c::l=>(decide (48<=c) && decide (c<=57)) && (decide ((l.length:Int)+1<=12) && (decide (S (c::l)=S [48]) ||!decide (c=48)))
theorem jWi{R:List Nat}(hl:R.length<=1000):wK [sS (S R)]=.ok (.fz (.bl (qVc R)),[.un]):=by
 unfold wK;cases R with
 |nil=>rfl
 | cons c l=>
   have sl:qZv (oN 0) none (some (oV (oC (.int 1)))) [sS (S (c::l))]=.ok (.str ⟨#[c]⟩,[sS (S (c::l))]):=by
    show(opt (cond (decide ((S (c::l)).length <=aM)) (some (D.str (Txt.slice (S (c::l)) none (some 1)))) none)).bind _=_;rw[zJ,decide_eq_true (aS hl (show 1000<=aM by decide)),zKh];rfl
   have t1:=chA (a:=48) (z:=57) (zC (XH:=.ok (.d (.str ⟨#[c]⟩),[sS (S (c::l))])) sl rfl);have t2:oV (oLe (oL lenD [(oN 0)]) (oC (.int 12))) [sS (S (c::l))]=.ok (.bl (decide ((l.length:Int)+1<=12)),[sS (S (c::l))]):=by
    have:lenD [.str (S (c::l))]=some (.int ((l.length:Int)+1)):=qYg hl;repeat' (first|array_get_dec|exact this)
   have t4:oV (o2 neF (oIx (oN 0) (oC (.int 0))) (oC (.str "0"))) [sS (S (c::l))]=.ok (.bl (!decide (c=48)),[sS (S (c::l))]):=by
    refine vQ (h1:=.d (.bl (!decide (c=48)))) (qB (h1:=.d (.str ⟨#[c]⟩)) (h2:=.d (.str ⟨#[48]⟩)) (xS (h1:=.d (.str (S (c::l)))) (h2:=.d (.int (0:Nat))) rfl rfl rfl rfl ?_ rfl) rfl rfl rfl rfl ?_ rfl) rfl
    ·show(ixD (.str (S (c::l))) (.int (0:Nat))).map Hn.d=_;rw[zJo (c:=c) rfl hl];rfl
    ·show some (D.bl (!decide (Str.mk #[c]=Str.mk #[48])))=_;have:decide (Str.mk #[c]=Str.mk #[48])=decide (c=48):=by rw[cH];simp
     rw[this]
   exact vE (wE (zZ (vAnd (qZr t1) fun _=>vAnd (qZr t2) fun _=>vOr (p:=decide (S (c::l)=S [48])) rfl fun _=>t4) rfl) rfl) rfl
noncomputable def qZ9(R:List Nat):Bool:=(decide (1<=(R.length:Int)) && decide ((R.length:Int)<=8)) && R.all fun c=>decide (97<=c) && decide (c<=122)
theorem vZ1{α:Type}(f:α->Bool):∀l:List α,vV6 (l.map fun c=>D.bl (f c))=some (l.map f)
 |[]=>rfl
 | c::l=>by
   show(vV6 (l.map fun c=>D.bl (f c))).bind _=_;rw[vZ1 f l];rfl
theorem zXj{R:List Nat}(hl:R.length<=1000):xO [sS (S R)]=.ok (.fz (.bl (qZ9 R)),[.un]):=by
 unfold xO;have hD:lenD [.str (S R)]=some (.int (R.length:Int)):=qYg hl;have t1:oV (oCh (c2 fun i j=>decide (i<=j)) (c2 fun i j=>decide (i<=j)) (oC (.int 1)) (oL lenD [(oN 0)]) (oC (.int 8))) [sS (S R)]=.ok (.bl (decide (1<=(R.length:Int)) && decide ((R.length:Int)<=8)),[sS (S R)]):=by
  have hm:evO (oL lenD [(oN 0)]) [sS (S R)]=.ok (.d (.int (R.length:Int)),[sS (S R)]):=by
   repeat' (first|array_get_dec|exact hD)
  show(evO (oL lenD [(oN 0)]) [sS (S R)]).bind _=_;rw[hm];show cond (decide (1<=(R.length:Int))) _ _=_;cases decide (1<=(R.length:Int)) <;> rfl
 have t2:oV (oL allD [(.v (fzS (compS 1 [] [0] (iS (oV (oN 0))) (gN 0) bTrue (oV (oCh leS leS (oC (.str "a")) (oN 0) (oC (.str "z")))))))]) [sS (S R)]=.ok (.bl (R.all fun c=>decide (97<=c) && decide (c<=122)),[sS (S R)]):=by
  obtain⟨e',h1,h2⟩:=compL_map (g:=gN 0) (el:=oV (oCh leS leS (oC (.str "a")) (oN 0) (oC (.str "z")))) (ds:=signsD (S R)) (env:=[.un]) (fun e=>e.length=1) (fun d=>match d with
   |.str ⟨⟨c::_⟩⟩=>.bl (decide (97<=c) && decide (c<=122))
   | _=> .non) (fun d e hd he=>by
     obtain⟨c,_,rfl⟩:=cQ.mp hd;match e,he with
     |[y],_=>exact⟨[sS ⟨#[c]⟩],[sS ⟨#[c]⟩],rfl,chA rfl,rfl⟩) rfl
  match e',h2 with
  |[y],_=>
  have hv:(signsD (S R)).map (fun d=>match d with
   |.str ⟨⟨c::_⟩⟩=>D.bl (decide (97<=c) && decide (c<=122))
   |_=>.non)=R.map fun c=>D.bl (decide (97<=c) && decide (c<=122)):=by
   unfold signsD;rw[bZ,qKb];rfl
  rw[hv]at h1;have hc:fzS (compS 1 [] [0] (iS (oV (oN 0))) (gN 0) bTrue (oV (oCh leS leS (oC (.str "a")) (oN 0) (oC (.str "z"))))) [sS (S R)]=.ok (.nd .lst (R.map fun c=>D.bl (decide (97<=c) && decide (c<=122))),[sS (S R)]):=by
   refine qYw (ds:=signsD (S R)) (e:=[sS (S R)]) rfl ?_ h1 rfl;show(true && decide ((signsD (S R)).length <=lim))=true;rw[decide_eq_true];rfl;unfold signsD;rw[aP,qKb];exact aS hl (by decide)
  refine vQ (h1:=.d (.bl (R.all fun c=>decide (97<=c) && decide (c<=122)))) (qKa (hs:=[.d (.nd .lst (R.map fun c=>D.bl (decide (97<=c) && decide (c<=122))))]) (xV (zC hc rfl) rfl rfl rfl) rfl ?_ rfl) rfl;show(vV6 _).bind _=_;rw[vZ1];show some (D.bl ((R.map _).all id))=_;rw[List.all_map];rfl
 exact vE (wE (zZ (vAnd (qZr t1) fun _=>t2) rfl) rfl) rfl
def j5:List Str:=["flip","pick","if","rest"]
theorem vQ0(x:Str):∀ys:List Str,inV (.str x) (ys.map V.str)=ys.contains x
 |[]=>rfl
 | y::ys=>by
   show(eqV (.str y) (.str x) || inV (.str x) (ys.map V.str))=_;rw[vQ0 x ys,bF];congr 1;unfold eqV;grind
theorem qYz:∀ys:List Str,allV (ys.map D.str)=some (ys.map V.str)
 |[]=>rfl
 | y::ys=>by
   show(toV (.str y)).bind _=_;rw[qYz ys];rfl
theorem inSS(x:Str)(ys:List Str):inD (.str x) (.tup (ys.map D.str))=some (.bl (ys.contains x)):=by
 show((((allV (ys.map D.str)).bind fun vs=>some (inV (.str x) vs)))).map D.bl=_;rw[qYz];show some (D.bl (inV (.str x) (ys.map V.str)))=_;rw[vQ0]
theorem niSS(x:Str)(ys:List Str):niD (.str x) (.tup (ys.map D.str))=some (.bl (!ys.contains x)):=by
 show((((allV (ys.map D.str)).bind fun vs=>some (inV (.str x) vs)))).map (fun b=>D.bl (!b))=_;rw[qYz];show some (D.bl (!inV (.str x) (ys.map V.str)))=_;rw[vQ0]
noncomputable def vJq(R:List Nat):Bool:=qZ9 R &&!j5.contains (S R)
theorem jQu{R:List Nat}(hl:R.length<=1000):y9 [sS (S R)]=.ok (.fz (.bl (vJq R)),[.un]):=by
 have t1:asB (.v (fzS (qY xO [(.v (oV (oN 0)))]))) [sS (S R)]=.ok (qZ9 R,[sS (S R)]):=by
  refine qZr (zP (o:=.fz (.bl (qZ9 R))) ?_ rfl);show(xO [sS (S R)]).bind _=_;rw[zXj hl];rfl
 refine vE (wE (zZ (vAnd t1 fun _=>?_) rfl) rfl) rfl;exact vQ (h1:=.d (.bl (!j5.contains (S R)))) (qB (h1:=.d (.str (S R))) (h2:=.d (.tup [.str "flip",.str "pick",.str "if",.str "rest"])) rfl rfl rfl rfl rfl (niSS _ j5) rfl) rfl

inductive Pr where
 |ok (d:D) (r:List Str)|er|no
noncomputable def Pr.bind(x:Pr)(f:D->List Str->Pr):Pr:=match x with
 |.ok d r=>f d r
 |.er =>.er
 |.no =>.no
noncomputable def hd(r:List Str):Str:=r.headD ""
noncomputable def qQi(w:Str):Bool:=qVc w.cps.toList
noncomputable def yI(w:Str):Bool:=vJq w.cps.toList
noncomputable def valS(w:Str):Int:=(PySem.intText? w).getD 0
noncomputable def okW(ws:List Str):Prop:=ws.length<=100/\∀w∈ws,w.length<=1000/\(qQi w=true->∃n,PySem.intText? w=some n)
theorem S_of(z:Str):S z.cps.toList=z:=by grind
section
variable{ws:List Str}{k:Nat}
theorem zN:ws.getD k ""=hd (ws.drop k):=by
 unfold hd;simp_all
theorem zI:ws.drop (k+1)=(ws.drop k).tail :=by simp_all
theorem okW.at(h:okW ws)(k:Nat):(ws.getD k "").length <=1000/\(qQi (ws.getD k "")=true->∃n,PySem.intText? (ws.getD k "")=some n):=by
 by_cases z:k<ws.length
 ·rw [bP,aO z];exact h.2 _ (List.getElem_mem z)
 ·rw [bP,List.getElem?_eq_none (by omega)];exact⟨by decide,fun q=>by cases q⟩
theorem qKh(hw:w.length<=1000)(h:env[i]?=some (sS w)):asB (.v (fzS (qY y9 [(.v (oV (oN i)))]))) env=.ok (yI w,env):=by
 refine qZr (zP (o:=.fz (.bl (yI w))) ?_ rfl);have v:oV (oN i) env=.ok (.str w,env):=by
  show(opt (qXb i env)).bind _=_;unfold qXb;rw[h];rfl
 refine jK (x9 v rfl rfl) ?_
 show(y9 [sS w]).bind _=_;have:=jQu (R:=w.cps.toList) (by rw[Array.length_toList];exact hw);rw[this];rfl
theorem vVb(hw:w.length<=1000)(h:env[i]?=some (sS w)):asB (.v (fzS (qY wK [(.v (oV (oN i)))]))) env=.ok (qQi w,env):=by
 refine qZr (zP (o:=.fz (.bl (qQi w))) ?_ rfl);have v:oV (oN i) env=.ok (.str w,env):=by
  show(opt (qXb i env)).bind _=_;unfold qXb;rw[h];rfl
 refine jK (x9 v rfl rfl) ?_
 show(wK [sS w]).bind _=_;have:=jWi (R:=w.cps.toList) (by rw[Array.length_toList];exact hw);rw[this];rfl
end
noncomputable def Told(F:Ev->Res (O×Ev))(mk:O->Ev)(out:O->Ev)(row:Int)(ws:List Str)(k:Nat):Pr->Prop
 |.ok d r=>∃k',ws.drop k' =r/\F (mk (cu row ws k))=.ok (.fz d,out (cu row ws k'))
 |.er =>F (mk (cu row ws k))=er row
 |.no =>True
noncomputable def Rd(F:Fn)(p:List Str->Pr):Prop:=∀row ws k,okW ws->Told F (fun o=> [.s true o]) (fun o=> [.s true o]) row ws k (p (ws.drop k))
noncomputable def pName'(r:List Str):Pr:=cond (yI (hd r)) (.ok (.str (hd r)) r.tail) .er
noncomputable def pNum(lo hi:Int)(r:List Str):Pr:=cond (qQi (hd r) && (decide (lo<=valS (hd r)) && decide (valS (hd r)<=hi))) (.ok (.int (valS (hd r))) r.tail) .er
theorem qJ5:Rd zG pName' :=by
 intro row ws k hw;have h1:=(hw.at k).1;rw[zN]at h1;have m:=vQk (row:=row) (ws:=ws) (k:=k) (b:=true) (e:=[.un]);rw[zN]at m;have t:=qKh (env:=[.s true (cu row ws (k+1)),sS (hd (ws.drop k))]) (i:=1) h1 rfl;unfold pName';cases q:yI (hd (ws.drop k)) with
 | true=>
   rw[q]at t;refine⟨k+1,zI,?_⟩;exact vE (qC m (qD (q:=false) (not_of t rfl) rfl)) rfl
 | false=>
   rw[q]at t;exact xG (qC m (qD (q:=true) (not_of t rfl) rfl))
theorem jWk{ws:List Str}(hw:okW ws):Told vY (fun o=> [.s true o,sN lo,sN hi]) (fun o=> [.s true o,.un,.un]) row ws k (pNum lo hi (ws.drop k)):=by
 have h1:=hw.at k;rw[zN]at h1;have m:=vQk (row:=row) (ws:=ws) (k:=k) (b:=true) (e:=[sN lo,sN hi,.un]);rw[zN]at m;have t:=vVb (env:=[.s true (cu row ws (k+1)),sN lo,sN hi,sS (hd (ws.drop k))]) (i:=3) h1.1 rfl;unfold pNum;cases q:qQi (hd (ws.drop k)) with
 | false=>
   rw[q]at t;show vY _=_;unfold vY;exact xG (qC m (qD (q:=true) (qQz (not_of t rfl) rfl) rfl))
 | true=>
   rw[q]at t;obtain⟨n,hn⟩:=h1.2 q;have hv:valS (hd (ws.drop k))=n:=by unfold valS;rw[hn];rfl
   have hl:(hd (ws.drop k)).length <=640:=by
    have:qVc (hd (ws.drop k)).cps.toList=true:=q;unfold qVc at this;show(hd (ws.drop k)).cps.size<=640;rw[←Array.length_toList];split at this
    ·cases this
    ·rename_i c l e;simp only[aE,decide_eq_true_eq]at this;rw[e,aY];omega
   have iv:qWf [.str (hd (ws.drop k))]=some (.int n):=by
    show cond (decide ((hd (ws.drop k)).length <=640)) _ _=_;rw[decide_eq_true hl,hn];rfl
   have t2:asB (oCh (c2 fun i j=>decide (i<=j)) (c2 fun i j=>decide (i<=j)) (oN 1) (oL qWf [(oN 3)]) (oN 2)) [.s true (cu row ws (k+1)),sN lo,sN hi,sS (hd (ws.drop k))]=.ok (decide (lo<=n) && decide (n<=hi),[.s true (cu row ws (k+1)),sN lo,sN hi,sS (hd (ws.drop k))]):=by
    refine qZr ?_
    have hm:evO (oL qWf [(oN 3)]) [.s true (cu row ws (k+1)),sN lo,sN hi,sS (hd (ws.drop k))]=.ok (.d (.int n),[.s true (cu row ws (k+1)),sN lo,sN hi,sS (hd (ws.drop k))]):=by
     repeat' (first|array_get_dec|exact iv)
    show(evO (oL qWf [(oN 3)]) [.s true (cu row ws (k+1)),sN lo,sN hi,sS (hd (ws.drop k))]).bind _=_;rw[hm];show cond (decide (lo<=n)) _ _=_;cases decide (lo<=n) <;> rfl
   rw[hv];cases q2:decide (lo<=n) && decide (n<=hi) with
   | true=>
     rw[q2]at t2;refine⟨k+1,zI,?_⟩;unfold vY;refine vE (qC m (qD (q:=false) (qQz (not_of t rfl) (not_of t2 rfl)) (qO (wE (zZ (vQ (h1:=.d (.int n)) (qKa (hs:=[.d (.str (hd (ws.drop k)))]) rfl rfl iv rfl) rfl) rfl) rfl)))) rfl
   | false=>
     rw[q2]at t2;show vY _=_;unfold vY;exact xG (qC m (qD (q:=true) (qQz (not_of t rfl) (not_of t2 rfl)) rfl))

section
variable{env:Ev}{a:SE}{v:SV}{ss:List SV}{i C:Nat}{fs:List (Str×D)}{d:D}{e:Ev}
theorem qZ0(h:a env=.er C fs):sSet i a env=.er C fs:=by unfold sSet;rw[h];rfl
theorem qXr(h:a env=.er C fs):jG a env=.er C fs:=by unfold jG;rw[h];rfl
theorem zWc(h:a env=.er C fs):sRet a env=.er C fs:=by unfold sRet;rw[h];rfl
theorem jZc(h:v env=.er C fs):owS v env=.er C fs:=by unfold owS;rw[h];rfl
theorem zJq(h:a env=.er C fs):fzS a env=.er C fs:=by unfold fzS;rw[h];rfl
theorem zJv(h:v env=.er C fs):evVs (v::ss) env=.er C fs:=by show(v env).bind _=_;rw[h];rfl
theorem jXp(h:v env=.ok (d,e))(k:evVs ss e=.er C fs):evVs (v::ss) env=.er C fs:=by
 show(v env).bind _=_;rw[h];show(evVs ss e).bind _=_;rw[k];rfl
theorem zJy(h:evVs ss env=.er C fs):qS ss env=.er C fs:=by unfold qS;rw[h];rfl
end
section
variable{F:Fn}{p:List Str->Pr}{row:Int}{ws:List Str}{k:Nat}{b:Bool}{e:Ev}
theorem Rd.call(h:Rd F p)(hw:okW ws):Told (qY F [.io 0]) (fun o=>.s b o::e) (fun o=>.s b o::e) row ws k (p (ws.drop k)):=by
 have:=h row ws k hw;unfold Told at this⊢;split at this
 ·obtain⟨k',h1,h2⟩:=this;refine⟨k',h1,?_⟩;unfold qY;show(F [.s true (cu row ws k)]).bind _=_;rw[h2];rfl
 ·unfold qY;show(F [.s true (cu row ws k)]).bind _=_;rw[this];rfl
 ·trivial
theorem qVq(hw:okW ws)(h1:v1 (.s b (cu row ws k)::e)=.ok (.int lo,.s b (cu row ws k)::e))(h2:v2 (.s b (cu row ws k)::e)=.ok (.int hi,.s b (cu row ws k)::e)):
  Told (qY vY [.io 0,.v v1,.v v2]) (fun o=>.s b o::e) (fun o=>.s b o::e) row ws k (pNum lo hi (ws.drop k)):=by
 have:=jWk (row:=row) (k:=k) (lo:=lo) (hi:=hi) hw;have ev:evOs (([.io 0,.v v1,.v v2]:List Am).map Am.o) (.s b (cu row ws k)::e)=.ok ([.p 0 [],.d (.int lo),.d (.int hi)],.s b (cu row ws k)::e):=vYm rfl (x9 h1 (x9 h2 rfl rfl) rfl) rfl;unfold Told at this⊢;split at this
 ·obtain⟨k',h3,h4⟩:=this;refine⟨k',h3,jK ev ?_⟩;show(vY [.s true (cu row ws k),sN lo,sN hi]).bind _=_;rw[h4];rfl
 ·refine jK ev ?_
  show(vY [.s true (cu row ws k),sN lo,sN hi]).bind _=_;rw[this];rfl
 ·trivial
end
noncomputable def pSk(x:Str)(r:List Str)(f:List Str->Pr):Pr:=cond (decide (hd r=x)) (f r.tail) .er
theorem zX4{r:List Str}(h:pNum lo hi r=.ok d r'):d=.int (valS (hd r))/\r' =r.tail:=by
 unfold pNum at h;grind
abbrev tg(x:Str)(ds:List D):D:=.tup (.str x::ds)
noncomputable def jYu:D->Int
 |.int i=>i
 |_=>0
noncomputable def okE(n:Nat)(e:Ev):Prop:=e.length=n/\∀s∈e,vJd s=.un
theorem okE.outs:∀{j n:Nat} {e:Ev},okE n e->j<=n->outs j e=List.replicate j .un
 | 0,_,_,_,_=>rfl
 |j+1,n,[],h,hj=>by have:=h.1;simp at this;omega
 | j + 1,n,s::e,h,hj=>by
   show vJd s::DX.outs j e=_;rw[h.2 s (aA ..),okE.outs (n:=e.length) ⟨rfl,fun z hz=>h.2 z (aK _ hz)⟩ (by have:=h.1;rw[aY]at this;omega)];rfl
noncomputable def okB(e:Ev):Bool:=e.all fun s=>match vJd s with
 |.un =>true
 |_=>false
theorem qQg{e:Ev}(h:okB e=true):okE e.length e:=⟨rfl,fun s hs=>by
 have:=List.all_eq_true.mp h s hs;cases s with
 |un=>rfl
 |s b o=>cases b <;> first|rfl|cases this⟩
noncomputable def jH(s:SS)(e:Ev)(row:Int)(ws:List Str)(k:Nat):Pr->Prop
 |.ok d r=>∃k' e',ws.drop k' =r/\okE e.length e' /\s (.s true (cu row ws k)::e)=.ok (.rt (.fz d) (.s true (cu row ws k')::e'))
 |.er =>s (.s true (cu row ws k)::e)=er row
 |.no =>True
section
variable{s t:SS}{e:Ev}{row:Int}{ws:List Str}{k i:Nat}{x:Pr}{f:D->List Str->Pr}{a:SE}{w:Str}{d:D}{vs:List SV}{ds:List D}{q:Bool}{b:ST}{y:Pr}
theorem fnTn{zs:Ev}(h:jH s (zs ++ List.replicate m .un) row ws k x):Told (fnS (zs.length+1) m s) (fun o=>.s true o::zs) (fun o=>.s true o::List.replicate zs.length .un) row ws k x:=by
 cases x with
 | ok d r=>
   obtain⟨k',e',h1,h0,h2⟩:=h;refine⟨k',h1,vE h2 ?_⟩;show Res.ok (_,_::outs zs.length e')=_;rw[h0.outs (by rw[aW];omega)];rfl
 |er=>exact xG h
 |no=>trivial
theorem fnT(h:jH s (List.replicate m .un) row ws k x):Told (fnS 1 m s) (fun o=> [.s true o]) (fun o=> [.s true o]) row ws k x:=fnTn (zs:=[]) h
theorem goT{s' :SS}{k2:Nat}(h:∀z,s' (.s true (cu row ws k2)::e2)=z->s (.s true (cu row ws k)::e)=z)(hl:e2.length=e.length)(c:jH s' e2 row ws k2 x):jH s e row ws k x:=by
 cases x with
 |ok d r=>obtain⟨k',e',h1,h0,h2⟩:=c;exact⟨k',e',h1,hl▸h0,h _ h2⟩
 |er=>exact h _ c
 |no=>trivial
theorem setT(h:Told a (fun o=>.s true o::e) (fun o=>.s true o::e) row ws k x)(c:∀d k',x=.ok d (ws.drop k')->jH t (e.set i (fz d)) row ws k' (f d (ws.drop k'))):jH (sSeq (sSet (i+1) a) t) e row ws k (x.bind f):=by
 cases x with
 | ok d r=>
   obtain⟨k',rfl,h2⟩:=h;exact goT (fun z hz=>qC h2 hz) cV (c d k' rfl)
 |er=>exact xK (qZ0 h)
 |no=>trivial
theorem qWe(c:hd (ws.drop k)=w->jH t e row ws (k+1) (g (ws.drop (k+1)))):jH (sSeq (jG (vL 9 "need" qL (.io 0) [.v (oV (oC (.str w)))])) t) e row ws k (pSk w (ws.drop k) g):=by
 unfold pSk;by_cases h:hd (ws.drop k)=w
 ·rw [decide_eq_true h,←zI];exact goT (fun z hz=>qZ5 (zYe (zN.trans h)) hz) rfl (c h)
 ·rw [decide_eq_false h];exact xK (qXr (zYf fun z=>h (zN.symm.trans z)))
theorem retT(h:a (.s true (cu row ws k)::e)=.ok (.fz d,.s true (cu row ws k)::e))(ho:okB e=true:=by rfl):jH (sRet a) e row ws k (.ok d (ws.drop k)):=⟨k,e,rfl,qQg ho,wE h rfl⟩
theorem retC(h:Told a (fun o=>.s true o::e) (fun o=>.s true o::e) row ws k x)(ho:okB e=true:=by rfl):jH (sRet a) e row ws k x:=by
 cases x with
 |ok d r=>obtain⟨k',h1,h2⟩:=h;exact⟨k',e,h1,qQg ho,wE h2 rfl⟩
 |er=>exact zWc h
 |no=>trivial
theorem qYx:∀{vs:List SV} {env e1 e2:Ev} {us:List D} {d:D},evVs vs env=.ok (us,e1)->v e1=.ok (d,e2)->evVs (vs ++ [v]) env=.ok (us ++ [d],e2)
 |[],env,e1,e2,us,d,h,k=>by cases h;exact qN k rfl rfl
 | u::vs,env,e1,e2,us,d,h,k=>by
   change (u env).bind _=_ at h;cases q:u env with
   |no=>rw[q]at h;cases h
   |er C fs=>rw[q]at h;cases h
   | ok r=>
     rw[q]at h;change (evVs vs r.2).bind _=_ at h;cases q2:evVs vs r.2 with
     |no=>rw[q2]at h;cases h
     |er C fs=>rw[q2]at h;cases h
     |ok r2=>rw[q2]at h;cases h;exact qN q (qYx q2 k) rfl
theorem qW8{fs:List (Str×D)}:∀{vs:List SV} {env e1:Ev} {us:List D},evVs vs env=.ok (us,e1)->v e1=.er C fs->evVs (vs ++ [v]) env=.er C fs
 |[],env,e1,us,h,k=>by cases h;exact zJv k
 | u::vs,env,e1,us,h,k=>by
   change (u env).bind _=_ at h;cases q:u env with
   |no=>rw[q]at h;cases h
   |er C fs=>rw[q]at h;cases h
   | ok r=>
     rw[q]at h;change (evVs vs r.2).bind _=_ at h;cases q2:evVs vs r.2 with
     |no=>rw[q2]at h;cases h
     |er C fs=>rw[q2]at h;cases h
     |ok r2=>rw[q2]at h;cases h;exact jXp q (qW8 q2 k)
theorem qVt(h:Told a (fun o=>.s true o::e) (fun o=>.s true o::e) row ws k x)(hv:evVs vs (.s true (cu row ws k)::e)=.ok (us,.s true (cu row ws k)::e):=by rfl)(hl:us.length<=100:=by simp)(ho:okB e=true:=by rfl):
  jH (sRet (owS (qS (vs ++ [fzS a])))) e row ws k (x.bind fun d r=>.ok (.tup (us ++ [d])) r):=by
 cases x with
 | ok d r=>
   obtain⟨k',h1,h2⟩:=h;exact⟨k',e,h1,qQg ho,wE (zZ (xD (qYx hv (zP h2 rfl)) (decide_eq_true (by rw[aW];show us.length+1<=1000;omega)) rfl) rfl) rfl⟩
 |er=>exact zWc (jZc (zJy (qW8 hv (zJq h))))
 |no=>trivial
theorem tupT(h:Told a (fun o=>.s true o::e) (fun o=>.s true o::e) row ws k x)(hv:evVs vs (.s true (cu row ws k)::e)=.ok (us,.s true (cu row ws k)::e))(hl:us.length<=100):
  Told (owS (qS (vs ++ [fzS a]))) (fun o=>.s true o::e) (fun o=>.s true o::e) row ws k (x.bind fun d r=>.ok (.tup (us ++ [d])) r):=by
 cases x with
 | ok d r=>
   obtain⟨k',h1,h2⟩:=h;exact⟨k',h1,zZ (xD (qYx hv (zP h2 rfl)) (decide_eq_true (by rw[aW];show us.length+1<=1000;omega)) rfl) rfl⟩
 |er=>exact jZc (zJy (qW8 hv (zJq h)))
 |no=>trivial
theorem ifT(h:b (.s true (cu row ws k)::e)=.ok (q,.s true (cu row ws k)::e))(c1:q=true->jH s e row ws k x)(c2:q=false->jH t e row ws k y):jH (sSeq (sIf b s sNil) t) e row ws k (cond q x y):=by
 cases q with
 | true=>
   have:=c1 rfl;cases x with
   |ok d r=>obtain⟨k',e',h1,h0,h2⟩:=this;exact⟨k',e',h1,h0,qD h (vQe h2 rfl)⟩
   |er=>exact qD h (xK this)
   |no=>trivial
 |false=>exact goT (fun z hz=>qD h (qO hz)) rfl (c2 rfl)
theorem qWo:jH (jZ 23 "row" (oV (oFld [9] "row" (oN 0)))) e row ws k .er :=rfl
theorem jZj(c:jH t (e.set i (sS (hd (ws.drop k)))) row ws (k+1) y):jH (sSeq (sSet (i+1) (vL 9 "next_word" vW (.io 0) [])) t) e row ws k y:=by
 have m:=vQk (row:=row) (ws:=ws) (k:=k) (b:=true) (e:=e);rw[zN]at m;exact goT (fun z hz=>qC m hz) cV c
theorem jYb(c1:hd (ws.drop k)=w->jH s e row ws (k+1) (g (ws.drop (k+1))))(c2:hd (ws.drop k)≠w->jH t e row ws k y):jH (sSeq (sIf (asB (.v (fzS (vL 9 "passed" qT (.io 0) [(.v (oV (oC (.str w))))])))) s sNil) t) e row ws k (cond (decide (hd (ws.drop k)=w)) (g (ws.drop k).tail) y):=by
 have m:=vQw (row:=row) (ws:=ws) (k:=k) (b:=true) (e:=e) (x:=w);rw[zN]at m;by_cases h:hd (ws.drop k)=w
 ·rw [decide_eq_true h,if_pos h] at m;rw[decide_eq_true h,←zI];have tt:=vS (q:=true) (XB:=.ok (true,.s true (cu row ws (k+1))::e)) (vQ (zC (zP m rfl) rfl) rfl) rfl rfl;have:=c1 h;show jH _ _ _ _ _ (g (ws.drop (k+1)));cases z:g (ws.drop (k+1)) with
  |ok d r=>rw[z]at this;obtain⟨k',e',h1,h0,h2⟩:=this;exact⟨k',e',h1,h0,qD tt (vQe h2 rfl)⟩
  |er=>rw[z]at this;exact qD tt (xK this)
  |no=>trivial
 ·rw [decide_eq_false h,if_neg h] at m;rw[decide_eq_false h];have tt:=vS (q:=false) (XB:=.ok (false,.s true (cu row ws k)::e)) (vQ (zC (zP m rfl) rfl) rfl) rfl rfl;exact goT (fun z hz=>qD tt (qO hz)) rfl (c2 h)
end
noncomputable def pFlip(r:List Str):Pr:=(pNum 1 1000000 r).bind fun a r=>pSk "/" r fun r=>(pNum (jYu a+1) 1000000 r).bind fun c r=>pSk ")" r fun r=>.ok (tg "flip" [a,c]) r
theorem zKx:Rd qJv pFlip:=fun row ws k hw=>fnT (setT (qVq hw rfl rfl) fun d k1 q1=>by
 obtain⟨rfl,_⟩:=zX4 q1;exact qWe fun _=>setT (qVq hw rfl rfl) fun d k2 q2=>qWe fun _=>retT rfl)
noncomputable def pOut(r:List Str):Pr:=(pNum 0 999999999999 r).bind fun a r=>pSk ":" r fun r=>(pNum 1 1000000 r).bind fun c r=>.ok (.tup [a,c]) r
theorem jJh:Rd wB pOut:=fun row ws k hw=>fnT (setT (qVq hw rfl rfl) fun d k1 q1=>qWe fun _=>qVt (vs:=[oV (oN 1)]) (us:=[d]) (qVq hw rfl rfl))
noncomputable def jZb(T:List Str->Pr)(r:List Str):Pr:=(T r).bind fun t r=>pSk "," r fun r=>(pNum 1 999999999999 r).bind fun c r=>pSk ")" r fun r=>.ok (tg "rest" [t,c]) r
noncomputable def qVw(T:List Str->Pr)(r:List Str):Pr:=(pName' r).bind fun n r=>pSk ":" r fun r=>(T r).bind fun t r=>.ok (.tup [n,t]) r
section
variable{R:Fn}{T:List Str->Pr}
theorem zKv(h:Rd R T):Rd (qJt R) (jZb T):=fun row ws k hw=>fnT (setT (h.call hw) fun d k1 q1=>qWe fun _=>setT (qVq hw rfl rfl) fun d k2 q2=>qWe fun _=>retT rfl)
theorem zXs(h:Rd R T):Rd (xB R) (qVw T):=fun row ws k hw=>fnT (setT (qJ5.call hw) fun d k1 q1=>qWe fun _=>qVt (vs:=[oV (oN 1)]) (us:=[d]) (h.call hw))
end

noncomputable def lenT:D->Int
 |.nd _ ds=>ds.length
 |_=>0
noncomputable def yE(p:List Str->Pr):Nat->List D->List Str->Pr
 | 0,_,_=>.no
 |n+1,ds,r=>cond (decide (hd r=",")) ((p r.tail).bind fun d r=>yE p n (ds ++ [d]) r) (.ok (.tup ds) r)
noncomputable def xX(p:List Str->Pr)(close:Str)(most:Int)(r:List Str):Pr:=cond (decide (hd r=close)) (.ok (.tup []) r.tail)
 ((p r).bind fun d r=>(yE p 100 [d] r).bind fun t r=>pSk close r fun r=>cond (decide (lenT t > most)) .er (.ok t r))
noncomputable abbrev tbl(R:Fn):List (Nat×Fn):=[(30,R),(31,wB),(32,(xB R)),(33,zG)]
section
variable{R G:Fn}{p:List Str->Pr}{row:Int}{ws:List Str}{k j:Nat}{close:Str}{most:Int}{y:Slot}
noncomputable abbrev le(close:Str)(most:Int)(j:Nat)(y:Slot):Ev:=[sS close,sN most,fz (.fn j),y]
theorem zVk(hG:(tbl R).lookup j=some G)(h:Rd G p)(hw:okW ws):Told (vV5 (tbl R) 3 [.io 0]) (fun o=>.s true o::le close most j y) (fun o=>.s true o::le close most j y) row ws k (p (ws.drop k)):=by
 have:=h.call (row:=row) (k:=k) (b:=true) (e:=le close most j y) hw;have e1:∀o,vV5 (tbl R) 3 [.io 0] (.s true o::le close most j y)=qY G [.io 0] (.s true o::le close most j y):=fun o=>by
  show(match(tbl R).lookup j with
   |some F=>qY F [.io 0] (.s true o::le close most j y)
   |none=>.no)=_
  rw[hG]
 unfold Told at this⊢;rw[e1];exact this
noncomputable abbrev fl(ds:List D):Slot:=.s false (.ow .lst (ds.map .fz))
theorem jWl{s:SP}{a:SE}{f:List O->O->Option (O×List O)}{π:List Nat}{os:List O}{fs:List (Str×D)}(h:s env=some (.p i π))(h0:qVm env i π=some os)(h1:a env=.er C fs):eMu1 s a f env=.er C fs:=by
 unfold eMu1;rw[h];show(opt (qVm env i π)).bind _=_;rw[h0];rw[h1];rfl
theorem vWt{t:ST}{s:SS}{n:Nat}{fs:List (Str×D)}(h:t env=.ok (true,e1))(h2:s e1=.er C fs):zW t s (n+1) env=.er C fs:=by
 show(t env).bind _=_;rw[h];show(s e1).bind _=_;rw[h2];rfl
noncomputable abbrev vV1(w:Str):ST:=asB (.v (fzS (vL 9 "passed" qT (.io 0) [(.v (oV (oC (.str w))))])))
theorem qKv{e:Ev}(h:hd (ws.drop k)=w):vV1 w (.s true (cu row ws k)::e)=.ok (true,.s true (cu row ws (k+1))::e):=by
 have m:=vQw (row:=row) (ws:=ws) (k:=k) (b:=true) (e:=e) (x:=w);rw[zN,decide_eq_true h,if_pos h]at m;exact vS (vQ (zC (zP m rfl) rfl) rfl) rfl rfl
theorem vJn{e:Ev}(h:hd (ws.drop k)≠w):vV1 w (.s true (cu row ws k)::e)=.ok (false,.s true (cu row ws k)::e):=by
 have m:=vQw (row:=row) (ws:=ws) (k:=k) (b:=true) (e:=e) (x:=w);rw[zN,decide_eq_false h,if_neg h]at m;exact vS (vQ (zC (zP m rfl) rfl) rfl) rfl rfl
theorem zWp(hG:(tbl R).lookup j=some G)(h:Rd G p)(hw:okW ws):∀(n m:Nat) (ds:List D) (k:Nat),n<=m->ds.length+n<=1000->(match yE p n ds (ws.drop k) with
  |.ok t r=>∃ds' k',t=.tup ds' /\ds'.length<=1000/\ws.drop k' =r/\zW (vV1 ",") (wI R) m (.s true (cu row ws k)::le close most j (fl ds))=.ok (.nx (.s true (cu row ws k')::le close most j (fl ds')))
  |.er =>zW (vV1 ",") (wI R) m (.s true (cu row ws k)::le close most j (fl ds))=er row
  |.no =>True)
 | 0,m,ds,k,_,_=>trivial
 |n+1,0,ds,k,hm,_=>by omega
 | n + 1,m + 1,ds,k,hm,hd' =>by
   unfold yE;by_cases hc:hd (ws.drop k)=","
   ·rw [decide_eq_true hc,←zI];have c1:=zVk (row:=row) (k:=k+1) (close:=close) (most:=most) (y:=fl ds) hG h hw;cases q:p (ws.drop (k+1)) with
    |no=>trivial
    | er=>
      rw[q]at c1;exact vWt (qKv hc) (qXr (jWl (i:=4) (π:=[]) (os:=ds.map .fz) rfl rfl c1))
    | ok d r=>
      rw[q]at c1;obtain⟨k1,rfl,c1⟩:=c1;have ih:=zWp hG h hw n m (ds ++ [d]) k1 (by omega) (by rw[aW];show ds.length+1+n<=1000;omega);have step:zW (vV1 ",") (wI R) (m+1) (.s true (cu row ws k)::le close most j (fl ds))=zW (vV1 ",") (wI R) m (.s true (cu row ws k1)::le close most j (fl (ds ++ [d]))):=by
       refine qKr (qKv hc) ?_
       refine qXq (vQj (i:=4) (π:=[]) (os0:=ds.map .fz) (os:=ds.map .fz) rfl rfl c1 rfl rfl (z:=(.fz .non,ds.map .fz ++ [.fz d])) ?_ rfl) ?_
       ·unfold apF;rw[decide_eq_true (show(ds.map O.fz).length <=lim from by rw[aP];exact aS (show ds.length<=1000 by omega) (by decide))];rfl
       ·show Res.ok (Out.nx [_,_,_,_, .s false (.ow .lst (ds.map .fz ++ [.fz d]))])=Res.ok (Out.nx [_,_,_,_, .s false (.ow .lst ((ds ++ [d]).map .fz))]);rw[cX];rfl
      rw[step];exact ih
   ·rw [decide_eq_false hc];exact⟨ds,k,rfl,by omega,rfl,qXk (vJn hc)⟩
theorem jQz(hG:(tbl R).lookup j=some G)(h:Rd G p)(hw:okW ws):Told (wX R) (fun o=> [.s true o,sS close,sN most,fz (.fn j)]) (fun o=> [.s true o,.un,.un,.un]) row ws k (xX p close most (ws.drop k)):=by
 refine fnTn (zs:=[sS close,sN most,fz (.fn j)]) (m:=1) ?_
 unfold xX;have m:=qYt (row:=row) (ws:=ws) (k:=k) (b:=true) (e:=[sN most,fz (.fn j),.un]) (x:=close);rw[zN]at m;by_cases hc:hd (ws.drop k)=close
 ·rw [decide_eq_true hc,if_pos hc] at m;rw[decide_eq_true hc,←zI];have tt:=vS (q:=true) (XB:=.ok (true,.s true (cu row ws (k+1))::le close most j .un)) (vQ (zC (zP m rfl) rfl) rfl) rfl rfl;exact⟨k+1,le close most j .un,rfl,qQg rfl,qD tt (vQe rfl rfl)⟩
 ·rw [decide_eq_false hc,if_neg hc] at m;rw[decide_eq_false hc];have tt:=vS (q:=false) (XB:=.ok (false,.s true (cu row ws k)::le close most j .un)) (vQ (zC (zP m rfl) rfl) rfl) rfl rfl;refine goT (fun z hz=>qD tt (qO hz)) rfl ?_
  have c1:=zVk (row:=row) (k:=k) (close:=close) (most:=most) (y:=.un) hG h hw;cases q:p (ws.drop k) with
  |no=>trivial
  |er=>rw[q]at c1;exact xK (qZ0 (show eLst [_] _=_ by unfold eLst;rw[zJv (zJq c1)];rfl))
  | ok d r=>
    rw[q]at c1;obtain⟨k1,rfl,c1⟩:=c1;refine goT (e2:=le close most j (fl [d])) (k2:=k1) (fun z hz=>qC (vYg (ds:=[d]) (qN (zP c1 rfl) rfl rfl) rfl rfl) hz) rfl ?_
    have lp:=zWp (row:=row) (close:=close) (most:=most) hG h hw 100 100000 [d] k1 (by decide) (by show 1+100<=1000;decide);show jH _ _ _ _ _ ((yE p 100 [d] (ws.drop k1)).bind _);cases q2:yE p 100 [d] (ws.drop k1) with
    |no=>trivial
    |er=>rw[q2]at lp;exact xK lp
    | ok t r=>
      rw[q2]at lp;obtain⟨ds',k2,rfl,hl,rfl,lp⟩:=lp;refine goT (e2:=le close most j (fl ds')) (k2:=k2) (fun z hz=>jD lp hz) rfl ?_
      dsimp only[Pr.bind,pSk];by_cases hx:hd (ws.drop k2)=close
      ·rw [decide_eq_true hx,←zI];refine goT (e2:=le close most j (fl ds')) (k2:=k2+1) (fun z hz=>qZ5 (zZc (zN.trans hx)) hz) rfl ?_
       refine ifT (q:=decide (lenT (.tup ds') > most)) ?_ (fun _=>qWo) fun _=>retT ?_
       ·show Res.ok (decide (((fzOs (ds'.map .fz)).length :Int) > most),_)=_;rw[qXp];rfl
       ·refine zZ (d:= .tup ds') (e:= .s true (cu row ws (k2 + 1))::le close most j (fl ds')) ?_ rfl;have e1:(ds'.map O.fz).map (fun o=>O.fz (fzO o))=ds'.map .fz :=by rw[bZ];rfl
        show((opt (tupleD [.nd .lst (fzOs (ds'.map .fz))])).bind fun z=>Res.ok (z,Slot.s true (cu row ws (k2+1)):: [sS close,sN most,fz (.fn j),.s false (.ow .lst ((ds'.map O.fz).map fun o=>O.fz (fzO o)))]))=_;rw[qXp,e1];rfl
      ·rw [decide_eq_false hx];exact xK (qXr (zZd fun z=>hx (zN.symm.trans z)))
end

section
variable{R G:Fn}{p:List Str->Pr}{row:Int}{ws:List Str}{k j:Nat}{close:Str}{most:Int}{e:Ev}
theorem vWq{F:Fn}{zs:List D}{x:Pr}{b:Bool}(hv:∀o,evOs ((vs.map Am.v).map Am.o) (.s b o::e)=.ok (zs.map .d,.s b o::e))(hl:vs.length=zs.length)(h:Told F (fun o=>.s true o::zs.map fz) (fun o=>.s true o::List.replicate zs.length .un) row ws k x):
  Told (qY F (.io 0::vs.map .v)) (fun o=>.s b o::e) (fun o=>.s b o::e) row ws k x:=by
 have key:∀(vs:List SV) (zs:List D),vs.length=zs.length->zM (.io 0::vs.map .v) (.p 0 []::zs.map .d)=[]/\wT (.io 0::vs.map .v) (.p 0 []::zs.map .d)=[0]/\∀o,j9 [] [] (.io 0::vs.map .v) (.p 0 []::zs.map .d) [o]=some (.s true o::zs.map fz):=by
  have k1:∀(vs:List SV) (zs:List D),vs.length=zs.length->zM (vs.map .v) (zs.map .d)=[]/\wT (vs.map .v) (zs.map .d)=[]/\j9 [] [] (vs.map .v) (zs.map .d) []=some (zs.map fz):=by
   intro vs;induction vs with
   |nil=>intro zs h;cases zs <;> first|exact⟨rfl,rfl,rfl⟩|cases h
   | cons v vs ih=>
     intro zs h;cases zs with
     |nil=>cases h
     | cons z zs=>
       obtain⟨a,b,c⟩:=ih zs (Nat.succ.inj h);refine⟨a,b,?_⟩;show(j9 [] [] (vs.map .v) (zs.map .d) []).bind _=_;rw[c];rfl
  intro vs zs h;obtain⟨a,b,c⟩:=k1 vs zs h;refine⟨a,by show 0::wT _ _=_;rw[b],fun o=>?_⟩;show(j9 [] [] (vs.map .v) (zs.map .d) []).bind _=_;rw[c];rfl
 have out:∀(vs:List SV) (zs:List D),vs.length=zs.length->∀o,qZp (.io 0::vs.map .v) (.s true o::List.replicate zs.length .un)=some [o]:=by
  have k2:∀(vs:List SV) (zs:List D),vs.length=zs.length->qZp (vs.map .v) (List.replicate zs.length .un)=some []:=by
   intro vs;induction vs with
   |nil=>intro zs h;cases zs <;> first|rfl|cases h
   | cons v vs ih=>
     intro zs h;cases zs with
     |nil=>cases h
     |cons z zs=>exact ih zs (Nat.succ.inj h)
  intro vs zs h o;show(qZp (vs.map .v) (List.replicate zs.length .un)).bind _=_;rw[k2 vs zs h];rfl
 obtain⟨k1,k2,k3⟩:=key vs zs hl;have ev:∀o,evOs ((.io 0::vs.map Am.v).map Am.o) (.s b o::e)=.ok (.p 0 []::zs.map .d,.s b o::e):=fun o=>vYm rfl (hv o) rfl
 cases x with
 | ok d r=>
   obtain⟨k',h1,h2⟩:=h;refine⟨k',h1,jK (ev _) ?_⟩;refine qJc (t0:=([],.s b (cu row ws k)::e)) (t:=([cu row ws k],.un ::e)) (q:=(.fz d,.s true (cu row ws k')::List.replicate zs.length .un)) (os:=[cu row ws k']) (by rw[k1];rfl) (by rw[k2];rfl) (by rw[k1];exact k3 _) h2 (out vs zs hl _) rfl ?_
   rw[k1,k2];rfl
 | er=>
   refine jK (ev _) (vQ5 (t0:=([],.s b (cu row ws k)::e)) (t:=([cu row ws k],.un ::e)) (by rw[k1];rfl) (by rw[k2];rfl) (by rw[k1];exact k3 _) h)
 |no=>trivial
theorem qWa{v3:SV}(hG:(tbl R).lookup j=some G)(h:Rd G p)(hw:okW ws)(h1:∀o,v1 (.s true o::e)=.ok (.str close,.s true o::e))(h2:∀o,v2 (.s true o::e)=.ok (.int most,.s true o::e))(h3:∀o,v3 (.s true o::e)=.ok (.fn j,.s true o::e)):
  Told (qY (wX R) [.io 0,.v v1,.v v2,.v v3]) (fun o=>.s true o::e) (fun o=>.s true o::e) row ws k (xX p close most (ws.drop k)):=
 vWq (vs:=[v1,v2,v3]) (zs:=[.str close,.int most,.fn j]) (fun o=>x9 (h1 o) (x9 (h2 o) (x9 (h3 o) rfl rfl) rfl) rfl) rfl (jQz hG h hw)
end
theorem vZi{p:List Str->Pr}(P:D->Prop)(hp:∀r d r',p r=.ok d r' ->P d):∀{n:Nat} {ds:List D} {r:List Str} {t:D} {r' :List Str},(∀d∈ds,P d)->yE p n ds r=.ok t r' ->∃ds',t=.tup ds' /\∀d∈ds',P d
 | 0,ds,r,t,r',_,h=>by cases h
 | n + 1,ds,r,t,r',ho,h=>by
   unfold yE at h;cases q:decide (hd r=",") with
   |false=>grind
   | true=>
     rw[q]at h;cases q2:p r.tail with
     |no=>rw[q2]at h;cases h
     |er=>rw[q2]at h;cases h
     | ok d r1=>
       rw[q2]at h;exact vZi P hp (fun z hz=>by rcases bG.mp hz with y|y;exact ho z y;rw[bU.mp y];exact hp _ _ _ q2) h
theorem qYq{p:List Str->Pr}(P:D->Prop)(hp:∀r d r',p r=.ok d r' ->P d){close:Str}{most:Int}(hm:0<=most){r:List Str}{t:D}(h:xX p close most r=.ok t r'):∃ds,t=.tup ds/\(∀d∈ds,P d)/\(ds.length:Int)<=most:=by
 unfold xX at h;cases q:decide (hd r=close) with
 |true=>rw[q]at h;cases h;exact⟨[],rfl,fun d hd=>(by cases hd),hm⟩
 | false=>
   rw[q]at h;change (p r).bind _=_ at h;cases q1:p r with
   |no=>rw[q1]at h;cases h
   |er=>rw[q1]at h;cases h
   | ok d r1=>
     rw[q1]at h;change (yE p 100 [d] r1).bind _=_ at h;cases q2:yE p 100 [d] r1 with
     |no=>rw[q2]at h;cases h
     |er=>rw[q2]at h;cases h
     | ok t2 r2=>
       rw[q2]at h;obtain⟨ds,rfl,hP⟩:=vZi P hp (fun z hz=>by rw[bU.mp hz];exact hp _ _ _ q1) q2;dsimp only[Pr.bind,pSk]at h;cases q3:decide (hd r2=close) with
       |false=>rw[q3]at h;cases h
       | true=>
         rw[q3]at h;cases q4:decide (lenT (.tup ds) > most) with
         |true=>rw[q4]at h;cases h
         | false=>
           rw[q4]at h;cases h;exact⟨ds,rfl,hP,by have:=of_decide_eq_false q4;simp only[lenT]at this;omega⟩
noncomputable def fst1:D->D
 |.nd _ (x::_)=>x
 |_=>.non
noncomputable def kids:D->List D
 |.nd _ ds=>ds
 |_=> []
noncomputable def qZ3(ds:List D):Option Bool:=match lenTD [.nd .lst ds] with
 |some (.int n)=>some (decide (n<ds.length))
 |_=>none
noncomputable def qWq(p:List Str->Pr)(close:Str)(r:List Str):Pr:=(xX p close 6 r).bind fun t r=>cond (decide (lenT t=0)) .er (match qZ3 ((kids t).map fst1) with
 |some b=>cond b .er (.ok t r)
 |none=>.no)
theorem jVw{ws:List Str}{b:Bool}(h:qZ3 ds=some b):wU [fz (fzO (cu row ws k)),fz (.nd .lst ds)]=cond b (er row) (.ok (.fz .non,[.un,.un])):=by
 unfold qZ3 at h;split at h
 ·rename_i n hn;cases h;have t:asB (oLt (.v (svA lenTD [(oN 1)])) (oL lenD [(oN 1)])) [fz (fzO (cu row ws k)),fz (.nd .lst ds)]=.ok (decide (n<ds.length),[fz (fzO (cu row ws k)),fz (.nd .lst ds)]):=by
   refine vS (d:=.bl (decide (n<ds.length))) (vQ (h1:=.d (.bl (decide (n<ds.length)))) (qB (h1:=.d (.int n)) (h2:=.d (.int ds.length)) (zC (vQd (hs:=[.d (.nd .lst ds)]) rfl rfl hn rfl) rfl) rfl rfl rfl rfl rfl rfl) rfl) rfl rfl
  cases q:decide (n<(ds.length:Int)) with
  |true=>rw[q]at t;exact xG (yG t rfl)
  |false=>rw[q]at t;exact vE (yG t rfl) rfl
 ·cases h
section
variable{R G:Fn}{p:List Str->Pr}{row:Int}{ws:List Str}{k j:Nat}{close:Str}{T:List Str->Pr}
theorem jXa(hP:∀d∈ds,∃a b,d=.tup [a,b]){o:O}{e:Ev}(hl:ds.length<=1000):fzS (compS 1 [] [0] (iV (oV (oN 3))) (gN 0) bTrue (oV (oIx (oN 0) (oC (.int 0))))) [.s true o,sS close,fz (.fn j),fz (.tup ds)]=.ok (.nd .lst (ds.map fst1),[.s true o,sS close,fz (.fn j),fz (.tup ds)]):=by
 obtain⟨e',h1,h2⟩:=compL_map (g:=gN 0) (el:=oV (oIx (oN 0) (oC (.int 0)))) (ds:=ds) (env:=[.un]) (fun e=>e.length=1) fst1 (fun d e hd he=>by
  obtain⟨a,b,rfl⟩:=hP d hd;match e,he with
  |[y],_=>exact⟨[fz (.tup [a,b])],[fz (.tup [a,b])],rfl,rfl,rfl⟩) rfl
 match e',h2 with
 |[y],_=>
 refine qYw (ds:=ds) (e:=[.s true o,sS close,fz (.fn j),fz (.tup ds)]) rfl ?_ h1 rfl;rw[decide_eq_true (aS hl (by decide))];rfl
theorem vXa(hG:(tbl R).lookup j=some G)(h:Rd G p)(hp:∀r d r',p r=.ok d r' ->∃a b,d=.tup [a,b])(hw:okW ws):Told (yO R) (fun o=> [.s true o,sS close,fz (.fn j)]) (fun o=> [.s true o,.un,.un]) row ws k (qWq p close (ws.drop k)):=by
 refine fnTn (zs:=[sS close,fz (.fn j)]) (m:=1) (setT (i:=2) (qWa (most:=6) hG h hw (fun _=>rfl) (fun _=>rfl) (fun _=>rfl)) fun t k1 q1=>?_);obtain⟨ds,rfl,hP,hl⟩:=qYq _ hp (by decide) q1;refine ifT (q:=decide (lenT (.tup ds)=0)) ?_ (fun _=>qWo) fun _=>?_
 ·show Res.ok (((ds.length:Int) == 0),_)=_;have:((ds.length:Int) == 0)=decide (lenT (.tup ds)=0):=by rw[cH];simp[lenT]
  rw[this]
 ·show jH _ [sS close,fz (.fn j),fz (.tup ds)] _ _ _ _;have c1:=jXa (close:=close) (j:=j) (o:=cu row ws k1) (e:=[]) hP (by omega);show jH _ _ _ _ _ (match qZ3 (ds.map fst1) with
   |some b=>cond b .er (.ok (.tup ds) (ws.drop k1))
   |none=>.no)
  cases q2:qZ3 (ds.map fst1) with
  |none=>trivial
  | some b=>
    have a1:=jVw (row:=row) (ws:=ws) (k:=k1) q2;have ev:evOs (([(.b (pOf (oN 0))),(.v (fzS (compS 1 [] [0] (iV (oV (oN 3))) (gN 0) bTrue (oV (oIx (oN 0) (oC (.int 0)))))))]:List Am).map Am.o) [.s true (cu row ws k1),sS close,fz (.fn j),fz (.tup ds)]=.ok ([.p 0 [],.d (.nd .lst (ds.map fst1))],[.s true (cu row ws k1),sS close,fz (.fn j),fz (.tup ds)]):=jZt rfl rfl (x9 c1 rfl rfl) rfl;cases b with
    |true=>exact xK (qXr (jK ev (vQ5 (t0:=([cu row ws k1],[.un,sS close,fz (.fn j),fz (.tup ds)])) (t:=([],[.un,sS close,fz (.fn j),fz (.tup ds)])) rfl rfl rfl a1)))
    | false=>
      refine⟨k1,[sS close,fz (.fn j),.un],rfl,qQg rfl,qZ5 (jK ev (qJc (t0:=([cu row ws k1],[.un,sS close,fz (.fn j),fz (.tup ds)])) (t:=([],[.un,sS close,fz (.fn j),fz (.tup ds)])) rfl rfl rfl a1 rfl rfl rfl)) rfl⟩
end

noncomputable def pIf(T:List Str->Pr)(r:List Str):Pr:=(xX T ")" 3 r).bind fun t r=>match kids t with
 |[a,b,c]=>.ok (tg "if" [a,b,c]) r
 |_=>.er
noncomputable def zWh(T:List Str->Pr)(w:Str)(r:List Str):Pr:=pSk "(" r fun r=>cond (decide (w="if")) (pIf T r) (cond (decide (w="flip")) (pFlip r) (cond (decide (w="pick")) ((qWq pOut ")" r).bind fun t r=>.ok (tg "pick" [t]) r) (jZb T r)))
noncomputable def vYe(T:List Str->Pr)(w:Str)(r:List Str):Pr:=cond (yI w) (cond (decide (hd r="(")) ((xX T ")" 3 r.tail).bind fun t r=>.ok (tg "call" [.str w,t]) r) (.ok (tg "name" [.str w]) r)) .er
noncomputable def qWd(T:List Str->Pr)(r:List Str):Pr:=cond (decide (hd r="(")) ((T r.tail).bind fun t r=>pSk ")" r fun r=>.ok t r)
 (cond (decide (hd r="{")) ((qWq (qVw T) "}" r.tail).bind fun t r=>.ok (tg "record" [t]) r)
 (cond (j5.contains (hd r)) (zWh T (hd r) r.tail)
 (cond (qQi (hd r)) (.ok (tg "num" [.int (valS (hd r))]) r.tail) (vYe T (hd r) r.tail))))
theorem zX3(r:List Str)(d:D)(r' :List Str)(h:pOut r=.ok d r'):∃a b,d=.tup [a,b]:=by
 unfold pOut at h;cases q:pNum 0 999999999999 r with
 |no=>rw[q]at h;cases h
 |er=>rw[q]at h;cases h
 | ok x r1=>
   rw[q]at h;dsimp only[Pr.bind,pSk]at h;grind
theorem vY6(T:List Str->Pr)(r:List Str)(d:D)(r' :List Str)(h:qVw T r=.ok d r'):∃a b,d=.tup [a,b]:=by
 unfold qVw at h;cases q:pName' r with
 |no=>rw[q]at h;cases h
 |er=>rw[q]at h;cases h
 | ok x r1=>
   rw[q]at h;dsimp only[Pr.bind,pSk]at h;grind
section
variable{R:Fn}{T:List Str->Pr}{row:Int}{ws:List Str}{k:Nat}{w:Str}
theorem jXz(h:Rd R T):Rd (qY1 R) (pIf T):=fun row ws k hw=>fnT (setT (i:=0) (qWa (R:=R) (j:=30) (most:=3) rfl h hw (fun _=>rfl) (fun _=>rfl) (fun _=>rfl)) fun t k1 q1=>by
 obtain⟨ds,rfl,_,hl⟩:=qYq (fun _=>True) (fun _ _ _ _=>trivial) (by decide) q1;match ds,hl with
 |[a,b,c],_=>exact ifT (q:=false) (x:=.er) rfl (fun z=>by cases z) fun _=>retT rfl
 |[a,b],_=>exact ifT (q:=true) (y:=.er) rfl (fun _=>qWo) fun z=>by cases z
 |[a],_=>exact ifT (q:=true) (y:=.er) rfl (fun _=>qWo) fun z=>by cases z
 |[],_=>exact ifT (q:=true) (y:=.er) rfl (fun _=>qWo) fun z=>by cases z
 |a::b::c::d::ds,hl=>simp at hl;omega)
theorem zY9(h:Rd R T)(hw:okW ws):Told (qZm R) (fun o=> [.s true o,sS w]) (fun o=> [.s true o,.un]) row ws k (zWh T w (ws.drop k)):=
 fnTn (zs:=[sS w]) (m:=0) (qWe fun _=>ifT (q:=decide (w="if")) rfl (fun _=>retC ((jXz h).call hw)) fun _=>ifT (q:=decide (w="flip")) rfl (fun _=>retC (zKx.call hw)) fun _=>
  ifT (q:=decide (w="pick")) rfl (fun _=>qVt (vs:=[oV (oC (.str "pick"))]) (us:=[.str "pick"]) (vWq (vs:=[oV (oC (.str ")")),oV (oC (.fn 31))]) (zs:=[.str ")",.fn 31]) (fun _=>rfl) rfl (vXa (R:=R) (j:=31) rfl jJh zX3 hw))) fun _=>retC ((zKv h).call hw))
theorem zX9(h:Rd R T)(hw:okW ws)(hl:w.length<=1000):Told (qZl R) (fun o=> [.s true o,sS w]) (fun o=> [.s true o,.un]) row ws k (vYe T w (ws.drop k)):=by
 refine fnTn (zs:=[sS w]) (m:=0) ?_
 unfold vYe;have t:=qKh (env:=[.s true (cu row ws k),sS w]) (i:=1) hl rfl;cases q:yI w with
 | true=>
   rw[q]at t;refine ifT (q:=false) (x:=.er) (not_of t rfl) (fun z=>by cases z) fun _=>jYb (g:=fun r=>(xX T ")" 3 r).bind fun t r=>.ok (tg "call" [.str w,t]) r) (fun _=>?_) fun _=>retT rfl
   exact qVt (vs:=[oV (oC (.str "call")),oV (oN 1)]) (us:=[.str "call",.str w]) (qWa (R:=R) (j:=30) (most:=3) rfl h hw (fun _=>rfl) (fun _=>rfl) (fun _=>rfl))
 |false=>rw[q]at t;exact ifT (q:=true) (y:=.er) (not_of t rfl) (fun _=>qWo) fun z=>by cases z
theorem zKw(h:Rd R T):Rd (qJu R) (qWd T):=fun row ws k hw=>by
 have h1:=hw.at k;rw[zN]at h1;unfold qWd;rw[←zI];generalize hx:hd (ws.drop k)=w at *;refine fnT (jZj (i:=0) ?_);rw[hx];refine ifT (q:=decide (w="(")) rfl (fun _=>setT (i:=1) (h.call hw) fun d k1 q1=>qWe fun _=>⟨k1+1,[sS w,.un],rfl,qQg rfl,rfl⟩) fun _=>ifT (q:=decide (w="{")) rfl (fun _=>?_) fun _=>ifT (q:=j5.contains w) ?_ (fun _=>?_) fun _=>ifT (q:=qQi w) (vVb h1.1 rfl) (fun q=>retT ?_) fun _=>?_
 ·exact qVt (vs:=[oV (oC (.str "record"))]) (us:=[.str "record"]) (vWq (vs:=[oV (oC (.str "}")),oV (oC (.fn 32))]) (zs:=[.str "}",.fn 32]) (fun _=>rfl) rfl (vXa (R:=R) (j:=32) rfl (zXs h) (vY6 T) hw))
 ·exact vS (d:=.bl (j5.contains w)) (vQ (h1:=.d (.bl (j5.contains w))) (qB (h1:=.d (.str w)) (h2:=.d (.tup (j5.map .str))) rfl rfl rfl rfl rfl (inSS w j5) rfl) rfl) rfl rfl
 ·exact retC (vWq (vs:=[oV (oN 1)]) (zs:=[.str w]) (fun _=>rfl) rfl (zY9 h hw))
 ·obtain⟨n,hn⟩:=h1.2 q;have hl:w.length<=640:=by
   have:qVc w.cps.toList=true:=q;unfold qVc at this;show w.cps.size<=640;rw[←Array.length_toList];grind
  have iv:qWf [.str w]=some (.int (valS w)):=by
   show cond (decide (w.length<=640)) _ _=_;rw[decide_eq_true hl,hn];unfold valS;rw[hn];rfl
  exact zZ (xD (qN (d:=.str "num") rfl (qN (d:=.int (valS w)) (vQ (h1:=.d (.int (valS w))) (qKa (hs:=[.d (.str w)]) rfl rfl iv rfl) rfl) rfl rfl) rfl) rfl rfl) rfl
 ·exact retC (vWq (vs:=[oV (oN 1)]) (zs:=[.str w]) (fun _=>rfl) rfl (zX9 h hw h1.1))
end

noncomputable def qQf(test:Str->Bool)(step:D->List Str->Pr):Nat->D->List Str->Pr
 | 0,_,_=>.no
 |n+1,t,r=>cond (test (hd r)) ((step t r).bind fun d r=>qQf test step n d r) (.ok t r)
section
variable{test:Str->Bool}{step:D->List Str->Pr}{row:Int}{ws:List Str}{tst:ST}{body:SS}
noncomputable def jZv(test:Str->Bool)(step:D->List Str->Pr)(row:Int)(ws:List Str)(tst:ST)(body:SS)(l:Nat):Prop:=∀(t:D) (k:Nat) (y:Ev),okE l y->
 (test (hd (ws.drop k))=false->tst (.s true (cu row ws k)::fz t::y)=.ok (false,.s true (cu row ws k)::fz t::y))/\
 (test (hd (ws.drop k))=true->∃e1,tst (.s true (cu row ws k)::fz t::y)= .ok (true,e1)/\match step t (ws.drop k) with
  |.ok d r=>∃k' y',ws.drop k' =r/\okE l y' /\body e1=.ok (.nx (.s true (cu row ws k')::fz d::y'))
  |.er =>body e1=er row
  |.no =>True)
theorem zVj(ht:jZv test step row ws tst body l):∀(n m:Nat) (t:D) (k:Nat) (y:Ev),n<=m->okE l y->(match qQf test step n t (ws.drop k) with
  |.ok d r=>∃k' y',ws.drop k' =r/\okE l y' /\zW tst body m (.s true (cu row ws k)::fz t::y)=.ok (.nx (.s true (cu row ws k')::fz d::y'))
  |.er =>zW tst body m (.s true (cu row ws k)::fz t::y)=er row
  |.no =>True)
 | 0,m,t,k,y,_,_=>trivial
 |n+1,0,t,k,y,hm,_=>by omega
 | n + 1,m + 1,t,k,y,hm,hy=>by
   obtain⟨h1,h2⟩:=ht t k y hy;unfold qQf;cases q:test (hd (ws.drop k)) with
   |false=>exact⟨k,y,rfl,hy,qXk (h1 q)⟩
   | true=>
     obtain⟨e1,h3,h4⟩:=h2 q;cases q2:step t (ws.drop k) with
     |no=>trivial
     |er=>rw[q2]at h4;exact vWt h3 h4
     | ok d r=>
       rw[q2]at h4;obtain⟨k1,y1,rfl,o1,h4⟩:=h4;rw[qKr h3 h4];exact zVj ht n m d k1 y1 (by omega) o1
theorem vYp{a:SE}{x:Pr}(h:Told a (fun o=>.s true o:: .un ::List.replicate l .un) (fun o=>.s true o:: .un ::List.replicate l .un) row ws k x)(ht:jZv test step row ws tst body l):
  Told (fnS 1 (l+1) (sSeq (sSet 1 a) (sSeq (zW tst body 100000) (sRet (eMv 1))))) (fun o=> [.s true o]) (fun o=> [.s true o]) row ws k (x.bind fun d r=>qQf test step 100 d r):=by
 refine fnT (setT (i:=0) h fun d k1 q1=>?_);have c:=zVj ht 100 100000 d k1 (List.replicate l .un) (by decide) ⟨eZ,fun s hs=>by rw[List.eq_of_mem_replicate hs];rfl⟩;show jH _ (fz d::List.replicate l .un) _ _ _ (qQf test step 100 d (ws.drop k1));cases q:qQf test step 100 d (ws.drop k1) with
 |no=>trivial
 |er=>rw[q]at c;exact xK c
 | ok d2 r=>
   rw[q]at c;obtain⟨k2,y2,h1,h0,c⟩:=c;refine⟨k2,.un ::y2,h1,⟨by rw[aY,aY,h0.1,eZ],fun s hs=>?_⟩,jD c rfl⟩;rcases aH.mp hs with z|z
   ·rw[z];rfl
   ·exact h0.2 s z
end
noncomputable def zQg(t:D)(r:List Str):Pr:=(pName' r.tail).bind fun d r=>.ok (tg "field" [t,d]) r
noncomputable def qVu(T:List Str->Pr)(r:List Str):Pr:=(qWd T r).bind fun d r=>qQf (fun w=>decide (w=".")) zQg 100 d r
noncomputable def zJ8(T:List Str->Pr)(t:D)(r:List Str):Pr:=(qVu T r.tail).bind fun d r=>.ok (tg "op" [.str "*",t,d]) r
noncomputable def qK7(T:List Str->Pr)(r:List Str):Pr:=(qVu T r).bind fun d r=>qQf (fun w=>decide (w="*")) (zJ8 T) 100 d r
noncomputable def jV4(T:List Str->Pr)(t:D)(r:List Str):Pr:=(qK7 T r.tail).bind fun d r' =>.ok (tg "op" [.str (hd r),t,d]) r'
noncomputable def pSum(T:List Str->Pr)(r:List Str):Pr:=(qK7 T r).bind fun d r=>qQf (fun w=> [("+":Str),"-"].contains w) (jV4 T) 100 d r
noncomputable def qVv(T:List Str->Pr)(r:List Str):Pr:=(pSum T r).bind fun t r=>cond ([("=":Str),"<"].contains (hd r)) ((pSum T r.tail).bind fun d r' =>.ok (tg "op" [.str (hd r),t,d]) r') (.ok t r)
noncomputable def jB:Nat->List Str->Pr
 | 0,_=>.no
 |h+1,r=>qVv (jB h) r
section
variable{R:Fn}{T:List Str->Pr}{row:Int}{ws:List Str}{k:Nat}{e:Ev}{b:Bool}
theorem vW4(h:Rd R T):Rd (yN R) (qVu T):=fun row ws k hw=>vYp (l:=0) ((zKw h).call hw) fun t k y hy=>by
 cases dM hy.1;refine⟨fun q=>vJn (of_decide_eq_false q),fun q=>⟨_,qKv (of_decide_eq_true q),?_⟩⟩;have c:=tupT (vs:=[oV (oC (.str "field")),oV (oN 1)]) (us:=[.str "field",t]) (qJ5.call (row:=row) (k:=k+1) (b:=true) (e:=[fz t]) hw) rfl (by simp);unfold zQg;rw[←zI];cases q2:pName' (ws.drop (k+1)) with
 |no=>trivial
 |er=>rw[q2]at c;exact qZ0 c
 |ok d r=>rw[q2]at c;obtain⟨k1,h1,c⟩:=c;exact⟨k1,[],h1,qQg rfl,qJ3 c rfl⟩
theorem zQm(h:Rd R T):Rd (xC R) (qK7 T):=fun row ws k hw=>vYp (l:=0) ((vW4 h).call hw) fun t k y hy=>by
 cases dM hy.1;refine⟨fun q=>vJn (of_decide_eq_false q),fun q=>⟨_,qKv (of_decide_eq_true q),?_⟩⟩;have c:=tupT (vs:=[oV (oC (.str "op")),oV (oC (.str "*")),oV (oN 1)]) (us:=[.str "op",.str "*",t]) ((vW4 h).call (row:=row) (k:=k+1) (b:=true) (e:=[fz t]) hw) rfl (by simp);unfold zJ8;rw[←zI];cases q2:qVu T (ws.drop (k+1)) with
 |no=>trivial
 |er=>rw[q2]at c;exact qZ0 c
 |ok d r=>rw[q2]at c;obtain⟨k1,h1,c⟩:=c;exact⟨k1,[],h1,qQg rfl,qJ3 c rfl⟩
theorem vQm{x y:Str}:asB (o2 inD (.v (fzS (vL 9 "ahead" vC (.b (pOf (oN 0))) []))) (.v (qS [(oV (oC (.str x))),(oV (oC (.str y)))]))) (.s true (cu row ws k)::e)=.ok ([x,y].contains (hd (ws.drop k)),.s true (cu row ws k)::e):=by
 have m:=vJo (row:=row) (ws:=ws) (k:=k) (b:=true) (e:=e);rw[zN]at m;exact vS (d:=.bl ([x,y].contains (hd (ws.drop k)))) (vQ (h1:=.d (.bl ([x,y].contains (hd (ws.drop k))))) (qB (h1:=.d (.str (hd (ws.drop k)))) (h2:=.d (.tup [.str x,.str y])) (zC (zP m rfl) rfl) rfl rfl rfl rfl (inSS _ [x,y]) rfl) rfl) rfl rfl
theorem zWd(h:Rd R T):Rd (xL R) (pSum T):=fun row ws k hw=>vYp (l:=1) ((zQm h).call hw) fun t k y hy=>by
 match y,hy with
 |[y],hy=>
 refine⟨fun q=>by rw[vQm,q],fun q=>⟨_,by rw[vQm,q],?_⟩⟩;have m:=vQk (row:=row) (ws:=ws) (k:=k) (b:=true) (e:=[fz t,y]);rw[zN]at m;have c:=tupT (vs:=[oV (oC (.str "op")),oV (oN 2),oV (oN 1)]) (us:=[.str "op",.str (hd (ws.drop k)),t]) ((zQm h).call (row:=row) (k:=k+1) (b:=true) (e:=[fz t,sS (hd (ws.drop k))]) hw) rfl (by simp);unfold jV4;rw[←zI];cases q2:qK7 T (ws.drop (k+1)) with
 |no=>trivial
 |er=>rw[q2]at c;exact qC m (qZ0 c)
 |ok d r=>rw[q2]at c;obtain⟨k1,h1,c⟩:=c;exact⟨k1,[sS (hd (ws.drop k))],h1,qQg rfl,qC m (qJ3 c rfl)⟩
end
theorem vJl:∀h:Nat,Rd (zF h) (jB h)
 | 0=>fun _ _ _ _=>trivial
 | h + 1=>fun row ws k hw=>by
   have ih:=vJl h;refine fnT (setT (i:=0) ((zWd ih).call hw) fun t k1 q1=>?_);show jH _ [fz t,.un] _ _ _ _;cases q: [("=":Str),"<"].contains (hd (ws.drop k1)) with
   |false=>exact⟨k1,[.un,.un],rfl,qQg rfl,qD (q:=false) (e:=[.s true (cu row ws k1),fz t,.un]) (by rw[vQm,q]) (qO rfl)⟩
   | true=>
     have m:=vQk (row:=row) (ws:=ws) (k:=k1) (b:=true) (e:=[fz t,.un]);rw[zN]at m;have c:=tupT (vs:=[oV (oC (.str "op")),oV (oN 2),oV (oN 1)]) (us:=[.str "op",.str (hd (ws.drop k1)),t]) ((zWd ih).call (row:=row) (k:=k1+1) (b:=true) (e:=[fz t,sS (hd (ws.drop k1))]) hw) rfl (by simp);rw[←zI];cases q2:pSum (jB h) (ws.drop (k1+1)) with
     |no=>trivial
     | er=>
       rw[q2]at c;have c' :owS (qS [oV (oC (.str "op")),oV (oN 2),oV (oN 1),fzS (qY (xL (zF h)) [.io 0])]) [.s true (cu row ws (k1+1)),fz t,sS (hd (ws.drop k1))]=er row:=c;exact qD (q:=true) (e:=[.s true (cu row ws k1),fz t,.un]) (by rw[vQm,q]) (xK (qC m (qZ0 c')))
     | ok d r=>
       rw[q2]at c;obtain⟨k2,h1,c⟩:=c;have c' :owS (qS [oV (oC (.str "op")),oV (oN 2),oV (oN 1),fzS (qY (xL (zF h)) [.io 0])]) [.s true (cu row ws (k1+1)),fz t,sS (hd (ws.drop k1))]=.ok (.fz (tg "op" [.str (hd (ws.drop k1)),t,d]),[.s true (cu row ws k2),fz t,sS (hd (ws.drop k1))]):=c;exact⟨k2,[.un,sS (hd (ws.drop k1))],h1,qQg rfl,qD (q:=true) (e:=[.s true (cu row ws k1),fz t,.un]) (by rw[vQm,q]) (jD (e:=[.s true (cu row ws k2),fz (tg "op" [.str (hd (ws.drop k1)),t,d]),sS (hd (ws.drop k1))]) (qC m (qJ3 c' rfl)) rfl)⟩

noncomputable def pTold(r:List Str):Pr:=pSk "=" r fun r=>jB 12 r
theorem vJk:Rd yW pTold:=fun row ws k hw=>fnT (qWe fun _=>retC ((vJl 12).call hw))
noncomputable def qZ2(t:D):Option Bool:=match lenTD [t] with
 |some (.int n)=>some (decide (n<lenT t))
 |_=>none
noncomputable def pDef(r:List Str):Pr:=(pName' r).bind fun n r=>pSk "(" r fun r=>(xX pName' ")" 3 r).bind fun t r=>match qZ2 t with
 |some b=>cond b .er ((pTold r).bind fun d r=>.ok (tg "def" [n,t,d]) r)
 |none=>.no
noncomputable def pLet(r:List Str):Pr:=(pName' r).bind fun n r=>(pTold r).bind fun d r=>.ok (tg "let" [n,d]) r
noncomputable def pAgain(r:List Str):Pr:=(pNum 0 30 r).bind fun n r=>(pName' r).bind fun x r=>(pTold r).bind fun d r=>.ok (tg "again" [n,x,d]) r
noncomputable def pWords(r:List Str):Pr:=cond (decide (hd r="def")) (pDef r.tail) (cond (decide (hd r="let")) (pLet r.tail) (cond (decide (hd r="again")) (pAgain r.tail) (cond ([("see":Str),"ask"].contains (hd r)) ((jB 12 r.tail).bind fun t r' =>.ok (.tup [.str (hd r),t]) r') .er)))
theorem zKa{ws:List Str}{b:Bool}(h:qZ2 (.tup ds)=some b):wU [fz (fzO (cu row ws k)),fz (.tup ds)]=cond b (er row) (.ok (.fz .non,[.un,.un])):=by
 unfold qZ2 at h;split at h
 ·rename_i n hn;cases h;have t:asB (oLt (.v (svA lenTD [(oN 1)])) (oL lenD [(oN 1)])) [fz (fzO (cu row ws k)),fz (.tup ds)]=.ok (decide (n<ds.length),[fz (fzO (cu row ws k)),fz (.tup ds)]):=by
   refine vS (d:=.bl (decide (n<ds.length))) (vQ (h1:=.d (.bl (decide (n<ds.length)))) (qB (h1:=.d (.int n)) (h2:=.d (.int ds.length)) (zC (vQd (hs:=[.d (.tup ds)]) rfl rfl hn rfl) rfl) rfl rfl rfl rfl rfl rfl) rfl) rfl rfl
  show fnS 2 0 _ _=cond (decide (n<(ds.length:Int))) _ _;cases q:decide (n<(ds.length:Int)) with
  |true=>rw[q]at t;exact xG (yG t rfl)
  |false=>rw[q]at t;exact vE (yG t rfl) rfl
 ·cases h
theorem jJj:Rd qXa pDef:=fun row ws k hw=>fnT (setT (i:=0) (qJ5.call hw) fun n k1 q1=>qWe fun _=>setT (i:=1) (qWa (R:=zF 12) (j:=33) (most:=3) rfl qJ5 hw (fun _=>rfl) (fun _=>rfl) (fun _=>rfl)) fun t k2 q2=>by
 obtain⟨ds,rfl,_,hl⟩:=qYq (fun _=>True) (fun _ _ _ _=>trivial) (by decide) q2;cases q3:qZ2 (.tup ds) with
 |none=>trivial
 | some b=>
   have a1:=zKa (row:=row) (ws:=ws) (k:=k2) q3;have ev:evOs (([(.b (pOf (oN 0))),(.v (oV (oN 2)))]:List Am).map Am.o) [.s true (cu row ws k2),fz n,fz (.tup ds)]=.ok ([.p 0 [],.d (.tup ds)],[.s true (cu row ws k2),fz n,fz (.tup ds)]):=rfl;cases b with
   |true=>exact xK (qXr (jK ev (vQ5 (t0:=([cu row ws k2],[.un,fz n,fz (.tup ds)])) (t:=([],[.un,fz n,fz (.tup ds)])) rfl rfl rfl a1)))
   | false=>
     refine goT (e2:=[fz n,fz (.tup ds)]) (k2:=k2) (fun z hz=>qZ5 (jK ev (qJc (t0:=([cu row ws k2],[.un,fz n,fz (.tup ds)])) (t:=([],[.un,fz n,fz (.tup ds)])) rfl rfl rfl a1 rfl rfl rfl)) hz) rfl ?_
     exact qVt (vs:=[oV (oC (.str "def")),oV (oN 1),oV (oN 2)]) (us:=[.str "def",n,.tup ds]) (vJk.call hw))
theorem jJi:Rd qW9 pLet:=fun row ws k hw=>fnT (setT (i:=0) (qJ5.call hw) fun n k1 q1=>qVt (vs:=[oV (oC (.str "let")),oV (oN 1)]) (us:=[.str "let",n]) (vJk.call hw))
theorem zXt:Rd qZn pAgain:=fun row ws k hw=>fnT (setT (i:=0) (qVq hw rfl rfl) fun n k1 q1=>setT (i:=1) (qJ5.call hw) fun x k2 q2=>qVt (vs:=[oV (oC (.str "again")),oV (oN 1),oV (oN 2)]) (us:=[.str "again",n,x]) (vJk.call hw))
theorem zXr:Rd qZk pWords:=fun row ws k hw=>by
 unfold pWords;rw[←zI];generalize hx:hd (ws.drop k)=w at *;refine fnT (jZj (i:=0) ?_);rw[hx];refine ifT (q:=decide (w="def")) rfl (fun _=>retC (jJj.call hw)) fun _=>ifT (q:=decide (w="let")) rfl (fun _=>retC (jJi.call hw)) fun _=>ifT (q:=decide (w="again")) rfl (fun _=>retC (zXt.call hw)) fun _=>ifT (q:=[("see":Str),"ask"].contains w) ?_ (fun _=>?_) fun _=>qWo
 ·exact vS (d:=.bl ([("see":Str),"ask"].contains w)) (vQ (h1:=.d (.bl ([("see":Str),"ask"].contains w))) (qB (h1:=.d (.str w)) (h2:=.d (.tup [.str "see",.str "ask"])) rfl rfl rfl rfl rfl (inSS w ["see","ask"]) rfl) rfl) rfl rfl
 ·exact qVt (vs:=[oV (oN 1)]) (us:=[.str w]) ((vJl 12).call hw)

theorem vW2(k:Nat):∀(r:List Nat),∀c∈r.take (zB k r),qI c=k
 |[],c,h=>by simp at h
 | x::r,c,h=>by
   rw[jP]at h;by_cases z:qI x=k
   ·rw [if_pos z,List.take_succ_cons] at h;rcases aH.mp h with y|y
    ·grind
    ·exact vW2 k r c y
   ·grind
theorem vZh:∀(n:Nat) (R:List Nat),R.length<=n->∀w∈parts R,w≠ []/\w.length<=R.length/\((∃c,w.head?=some c/\qI c=1)->∀c∈w,qI c=1)
 |n,[],_,w,h=>by rw[qJ9]at h;cases h
 | 0,c::R,hn,w,h=>by simp at hn
 | n + 1,c::R,hn,w,h=>by
   rw[wV]at h;have hp:=yJ c R;have hl:=qW5 (c::R);rcases bG.mp h with z|z
   ·by_cases h32:c=32
    ·rw[if_pos h32]at z;cases z
    ·rw [if_neg h32] at z;cases bU.mp z;refine⟨fun q=>?_,by rw[dG];omega,fun⟨c',e1,e2⟩=>?_⟩
     ·have:=congrArg List.length q;rw[dG]at this;simp at this;omega
     ·have hc:c' =c:=by
       cases hq:qR (c::R) with
       |zero=>omega
       |succ m=>rw[hq]at e1;simpa using e1.symm
      subst hc;rw[v7,if_neg (by omega),List.take_succ_cons];intro x hx;rcases aH.mp hx with y|y
      ·rw[y];exact e2
      ·rw[←e2];exact vW2 _ R x y
   ·obtain⟨a,b,d⟩:=vZh n ((c::R).drop (qR (c::R))) (by rw [cY];rw [aY] at *;omega) w z;exact⟨a,by rw[cY]at b;omega,d⟩
theorem jYt{c:Nat}(h:qI c=1):48<=c/\c<=57:=by
 unfold qI at h;split at h
 ·cases h
 ·split at h
  ·assumption
  ·split at h <;> cases h
theorem zZa{R:List Nat}(hl:R.length<=1000)(hn:(parts R).length <=60):okW ((parts R).map S):=by
 refine⟨by rw[aP];omega,fun w hw=>?_⟩;obtain⟨q,hq,rfl⟩:=cQ.mp hw;obtain⟨h1,h2,h3⟩:=vZh R.length R (aD _) q hq;refine⟨by rw[zJ];omega,fun hnum=>?_⟩;have:qVc q=true:=hnum;unfold qVc at this;split at this
 ·cases this
 ·rename_i c l;simp only[aE,decide_eq_true_eq]at this;have hk:qI c=1:=qZ8 this.1;have ad:=h3 ⟨c,rfl,hk⟩;exact⟨_,PySem.intText_digits (x:=S (c::l)) (fun x hx=>jYt (ad x hx)) h1 (by show(S (c::l)).length <=_;rw[zJ,aY];omega)⟩
noncomputable def mx(a b:Int):Int:=if b > a then b else a
noncomputable def mbS(s:Int×Int)(w:Str):Int×Int:=(fun d=>(d,mx s.2 d)) (cond ([("(":Str),"{"].contains w) (s.1+1) (cond ([(")":Str),"}"].contains w) (s.1 - 1) s.1))
noncomputable def mb(ws:List Str):Int:=(ws.foldl mbS (0,0)).2
theorem inB2{x y:Str}{a b c:Slot}:asB (o2 inD (oN 3) (.v (qS [(oV (oC (.str x))),(oV (oC (.str y)))]))) [a,b,c,sS w]=.ok ([x,y].contains w,[a,b,c,sS w]):=
 vS (d:=.bl ([x,y].contains w)) (vQ (h1:=.d (.bl ([x,y].contains w))) (qB (h1:=.d (.str w)) (h2:=.d (.tup [.str x,.str y])) rfl rfl rfl rfl rfl (inSS w [x,y]) rfl) rfl) rfl rfl
theorem mb_loop{a:Slot}:∀(ws:List Str) (s:Int×Int) (y:Slot),∃y',forS (gN 3) qQ7 (ws.map D.str) [a,sN s.1,sN s.2,y]=.ok (.nx [a,sN (ws.foldl mbS s).1,sN (ws.foldl mbS s).2,y'])
 |[],s,y=>⟨y,rfl⟩
 | w::ws,s,y=>by
   obtain⟨y',h⟩:=mb_loop (a:=a) ws (mbS s w) (sS w);refine⟨y',xQ (e1:=[a,sN s.1,sN s.2,sS w]) (e2:=[a,sN (mbS s w).1,sN (mbS s w).2,sS w]) rfl ?_ h⟩;have st:∀d:Int,sSet 2 (owS (oV (oL max2D [(oN 2),(oN 1)]))) [a,sN d,sN s.2,sS w]=.ok (.nx [a,sN d,sN (mx s.2 d),sS w]):=fun d=>rfl
   cases q1: [("(":Str),"{"].contains w with
   | true=>
     have e1:mbS s w=(s.1+1,mx s.2 (s.1+1)):=by unfold mbS;rw[q1];rfl
     rw[e1];exact jD (e:=[a,sN (s.1+1),sN s.2,sS w]) (yG (q:=true) (e:=[a,sN s.1,sN s.2,sS w]) (by rw[inB2,q1]) rfl) (st _)
   | false=>
     cases q2: [(")":Str),"}"].contains w with
     | true=>
       have e1:mbS s w=(s.1 - 1,mx s.2 (s.1 - 1)):=by unfold mbS;rw[q1,q2];rfl
       rw[e1];exact jD (e:=[a,sN (s.1 - 1),sN s.2,sS w]) (yG (q:=false) (e:=[a,sN s.1,sN s.2,sS w]) (by rw[inB2,q1]) (yG (q:=true) (e:=[a,sN s.1,sN s.2,sS w]) (by rw[inB2,q2]) rfl)) (st _)
     | false=>
       have e1:mbS s w=(s.1,mx s.2 s.1):=by unfold mbS;rw[q1,q2];rfl
       rw[e1];exact jD (e:=[a,sN s.1,sN s.2,sS w]) (yG (q:=false) (e:=[a,sN s.1,sN s.2,sS w]) (by rw[inB2,q1]) (yG (q:=false) (e:=[a,sN s.1,sN s.2,sS w]) (by rw[inB2,q2]) rfl)) (st _)
theorem jYp(ws:List Str):jQ [fz (.nd .lst (ws.map D.str))]=.ok (.fz (.int (mb ws)),[.un]):=by
 obtain⟨y',h⟩:=mb_loop (a:=fz (.nd .lst (ws.map D.str))) ws (0,0) .un;exact vE (qC (o:=.fz (.int 0)) (e:=[fz (.nd .lst (ws.map D.str)),.un,.un,.un]) rfl (qC (o:=.fz (.int 0)) (e:=[fz (.nd .lst (ws.map D.str)),sN 0,.un,.un]) rfl (jD (qQl (ds:=ws.map D.str) (e:=[fz (.nd .lst (ws.map D.str)),sN 0,sN 0,.un]) rfl h) rfl))) rfl
noncomputable def depD(t:D):Option Int:=match qQ1 62 [fz t] with
 |.ok (.fz (.int n),[.un])=>some n
 |_=>none
theorem jVp{t:D}{n:Int}(h:depD t=some n):qQ1 62 [fz t]=.ok (.fz (.int n),[.un]):=by
 unfold depD at h;split at h
 ·cases h;assumption
 ·cases h
noncomputable def qXe:D->D
 |.nd .tup ds=>ds.getLastD .non
 |_=>.non
noncomputable def rowW(ws:List Str):Pr:=cond (decide ((ws.length:Int) > 60) || decide (mb ws > 10)) .er (match pWords ws with
 | .ok d r=>cond (!decide (hd r="")) .er (match depD (qXe d) with
   |some n=>cond (decide (n > 10)) .er (.ok d [])
   |none=>.no)
 |.er =>.er
 |.no =>.no)

theorem zO{x:Pr}{f:D->List Str->Pr}{r:List Str}(h:x.bind f=.ok d r):∃d1 r1,x=.ok d1 r1/\f d1 r1=.ok d r:=by
 cases x with
 |ok d1 r1=>exact⟨d1,r1,rfl,h⟩
 |er=>cases h
 |no=>cases h
theorem sk_ok{x:Str}{r:List Str}{f:List Str->Pr}(h:pSk x r f=.ok d r'):f r.tail=.ok d r' :=by
 unfold pSk at h;grind
noncomputable def Lst(d:D):Prop:=∃ds x,d=.tup (ds ++ [x])/\ds.length<=10
theorem Lst.two{a b:D}:Lst (.tup [a,b]):=⟨[a],b,rfl,by simp⟩
theorem Lst.three{a b c:D}:Lst (.tup [a,b,c]):=⟨[a,b],c,rfl,by simp⟩
theorem Lst.four{a b c e:D}:Lst (.tup [a,b,c,e]):=⟨[a,b,c],e,rfl,by simp⟩
theorem vY5{r:List Str}(h:pWords r=.ok d r'):Lst d:=by
 unfold pWords at h;cases q1:decide (hd r="def") <;> rw[q1]at h
 ·cases q2:decide (hd r="let") <;> rw [q2] at h
  ·cases q3:decide (hd r="again") <;> rw [q3] at h
   ·cases q4: [("see":Str),"ask"].contains (hd r) <;> rw [q4] at h
    ·cases h
    ·obtain⟨_,_,_,h⟩:=zO h;cases h;exact .two
   ·obtain⟨_,_,_,h⟩:=zO h;obtain⟨_,_,_,h⟩:=zO h;obtain⟨_,_,_,h⟩:=zO h;cases h;exact .four
  ·obtain⟨_,_,_,h⟩:=zO h;obtain⟨_,_,_,h⟩:=zO h;cases h;exact .three
 ·obtain⟨_,_,_,h⟩:=zO h;have h:=sk_ok h;obtain⟨_,_,_,h⟩:=zO h;split at h
  ·rename_i b _;cases b with
   |true=>cases h
   |false=>obtain⟨_,_,_,h⟩:=zO h;cases h;exact .four
  ·cases h
theorem Lst.ix(h:Lst d):ixD d (.int (-1))=some (qXe d):=by
 obtain⟨ds,x,rfl,hl⟩:=h;show(ixN (ds ++ [x]).length (-1)).bind (fun j=>(ds ++ [x])[j]?)=some ((ds ++ [x]).getLastD .non);have:ixN (ds ++ [x]).length (-1)=some ds.length:=by
  unfold ixN;rw[aW,if_neg (by omega),if_pos (by simp;omega)];congr 1;simp;omega
 rw[this];show(ds ++ [x])[ds.length]?=_;rw[cS (aD _),Nat.sub_self,List.getLastD_eq_getLast?,List.getLast?_append];rfl
noncomputable abbrev wL(R:List Nat):List Str:=(parts R).map S
section
variable{R:List Nat}{n:Int}{ws:List Str}{k:Nat}{a b c y:Slot}{F:Fn}{p:List Str->Pr}
theorem zQb:fzOs (wO (parts R))=(wL R).map D.str:=by rw[vQ3,bZ,bZ];rfl
theorem Rd.call3(h:Rd F p)(hw:okW ws):match p (ws.drop k) with
  |.ok d r=>∃k',ws.drop k' =r/\qY F [.io 3] [a,b,c,.s false (cu n ws k),y]=.ok (.fz d,[a,b,c,.s false (cu n ws k'),y])
  |.er =>qY F [.io 3] [a,b,c,.s false (cu n ws k),y]=er n
  |.no =>True:=by
 have:=h n ws k hw;unfold Told at this;split at this
 ·rename_i e;obtain⟨k',h1,h2⟩:=this;try simp only[e]
  refine⟨k',h1,?_⟩;unfold qY;show(F [.s true (cu n ws k)]).bind _=_;rw[h2];rfl
 ·rename_i e;try simp only[e]
  unfold qY;show(F [.s true (cu n ws k)]).bind _=_;rw[this];rfl
 ·rename_i e;try simp only[e]
set_option maxHeartbeats 4000000 in
theorem jJe(hl:R.length<=1000)(ha:∀c∈R,c<128):match rowW (wL R) with
  |.ok d _=>vF [sN n,sS (S R)]=.ok (.fz d,[.un,.un])
  |.er =>vF [sN n,sS (S R)]=er n
  |.no =>True:=by
 have t0:asB (oGt (oL lenD [(oN 1)]) (oC (.int 1000))) [sN n,sS (S R),.un,.un,.un]=.ok (false,[sN n,sS (S R),.un,.un,.un]):=by
  have hD:lenD [.str (S R)]=some (.int (R.length:Int)):=qYg hl;have:asB (oGt (oL lenD [(oN 1)]) (oC (.int 1000))) [sN n,sS (S R),.un,.un,.un]=.ok (decide ((R.length:Int) > 1000),[sN n,sS (S R),.un,.un,.un]):=by
   repeat' (first|array_get_dec|exact hD)
  rw[this,decide_eq_false (by omega)]
 have t1:qY qQr [(.v (oV (oN 1)))] [sN n,sS (S R),.un,.un,.un]=.ok (.ow .lst (wO (parts R)),[sN n,sS (S R),.un,.un,.un]):=by
  unfold qY;show(qQr [sS (S R)]).bind _=_;rw[zW9 hl ha];rfl
 have t2:asB (oGt (oL lenD [(oN 2)]) (oC (.int 60))) [sN n,sS (S R),.s false (.ow .lst (wO (parts R))),.un,.un]=.ok (decide (((wL R).length :Int) > 60),[sN n,sS (S R),.s false (.ow .lst (wO (parts R))),.un,.un]):=by
  show Res.ok (decide (((fzOs (wO (parts R))).length :Int) > 60),_)=_;rw[zQb,aP]
 have t3:asB (oGt (.v (fzS (qY jQ [(.v (oV (oN 2)))]))) (oC (.int 10))) [sN n,sS (S R),.s false (.ow .lst (wO (parts R))),.un,.un]=.ok (decide (mb (wL R) > 10),[sN n,sS (S R),fz (.nd .lst ((wL R).map D.str)),.un,.un]):=by
  have m:qY jQ [(.v (oV (oN 2)))] [sN n,sS (S R),.s false (.ow .lst (wO (parts R))),.un,.un]=.ok (.fz (.int (mb (wL R))),[sN n,sS (S R),fz (.nd .lst ((wL R).map D.str)),.un,.un]):=by
   refine jK (x9 (d:=.nd .lst ((wL R).map D.str)) (e:=[sN n,sS (S R),fz (.nd .lst ((wL R).map D.str)),.un,.un]) ?_ rfl rfl) ?_
   ·show Res.ok (D.nd .lst (fzOs (wO (parts R))),[sN n,sS (S R), .s false (.fz (D.nd .lst (fzOs (wO (parts R))))), .un, .un])=_;rw[zQb]
   ·show(jQ [fz (.nd .lst ((wL R).map D.str))]).bind _=_;rw[jYp];rfl
  exact vS (d:=.bl (decide (mb (wL R) > 10))) (vQ (h1:=.d (.bl (decide (mb (wL R) > 10)))) (qB (h1:=.d (.int (mb (wL R)))) (h2:=.d (.int 10)) (zC (zP m rfl) rfl) rfl rfl rfl rfl rfl rfl) rfl) rfl rfl
 unfold rowW;cases q1:decide (((wL R).length :Int) > 60) with
 | true=>
   rw[q1]at t2;show vF _=_;unfold vF;exact xG (qD t0 (qO (qC t1 (qD (qQz t2 rfl) rfl))))
 | false=>
   rw[q1]at t2;cases q2:decide (mb (wL R) > 10) with
   | true=>
     rw[q2]at t3;show vF _=_;unfold vF;exact xG (qD t0 (qO (qC t1 (qD (qQz t2 t3) rfl))))
   | false=>
     rw[q2]at t3;have hw:okW (wL R):=zZa hl (by have:=of_decide_eq_false q1;rw[aP]at this;omega);have mk:vKz 9 qQy [(.v (oV (oN 0))),(.v (oV (oN 2)))] [sN n,sS (S R),fz (.nd .lst ((wL R).map D.str)),.un,.un]=.ok (cu n (wL R) 0,[sN n,sS (S R),fz (.nd .lst ((wL R).map D.str)),.un,.un]):=rfl;have c1:=zXr.call3 (k:=0) (n:=n) (a:=sN n) (b:=sS (S R)) (c:=fz (.nd .lst ((wL R).map D.str))) (y:=.un) hw;rw[List.drop_zero]at c1;dsimp only[Bool.or_false,cond];cases q3:pWords (wL R) with
     |no=>trivial
     | er=>
       rw[q3]at c1;show vF _=_;unfold vF;exact xG (qD t0 (qO (qC t1 (qD (qQz t2 t3) (qO (qC mk (xK (qZ0 c1))))))))
     | ok d r=>
       rw[q3]at c1;obtain⟨k',rfl,c1⟩:=c1;have hL:=vY5 q3;have t4:asB (o2 neF (.v (fzS (vL 9 "ahead" vC (.b (pOf (oN 3))) []))) (oC (.str ""))) [sN n,sS (S R),fz (.nd .lst ((wL R).map D.str)),.s false (cu n (wL R) k'),fz d]=.ok (!decide (hd ((wL R).drop k')=""),[sN n,sS (S R),fz (.nd .lst ((wL R).map D.str)),.s false (cu n (wL R) k'),fz d]):=by
        have m:vL 9 "ahead" vC (.b (pOf (oN 3))) [] [sN n,sS (S R),fz (.nd .lst ((wL R).map D.str)),.s false (cu n (wL R) k'),fz d]=.ok (.fz (.str (hd ((wL R).drop k'))),[sN n,sS (S R),fz (.nd .lst ((wL R).map D.str)),.s false (cu n (wL R) k'),fz d]):=by
         unfold vL;show(vC [.s false (.fz (fzO (cu n (wL R) k')))]).bind _=_;rw[vXq,zN];rfl
        exact vS (d:=.bl (!decide (hd ((wL R).drop k')=""))) (vQ (h1:=.d (.bl (!decide (hd ((wL R).drop k')="")))) (qB (h1:=.d (.str (hd ((wL R).drop k')))) (h2:=.d (.str "")) (zC (zP m rfl) rfl) rfl rfl rfl rfl rfl rfl) rfl) rfl rfl
       dsimp only;cases q4:decide (hd ((wL R).drop k')="") with
       | false=>
         rw[q4]at t4;show vF _=_;unfold vF;exact xG (qD t0 (qO (qC t1 (qD (qQz t2 t3) (qO (qC mk (qC c1 (qD (qQz t4 rfl) rfl))))))))
       | true=>
         rw[q4]at t4;simp only[Bool.not_true,cond_false];cases q5:depD (qXe d) with
         |none=>trivial
         | some m=>
           have t5:asB (oGt (.v (fzS (qY (qQ1 62) [(.v (oV (oIx (oN 4) (o1 negD (oC (.int 1))))))]))) (oC (.int 10))) [sN n,sS (S R),fz (.nd .lst ((wL R).map D.str)),.s false (cu n (wL R) k'),fz d]=.ok (decide (m > 10),[sN n,sS (S R),fz (.nd .lst ((wL R).map D.str)),.s false (cu n (wL R) k'),fz d]):=by
            have c2:qY (qQ1 62) [(.v (oV (oIx (oN 4) (o1 negD (oC (.int 1))))))] [sN n,sS (S R),fz (.nd .lst ((wL R).map D.str)),.s false (cu n (wL R) k'),fz d]=.ok (.fz (.int m),[sN n,sS (S R),fz (.nd .lst ((wL R).map D.str)),.s false (cu n (wL R) k'),fz d]):=by
             refine jK (x9 (d:=qXe d) (vQ (h1:=.d (qXe d)) (xS (h1:=.d d) (h2:=.d (.int (-1))) rfl rfl rfl rfl ?_ rfl) rfl) rfl rfl) ?_
             ·show(ixD d (.int (-1))).map Hn.d=_;rw[hL.ix];rfl
             ·show(qQ1 62 [fz (qXe d)]).bind _=_;rw[jVp q5];rfl
            exact vS (d:=.bl (decide (m > 10))) (vQ (h1:=.d (.bl (decide (m > 10)))) (qB (h1:=.d (.int m)) (h2:=.d (.int 10)) (zC (zP c2 rfl) rfl) rfl rfl rfl rfl rfl rfl) rfl) rfl rfl
           dsimp only;cases q6:decide (m > 10) with
           | true=>
             rw[q6]at t5;show vF _=_;unfold vF;exact xG (qD t0 (qO (qC t1 (qD (qQz t2 t3) (qO (qC mk (qC c1 (qD (qQz t4 t5) rfl))))))))
           | false=>
             rw[q6]at t5;show vF _=_;unfold vF;exact vE (qD t0 (qO (qC t1 (qD (qQz t2 t3) (qO (qC mk (qC c1 (qD (qQz t4 t5) (qO rfl))))))))) rfl
end

noncomputable def jn:List (List Nat)->List Nat
 |[]=> []
 |[a]=>a
 |a::b::r=>a ++ 10::jn (b::r)
theorem zVo{c:Nat}:∀{a b x y:List Nat},c∉a->c∉b->a ++ c::x=b ++ c::y->a=b/\x=y
 |[],[],x,y,_,_,h=>by cases h;exact⟨rfl,rfl⟩
 | [],u::b,x,y,_,hb,h=>by
   grind
 | u::a,[],x,y,ha,_,h=>by
   grind
 | u::a,v::b,x,y,ha,hb,h=>by
   rw[cW,cW,List.cons.injEq]at h;obtain⟨h1,h2⟩:=zVo (fun z=>ha (aK _ z)) (fun z=>hb (aK _ z)) h.2;grind
theorem zWt:∀{as bs:List (List Nat)},as≠ []->bs≠ []->(∀a∈as,10∉a)->(∀b∈bs,10∉b)->jn as=jn bs->as=bs
 |[],_,h,_,_,_,_=>absurd rfl h
 |_::_,[],_,h,_,_,_=>absurd rfl h
 |[a],[b],_,_,_,_,h=>by rw[show a=b from h]
 |[a],b::c::r,_,_,ha,_,h=>absurd (show 10∈a by rw[show a=b ++ 10::jn (c::r) from h];simp) (ha a (by simp))
 |a::c::r,[b],_,_,_,hb,h=>absurd (show 10∈b by rw[←show a ++ 10::jn (c::r)=b from h];simp) (hb b (by simp))
 | a::c::r,b::d::s,_,_,ha,hb,h=>by
   obtain⟨h1,h2⟩:=zVo (ha a (by simp)) (hb b (by simp)) (show a ++ 10::jn (c::r)=b ++ 10::jn (d::s) from h);rw[h1,zWt (by simp) (by simp) (fun z hz=>ha z (aK _ hz)) (fun z hz=>hb z (aK _ hz)) h2]
theorem zQz:∀ws:List Str,(Str.join ⟨#[10]⟩ ws).cps.toList=jn (ws.map fun w=>w.cps.toList)
 |[]=>rfl
 |[a]=>rfl
 | a::b::r=>by
   show((a.cps ++ #[10]) ++ (Str.join ⟨#[10]⟩ (b::r)).cps).toList =_;rw[Array.toList_append,Array.toList_append,zQz (b::r),bX];rfl
theorem zXi{rows:List (List Nat)}(hne:rows≠ [])(hf:∀r∈rows,10∉r):Txt.split (S (jn rows)) "\n"=rows.map S:=by
 have e0:("\n":Str)=⟨#[10]⟩:=by decide +kernel
 rw[e0];have h1:=StrLaws.join_split (S (jn rows)) ⟨#[10]⟩;have h2:=StrLaws.split_free (S (jn rows)) 10;have h3:=split_pos (S (jn rows)) ⟨#[10]⟩;generalize Txt.split (S (jn rows)) ⟨#[10]⟩=ws at *;have h4:jn (ws.map fun w=>w.cps.toList)=jn rows:=by rw[←zQz,h1]
 have h5:=zWt (by intro z;have:=congrArg List.length z;simp at this;subst this;simp at h3) hne (fun a ha=>by obtain⟨w,hw,rfl⟩:=cQ.mp ha;exact h2 w hw) hf h4;rw[←h5,bZ];conv=>lhs;rw[←List.map_id ws]
 exact List.map_congr_left fun w _=>(S_of w).symm
inductive Rr where
 |ok (ds:List D)|er (n:Int)|no
noncomputable def qY9:D->Str
 |.nd _ (.str w::_)=>w
 |_=>""
noncomputable def yD(tot:Int):Nat->List D->List (List Nat)->Rr
 |_,acc,[]=>.ok acc
 | i,acc,R::rs=>cond (decide ((i:Int)=40)) (.er i) (match rowW (wL R) with
   |.ok d _=>cond (!(decide (qY9 d="ask") == decide ((i:Int)=tot - 1))) (.er i) (yD tot (i+1) (acc ++ [d]) rs)
   |.er =>.er i
   |.no =>.no)
theorem ix0{a:D}{x:List D}:ixD (.tup (a::x)) (.int ((0:Nat):Int))=some a:=by
 exact vJy rfl
theorem vXu{r:List Str}(h:pWords r=.ok d r'):∃w x,d=.tup (.str w::x):=by
 unfold pWords at h;cases q1:decide (hd r="def") <;> rw[q1]at h
 ·cases q2:decide (hd r="let") <;> rw [q2] at h
  ·cases q3:decide (hd r="again") <;> rw [q3] at h
   ·cases q4: [("see":Str),"ask"].contains (hd r) <;> rw [q4] at h
    ·cases h
    ·obtain⟨_,_,_,h⟩:=zO h;cases h;exact⟨_,_,rfl⟩
   ·obtain⟨_,_,_,h⟩:=zO h;obtain⟨_,_,_,h⟩:=zO h;obtain⟨_,_,_,h⟩:=zO h;grind
  ·obtain⟨_,_,_,h⟩:=zO h;obtain⟨_,_,_,h⟩:=zO h;grind
 ·obtain⟨_,_,_,h⟩:=zO h;have h:=sk_ok h;obtain⟨_,_,_,h⟩:=zO h;split at h
  ·rename_i b _;cases b with
   |true=>cases h
   |false=>obtain⟨_,_,_,h⟩:=zO h;cases h;exact⟨_,_,rfl⟩
  ·cases h
theorem zV1{ws:List Str}{r:List Str}(h:rowW ws=.ok d r):∃w x,d=.tup (.str w::x):=by
 unfold rowW at h;cases q:(decide ((ws.length:Int) > 60) || decide (mb ws > 10)) <;> rw[q]at h
 ·dsimp only [cond] at h;split at h
  ·rename_i d' r' e;split at h
   ·cases h
   ·split at h
    ·split at h
     ·cases h
     ·cases h;exact vXu e
    ·cases h
  ·cases h
  ·cases h
 ·cases h
section
variable{t:Slot}{rows:List (List Nat)}
noncomputable abbrev rD(rows:List (List Nat)):D:=.nd .lst (rows.map fun r=>.str (S r))
theorem vZf(hr:∀R∈rows,R.length<=1000/\∀c∈R,c<128)(hl:rows.length<=100):∀(rs:List (List Nat)) (i:Nat) (acc:List D) (y3 y4 y5:Slot),(∀R∈rs,R∈rows)->acc.length+rs.length<=100->(match yD rows.length i acc rs with
  |.ok ds=>∃z3 z4 z5,forS (gT 2 (gCn (gN 3) (gCn (gN 4) gNl))) qX4 (yQ i (rs.map fun r=>.str (S r))) [t,fz (rD rows),fl acc,y3,y4,y5]=.ok (.nx [t,fz (rD rows),fl ds,z3,z4,z5])
  |.er n=>forS (gT 2 (gCn (gN 3) (gCn (gN 4) gNl))) qX4 (yQ i (rs.map fun r=>.str (S r))) [t,fz (rD rows),fl acc,y3,y4,y5]=er n
  |.no =>True)
 |[],i,acc,y3,y4,y5,_,_=>⟨y3,y4,y5,rfl⟩
 | R::rs,i,acc,y3,y4,y5,hm,hn=>by
   unfold yD;have hR:=hr R (hm R (by simp));have g1:(gT 2 (gCn (gN 3) (gCn (gN 4) gNl))) (D.tup [.int (i:Int),.str (S R)]) [t,fz (rD rows),fl acc,y3,y4,y5]=some [t,fz (rD rows),fl acc,sN (i:Int),sS (S R),y5]:=rfl;have t0:asB (o2 eqF (oN 3) (oC (.int 40))) [t,fz (rD rows),fl acc,sN (i:Int),sS (S R),y5]=.ok (decide ((i:Int)=40),[t,fz (rD rows),fl acc,sN (i:Int),sS (S R),y5]):=by
    show Res.ok (((i:Int) == 40),_)=_;rw[show((i:Int) == 40)=decide ((i:Int)=40) by rw[cH];simp]
   cases q0:decide ((i:Int)=40) with
   |true=>rw[q0]at t0;exact vJu g1 (qD t0 rfl)
   | false=>
     rw[q0]at t0;have rf:=jJe (R:=R) (n:=(i:Int)) hR.1 hR.2;dsimp only[cond];cases q1:rowW (wL R) with
     |no=>trivial
     | er=>
       rw[q1]at rf;have c1:qY vF [(.v (oV (oN 3))),(.v (oV (oN 4)))] [t,fz (rD rows),fl acc,sN (i:Int),sS (S R),y5]=er (i:Int):=by
        unfold qY;show(vF [sN (i:Int),sS (S R)]).bind _=_;rw[rf];rfl
       exact vJu g1 (qD t0 (qO (xK (qZ0 c1))))
     | ok d r=>
       rw[q1]at rf;obtain⟨w,x,rfl⟩:=zV1 q1;have c1:qY vF [(.v (oV (oN 3))),(.v (oV (oN 4)))] [t,fz (rD rows),fl acc,sN (i:Int),sS (S R),y5]=.ok (.fz (.tup (.str w::x)),[t,fz (rD rows),fl acc,sN (i:Int),sS (S R),y5]):=by
        unfold qY;show(vF [sN (i:Int),sS (S R)]).bind _=_;rw[rf];rfl
       have t2:asB (o2 neF (o2 eqF (oIx (oN 5) (oC (.int 0))) (oC (.str "ask"))) (o2 eqF (oN 3) (oSub (oL lenD [(oN 1)]) (oC (.int 1))))) [t,fz (rD rows),fl acc,sN (i:Int),sS (S R),fz (.tup (.str w::x))]=.ok (!(decide (w="ask") == decide ((i:Int)=rows.length - 1)),[t,fz (rD rows),fl acc,sN (i:Int),sS (S R),fz (.tup (.str w::x))]):=by
        have e1:((i:Int) == ((rows.map fun r=>D.str (S r)).length :Int) - 1)=decide ((i:Int)=rows.length - 1):=by rw[aP,cH];simp
        refine vS (d:=.bl (!(decide (w="ask") == decide ((i:Int)=rows.length - 1)))) (vQ (h1:=.d (.bl (!(decide (w="ask") == decide ((i:Int)=rows.length - 1))))) (qB (h1:=.d (.bl (decide (w="ask")))) (h2:=.d (.bl (decide ((i:Int)=rows.length - 1)))) (qB (h1:=.d (.str w)) (h2:=.d (.str "ask")) (xS (h1:=.d (.tup (.str w::x))) (h2:=.d (.int 0)) rfl rfl rfl rfl ?_ rfl) rfl rfl rfl rfl rfl rfl) (qB (h1:=.d (.int i)) (h2:=.d (.int (((rows.map fun r=>D.str (S r)).length :Int) - 1))) rfl rfl rfl rfl rfl ?_ rfl) rfl rfl rfl rfl rfl) rfl) rfl rfl
        ·show(ixD (.tup (.str w::x)) (.int ((0:Nat):Int))).map Hn.d=_;rw[ix0];rfl
        ·show some (D.bl ((i:Int) == ((rows.map fun r=>D.str (S r)).length :Int) - 1))=_;rw[e1]
       show(match cond (!(decide (w="ask") == decide ((i:Int)=rows.length - 1))) (Rr.er i) (yD rows.length (i+1) (acc ++ [.tup (.str w::x)]) rs) with
        |.ok ds=>_
        |.er n=>_
        |.no =>True)
       cases q2:(!(decide (w="ask") == decide ((i:Int)=rows.length - 1))) with
       |true=>rw[q2]at t2;exact vJu g1 (qD t0 (qO (qC c1 (qD t2 rfl))))
       | false=>
         rw[q2]at t2;have ih:=vZf hr hl rs (i+1) (acc ++ [.tup (.str w::x)]) (sN (i:Int)) (sS (S R)) (fz (.tup (.str w::x))) (fun z hz=>hm z (aK _ hz)) (by rw[aW];rw[aY]at hn;show acc.length+1+rs.length<=100;omega);have bd:qX4 [t,fz (rD rows),fl acc,sN (i:Int),sS (S R),y5]=.ok (.nx [t,fz (rD rows),fl (acc ++ [.tup (.str w::x)]),sN (i:Int),sS (S R),fz (.tup (.str w::x))]):=by
          refine qD t0 (qO (qC c1 (qD t2 (qO (qXq (vQj (i:=2) (π:=[]) (os0:=acc.map .fz) (os:=acc.map .fz) rfl rfl (zZ (d:=.tup (.str w::x)) rfl rfl) rfl rfl (z:=(.fz .non,acc.map .fz ++ [.fz (.tup (.str w::x))])) ?_ rfl) ?_)))))
          ·unfold apF;rw[decide_eq_true (show(acc.map O.fz).length <=lim from by rw[aP];exact aS (show acc.length<=100 by omega) (by decide))];rfl
          ·rw [show fl (acc ++ [.tup (.str w::x)])= .s false (.ow .lst (acc.map .fz ++ [.fz (.tup (.str w::x))])) by show Slot.s false (.ow .lst ((acc ++ [_]).map O.fz))=_;rw [cX];rfl];rfl
         dsimp only[cond];cases q3:yD rows.length (i+1) (acc ++ [.tup (.str w::x)]) rs with
         |no=>trivial
         |er n=>rw[q3]at ih;exact xQ g1 bd ih
         |ok ds=>rw[q3]at ih;obtain⟨z3,z4,z5,ih⟩:=ih;exact⟨z3,z4,z5,xQ g1 bd ih⟩
theorem zKt(hne:rows≠ [])(hf:∀r∈rows,10∉r)(hr:∀R∈rows,R.length<=1000/\∀c∈R,c<128)(hl:rows.length<=100)(hj:(jn rows).length <=100000):(match yD rows.length 0 [] rows with
  |.ok ds=>wN [sS (S (jn rows))]=.ok (.ow .lst (ds.map .fz),[.un])
  |.er n=>wN [sS (S (jn rows))]=er n
  |.no =>True):=by
 have s1:vYn "\n" (oN 0) [sS (S (jn rows)),.un,.un,.un,.un,.un]=.ok (.ow .lst ((rows.map fun r=>D.str (S r)).map .fz),[sS (S (jn rows)),.un,.un,.un,.un,.un]):=by
  show cond (!(("\n":Str).length == 0) && decide ((S (jn rows)).length+2<=1000000)) (Res.ok (O.ow .lst (((Txt.split (S (jn rows)) "\n").map D.str).map .fz),_)) _=_;rw[zXi hne hf,show decide ((S (jn rows)).length+2<=1000000)=true from decide_eq_true (by rw[zJ];omega),bZ (f:=S)];rfl
 have it:iL enL [(oV (oN 1))] [sS (S (jn rows)),.s false (.ow .lst ((rows.map fun r=>D.str (S r)).map .fz)),fl [],.un,.un,.un]=.ok (yQ 0 (rows.map fun r=>.str (S r)),[sS (S (jn rows)),fz (rD rows),fl [],.un,.un,.un]):=by
  show Res.ok (yQ 0 (fzOs ((rows.map fun r=>D.str (S r)).map .fz)),[sS (S (jn rows)),fz (.nd .lst (fzOs ((rows.map fun r=>D.str (S r)).map .fz))),fl [],.un,.un,.un])=_;rw[qXp]
 have lp:=vZf (t:=sS (S (jn rows))) hr hl rows 0 [] .un .un .un (fun _ h=>h) (by simpa using hl);cases q:yD rows.length 0 [] rows with
 |no=>trivial
 | er n=>
   rw[q]at lp;exact xG (qC s1 (qC (o:=.ow .lst []) (e:=[sS (S (jn rows)),.s false (.ow .lst ((rows.map fun r=>D.str (S r)).map .fz)),.un,.un,.un,.un]) rfl (xK (qQl it lp))))
 | ok ds=>
   rw[q]at lp;obtain⟨z3,z4,z5,lp⟩:=lp;exact vE (qC s1 (qC (o:=.ow .lst []) (e:=[sS (S (jn rows)),.s false (.ow .lst ((rows.map fun r=>D.str (S r)).map .fz)),.un,.un,.un,.un]) rfl (jD (qQl it lp) rfl))) rfl
end
end RF
namespace X13
open PySem L2 DX RF FW PyProof.Rows
variable{T:List Str->Pr}{r' ws:List Str}{d:D}
theorem zJ1(r:List Str):jB 12 r=qVv (jB 11) r:=rfl
theorem vYq(test:Str->Bool)(step:D->List Str->Pr)(d:D)(r:List Str):qQf test step 100 d r=cond (test (hd r)) ((step d r).bind fun d r=>qQf test step 99 d r) (.ok d r):=rfl
theorem vZq{r:List Str}(h:qVu T r=.ok d r')(h2:decide (hd r' ="*")=false)(h3: [("+":Str),"-"].contains (hd r')=false)(h4: [("=":Str),"<"].contains (hd r')=false):qVv T r=.ok d r' :=by
 have a2:qK7 T r=.ok d r' :=by
  unfold qK7;rw[h];dsimp only[Pr.bind];rw[vYq,h2];rfl
 have a3:pSum T r=.ok d r' :=by
  unfold pSum;rw[a2];dsimp only[Pr.bind];rw[vYq,h3];rfl
 unfold qVv;rw[a3];show cond ([("=":Str),"<"].contains (hd r')) _ _=_;rw[h4];rfl
theorem vVc{r:List Str}(h:qWd T r=.ok d r')(h1:decide (hd r' =".")=false):qVu T r=.ok d r' :=by
 unfold qVu;rw[h];dsimp only[Pr.bind];rw[vYq,h1];rfl
theorem zXd{r:List Str}(h:qVu T r=.er):qVv T r=.er :=by
 unfold qVv pSum qK7;rw[h];rfl
theorem jQ9{r:List Str}(h:qWd T r=.er):qVv T r=.er :=zXd (by unfold qVu;rw[h];rfl)
theorem jJd{n:Int}(hm:(decide ((ws.length:Int) > 60) || decide (mb ws > 10))=false)(h:pWords ws=.ok d [])(hd1:depD (qXe d)=some n)(hn:n<=10):rowW ws=.ok d []:=by
 unfold rowW;rw[hm,h];show(match depD (qXe d) with
  |some n=>cond (decide (n > 10)) Pr.er (Pr.ok _ [])
  |none=>.no)=_
 rw[hd1];show cond (decide (n > 10)) _ _=_;rw[decide_eq_false (by omega)];rfl
theorem jJf(h:pWords ws=.er):rowW ws=.er :=by
 unfold rowW;rw[h];cases(decide ((ws.length:Int) > 60) || decide (mb ws > 10)) <;> rfl
theorem jY9{r:List Str}(h:qVv (jB 11) ws=.ok d r):pWords ("ask"::ws)=.ok (.tup [.str "ask",d]) r:=by
 show((jB 12 ws).bind fun t r' =>Pr.ok (.tup [.str "ask",t]) r')=_;rw[zJ1,h];rfl
theorem jKa(h:qVv (jB 11) ws=.er):pWords ("ask"::ws)=.er :=by
 show((jB 12 ws).bind fun t r' =>Pr.ok (.tup [.str "ask",t]) r')=_;rw[zJ1,h];rfl
theorem sk_ok{x:Str}{r:List Str}{f:List Str->Pr}:pSk x (x::r) f=f r:=by
 show cond (decide (x=x)) (f r) .er =_;rw[decide_eq_true rfl];rfl
abbrev kC:Str:=","
abbrev sg8:List Str:=[".","*","+","-","=","<","("]
noncomputable abbrev Go(r:List Str):Prop:=sg8.contains (hd r)=false
structure Th where
 txt:List Nat
 wd:List Str
 d:D
structure OkT(p:List Str->Pr)(cl:Str)(t:Th):Prop where
 rd:∀r,Go r->p (t.wd ++ r)=.ok t.d r
 hd:∃w ws,t.wd=w::ws/\w≠cl/\w≠kC/\sg8.contains w=false
structure OkP(p:List Str->Pr)(cl:Str):Prop where
 e1:∀r,p (kC::r)=.er
 e2:∀r,p (cl::r)=.er
 c1:sg8.contains cl=false
 c2:cl≠kC
noncomputable def jw(sep:List Str):List Th->List Str
 |[]=> []
 |t::ts=>sep ++ (t.wd ++ jw sep ts)
noncomputable def jW(sep:List Str):List Th->List Str
 |[]=> []
 |t::ts=>t.wd ++ jw sep ts
noncomputable def wJ:Nat->List Th->List Str
 | 0,ts=>jW [kC] ts
 | 1,ts=>kC::jW [kC] ts
 | 2,ts=>jW [kC] ts ++ [kC]
 | 3,ts=>jW [kC,kC] ts
 |_,ts=>jW [] ts
section
variable{p:List Str->Pr}{cl:Str}{most:Int}{r z:List Str}
theorem jZs(hz:Go z):∀ts:List Th,Go (jw [kC] ts ++ z)
 |[]=>hz
 |_::_=>show sg8.contains kC=false by decide +kernel
theorem zQv(hz:Go z):∀(ts:List Th) (n:Nat) (ds:List D),(∀t∈ts,OkT p cl t)->yE p (n+ts.length) ds (jw [kC] ts ++ z)=yE p n (ds ++ ts.map Th.d) z
 |[],n,ds,_=>by rw[List.map_nil,bM];rfl
 | t::ts,n,ds,h=>by
   show cond (decide (kC=kC)) ((p ((t.wd ++ jw [kC] ts) ++ z)).bind fun d r=>yE p (n+ts.length) (ds ++ [d]) r) _=_;rw[decide_eq_true rfl,bX,(h t (by simp)).rd _ (jZs hz ts)];show yE p (n+ts.length) (ds ++ [t.d]) (jw [kC] ts ++ z)=_;rw[zQv hz ts n _ fun t ht=>h t (aK _ ht),bX];rfl
theorem qKw(hz:Go z){t:Th}{ts:List Th}(h:∀u∈t::ts,OkT p cl u){n:Nat}(hn:n+ts.length=100):xX p cl most (t.wd ++ (jw [kC] ts ++ z))=(yE p n ((t::ts).map Th.d) z).bind fun t r=>pSk cl r fun r=>cond (decide (lenT t > most)) .er (.ok t r):=by
 have h0:=h t (by simp);obtain⟨w,ws,e,h1,_,_⟩:=h0.hd;unfold xX;rw[show hd (t.wd ++ (jw [kC] ts ++ z))=w by rw[e];rfl,decide_eq_false h1,h0.rd _ (jZs hz ts)];show((yE p 100 [t.d] (jw [kC] ts ++ z)).bind _)=_;rw[←hn,zQv hz ts n _ fun u hu=>h u (aK _ hu)];rfl
theorem vYh(hp:OkP p cl)(hm:0<=most):∀(f:Nat) (ts:List Th),f<=4->ts.length<=50->(2<f->2<=ts.length)->(∀t∈ts,OkT p cl t)->xX p cl most (wJ f ts ++ cl::r)=cond (decide (0<f) || decide ((ts.length:Int) > most)) .er (.ok (.tup (ts.map Th.d)) r)
 | 0,[],_,_,_,_=>by
   show cond (decide (cl=cl)) _ _=_;rw[decide_eq_true rfl,decide_eq_false (show¬((([]:List Th).length :Int) > most) by show¬((0:Int) > most);omega)];rfl
 | 0,t::ts,_,hl,_,h=>by
   show xX p cl most ((t.wd ++ jw [kC] ts) ++ cl::r)=_;rw[aY]at hl;rw[bX,qKw (show Go (cl::r) from hp.c1) h (n:=(99 - ts.length)+1) (by omega)];show((cond (decide (cl=kC)) _ (Pr.ok (.tup ((t::ts).map Th.d)) (cl::r))).bind _)=_;rw[decide_eq_false hp.c2];show pSk cl (cl::r) (fun r=>cond (decide (lenT (.tup ((t::ts).map Th.d)) > most)) .er (.ok (.tup ((t::ts).map Th.d)) r))=_;rw[sk_ok];show cond (decide ((((t::ts).map Th.d).length :Int) > most)) _ _=_;rw[aP];rfl
 | 1,ts,_,_,_,_=>by
   show cond (decide (kC=cl)) _ ((p (kC::(jW [kC] ts ++ cl::r))).bind _)=_;rw[decide_eq_false (Ne.symm hp.c2),hp.e1];rfl
 | 2,[],_,_,_,_=>by
   show cond (decide (kC=cl)) _ ((p (kC::cl::r)).bind _)=_;rw[decide_eq_false (Ne.symm hp.c2),hp.e1];rfl
 | 2,t::ts,_,hl,_,h=>by
   show xX p cl most (((t.wd ++ jw [kC] ts) ++ [kC]) ++ cl::r)=_;rw[aY]at hl;rw[bX,bX];refine(qKw (z:=kC::cl::r) (show sg8.contains kC=false by decide +kernel) h (n:=(99 - ts.length)+1) (by omega)).trans ?_
   show(((p (cl::r)).bind _).bind _)=_;rw[hp.e2];rfl
 | 3,[],_,_,h2,_=>absurd (h2 (by decide)) (by decide)
 | 3,[t],_,_,h2,_=>absurd (h2 (by decide)) (by simp)
 | 3,t::u::ts,_,_,_,h=>by
   show xX p cl most ((t.wd ++ (kC::kC::(u.wd ++ jw [kC,kC] ts))) ++ cl::r)=_;rw[bX];have:=qKw (p:=p) (cl:=cl) (most:=most) (z:=kC::kC::((u.wd ++ jw [kC,kC] ts) ++ cl::r)) (t:=t) (ts:=[]) (show sg8.contains kC=false by decide +kernel) (fun x hx=>h x (by rw[bU.mp hx];simp)) (n:=100) rfl;refine this.trans ?_
   show(((p (kC::((u.wd ++ jw [kC,kC] ts) ++ cl::r))).bind _).bind _)=_;rw[hp.e1];rfl
 | 4,[],_,_,h2,_=>absurd (h2 (by decide)) (by decide)
 | 4,[t],_,_,h2,_=>absurd (h2 (by decide)) (by simp)
 | 4,t::u::ts,_,_,_,h=>by
   obtain⟨w,ws,e,h1,h3,h4⟩:=(h u (by simp)).hd;show xX p cl most ((t.wd ++ (u.wd ++ jw [] ts)) ++ cl::r)=_;rw[bX];have:=qKw (p:=p) (cl:=cl) (most:=most) (z:=(u.wd ++ jw [] ts) ++ cl::r) (t:=t) (ts:=[]) (by rw[e];exact h4) (fun x hx=>h x (by rw[bU.mp hx];simp)) (n:=100) rfl;refine this.trans ?_
   rw[e];show((cond (decide (w=kC)) _ (Pr.ok _ ((w::ws ++ jw [] ts) ++ cl::r))).bind _)=_;rw[decide_eq_false h3];show cond (decide (w=cl)) _ _=_;rw[decide_eq_false h1];rfl
 |f+5,_,h,_,_,_=>absurd h (by omega)
end
end X13
namespace X13
open PySem L2 DX RF FW PyProof.Rows SG
variable{ks:List L2.Key}{k:Nat}
noncomputable def kd:L2.Key->D
 |.inl i=>.int i
 |.inr x=>.str x
theorem vYr:∀ks:List L2.Key,alK (ks.map kd)=some ks
 |[]=>rfl
 | k::ks=>by
   show(vV4 (kd k)).bind _=_;rw[show vV4 (kd k)=some k by cases k <;> rfl];show(alK (ks.map kd)).bind _=_;rw[vYr ks];rfl
theorem zVp:∀ks:List L2.Key,allV (ks.map kd)=some (ks.map kV)
 |[]=>rfl
 | k::ks=>by
   show(toV (kd k)).bind _=_;rw[show toV (kd k)=some (kV k) by cases k <;> rfl];show(allV (ks.map kd)).bind _=_;rw[zVp ks];rfl
theorem jXd(a b:L2.Key):eqV (kV a) (kV b)=decide (b=a):=by
 cases a <;> cases b <;> simp[eqV,kV] <;> exact decide_eq_decide.mpr eq_comm
theorem zWv(k:L2.Key):∀ks:List L2.Key,inV (kV k) (ks.map kV)=decide (k∈ks)
 |[]=>(decide_eq_false (by simp)).symm
 | a::ks=>by
   show(eqV (kV a) (kV k) || inV (kV k) (ks.map kV))=_;rw[zWv k ks,jXd,←Bool.decide_or];exact decide_eq_decide.mpr aH.symm
noncomputable def dpN(v:Nat->L2.Key):Nat->Bool
 | 0=>false
 |i+1=>dpN v i || decide (v i∈fmK v i)
theorem zW1(v:Nat->L2.Key):∀n,decide ((fmK v n).length<n)=dpN v n
 | 0=>rfl
 | i + 1=>by
   have:=vJv v i;unfold dpN;rw[←zW1 v i];show decide ((if v i∈fmK v i then fmK v i else fmK v i ++ [v i]).length<i+1)=_;by_cases h:v i∈fmK v i
   ·rw[if_pos h,decide_eq_true h,Bool.or_true];exact decide_eq_true (by omega)
   ·rw[if_neg h,decide_eq_false h,Bool.or_false,aW];exact decide_eq_decide.mpr (by simp)
noncomputable abbrev dup(ks:List L2.Key):Bool:=dpN (vK ks) ks.length
theorem zW2(ks:List L2.Key):decide ((((qK8 ks).length :Nat):Int)<((ks.length:Nat):Int))=dup ks:=by
 show _=dpN (vK ks) ks.length;rw[←zW1];exact decide_eq_decide.mpr Int.ofNat_lt
theorem zZ6(h:ks.length<=2000):qZ3 (ks.map kd)=some (dup ks):=by
 have:lenTD [.nd .lst (ks.map kd)]=some (.int ((qK8 ks).length :Nat)):=by
  show(match(alK (ks.map kd)).bind fun ts=>some (true,ts) with
   |some (_,ts)=>cond (decide (ts.length<=2000)) (some (D.int ((qK8 ts).length :Nat))) none
   |none=>none)=_
  rw[vYr];show cond (decide (ks.length<=2000)) _ _=_;rw[decide_eq_true h];rfl
 unfold qZ3;rw[this,aP];exact congrArg some (zW2 ks)
theorem zZ5(h:ks.length<=2000):qZ2 (.tup (ks.map kd))=some (dup ks):=by
 have:lenTD [.tup (ks.map kd)]=some (.int ((qK8 ks).length :Nat)):=by
  show(match(alK (ks.map kd)).bind fun ts=>some (false,ts) with
   |some (_,ts)=>cond (decide (ts.length<=2000)) (some (D.int ((qK8 ts).length :Nat))) none
   |none=>none)=_
  rw[vYr];show cond (decide (ks.length<=2000)) _ _=_;rw[decide_eq_true h];rfl
 unfold qZ2;rw[this];show some (decide (_<(((ks.map kd).length :Nat):Int)))=_;rw[aP,zW2]
theorem zWo(v:Nat->L2.Key)(j:L2.Key):∀i,j∈fmK v i↔∃t,t<i/\v t=j
 | 0=>⟨fun h=>(by cases h),fun⟨_,h,_⟩=>absurd h (by omega)⟩
 | i + 1=>by
   have h:=zWy v i j;rw[←Bool.decide_or,decide_eq_decide,zWo v j i]at h;rw[←h];exact⟨fun h=>h.elim (fun⟨t,a,b⟩=>⟨t,by omega,b⟩) fun e=>⟨i,by omega,e.symm⟩,fun⟨t,a,b⟩=>by
    by_cases e:t=i
    ·exact .inr (e▸b.symm)
    ·exact .inl ⟨t,by omega,b⟩⟩
theorem zYc(h:k<=ks.length)(j:L2.Key):decide (j∈ks.take k)=decide (j∈fmK (vK ks) k):=by
 refine decide_eq_decide.mpr ?_
 rw[zWo,List.mem_take_iff_getElem];refine⟨fun⟨i,hi,e⟩=>⟨i,by omega,?_⟩,fun⟨t,a,e⟩=>⟨t,by omega,?_⟩⟩
 ·rw[←e,vK,bP,aO (by omega)];rfl
 ·refine Eq.trans ?_ e;rw[vK,bP,aO (by omega)];rfl
theorem jXi(ds:List D)(k:Nat):cutL ds none (some (k:Int))=ds.take k:=by
 unfold cutL;have e2:HT.sIx ds.length ds.length (some (k:Int))=min k ds.length:=HT.zKp _ _ k;rw[e2];show(ds.drop 0).take (min k ds.length - 0)=_;rw[List.drop_zero,Nat.sub_zero];by_cases h:k<=ds.length
 ·rw[Nat.min_eq_left h]
 ·rw[Nat.min_eq_right (by omega),List.take_of_length_le (aD _),List.take_of_length_le (by omega)]
noncomputable abbrev kl(ks:List L2.Key):Slot:=fz (.nd .lst (ks.map kd))
theorem jXq(hk:k<ks.length):j7 [kl ks,sN k]=cond (decide (vK ks k∈fmK (vK ks) k)) (.ok (.rt (.fz (.bl true)) [kl ks,sN k])) (.ok (.nx [kl ks,sN k])):=by
 have x1:ixD (.nd .lst (ks.map kd)) (.int (k:Nat))=some (kd (vK ks k)):=by
  show atI (ks.map kd) ((k:Nat):Int)=_;exact vJy (by rw[cN,aO hk,vK,bP,aO hk];rfl)
 have x2:fzS (eSlL (oN 0) none (some (oV (oN 1)))) [kl ks,sN k]=.ok (.nd .lst ((ks.take k).map kd),[kl ks,sN k]):=by
  refine zP (o:=.ow .lst ((cutL (ks.map kd) none (some (k:Int))).map .fz)) rfl ?_
  rw[xU,jXi,List.map_take]
 have x3:inD (kd (vK ks k)) (.nd .lst ((ks.take k).map kd))=some (.bl (decide (vK ks k∈fmK (vK ks) k))):=by
  show(((toV (kd (vK ks k))).bind fun v=>(allV ((ks.take k).map kd)).bind fun vs=>some (inV v vs))).map D.bl=_;rw[show toV (kd (vK ks k))=some (kV (vK ks k)) by cases vK ks k <;> rfl,zVp];show some (D.bl (inV (kV (vK ks k)) ((ks.take k).map kV)))=_;rw[zWv,zYc (by omega)]
 have t:asB (o2 inD (oIx (oN 0) (oN 1)) (.v (fzS (eSlL (oN 0) none (some (oV (oN 1))))))) [kl ks,sN k]=.ok (decide (vK ks k∈fmK (vK ks) k),[kl ks,sN k]):=
  vS (d:=.bl (decide (vK ks k∈fmK (vK ks) k))) (vQ (h1:=.d (.bl (decide (vK ks k∈fmK (vK ks) k)))) (qB (h1:=.d (kd (vK ks k))) (h2:=.d (.nd .lst ((ks.take k).map kd))) (xS (h1:=.d (.nd .lst (ks.map kd))) (h2:=.d (.int (k:Nat))) rfl rfl rfl rfl (by show(ixD _ _).map Hn.d=_;rw[x1];rfl) rfl) (zC x2 rfl) rfl rfl rfl x3 rfl) rfl) rfl rfl
 unfold j7;refine yG t ?_
 cases decide (vK ks k∈fmK (vK ks) k) <;> rfl
section
variable{ks:List L2.Key}
theorem two_l:∀(m i:Nat) (y:Slot),i+m=ks.length->dpN (vK ks) i=false->∃y',forS (gN 1) j7 ((List.range' i m).map fun(k:Nat)=>D.int (0+(k:Int))) [kl ks,y]=cond (dup ks) (.ok (.rt (.fz (.bl true)) [kl ks,y'])) (.ok (.nx [kl ks,y']))
 | 0,i,y,h,h0=>⟨y,by rw[Nat.add_zero]at h;rw[dup,←h,h0];rfl⟩
 | m + 1,i,y,h,h0=>by
   have hb:=jXq (ks:=ks) (k:=i) (by omega);rw[List.range'_succ,bJ];have g:(gN 1) (D.int (0+(i:Int))) [kl ks,y]=some [kl ks,sN i]:=by show some [kl ks,sN (0+(i:Int))]=_;rw[Int.zero_add]
   cases q:decide (vK ks i∈fmK (vK ks) i) with
   | false=>
     rw[q]at hb;obtain⟨y',ih⟩:=two_l m (i+1) (sN i) (by omega) (by show(dpN (vK ks) i || _)=false;rw[h0,q];rfl);exact⟨y',xQ g hb ih⟩
   | true=>
     rw[q]at hb;have:dup ks=true:=by
      have:∀n,i<n->dpN (vK ks) n=true:=fun n hn=>by
       induction n with
       |zero=>omega
       | succ n ih=>
         show(dpN (vK ks) n || _)=true;by_cases e:n=i
         ·rw[e,q,Bool.or_true]
         ·rw[ih (by omega)];rfl
      exact this _ (by omega)
     exact⟨sN i,by rw[this];exact jVd g hb rfl⟩
end
theorem vZ7{n:Nat}(h:n<=50):rg1 [.int (n:Nat)]=some ((List.range' 0 n).map fun(k:Nat)=>D.int (0+(k:Int))):=by
 show cond (in62 (n:Int)) (some (rngD 0 (n:Int).toNat)) none=_;have:∀m:Nat,m<=50->in62 (m:Int)=true:=by decide +kernel
 rw[this n h,←List.range_eq_range'];rfl
theorem jZ5(h:ks.length<=50):zV [kl ks]=.ok (.fz (.bl (dup ks)),[.un]):=by
 obtain⟨y',lp⟩:=two_l (ks:=ks) ks.length 0 .un (by omega) rfl;have it:iL rg1 [(oV (oL lenD [(oN 0)]))] [kl ks,.un]=.ok ((List.range' 0 ks.length).map fun(k:Nat)=>D.int (0+(k:Int)),[kl ks,.un]):=by
  refine qXh (xs:=[.int (ks.length:Nat)]) ?_ (vZ7 h) rfl;show Res.ok ([D.int ((ks.map kd).length :Nat)],_)=_;rw[aP]
 unfold zV;cases q:dup ks with
 |true=>rw[q]at lp;exact vE (vQe (qQl it lp) rfl) rfl
 |false=>rw[q]at lp;exact vE (jD (qQl it lp) rfl) rfl
end X13
namespace X13
open PySem L2 DX RF FW PyProof.Rows
variable{m k c i f:Nat}{L y A B:List Nat}{W:Str}{ws pa pb:List Str}{a cell:Int}{b:Bool}{d:D}{ts:List Th}{ks:List L2.Key}{ds:List D}{F:Fn}{env e:Ev}{s1 s2:SS}
abbrev cd(x:String):List Nat:=x.toList.map Char.toNat
noncomputable abbrev dg(m:Nat):List Nat:=(Nat.toDigits 10 m).map Char.toNat
theorem jVo:∀m:Nat,0<m->∃c l,dg m=c::l/\c≠48:=by
 intro m;induction m using Nat.strongRecOn with
 | _ m ih=>
   intro h;by_cases hb:m<10
   ·refine⟨(Nat.digitChar m).toNat,[],by show(Nat.toDigits 10 m).map _=_;rw [Nat.toDigits_of_lt_base hb];rfl,?_⟩;rw[Nat.toNat_digitChar_of_lt_ten hb];omega
   ·obtain⟨c,l,e,hc⟩:=ih (m / 10) (by omega) (by omega);refine⟨c,l ++ [(Nat.digitChar (m % 10)).toNat],?_,hc⟩;show(Nat.toDigits 10 m).map _=_;rw[Nat.toDigits_of_base_le (by decide) (by omega),cX,show(Nat.toDigits 10 (m / 10)).map Char.toNat=c::l from e];rfl
theorem vQl(h:m<10 ^ 12):(dg m).length <=12:=by
 rw[aP];exact(Nat.length_toDigits_le_iff (by decide) (by decide)).mpr h
theorem zQt(h:m<10 ^ 12):valS (S (dg m))=(m:Int):=by
 have:=vQl h;unfold valS;rw[PySem.intText_digits (x:=S (dg m)) (fun c hc=>wZ m c hc) (xI m) (by rw[zJ];omega),qKb,PySem.W.KIN.val_back];rfl
theorem zWk(h:m<10 ^ 12):qQi (S (dg m))=true:=by
 have hL:=vQl h;show qVc (dg m)=_;by_cases h0:m=0
 ·subst h0;rw[show dg 0=[48] by decide +kernel];decide +kernel
 ·obtain⟨c,l,e,hc⟩:=jVo m (by omega);have hf:=wZ m c (by show c∈dg m;rw[e];exact aA ..);rw[e]at hL⊢;unfold qVc;dsimp only;rw[aY]at hL;rw[decide_eq_true hf.1,decide_eq_true hf.2,decide_eq_false hc,decide_eq_true (show(l.length:Int)+1<=12 by omega)];simp
noncomputable def sgn(x:Str):Bool:=match x.cps.toList with
 |c::_=>!decide (qI c<2)
 |[]=>true
noncomputable def Wd(W:Str):Prop:=∃x l,W.cps.toList=x::l/\qI x<2
section
variable{W:Str}(hW:Wd W)
include hW
theorem Wd.ne(x:Str)(hx:sgn x=true):W≠x:=by
 rintro rfl;obtain⟨c,l,e,h⟩:=hW;unfold sgn at hx;rw[e]at hx;simp[h]at hx
theorem Wd.de(x:Str)(hx:sgn x=true:=by decide +kernel):decide (W=x)=false:=decide_eq_false (hW.ne x hx)
theorem Wd.con(x y:Str)(hx:sgn x=true:=by decide +kernel)(hy:sgn y=true:=by decide +kernel): [x,y].contains W=false:=by
 rw[bF,bF,beq_eq_false_iff_ne.mpr (hW.ne x hx),beq_eq_false_iff_ne.mpr (hW.ne y hy)];rfl
end
theorem qZy(m:Nat):Wd (S (dg m)):=by
 cases e:dg m with
 |nil=>exact absurd e (xI m)
 |cons c l=>exact⟨c,l,rfl,by rw[qZ8 (wZ m c (by show c∈dg m;rw[e];exact aA ..))];decide⟩
theorem jWj(m:Nat):j5.contains (S (dg m))=false:=by
 have key:∀x:Str,(∀d r,x.cps.toList=d::r->d > 57)->S (dg m)≠x:=fun x hx q=>by
  have e1:dg m=x.cps.toList:=congrArg (fun s:Str=>s.cps.toList) q;cases e:dg m with
  |nil=>exact absurd e (xI m)
  | cons c l=>
    have h1:=hx c l (by rw[←e1,e]);have h2:=wZ m c (by show c∈dg m;rw[e];exact aA ..);omega
 unfold j5;rw[bF,bF,bF,bF,beq_eq_false_iff_ne.mpr (key "flip" (by intro d r q;cases q;decide)),beq_eq_false_iff_ne.mpr (key "pick" (by intro d r q;cases q;decide)),beq_eq_false_iff_ne.mpr (key "if" (by intro d r q;cases q;decide)),beq_eq_false_iff_ne.mpr (key "rest" (by intro d r q;cases q;decide))];rfl
abbrev abc:List Nat:=cd "mnouvwxyzbcdeghjq"
structure Nm(L:List Nat):Prop where
 h1:1<=L.length
 h2:L.length<=8
 k:∀c∈L,c∈abc
theorem qK3:∀c∈abc,(97<=c/\c<=122)/\c≠102/\c≠112/\c≠105/\c≠114:=by decide +kernel
section
variable{L:List Nat}(hL:Nm L)
include hL
theorem Nm.k0:∀c∈L,qI c=0:=fun c hc=>by
 have:=(qK3 c (hL.k c hc)).1;unfold qI;rw[if_pos (.inl this)]
theorem Nm.ne:L≠ []:=fun e=>by have:=hL.h1;rw[e]at this;exact absurd this (by decide)
theorem Nm.no:j5.contains (S L)=false:=by
 cases e:L with
 |nil=>exact absurd e hL.ne
 | cons c l=>
   have h:=(qK3 c (hL.k c (by rw[e];exact aA ..))).2;have key:∀x:Str,(∀d r,x.cps.toList=d::r->d=102\/d=112\/d=105\/d=114)->x.cps.toList≠ []->S (c::l)≠x:=fun x hx _ q=>by
    have e1:c::l=x.cps.toList:=congrArg (fun s:Str=>s.cps.toList) q;have:=hx c l e1.symm;omega
   unfold j5;rw[bF,bF,bF,bF,beq_eq_false_iff_ne.mpr (key "flip" (by intro d r q;cases q;decide) (by decide)),beq_eq_false_iff_ne.mpr (key "pick" (by intro d r q;cases q;decide) (by decide)),beq_eq_false_iff_ne.mpr (key "if" (by intro d r q;cases q;decide) (by decide)),beq_eq_false_iff_ne.mpr (key "rest" (by intro d r q;cases q;decide) (by decide))];rfl
theorem Nm.is:yI (S L)=true:=by
 unfold yI vJq qZ9;rw[S_of,hL.no,qKb];have h1:=hL.h1;have h2:=hL.h2;rw[decide_eq_true (show(1:Int)<=L.length by omega),decide_eq_true (show(L.length:Int)<=8 by omega),show(L.all fun c=>decide (97<=c) && decide (c<=122))=true from List.all_eq_true.mpr fun c hc=>by
  have:=(qK3 c (hL.k c hc)).1;rw[decide_eq_true this.1,decide_eq_true this.2];rfl]
 rfl
end
theorem vKq(hL:Nm L):Wd (S L):=by
 cases e:L with
 |nil=>exact absurd e hL.ne
 |cons c l=>exact⟨c,l,rfl,by rw[hL.k0 c (by rw[e];exact aA ..)];decide⟩
theorem Wd.go(h:Wd W):sg8.contains W=false:=by
 have k:∀x∈sg8,sgn x=true:=by decide +kernel
 refine Bool.eq_false_iff.mpr fun q=>?_
 exact h.ne W (k W (dP.mp q)) rfl
structure Tx(t:Th):Prop where
 pt:(parts t.txt).map S=t.wd
 a0:∀c,t.txt.head?=some c->qI c<2
 z0:∀c,t.txt.getLast?=some c->qI c<2
 ch:∀c∈t.txt,c<128/\c≠10
 ln:t.txt.length<=22
 nb:∀w∈t.wd,[("(":Str),"{"].contains w=false/\ [(")":Str),"}"].contains w=false
 l3:t.wd.length<=3
theorem seam{x:List Nat}(h:∀a b,x.getLast?=some a->y.head?=some b->2<=qI a\/2<=qI b):parts (x ++ y)=parts x ++ parts y:=
 vJ6 x.length x y (aD _) fun a b ha hb e=>by
  have:=h a b ha hb;have:=vQx a;omega
theorem jZh{lo hi:Int}{r:List Str}(h:m<10 ^ 12)(h1:lo<=(m:Int))(h2:(m:Int)<=hi):pNum lo hi (S (dg m)::r)=.ok (.int m) r:=by
 show cond (qQi (S (dg m)) && (decide (lo<=valS (S (dg m))) && decide (valS (S (dg m))<=hi))) (Pr.ok (.int (valS (S (dg m)))) r) .er =_;rw[zWk h,zQt h,decide_eq_true h1,decide_eq_true h2];rfl
theorem go6{r:List Str}(h:Go r):decide (hd r=".")=false/\decide (hd r="*")=false/\ [("+":Str),"-"].contains (hd r)=false/\ [("=":Str),"<"].contains (hd r)=false:=by
 have k:∀x∈sg8,hd r≠x:=fun x hx e=>by rw[←e]at hx;have:=dP.mpr hx;rw[h]at this;cases this
 refine⟨decide_eq_false (k _ (by decide)),decide_eq_false (k _ (by decide)),?_,?_⟩
 ·rw[bF,bF,beq_eq_false_iff_ne.mpr (k "+" (by decide)),beq_eq_false_iff_ne.mpr (k "-" (by decide))];rfl
 ·rw[bF,bF,beq_eq_false_iff_ne.mpr (k "=" (by decide)),beq_eq_false_iff_ne.mpr (k "<" (by decide))];rfl
theorem jW6{T:List Str->Pr}(h:m<10 ^ 12){r:List Str}:qWd T (S (dg m)::r)=.ok (tg "num" [.int m]) r:=by
 show cond (decide (S (dg m)="(")) _ (cond (decide (S (dg m)="{")) _ (cond (j5.contains (S (dg m))) _ (cond (qQi (S (dg m))) (Pr.ok (tg "num" [.int (valS (S (dg m)))]) r) _)))=_;rw[(qZy m).de "(",(qZy m).de "{",jWj,zWk h,zQt h];rfl
theorem zJ0(h:m<10 ^ 12){r:List Str}(hr:Go r):jB 11 (S (dg m)::r)=.ok (tg "num" [.int m]) r:=by
 obtain⟨h1,h2,h3,h4⟩:=go6 hr;exact vZq (vVc (jW6 h) h1) h2 h3 h4
theorem nm_p(h:Nm L){r:List Str}:pName' (S L::r)=.ok (.str (S L)) r:=by
 show cond (yI (S L)) _ _=_;rw[h.is];rfl
noncomputable abbrev vVz(a b:Nat):Th:=⟨dg a ++ (58::dg b),[S (dg a),":",S (dg b)],.tup [.int a,.int b]⟩
noncomputable abbrev tFld(L:List Nat)(k:Nat):Th:=⟨L ++ (58::32::dg k),[S L,":",S (dg k)],.tup [.str (S L),tg "num" [.int k]]⟩
noncomputable abbrev tNum(a:Nat):Th:=⟨dg a,[S (dg a)],tg "num" [.int a]⟩
noncomputable abbrev tNam(L:List Nat):Th:=⟨L,[S L],.str (S L)⟩
theorem Wd.hd{cl:Str}(h:Wd W)(hc:sgn cl=true):∃w r,W::ws=w::r/\w≠cl/\w≠kC/\sg8.contains w=false:=
 ⟨W,ws,rfl,h.ne cl hc,h.ne kC (by decide +kernel),h.go⟩
theorem jQp{a b:Nat}(ha:a<10 ^ 12)(h1:1<=b)(hb:b<=10 ^ 6):OkT pOut ")" (vVz a b) where
 rd:=fun r _=>by
  show((pNum 0 999999999999 (S (dg a)::":"::S (dg b)::r)).bind fun d r=>pSk ":" r fun r=>(pNum 1 1000000 r).bind fun c r=>.ok (.tup [d,c]) r)=_;rw[jZh ha (by omega) (by omega)];show(pSk ":" (":"::S (dg b)::r) fun r=>(pNum 1 1000000 r).bind fun c r=>.ok (.tup [.int a,c]) r)=_;rw[sk_ok,jZh (by omega) (by omega) (by omega)];rfl
 hd:=(qZy a).hd (by decide +kernel)
theorem jWg(hL:Nm L)(hk:k<10 ^ 12):OkT (qVw (jB 11)) "}" (tFld L k) where
 rd:=fun r hr=>by
  show((pName' (S L::":"::S (dg k)::r)).bind fun n r=>pSk ":" r fun r=>(jB 11 r).bind fun t r=>.ok (.tup [n,t]) r)=_;rw[nm_p hL];show(pSk ":" (":"::S (dg k)::r) fun r=>(jB 11 r).bind fun t r=>.ok (.tup [.str (S L),t]) r)=_;rw[sk_ok,zJ0 hk hr];rfl
 hd:=(vKq hL).hd (by decide +kernel)
theorem jWe{a:Nat}(ha:a<10 ^ 12):OkT (jB 11) ")" (tNum a) where
 rd:=fun r hr=>zJ0 ha hr
 hd:=(qZy a).hd (by decide +kernel)
theorem jWf(hL:Nm L):OkT pName' ")" (tNam L) where
 rd:=fun r _=>nm_p hL
 hd:=(vKq hL).hd (by decide +kernel)
theorem jJ7:OkP pOut ")":=⟨fun r=>by kernel_rfl,fun r=>by kernel_rfl,by decide +kernel,by decide +kernel⟩
theorem jYf:OkP (qVw (jB 11)) "}":=⟨fun r=>by kernel_rfl,fun r=>by kernel_rfl,by decide +kernel,by decide +kernel⟩
theorem jYd:OkP (jB 11) ")":=⟨fun r=>by kernel_rfl,fun r=>by kernel_rfl,by decide +kernel,by decide +kernel⟩
theorem jYe:OkP pName' ")":=⟨fun r=>by kernel_rfl,fun r=>by kernel_rfl,by decide +kernel,by decide +kernel⟩
theorem vKx(m:Nat):parts (dg m)=[dg m]:=vVa (k:=1) (xI m) (fun c hc=>qZ8 (wZ m c hc)) (by intro q;cases q) (by decide)
theorem dg_a(h:(dg m).head?=some c):qI c<2:=by rw[qZ8 (wZ m c (List.mem_of_head? h))];decide
theorem dg_z(h:(dg m).getLast?=some c):qI c<2:=by rw[qZ8 (wZ m c (List.mem_of_getLast? h))];decide
theorem vXg{x:List Nat}(hy:y≠ []):(x ++ y).getLast?=y.getLast?:=by
 cases e:y.getLast? with
 |none=>exact absurd (List.getLast?_eq_none_iff.mp e) hy
 |some a=>rw[List.getLast?_append,e];rfl
theorem vQ2{x:List Nat}(hx:x≠ []):(x ++ y).head?=x.head?:=by
 cases x with
 |nil=>exact absurd rfl hx
 |cons a l=>rfl
theorem nb2: [("(":Str),"{"].contains ":"=false/\ [(")":Str),"}"].contains ":"=false:=⟨by decide +kernel,by decide +kernel⟩
theorem Wd.nb(h:Wd W): [("(":Str),"{"].contains W=false/\ [(")":Str),"}"].contains W=false:=⟨h.con "(" "{",h.con ")" "}"⟩
theorem zJw{x s:List Nat}(hs:s=[58]\/s=[58,32])(ex:parts x=[x])(ey:parts y=[y])(hx:x≠ [])(hy:y≠ [])(ax:∀c,x.head?=some c->qI c<2)(zy:∀c,y.getLast?=some c->qI c<2)(cx:∀c∈x,c<128/\c≠10)(cy:∀c∈y,c<128/\c≠10)(l:x.length+y.length<=20)(w1:Wd (S x))(w2:Wd (S y)):Tx ⟨x ++ (s ++ y),[S x,":",S y],d⟩ where
 pt:=by
  have e:parts s=[[58]]:=by rcases hs with rfl|rfl <;> decide +kernel
  have h0:∀a,s.head?=some a->2<=qI a:=by rcases hs with rfl|rfl <;> decide +kernel
  have h1:∀a,s.getLast?=some a->2<=qI a:=by rcases hs with rfl|rfl <;> decide +kernel
  show(parts (x ++ (s ++ y))).map S=_;rw[seam fun a b _ hb=>.inr (h0 b (by rw[←hb,vQ2];rintro rfl;rcases hs with q|q <;> cases q)),seam fun a b ha _=>.inl (h1 a ha),ex,ey,e];rfl
 a0:=fun c hc=>ax c (by rw[←hc];exact(vQ2 hx).symm)
 z0:=fun c hc=>zy c (by rw[←hc];show y.getLast?=(x ++ (s ++ y)).getLast?;rw[vXg (by simp[hy]),vXg hy])
 ch:=fun c hc=>by
  rcases bG.mp hc with h|h
  ·exact cx c h
  ·rcases bG.mp h with h | h
   ·have k:∀c∈s,c < 128/\c≠10:=by rcases hs with rfl | rfl <;> decide +kernel
    exact k c h
   ·exact cy c h
 ln:=by
  show(x ++ (s ++ y)).length <=_;have:s.length<=2:=by rcases hs with rfl|rfl <;> decide
  rw[aW,aW];omega
 nb:=fun w hw=>by
  rcases aH.mp hw with h|h
  ·rw[h];exact w1.nb
  ·rcases aH.mp h with h | h
   ·rw[h];exact nb2
   ·rw[bU.mp h];exact w2.nb
 l3:=aD 3
theorem zQa:∀c∈dg m,c<128/\c≠10:=fun c hc=>by have:=wZ m c hc;omega
section
variable{L:List Nat}(hL:Nm L)
include hL
theorem jV9:parts L=[L]:=vVa (k:=0) hL.ne hL.k0 (by intro q;cases q) (by decide)
theorem nm_a(h:L.head?=some c):qI c<2:=by rw[hL.k0 c (List.mem_of_head? h)];decide
theorem nm_z(h:L.getLast?=some c):qI c<2:=by rw[hL.k0 c (List.mem_of_getLast? h)];decide
theorem jZi:∀c∈L,c<128/\c≠10:=fun c hc=>by have:=(qK3 c (hL.k c hc)).1;omega
theorem jZ3:Tx (tNam L):=⟨by show(parts L).map S=_;rw[jV9 hL];rfl,fun _=>nm_a hL,fun _=>nm_z hL,jZi hL,by have:=hL.h2;show L.length<=_;omega,fun w hw=>by rw[bU.mp hw];exact(vKq hL).nb,show 1<=3 by decide⟩
end
theorem vK9{b:Nat}(h:b<=10 ^ 6):(dg b).length <=8:=by
 rw[aP];exact(Nat.length_toDigits_le_iff (by decide) (by decide)).mpr (by omega)
theorem jZ2{a:Nat}(h:a<10 ^ 12):Tx (tNum a):=⟨by show(parts (dg a)).map S=_;rw[vKx];rfl,fun _=>dg_a,fun _=>dg_z,zQa,by have:=vQl h;show(dg a).length <=_;omega,fun w hw=>by rw[bU.mp hw];exact(qZy a).nb,show 1<=3 by decide⟩
theorem zKc{a b:Nat}(ha:a<10 ^ 12)(hb:b<=10 ^ 6):Tx (vVz a b):=
 zJw (s:=[58]) (.inl rfl) (vKx a) (vKx b) (xI a) (xI b) (fun _=>dg_a) (fun _=>dg_z) zQa zQa (by have:=vQl ha;have:=vK9 hb;show(dg a).length+(dg b).length <=20;omega) (qZy a) (qZy b)
theorem jZ4(hL:Nm L)(hk:k<=10 ^ 6):Tx (tFld L k):=
 zJw (s:=[58,32]) (.inr rfl) (jV9 hL) (vKx k) hL.ne (xI k) (fun _=>nm_a hL) (fun _=>dg_z) (jZi hL) zQa (by have:=hL.h2;have:=vK9 hk;show L.length+(dg k).length <=20;omega) (vKq hL) (qZy k)
noncomputable def jx(sep:List Nat):List Th->List Nat
 |[]=> []
 |t::ts=>sep ++ (t.txt ++ jx sep ts)
noncomputable def jX(sep:List Nat):List Th->List Nat
 |[]=> []
 |t::ts=>t.txt ++ jx sep ts
noncomputable def xJ:Nat->List Th->List Nat
 | 0,ts=>jX [44,32] ts
 | 1,ts=>44::jX [44,32] ts
 | 2,ts=>jX [44,32] ts ++ [44]
 | 3,ts=>jX [44,32,44,32] ts
 |_,ts=>jX [32] ts
structure Sp(sep:List Nat)(sw:List Str):Prop where
 pt:(parts sep).map S=sw
 ne:sep≠ []
 a0:∀c,sep.head?=some c->2<=qI c
 z0:∀c,sep.getLast?=some c->2<=qI c
 ch:∀c∈sep,c<128/\c≠10
 ln:sep.length<=4
theorem sp1:Sp [44,32] [kC]:=⟨by decide +kernel,by decide,by decide +kernel,by decide +kernel,by decide,by decide⟩
theorem sp2:Sp [44,32,44,32] [kC,kC]:=⟨by decide +kernel,by decide,by decide +kernel,by decide +kernel,by decide,by decide⟩
theorem sp3:Sp [32] []:=⟨by decide +kernel,by decide,by decide +kernel,by decide +kernel,by decide,by decide⟩
section
variable{sep:List Nat}{sw:List Str}(hs:Sp sep sw)
include hs
theorem zQy:∀{ts:List Th} {c:Nat},(jx sep ts).head?=some c->2<=qI c
 |[],_,h=>by cases h
 |t::ts,c,h=>hs.a0 c (by rw[←h];exact(vQ2 hs.ne).symm)
theorem jZa:∀{ts:List Th},(∀t∈ts,Tx t)->(parts (jx sep ts)).map S=jw sw ts
 |[],_=>rfl
 | t::ts,h=>by
   show(parts (sep ++ (t.txt ++ jx sep ts))).map S=sw ++ (t.wd ++ jw sw ts);rw[seam fun a b ha _=>.inl (hs.z0 a ha),seam fun a b _ hb=>.inr (zQy hs hb),cX,cX,hs.pt,(h t (by simp)).pt,jZa fun t ht=>h t (aK _ ht)]
theorem vWk:∀{ts:List Th},(∀t∈ts,Tx t)->(parts (jX sep ts)).map S=jW sw ts
 |[],_=>rfl
 | t::ts,h=>by
   show(parts (t.txt ++ jx sep ts)).map S=t.wd ++ jw sw ts;rw[seam fun a b _ hb=>.inr (zQy hs hb),cX,(h t (by simp)).pt,jZa hs fun t ht=>h t (aK _ ht)]
theorem ch_jx:∀{ts:List Th},(∀t∈ts,Tx t)->(∀c∈jx sep ts,c<128/\c≠10)/\(jx sep ts).length <=26 * ts.length
 |[],_=>⟨fun c hc=>(by cases hc),aD _⟩
 | t::ts,h=>by
   have ht:=h t (by simp);obtain⟨h1,h2⟩:=ch_jx (ts:=ts) fun t ht=>h t (aK _ ht)
   refine⟨fun c hc=>?_,?_⟩
   ·rcases bG.mp hc with q | q
    ·exact hs.ch c q
    ·rcases bG.mp q with q | q
     ·exact ht.ch c q
     ·exact h1 c q
   ·have:=hs.ln;have:=ht.ln;show(sep ++ (t.txt ++ jx sep ts)).length <=_;rw[aW,aW,aY];omega
theorem ch_jX(h:∀t∈ts,Tx t):(∀c∈jX sep ts,c<128/\c≠10)/\(jX sep ts).length <=26 * ts.length:=by
 cases ts with
 |nil=>exact⟨fun c hc=>(by cases hc),aD _⟩
 | cons t ts=>
   obtain⟨h1,h2⟩:=ch_jx hs h;refine⟨fun c hc=>h1 c (bI _ hc),aS ?_ h2⟩;show(t.txt ++ jx sep ts).length <=(sep ++ (t.txt ++ jx sep ts)).length;rw[aW (as:=sep)];omega
end
section
variable{ts:List Th}(h:∀t∈ts,Tx t)
include h
theorem jX3:∀f,(parts (xJ f ts)).map S=wJ f ts
 | 0=>vWk sp1 h
 | 1=>by
   show(parts ([44] ++ jX [44,32] ts)).map S=_;rw[seam fun a b ha _=>.inl (by cases ha;decide),cX,vWk sp1 h];rfl
 | 2=>by
   show(parts (jX [44,32] ts ++ [44])).map S=_;rw[seam fun a b _ hb=>.inr (by cases hb;decide),cX,vWk sp1 h];rfl
 | 3=>vWk sp2 h
 |_+4=>vWk sp3 h
theorem zJr:∀f,(∀c∈xJ f ts,c<128/\c≠10)/\(xJ f ts).length <=26 * ts.length+1
 | 0=>⟨(ch_jX sp1 h).1,Nat.le_succ_of_le (ch_jX sp1 h).2⟩
 | 1=>⟨fun c hc=>by rcases aH.mp hc with q|q;omega;exact(ch_jX sp1 h).1 c q,by show(44::jX [44,32] ts).length <=_;have:=(ch_jX sp1 h).2;rw[aY];omega⟩
 | 2=>⟨fun c hc=>by rcases bG.mp hc with q|q;exact(ch_jX sp1 h).1 c q;have:=bU.mp q;omega,by show(jX [44,32] ts ++ [44]).length <=_;have:=(ch_jX sp1 h).2;rw[aW];show _+1<=_;omega⟩
 | 3=>⟨(ch_jX sp2 h).1,Nat.le_succ_of_le (ch_jX sp2 h).2⟩
 |_+4=>⟨(ch_jX sp3 h).1,Nat.le_succ_of_le (ch_jX sp3 h).2⟩
theorem wL_J(f:Nat)(ea:(parts A).map S=pa)(eb:(parts B).map S=pb)(hA:∀a,A.getLast?=some a->2<=qI a)(hB:∀b,B.head?=some b->2<=qI b):wL (A ++ (xJ f ts ++ B))=pa ++ (wJ f ts ++ pb):=by
 show(parts (A ++ (xJ f ts ++ B))).map S=_;rw[seam fun a b ha _=>.inl (hA a ha),seam fun a b _ hb=>.inr (hB b hb),cX,cX,ea,eb,jX3 h]
theorem jYo:∀w∈jw [kC] ts,[("(":Str),"{"].contains w=false/\ [(")":Str),"}"].contains w=false:=by
 induction ts with
 |nil=>intro w hw;cases hw
 | cons t ts ih=>
   intro w hw;rcases bG.mp hw with q|q
   ·rw[bU.mp q];exact⟨by decide +kernel,by decide +kernel⟩
   ·rcases bG.mp q with q | q
    ·exact(h t (by simp)).nb w q
    ·exact ih (fun t ht=>h t (aK _ ht)) w q
theorem jYr:(jw [kC] ts).length <=4 * ts.length:=by
 induction ts with
 |nil=>exact aD _
 | cons t ts ih=>
   have:=ih fun t ht=>h t (aK _ ht)
   have:=(h t (by simp)).l3;show(kC::(t.wd ++ jw [kC] ts)).length <=_;rw[aY,aW,aY];omega
end
theorem jWw(ts:List Th):(∀w∈jW [kC] ts,w∈jw [kC] ts)/\(jW [kC] ts).length <=(jw [kC] ts).length :=by
 cases ts with
 |nil=>exact⟨fun w hw=>hw,aD _⟩
 |cons t ts=>exact⟨fun w hw=>aK _ hw,Nat.le_succ _⟩
theorem mb1:∀ws:List Str,(∀w∈ws,[("(":Str),"{"].contains w=false/\ [(")":Str),"}"].contains w=false)->ws.foldl mbS (1,1)=(1,1)
 |[],_=>rfl
 | w::ws,h=>by
   obtain⟨h1,h2⟩:=h w (by simp);have:mbS (1,1) w=(1,1):=by unfold mbS;rw[h1,h2];rfl
   rw[List.foldl_cons,this];exact mb1 ws fun w hw=>h w (aK _ hw)
theorem few(h:∀t∈ts,Tx t)(hl:ts.length<=7)(ha:pa.foldl mbS (0,0)=(1,1))(hb:decide ((pb.foldl mbS (1,1)).2 > 10)=false)(la:pa.length+pb.length<=10):(decide ((((pa ++ (jW [kC] ts ++ pb)).length :Nat):Int) > 60) || decide (mb (pa ++ (jW [kC] ts ++ pb)) > 10))=false:=by
 obtain⟨s1,s2⟩:=jWw ts;have:=jYr h;rw[decide_eq_false (by rw[aW,aW];omega)];unfold mb;rw[List.foldl_append,List.foldl_append,ha,mb1 _ fun w hw=>jYo h w (s1 w hw),hb];rfl
section
variable{p:List Str->Pr}{cl:Str}{r:List Str}{ts:List Th}{ks:List L2.Key}{f:Nat}
noncomputable abbrev okG(ts:List Th)(ks:List L2.Key):Bool:=(decide (1<=(ts.length:Int)) && decide ((ts.length:Int)<=6)) &&!dup ks
theorem zQs(hp:OkP p cl)(hf:f<=4)(hl:ts.length<=7)(h2:2<f->2<=ts.length)(h:∀t∈ts,OkT p cl t)(hk:(ts.map Th.d).map fst1=ks.map kd):qWq p cl (wJ f ts ++ cl::r)=cond (decide (0<f) ||!okG ts ks) .er (.ok (.tup (ts.map Th.d)) r):=by
 have hkl:ks.length=ts.length:=by have:=congrArg List.length hk;simpa using this.symm
 unfold qWq okG;rw[vYh hp (by decide) f ts hf (by omega) h2 h];cases q:decide (0<f) with
 |true=>rfl
 | false=>
   by_cases h6:(ts.length:Int)<=6
   ·rw [decide_eq_true h6,decide_eq_false (by omega)];by_cases h1:1<=(ts.length:Int)
    ·rw [decide_eq_true h1];show cond (decide (lenT (.tup (ts.map Th.d))=0)) _ (match qZ3 ((ts.map Th.d).map fst1) with
      |some b=>cond b Pr.er (.ok _ r)
      |none=>.no)=_
     rw[decide_eq_false (by show¬((((ts.map Th.d).length :Nat):Int)=0);rw[aP];omega),hk,zZ6 (by omega)];cases dup ks <;> rfl
    ·rw [decide_eq_false h1];show cond (decide (lenT (.tup (ts.map Th.d))=0)) _ _=_;rw[decide_eq_true (by show((((ts.map Th.d).length :Nat):Int)=0);rw[aP];omega)];rfl
   ·rw[decide_eq_false h6,decide_eq_true (by omega),Bool.and_false];rfl
end
theorem hP(X:List Str):qWd (jB 11) ("pick"::"("::X)=(qWq pOut ")" X).bind fun t r=>.ok (tg "pick" [t]) r:=by kernel_rfl
theorem hR(X:List Str):qWd (jB 11) ("{"::X)=(qWq (qVw (jB 11)) "}" X).bind fun t r=>.ok (tg "record" [t]) r:=by kernel_rfl
theorem hC(X:List Str):qWd (jB 11) ("f"::"("::X)=(xX (jB 11) ")" 3 X).bind fun t r=>.ok (tg "call" [.str "f",t]) r:=by kernel_rfl
theorem hD(X:List Str):pWords ("def"::"f"::"("::X)=(xX pName' ")" 3 X).bind fun t r=>match qZ2 t with
 |some b=>cond b .er ((pTold r).bind fun d r=>.ok (tg "def" [.str "f",t,d]) r)
 |none=>.no :=by kernel_rfl
theorem t1:pTold ["=","1"]=.ok (tg "num" [.int 1]) []:=by kernel_rfl
theorem askT{X:List Str}(h:qWd (jB 11) X=cond b .er (.ok d [])):pWords ("ask"::X)=cond b .er (.ok (.tup [.str "ask",d]) []):=by
 cases b with
 |true=>exact jKa (jQ9 h)
 |false=>exact jY9 (vZq (vVc h rfl) rfl rfl rfl)
theorem jY2(t:D):depD (tg "pick" [t])=some 1:=by kernel_rfl
theorem jY1:∀ds:List (Str×Int),ds.length<=6->∃n,depD (tg "record" [.tup (ds.map fun q=>.tup [.str q.1,tg "num" [.int q.2]])])=some n/\n<=10
 |[],_=>⟨1,by kernel_rfl,by decide⟩
 |[_],_=>⟨2,by kernel_rfl,by decide⟩
 |[_,_],_=>⟨2,by kernel_rfl,by decide⟩
 |[_,_,_],_=>⟨2,by kernel_rfl,by decide⟩
 |[_,_,_,_],_=>⟨2,by kernel_rfl,by decide⟩
 |[_,_,_,_,_],_=>⟨2,by kernel_rfl,by decide⟩
 |[_,_,_,_,_,_],_=>⟨2,by kernel_rfl,by decide⟩
 |_::_::_::_::_::_::_::_,h=>absurd h (by simp)
theorem jY3:∀ds:List Int,ds.length<=3->∃n,depD (tg "call" [.str "f",.tup (ds.map fun i=>tg "num" [.int i])])=some n/\n<=10
 |[],_=>⟨1,by kernel_rfl,by decide⟩
 |[_],_=>⟨2,by kernel_rfl,by decide⟩
 |[_,_],_=>⟨2,by kernel_rfl,by decide⟩
 |[_,_,_],_=>⟨2,by kernel_rfl,by decide⟩
 |_::_::_::_::_,h=>absurd h (by simp)
theorem vZ6(h:pWords ws=cond b .er (.ok d []))(hm:b=false->(decide ((ws.length:Int) > 60) || decide (mb ws > 10))=false)(hd:b=false->∃n,depD (qXe d)=some n/\n<=10):rowW ws=cond b .er (.ok d []):=by
 cases b with
 |true=>exact jJf h
 |false=>obtain⟨n,h1,h2⟩:=hd rfl;exact jJd (hm rfl) h h1 h2
noncomputable def qWi(A B:List Nat)(d:D)(f:Nat)(ts:List Th)(good:Bool):Prop:=rowW (wL (A ++ (xJ f ts ++ B)))=cond (decide (0<f) ||!good) .er (.ok d [])
section
variable{ts:List Th}{f:Nat}(hx:∀t∈ts,Tx t)(hf:f<=4)(hl:ts.length<=7)(h2:2<f->2<=ts.length)
include hx hf hl h2
theorem f0(h:(decide (0<f) || b)=false):f=0:=by
 have:decide (0<f)=false:=by revert h;cases decide (0<f) <;> simp
 have:=of_decide_eq_false this;omega
theorem zXo(h:∀t∈ts,OkT pOut ")" t)(hk:(ts.map Th.d).map fst1=ks.map kd):qWi (cd "ask pick(") (cd ")") (.tup [.str "ask",tg "pick" [.tup (ts.map Th.d)]]) f ts (okG ts ks):=by
 unfold qWi;rw[wL_J (A:=cd "ask pick(") (B:=cd ")") hx f (pa:=["ask","pick","("]) (pb:=[")"]) (by decide +kernel) (by decide +kernel) (by decide +kernel) (by decide +kernel)];refine vZ6 (askT (X:="pick"::"("::(wJ f ts ++ [(")":Str)])) ?_) (fun q=>?_) fun _=>⟨1,jY2 _,by decide⟩
 ·rw [hP,zQs jJ7 hf hl h2 h hk];cases(decide (0<f) ||!okG ts ks) <;> rfl
 ·cases f0 hx hf hl h2 q;exact few hx hl (pa:=["ask","pick","("]) (pb:=[")"]) (by decide +kernel) (by decide +kernel) (by decide)
theorem zKr{qs:List (Str×Int)}(h:∀t∈ts,OkT (qVw (jB 11)) "}" t)(hk:(ts.map Th.d).map fst1=ks.map kd)(hq:ts.map Th.d=qs.map fun q=>.tup [.str q.1,tg "num" [.int q.2]]):qWi (cd "ask {") (cd "}") (.tup [.str "ask",tg "record" [.tup (ts.map Th.d)]]) f ts (okG ts ks):=by
 unfold qWi;rw[wL_J (A:=cd "ask {") (B:=cd "}") hx f (pa:=["ask","{"]) (pb:=["}"]) (by decide +kernel) (by decide +kernel) (by decide +kernel) (by decide +kernel)];refine vZ6 (askT (X:="{"::(wJ f ts ++ [("}":Str)])) ?_) (fun q=>?_) fun q=>?_
 ·rw [hR,zQs jYf hf hl h2 h hk];cases(decide (0<f) ||!okG ts ks) <;> rfl
 ·cases f0 hx hf hl h2 q;exact few hx hl (pa:=["ask","{"]) (pb:=["}"]) (by decide +kernel) (by decide +kernel) (by decide)
 ·have e:qs.length=ts.length:=by have:=congrArg List.length hq;simpa using this.symm
  rw[Bool.or_eq_false_iff,Bool.not_eq_false',aE,aE]at q;have:=of_decide_eq_true q.2.1.2;rw[hq];exact jY1 qs (by omega)
theorem zXp{is:List Int}(h:∀t∈ts,OkT (jB 11) ")" t)(hq:ts.map Th.d=is.map fun i=>tg "num" [.int i]):qWi (cd "ask f(") (cd ")") (.tup [.str "ask",tg "call" [.str "f",.tup (ts.map Th.d)]]) f ts (decide ((ts.length:Int)<=3)):=by
 have hb:(!decide ((ts.length:Int)<=3))=decide ((ts.length:Int) > 3):=by rw[←decide_not];exact decide_eq_decide.mpr (by omega)
 unfold qWi;rw[wL_J (A:=cd "ask f(") (B:=cd ")") hx f (pa:=["ask","f","("]) (pb:=[")"]) (by decide +kernel) (by decide +kernel) (by decide +kernel) (by decide +kernel)];refine vZ6 (askT (X:="f"::"("::(wJ f ts ++ [(")":Str)])) ?_) (fun q=>?_) fun q=>?_
 ·rw [hC,vYh jYd (by decide) f ts hf (by omega) h2 h,hb];cases(decide (0<f) || decide ((ts.length:Int) > 3)) <;> rfl
 ·cases f0 hx hf hl h2 q;exact few hx hl (pa:=["ask","f","("]) (pb:=[")"]) (by decide +kernel) (by decide +kernel) (by decide)
 ·have e:is.length=ts.length:=by have:=congrArg List.length hq;simpa using this.symm
  rw[Bool.or_eq_false_iff,Bool.not_eq_false']at q;have:=of_decide_eq_true q.2;rw[hq];exact jY3 is (by omega)
theorem zKs(h:∀t∈ts,OkT pName' ")" t)(hk:ts.map Th.d=ks.map kd):qWi (cd "def f(") (cd ") = 1") (tg "def" [.str "f",.tup (ts.map Th.d),tg "num" [.int 1]]) f ts (decide ((ts.length:Int)<=3) &&!dup ks):=by
 have hkl:ks.length=ts.length:=by have:=congrArg List.length hk;simpa using this.symm
 unfold qWi;rw[wL_J (A:=cd "def f(") (B:=cd ") = 1") hx f (pa:=["def","f","("]) (pb:=[")","=","1"]) (by decide +kernel) (by decide +kernel) (by decide +kernel) (by decide +kernel)];refine vZ6 (ws:="def"::"f"::"("::(wJ f ts ++ (")":Str):: ["=","1"])) ?_ (fun q=>?_) fun _=>⟨1,by kernel_rfl,by decide⟩
 ·rw [hD,vYh jYe (by decide) f ts hf (by omega) h2 h];cases decide (0<f) with
  |true=>rfl
  | false=>
    by_cases h3:(ts.length:Int)<=3
    ·rw [decide_eq_true h3,decide_eq_false (show¬(ts.length:Int) > 3 by omega)];show(match qZ2 (.tup (ts.map Th.d)) with
      |some b=>cond b Pr.er ((pTold ["=","1"]).bind fun d r=>.ok (tg "def" [.str "f",.tup (ts.map Th.d),d]) r)
      |none=>.no)=_
     rw[hk,zZ5 (by omega)];cases dup ks with
     |true=>rfl
     | false=>
       dsimp only[cond];rw[t1];rfl
    ·rw[decide_eq_false h3,decide_eq_true (show(ts.length:Int) > 3 by omega)];rfl
 ·cases f0 hx hf hl h2 q;exact few hx hl (pa:=["def","f","("]) (pb:=[")","=","1"]) (by decide +kernel) (by decide +kernel) (by decide)
end
theorem dv{b:Int}(h:qQe a b):i2g qQe (fun i j=>i / j) (.int a) (.int b)=some (.int (a / b)):=if_pos h
theorem md{b:Int}(h:0<b):i2g (fun _ j=>0<j) (fun i j=>i % j) (.int a) (.int b)=some (.int (a % b)):=if_pos h
theorem ml{b:Int}(h:IntMulOk a b):i2g IntMulOk (fun i j=>i * j) (.int a) (.int b)=some (.int (a * b)):=if_pos h
theorem zXk(R:List Nat){b:Nat}(hb:b<=R.length):Txt.slice (S R) none (some (b:Int))=S (R.take b):=by
 have:=beq_iff_eq.mp (slice_closes_to (x:=S R) (j:=b) ⟨by omega,by rw[qKb];omega⟩);rw[this,qKb];rfl
theorem vYy(R:List Nat){a:Nat}(ha:a<=R.length):Txt.slice (S R) (some (a:Int)) none=S (R.drop a):=by
 have:=beq_iff_eq.mp (slice_closes_from (x:=S R) (i:=a) ⟨by omega,by rw[qKb];omega⟩);rw[this,qKb];show S _=S _;congr 1;rw[List.take_of_length_le]
 ·simp
 ·rw[cY];omega
theorem qZs{x y:Str}(h:x.length+y.length<=5000):addS (.str x) (.str y)=some (.str (x ++ y)):=if_pos (aS h (by decide))
theorem zJ9:100000<=aM:=by decide
theorem vXi(k:Nat):∀(ws:List Str) (a:Nat),ws.foldl (fun n w=>n+w.length+k) a=a+(ws.map (·.length)).sum+ws.length * k
 |[],a=>by simp
 | w::ws,a=>by
   rw[List.foldl_cons,vXi k ws,bJ,List.sum_cons,aY,Nat.succ_mul];omega
theorem jWv{sep:Str}(l:(ws.map (·.length)).sum+ws.length * sep.length<=100000):jnS sep ws=some (.str (Str.join sep ws)):=by
 unfold jnS;have e1:ws.toArray.foldl (· + ·.length+sep.length) 0=(ws.map (·.length)).sum+ws.length * sep.length:=by
  rw[List.foldl_toArray,vXi];omega
 have j:=PySem.StrLaws.join_length_le sep ws;have e2:Builtin.Str.tooLong (ws.toArray.foldl (· + ·.length+sep.length) 0)=false:=by
  rw[e1];exact decide_eq_false (by have:=zJ9;omega)
 rw[e2,decide_eq_true (by have:=zJ9;omega)];rfl
theorem jWq{v:Nat}(h:v<10 ^ 44):v.log2<1920:=by
 by_cases z:v=0
 ·subst z;decide +kernel
 ·exact(Nat.log2_lt z).mpr (aF h (by decide +kernel))
theorem zKg(h:m<10 ^ 12):strD [.int (m:Int)]=some (.str (S (dg m))):=by
 show cond (decide (m.log2<1920)) (some (D.str (Str.ofString (toString (m:Int))))) _=_;rw[decide_eq_true (jWq (Nat.lt_trans h (by decide)))];show some (D.str (Str.ofString (toString (m:Int))))=_;rw[←S_of (Str.ofString (toString (m:Int))),PySem.W.KIN.signs_num]
theorem zQ0(sep:List Nat):∀ts:List Th,Str.join (S sep) (ts.map fun t=>S t.txt)=S (jX sep ts)
 |[]=>rfl
 |[t]=>by show S t.txt=S (t.txt ++ []);rw[bM]
 | t::u::ts=>by
   show S t.txt ++ S sep ++ Str.join (S sep) ((u::ts).map fun t=>S t.txt)=S (t.txt ++ (sep ++ (u.txt ++ jx sep ts)));rw[zQ0 sep (u::ts),qQ0,qQ0,bX];rfl
noncomputable abbrev tsD(ts:List Th):List D:=ts.map fun t=>.str (S t.txt)
theorem jV3:∀{ts:List Th},(∀t∈ts,Tx t)->((ts.map fun t=>S t.txt).map (·.length)).sum <=22 * ts.length
 |[],_=>aD _
 | t::ts,h=>by
   have:=jV3 fun t ht=>h t (aK _ ht)
   have:=(h t (by simp)).ln;rw[bJ,bJ,List.sum_cons,aY,zJ];omega
section
variable{ts:List Th}(h:∀t∈ts,Tx t)(hl:ts.length<=7)
include h hl
theorem jn_o{sn:List Nat}{y:Slot}(hs:sn.length<=4):evO (oL (qXg (S sn)) [(oN 0)]) [fz (.nd .lst (tsD ts)),y]=.ok (.d (.str (S (jX sn ts))),[fz (.nd .lst (tsD ts)),y]):=by
 refine qKa (hs:=[.d (.nd .lst (tsD ts))]) rfl rfl ?_ rfl;show(qWt (tsD ts)).bind (jnS (S sn))=_;rw[show tsD ts=(ts.map fun t=>S t.txt).map D.str by rw[bZ];rfl,vVj];show jnS (S sn) (ts.map fun t=>S t.txt)=_;have:=jV3 h;have:ts.length * sn.length<=7 * 4:=Nat.mul_le_mul hl hs;rw[jWv (by rw[aP,zJ];omega),zQ0]
theorem zZh:∀f:Nat,f<=4->vM [fz (.nd .lst (tsD ts)),sN f]=.ok (.fz (.str (S (xJ f ts))),[.un,.un])
 | 0,_=>by
   unfold vM;exact vE (qD (q:=false) (e:=[fz (.nd .lst (tsD ts)),sN 0]) rfl (qO (qD (q:=false) (e:=[fz (.nd .lst (tsD ts)),sN 0]) rfl (qO (qD (q:=false) (e:=[fz (.nd .lst (tsD ts)),sN 0]) rfl (qO (qD (q:=false) (e:=[fz (.nd .lst (tsD ts)),sN 0]) rfl (qO (wE (zZ (vQ (jn_o h hl (sn:=[44,32]) (by decide)) rfl) rfl) rfl))))))))) rfl
 | 1,_=>by
   have l:=(ch_jX sp1 h).2;unfold vM;exact vE (qD (q:=true) (e:=[fz (.nd .lst (tsD ts)),sN 1]) rfl (xR (zZ (vQ (h1:=.d (.str (S (xJ 1 ts)))) (qB (h1:=.d (.str (S [44]))) (h2:=.d (.str (S (jX [44,32] ts)))) rfl (jn_o h hl (by decide)) rfl rfl rfl (by rw[qZs (by rw[zJ,zJ];show 1+_<=_;omega),qQ0];rfl) rfl) rfl) rfl) rfl)) rfl
 | 2,_=>by
   have l:=(ch_jX sp1 h).2;unfold vM;exact vE (qD (q:=false) (e:=[fz (.nd .lst (tsD ts)),sN 2]) rfl (qO (qD (q:=true) (e:=[fz (.nd .lst (tsD ts)),sN 2]) rfl (xR (zZ (vQ (h1:=.d (.str (S (xJ 2 ts)))) (qB (h1:=.d (.str (S (jX [44,32] ts)))) (h2:=.d (.str (S [44]))) (jn_o h hl (by decide)) rfl rfl rfl rfl (by rw[qZs (by rw[zJ,zJ];show _+1<=_;omega),qQ0];rfl) rfl) rfl) rfl) rfl)))) rfl
 | 3,_=>by
   unfold vM;exact vE (qD (q:=false) (e:=[fz (.nd .lst (tsD ts)),sN 3]) rfl (qO (qD (q:=false) (e:=[fz (.nd .lst (tsD ts)),sN 3]) rfl (qO (qD (q:=true) (e:=[fz (.nd .lst (tsD ts)),sN 3]) rfl (xR (zZ (vQ (jn_o h hl (sn:=[44,32,44,32]) (by decide)) rfl) rfl) rfl)))))) rfl
 | 4,_=>by
   unfold vM;exact vE (qD (q:=false) (e:=[fz (.nd .lst (tsD ts)),sN 4]) rfl (qO (qD (q:=false) (e:=[fz (.nd .lst (tsD ts)),sN 4]) rfl (qO (qD (q:=false) (e:=[fz (.nd .lst (tsD ts)),sN 4]) rfl (qO (qD (q:=true) (e:=[fz (.nd .lst (tsD ts)),sN 4]) rfl (xR (zZ (vQ (jn_o h hl (sn:=[32]) (by decide)) rfl) rfl) rfl)))))))) rfl
 |f+5,q=>absurd q (by omega)
end
theorem tw_put(h1:1<(ds.length:Int)):∃(i j:Nat),i<ds.length/\j<ds.length/\(i:Int)=a / 3 % (ds.length:Int)/\(j:Int)=((i:Int)+(1+a / 24 % ((ds.length:Int) - 1))) % (ds.length:Int):=by
 have e1:=Int.emod_nonneg (a / 3) (show(ds.length:Int)≠0 by omega);have e2:=Int.emod_lt_of_pos (a / 3) (show(0:Int)<ds.length by omega);obtain⟨i,hi⟩:=Int.eq_ofNat_of_zero_le e1;have e3:=Int.emod_nonneg ((i:Int)+(1+a / 24 % ((ds.length:Int) - 1))) (show(ds.length:Int)≠0 by omega);have e4:=Int.emod_lt_of_pos ((i:Int)+(1+a / 24 % ((ds.length:Int) - 1))) (show(0:Int)<ds.length by omega);obtain⟨j,hj⟩:=Int.eq_ofNat_of_zero_le e3;exact⟨i,j,by omega,by omega,hi.symm,hj.symm⟩
noncomputable abbrev te(ds:List D)(a:Int)(y z:Slot):Ev:=[fl ds,sN a,y,z]
theorem len0{y z:Slot}:evO (oL lenD [(oN 0)]) (te ds a y z)=.ok (.d (.int (ds.length:Nat)),te ds a y z):=by
 refine qKa (hs:=[.p 0 []]) (xs:=[.nd .lst ds]) rfl ?_ rfl rfl;show((some (fzO (.ow .lst (ds.map .fz)))).bind fun x=>some [x])=_;rw[xU];rfl
theorem zQ4{n j:Nat}(h:j<n):ixN n (j:Int)=some j:=by unfold ixN;simp[h]
theorem zXa(ds:List D)(a:Int):∃ds' :List D,v8 [fl ds,sN a]=.ok (.ow .lst (ds'.map .fz),[.un,.un])/\ds'.length=ds.length/\∀d∈ds',d∈ds:=by
 have t1:asB (oGt (oL lenD [(oN 0)]) (oC (.int 1))) (te ds a .un .un)=.ok (decide ((ds.length:Int) > 1),te ds a .un .un):=
  vS (d:=.bl (decide ((ds.length:Int) > 1))) (vQ (h1:=.d (.bl (decide ((ds.length:Int) > 1)))) (qB (h1:=.d (.int (ds.length:Nat))) (h2:=.d (.int 1)) len0 rfl rfl rfl rfl rfl rfl) rfl) rfl rfl
 have t2:asB (o2 eqF (oMod (oN 1) (oC (.int 3))) (oC (.int 1))) (te ds a .un .un)=.ok (decide (a % 3=1),te ds a .un .un):=
  vS (d:=.bl (a % 3 == 1)) (vQ (h1:=.d (.bl (a % 3 == 1))) (qB (h1:=.d (.int (a % 3))) (h2:=.d (.int 1)) (qB (h1:=.d (.int a)) (h2:=.d (.int 3)) rfl rfl rfl rfl rfl (md (by decide)) rfl) rfl rfl rfl rfl rfl rfl) rfl) rfl (by rw[show(a % 3 == 1)=decide (a % 3=1) by rw[cH];simp])
 by_cases h1:(ds.length:Int) > 1
 ·rw [decide_eq_true h1] at t1;by_cases h2:a % 3=1
  ·rw [decide_eq_true h2] at t2;obtain⟨i,j,hi,hj,ei,ej⟩:=tw_put (a:=a) h1;have d3:qQe a 3:=⟨by decide,by decide +kernel⟩
   have d24:qQe a 24:=⟨by decide,by decide +kernel⟩
   obtain⟨m,hm⟩:∃m,1+a / 24 % ((ds.length:Int) - 1)=m:=⟨_,rfl⟩
   have x2:oV (oMod (oDiv (oN 1) (oC (.int 3))) (oL lenD [(oN 0)])) (te ds a .un .un)=.ok (.int (i:Nat),te ds a .un .un):=by
    rw[ei];exact vQ (h1:=.d (.int (a / 3 % (ds.length:Int)))) (qB (h1:=.d (.int (a / 3))) (h2:=.d (.int (ds.length:Nat))) (qB (h1:=.d (.int a)) (h2:=.d (.int 3)) rfl rfl rfl rfl rfl (dv d3) rfl) len0 rfl rfl rfl (md (by omega)) rfl) rfl
   have x3:oV (oAdd (oC (.int 1)) (oMod (oDiv (oN 1) (oC (.int 24))) (oSub (oL lenD [(oN 0)]) (oC (.int 1))))) (te ds a (sN i) .un)=.ok (.int m,te ds a (sN i) .un):=by
    rw[←hm];exact vQ (h1:=.d (.int (1+a / 24 % ((ds.length:Int) - 1)))) (qB (h1:=.d (.int 1)) (h2:=.d (.int (a / 24 % ((ds.length:Int) - 1)))) rfl (qB (h1:=.d (.int (a / 24))) (h2:=.d (.int ((ds.length:Int) - 1))) (qB (h1:=.d (.int a)) (h2:=.d (.int 24)) rfl rfl rfl rfl rfl (dv d24) rfl) (qB (h1:=.d (.int (ds.length:Nat))) (h2:=.d (.int 1)) len0 rfl rfl rfl rfl rfl rfl) rfl rfl rfl (md (by omega)) rfl) rfl rfl rfl rfl rfl) rfl
   rw[hm]at ej;have x4:oV (oIx (oN 0) (oMod (oAdd (oN 2) (oN 3)) (oL lenD [(oN 0)]))) (te ds a (sN i) (sN m))=.ok (ds[j],te ds a (sN i) (sN m)):=by
    refine vQ (h1:=.d ds[j]) (xS (h1:=.p 0 []) (h2:=.d (.int (j:Nat))) rfl (qB (h1:=.d (.int ((i:Int)+m))) (h2:=.d (.int (ds.length:Nat))) (qB (h1:=.d (.int (i:Nat))) (h2:=.d (.int m)) rfl rfl rfl rfl rfl rfl rfl) len0 rfl rfl rfl (md (by omega)) (by rw[ej])) rfl rfl ?_ rfl) rfl;show((ixN (ds.map O.fz).length (j:Int)).bind fun j=>((ds.map O.fz)[j]?).bind fun o=>some (hnO o 0 ([] ++ [j])))=_;rw[aP,zQ4 hj];show((ds.map O.fz)[j]?).bind _=_;rw[cN,aO hj];rfl
   refine⟨ds.set i ds[j],?_,cV,fun d hd=>?_⟩
   ·unfold v8;refine vE (qD (qQm t1 t2) (qYl (qC (zZ x2 rfl) (qYl (qC (zZ x3 rfl) (jD (e:=te (ds.set i ds[j]) a (sN i) (sN m)) (zKl (i:=0) (π:=[]) (j:=i) (n:=(i:Nat)) (os:=ds.map .fz) (zZ x4 rfl) rfl rfl rfl rfl rfl (by rw[aP];exact zQ4 hi) ?_) rfl)))))) rfl;show Res.ok (Out.nx [.s false (.ow .lst ((ds.map O.fz).set i (.fz ds[j]))),_,_,_])=_;rw[←List.map_set]
   ·rcases List.mem_or_eq_of_mem_set hd with q | q
    ·exact q
    ·rw[q];exact List.getElem_mem _
  ·rw [decide_eq_false h2] at t2;refine⟨ds,?_,rfl,fun d hd=>hd⟩;unfold v8;exact vE (qD (qQm t1 t2) (qO rfl)) rfl
 ·rw [decide_eq_false h1] at t1;refine⟨ds,?_,rfl,fun d hd=>hd⟩;unfold v8;exact vE (qD (q:=false) (qQm t1 rfl) (qO rfl)) rfl
abbrev ab1:List Nat:=cd "mnouvwxyz"
abbrev ab2:List Nat:=cd "bcdeghjq"
noncomputable def isS(c:Nat):Option D->Bool
 |some (.str z)=>decide (z=⟨#[c]⟩)
 |_=>false
theorem zWu{o:Option D}(h:isS c o=true):o=some (.str (S [c])):=by
 unfold isS at h;split at h
 ·rw[of_decide_eq_true h]
 ·cases h
theorem jVy:(List.range 9).all (fun i=>abc.contains (ab1.getD i 0) && isS (ab1.getD i 0) (ixD (.str "mnouvwxyz") (.int (i:Nat))))=true:=by decide +kernel
theorem jVx:(List.range 8).all (fun i=>abc.contains (ab2.getD i 0) && isS (ab2.getD i 0) (ixD (.str "bcdeghjq") (.int (i:Nat))))=true:=by decide +kernel
theorem ab1_ix(h:i<9):∃c∈abc,ixD (.str "mnouvwxyz") (.int (i:Nat))=some (.str (S [c])):=by
 have:=List.all_eq_true.mp jVy i (List.mem_range.mpr h);rw[aE]at this;exact⟨_,dP.mp this.1,zWu this.2⟩
theorem jXm(h:i<8):∃c∈abc,ixD (.str "bcdeghjq") (.int (i:Nat))=some (.str (S [c])):=by
 have:=List.all_eq_true.mp jVx i (List.mem_range.mpr h);rw[aE]at this;exact⟨_,dP.mp this.1,zWu this.2⟩
section
variable{a:Int}{n1 l2 k3 z:Slot}
noncomputable abbrev ne'(a:Int)(n1 l2 k3:Slot)(L:List Nat)(y z:Slot):Ev:=[sN a,n1,l2,k3,sS (S L),y,z]
theorem name_step(hk:k<=7)(hl:L.length<=12):∃c∈abc,x5 (ne' a n1 l2 k3 L (sN k) z)=.ok (.nx (ne' a n1 l2 k3 (L ++ [c]) (sN k) z)):=by
 have d:qQe a ((k:Int)+1):=⟨by omega,(by decide +kernel:∀k:Nat,k<=7->((k:Int)+1).natAbs.log2<9000) k hk⟩
 obtain⟨j,hj⟩:∃j:Nat,(j:Int)=a / ((k:Int)+1) % 9:=⟨(a / ((k:Int)+1) % 9).toNat,by omega⟩
 obtain⟨c,hc,e⟩:=ab1_ix (i:=j) (by omega);refine⟨c,hc,?_⟩;have x2:oV (o2 addS (oN 4) (oIx (oC (.str "mnouvwxyz")) (oMod (oDiv (oN 0) (oAdd (oN 5) (oC (.int 1)))) (oC (.int 9))))) (ne' a n1 l2 k3 L (sN k) z)=.ok (.str (S (L ++ [c])),ne' a n1 l2 k3 L (sN k) z):=by
  refine vQ (h1:=.d (.str (S (L ++ [c])))) (qB (h1:=.d (.str (S L))) (h2:=.d (.str (S [c]))) rfl (xS (h1:=.d (.str "mnouvwxyz")) (h2:=.d (.int (j:Nat))) rfl (qB (h1:=.d (.int (a / ((k:Int)+1)))) (h2:=.d (.int 9)) (qB (h1:=.d (.int a)) (h2:=.d (.int ((k:Int)+1))) rfl rfl rfl rfl rfl (dv d) rfl) rfl rfl rfl rfl (md (by decide)) (by rw[hj])) rfl rfl (z:=.str (S [c])) ?_ rfl) rfl rfl rfl ?_ rfl) rfl
  ·show(ixD _ _).map Hn.d=_;rw[e];rfl
  ·rw[qZs (by rw[zJ,zJ];show L.length+1<=_;omega),qQ0]
 unfold x5;exact qJ3 (zZ x2 rfl) rfl
theorem name_loop:∀(ks:List Nat) (L:List Nat) (y:Slot),(∀k∈ks,k<=7)->L.length+ks.length<=12->(∀c∈L,c∈abc)->∃L' y',forS (gN 5) x5 (ks.map fun(k:Nat)=>D.int (0+(k:Int))) (ne' a n1 l2 k3 L y z)=.ok (.nx (ne' a n1 l2 k3 L' y' z))/\L'.length=L.length+ks.length/\∀c∈L',c∈abc
 |[],L,y,_,_,hL=>⟨L,y,rfl,rfl,hL⟩
 | k::ks,L,y,hk,hl,hL=>by
   rw[aY]at hl;obtain⟨c,hc,h1⟩:=name_step (a:=a) (n1:=n1) (l2:=l2) (k3:=k3) (z:=z) (hk k (aA ..)) (L:=L) (by omega);obtain⟨L',y',h2,h3,h4⟩:=name_loop ks (L ++ [c]) (sN k) (fun x hx=>hk x (aK _ hx)) (by rw[aW];show L.length+1+_<=_;omega) (fun z hz=>by
    rcases bG.mp hz with q|q
    ·exact hL z q
    ·rw[bU.mp q];exact hc)
   exact⟨L',y',xQ (e1:=ne' a n1 l2 k3 L (sN k) z) (by show some (ne' a n1 l2 k3 L (sN (0+(k:Int))) z)=_;rw[Int.zero_add]) h1 h2,by rw[h3];simp only[aW,aY,List.length_nil];omega,h4⟩
end
section
variable{a:Int}{n1:Slot}
noncomputable abbrev nmD(Ls:List (List Nat)):List D:=Ls.map fun L=>.str (S L)
noncomputable abbrev ns'(a:Int)(n1:Slot)(Ls:List (List Nat))(k3 y4 y5 y6:Slot):Ev:=[sN a,n1,fl (nmD Ls),k3,y4,y5,y6]
theorem names_b(hk:k<8){Ls:List (List Nat)}(hl:Ls.length<=10){y4 y5 y6:Slot}:∃L z4 z5 z6,Nm L/\xT (ns' a n1 Ls (sN k) y4 y5 y6)=.ok (.nx (ns' a n1 (Ls ++ [L]) (sN k) z4 z5 z6)):=by
 obtain⟨m,hm⟩:∃m:Nat,(m:Int)=a % 7:=⟨(a % 7).toNat,by omega⟩
 obtain⟨L,y,lp,h4,h5⟩:=name_loop (a:=a) (n1:=n1) (l2:=fl (nmD Ls)) (k3:=sN k) (z:=y6) (List.range' 0 m) [] y5 (fun k hk=>by have:=List.mem_range'_1.mp hk;omega) (by rw[dN];show 0+m<=_;omega) (fun c hc=>by cases hc);rw[dN]at h4;have h4:L.length=m:=by rw[h4];show 0+m=m;omega
 have it:iL rg1 [(oV (oMod (oN 0) (oC (.int 7))))] (ns' a n1 Ls (sN k) (sS "") y5 y6)=.ok ((List.range' 0 m).map fun(k:Nat)=>D.int (0+(k:Int)),ns' a n1 Ls (sN k) (sS "") y5 y6):=by
  refine qXh (xs:=[.int m]) (qN (d:=.int m) (e:=ns' a n1 Ls (sN k) (sS "") y5 y6) (vQ (h1:=.d (.int m)) (qB (h1:=.d (.int a)) (h2:=.d (.int 7)) rfl rfl rfl rfl rfl (md (by decide)) (by rw[hm])) rfl) (zY3 rfl) rfl) (vZ7 (by omega)) rfl
 have d7:qQe a 7:=⟨by decide,by decide +kernel⟩
 obtain⟨t,ht⟩:∃t:Nat,(t:Int)=a / 7 % ((L.length:Int)+1):=⟨(a / 7 % ((L.length:Int)+1)).toNat,by have:=Int.emod_nonneg (a / 7) (show((L.length:Int)+1)≠0 by omega);omega⟩
 have ht2:t<=L.length:=by have:=Int.emod_lt_of_pos (a / 7) (show(0:Int)<(L.length:Int)+1 by omega);omega
 have x6:oV (oMod (oDiv (oN 0) (oC (.int 7))) (oAdd (oL lenD [(oN 4)]) (oC (.int 1)))) (ns' a n1 Ls (sN k) (sS (S L)) y y6)=.ok (.int (t:Nat),ns' a n1 Ls (sN k) (sS (S L)) y y6):=by
  rw[ht];exact vQ (h1:=.d (.int (a / 7 % ((L.length:Int)+1)))) (qB (h1:=.d (.int (a / 7))) (h2:=.d (.int ((L.length:Int)+1))) (qB (h1:=.d (.int a)) (h2:=.d (.int 7)) rfl rfl rfl rfl rfl (dv d7) rfl) (qB (h1:=.d (.int (L.length:Int))) (h2:=.d (.int 1)) (qKa (hs:=[.d (.str (S L))]) rfl rfl (qYg (by omega)) rfl) rfl rfl rfl rfl rfl rfl) rfl rfl rfl (md (by omega)) rfl) rfl
 obtain⟨c,hc,ec⟩:=jXm hk;have hsz:(S L).length <=aM:=by rw[zJ];exact aS (show L.length<=12 by omega) (by decide)
 have s1:evO (.v (qZv (oN 4) none (some (oV (oN 6))))) (ns' a n1 Ls (sN k) (sS (S L)) y (sN t))=.ok (.d (.str (S (L.take t))),ns' a n1 Ls (sN k) (sS (S L)) y (sN t)):=by
  refine zC (d:=.str (S (L.take t))) ?_ rfl;show(opt (cond (decide ((S L).length <=aM)) (some (D.str (Txt.slice (S L) none (some (t:Int))))) none)).bind _=_;rw[decide_eq_true hsz,zXk L ht2];rfl
 have s2:evO (.v (qZv (oN 4) (some (oV (oN 6))) none)) (ns' a n1 Ls (sN k) (sS (S L)) y (sN t))=.ok (.d (.str (S (L.drop t))),ns' a n1 Ls (sN k) (sS (S L)) y (sN t)):=by
  refine zC (d:=.str (S (L.drop t))) ?_ rfl;show(opt (cond (decide ((S L).length <=aM)) (some (D.str (Txt.slice (S L) (some (t:Int)) none))) none)).bind _=_;rw[decide_eq_true hsz,vYy L ht2];rfl
 have e1:(L.take t).length =t:=by rw[dG];omega
 have e2:(L.drop t).length =L.length - t:=cY ..;have x7:oV (o2 addS (o2 addS (.v (qZv (oN 4) none (some (oV (oN 6))))) (oIx (oC (.str "bcdeghjq")) (oN 3))) (.v (qZv (oN 4) (some (oV (oN 6))) none))) (ns' a n1 Ls (sN k) (sS (S L)) y (sN t))=.ok (.str (S (L.take t ++ [c] ++ L.drop t)),ns' a n1 Ls (sN k) (sS (S L)) y (sN t)):=by
  refine vQ (h1:=.d (.str (S (L.take t ++ [c] ++ L.drop t)))) (qB (h1:=.d (.str (S (L.take t ++ [c])))) (h2:=.d (.str (S (L.drop t)))) (qB (h1:=.d (.str (S (L.take t)))) (h2:=.d (.str (S [c]))) s1 (xS (h1:=.d (.str "bcdeghjq")) (h2:=.d (.int (k:Nat))) rfl rfl rfl rfl (z:=.str (S [c])) ?_ rfl) rfl rfl rfl ?_ rfl) s2 rfl rfl rfl ?_ rfl) rfl
  ·show(ixD _ _).map Hn.d=_;rw[ec];rfl
  ·rw[qZs (by rw[zJ,zJ,e1];show t+1<=_;omega),qQ0]
  ·rw[qZs (by rw[zJ,zJ,aW,e1,e2];show t+1+_<=_;omega),qQ0]
 refine⟨L.take t ++ [c] ++ L.drop t,sS (S L),y,sN t,⟨?_,?_,fun z hz=>?_⟩,?_⟩
 ·rw[aW,aW];show 1<=_+1+_;omega
 ·rw[aW,aW,e1,e2];show t+1+_<=_;omega
 ·rcases bG.mp hz with q | q
  ·rcases bG.mp q with q | q
   ·exact h5 z (List.mem_of_mem_take q)
   ·rw[bU.mp q];exact hc
  ·exact h5 z (List.mem_of_mem_drop q)
 ·unfold xT;refine qC (o:=.fz (.str "")) (e:=ns' a n1 Ls (sN k) y4 y5 y6) rfl (jD (qQl it lp) (qC (zZ x6 rfl) (qXq (vQj (i:=2) (π:=[]) (os0:=(nmD Ls).map .fz) (os:=(nmD Ls).map .fz) rfl rfl (zZ x7 rfl) rfl rfl (z:=(.fz .non,((nmD Ls) ++ [D.str (S (L.take t ++ [c] ++ L.drop t))]).map .fz)) ?_ rfl) ?_)))
  ·unfold apF;rw[decide_eq_true (show((nmD Ls).map O.fz).length <=lim from by rw[aP,aP];exact aS hl (by decide)),cX];rfl
  ·show _=Res.ok (Out.nx [_,_,fl (nmD (Ls ++ [_])),_,_,_,_]);rw[show nmD (Ls ++ [L.take t ++ [c] ++ L.drop t])=nmD Ls ++ [D.str (S (L.take t ++ [c] ++ L.drop t))] from cX];rfl
theorem names_l:∀(ks:List Nat) (Ls:List (List Nat)) (y3 y4 y5 y6:Slot),(∀k∈ks,k<8)->Ls.length+ks.length<=8->(∀L∈Ls,Nm L)->∃Ls' z3 z4 z5 z6,forS (gN 3) xT (ks.map fun(k:Nat)=>D.int (0+(k:Int))) (ns' a n1 Ls y3 y4 y5 y6)=.ok (.nx (ns' a n1 Ls' z3 z4 z5 z6))/\Ls'.length=Ls.length+ks.length/\∀L∈Ls',Nm L
 |[],Ls,y3,y4,y5,y6,_,_,h=>⟨Ls,y3,y4,y5,y6,rfl,rfl,h⟩
 | k::ks,Ls,y3,y4,y5,y6,hk,hl,h=>by
   rw[aY]at hl;obtain⟨L,z4,z5,z6,hL,hb⟩:=names_b (a:=a) (n1:=n1) (hk k (aA ..)) (Ls:=Ls) (by omega) (y4:=y4) (y5:=y5) (y6:=y6);obtain⟨Ls',w3,w4,w5,w6,h2,h3,h4⟩:=names_l ks (Ls ++ [L]) (sN k) z4 z5 z6 (fun x hx=>hk x (aK _ hx)) (by rw[aW];show Ls.length+1+_<=_;omega) (fun z hz=>by
    rcases bG.mp hz with q|q
    ·exact h z q
    ·rw[bU.mp q];exact hL)
   exact⟨Ls',w3,w4,w5,w6,xQ (e1:=ns' a n1 Ls (sN k) y4 y5 y6) (by show some (ns' a n1 Ls (sN (0+(k:Int))) y4 y5 y6)=_;rw[Int.zero_add]) hb h2,by rw[h3];simp only[aW,aY,List.length_nil];omega,h4⟩
end
theorem zX8(a:Int){n:Nat}(hn:n<=7):∃Ls,wY [sN a,sN n]=.ok (.ow .lst ((nmD Ls).map .fz),[.un,.un])/\Ls.length=n/\∀L∈Ls,Nm L:=by
 obtain⟨Ls,z3,z4,z5,z6,h2,h3,h4⟩:=names_l (a:=a) (n1:=sN n) (List.range' 0 n) [] .un .un .un .un (fun k hk=>by have:=List.mem_range'_1.mp hk;omega) (by rw[dN];show 0+n<=_;omega) (fun L hL=>by cases hL);rw[dN]at h3;refine⟨Ls,?_,by rw[h3];show 0+n=n;omega,h4⟩;have it:iL rg1 [(oV (oN 1))] (ns' a (sN n) [] .un .un .un .un)=.ok ((List.range' 0 n).map fun(k:Nat)=>D.int (0+(k:Int)),ns' a (sN n) [] .un .un .un .un):=qXh (xs:=[.int n]) rfl (vZ7 (by omega)) rfl;unfold wY;exact vE (qC (o:=.ow .lst []) (e:=[sN a,sN n,.un,.un,.un,.un,.un]) rfl (jD (qQl it h2) rfl)) rfl
theorem qXi{vs:List SV}{zs:List D}{o:O}(hv:evOs ((vs.map Am.v).map Am.o) env=.ok (zs.map .d,e))(hl:vs.length=zs.length)(h:F (zs.map fz)=.ok (o,List.replicate zs.length .un)):qY F (vs.map .v) env=.ok (o,e):=by
 have k1:∀(vs:List SV) (zs:List D),vs.length=zs.length->zM (vs.map .v) (zs.map .d)=[]/\wT (vs.map .v) (zs.map .d)=[]/\j9 [] [] (vs.map .v) (zs.map .d) []=some (zs.map fz)/\qZp (vs.map .v) (List.replicate zs.length .un)=some []:=by
  intro vs;induction vs with
  |nil=>intro zs h;cases zs <;> first|exact⟨rfl,rfl,rfl,rfl⟩|cases h
  | cons v vs ih=>
    intro zs h;cases zs with
    |nil=>cases h
    | cons z zs=>
      obtain⟨a,b,c,d⟩:=ih zs (Nat.succ.inj h);refine⟨a,b,?_,d⟩;show(j9 [] [] (vs.map .v) (zs.map .d) []).bind _=_;rw[c];rfl
 obtain⟨a,b,c,d⟩:=k1 vs zs hl;refine jK hv (qJc (t0:=([],e)) (t:=([],e)) (os:=[]) (by rw[a];rfl) (by rw[b];rfl) (by rw[a];exact c) h d rfl ?_);rw[a,b];rfl
theorem jQs{x:Oe}(h:oV x env=.ok (.bl b,e)):oV (oNot x) env=.ok (.bl (!b),e):=by
 show(asB x env).bind _=_;rw[vS h rfl rfl];rfl
section
variable{α:Type}{g:SG}{el:SV}{dn vn:α->D}{m:Nat}
theorem jZu:∀(qs:List α) (e:Ev),(∀q∈qs,∀e,e.length=m->∃e1,g (dn q) e=some e1/\el e1=.ok (vn q,e1)/\e1.length=m)->e.length=m->∃e',qQd g bTrue el (qs.map dn) e=.ok (qs.map vn,e')
 |[],e,_,_=>⟨e,rfl⟩
 | q::qs,e,h,he=>by
   obtain⟨e1,h1,h2,h3⟩:=h q (by simp) e he;obtain⟨e',ih⟩:=jZu qs e1 (fun q hq=>h q (aK _ hq)) h3;refine⟨e',?_⟩;show(opt (g (dn q) e)).bind _=_;rw[h1];show((el e1).ne).bind _=_;rw[h2];show(qQd g bTrue el (qs.map dn) e1).bind _=_;rw[ih];rfl
theorem zJ2:∀(n i:Nat) (e:Ev),qVi [] i n e=e
 | 0,_,_=>rfl
 |n+1,i,e=>zJ2 n (i+1) e
theorem jV8:∀(q:Ev) (i:Nat) (e:Ev),putI [] i q e=e
 |[],_,_=>rfl
 |_::q,i,e=>jV8 q (i+1) e
theorem qYi{T:List Nat}{it:SI}{qs:List α}(hi:it env=.ok (qs.map dn,e))(hl:qs.length<=50)(h:∀q∈qs,∀e,e.length=m->∃e1,g (dn q) e=some e1/\el e1=.ok (vn q,e1)/\e1.length=m):compS m [] T it g bTrue el env=.ok (.ow .lst ((qs.map vn).map .fz),e):=by
 obtain⟨e',c⟩:=jZu qs (capS [] .un e 0 m) h (qX2 m 0);refine qK1 hi ?_ c (by rw[zJ2,jV8]);rw[aP,decide_eq_true (aS hl (by decide))];show(vWp [] T m e.length && true)=true;rw[Bool.and_true];exact decide_eq_true ⟨by simp,by simp,fun c hc=>by cases hc⟩
end
section
variable{el:SV}{Q:D->Prop}{x:Slot}
theorem cmp_l:∀(ks:List Nat) (y:Slot),(∀k∈ks,∃v,el [sN (k:Nat),x]=.ok (v,[sN (k:Nat),x])/\Q v)->∃(vs:List D) (y' :Slot),qQd (gN 0) bTrue el (ks.map fun(k:Nat)=>D.int (0+(k:Int))) [y,x]=.ok (vs,[y',x])/\vs.length=ks.length/\∀v∈vs,Q v
 |[],y,_=>⟨[],y,rfl,rfl,fun v hv=>by cases hv⟩
 | k::ks,y,h=>by
   obtain⟨v,h1,h2⟩:=h k (by simp);obtain⟨vs,y',h3,h4,h5⟩:=cmp_l ks (sN (k:Nat)) fun k hk=>h k (aK _ hk)
   refine⟨v::vs,y',?_,by rw[aY,aY,h4],fun z hz=>?_⟩
   ·show((el [sN (0 + (k:Int)),x]).ne).bind _=_;rw[Int.zero_add,h1];show(qQd (gN 0) bTrue el _ [sN (k:Nat),x]).bind _=_;rw[h3];rfl
   ·rcases aH.mp hz with q | q
    ·rw[q];exact h2
    ·exact h5 z q
theorem comp_n{n:Nat}{r:Ev}(hn:n<=50)(h:∀k<n,∃v,el [sN (k:Nat),sN a]=.ok (v,[sN (k:Nat),sN a])/\Q v):∃vs:List D,compS 2 [(1,1)] [0] (iL rg1 [(oV (oN 0))]) (gN 0) bTrue el (sN n::sN a::r)=.ok (.ow .lst (vs.map .fz),sN n::sN a::r)/\vs.length=n/\∀v∈vs,Q v:=by
 obtain⟨vs,y',h3,h4,h5⟩:=cmp_l (x:=sN a) (List.range' 0 n) .un fun k hk=>h k (by have:=List.mem_range'_1.mp hk;omega)
 rw[dN]at h4;refine⟨vs,qK1 (qXh (xs:=[.int n]) rfl (vZ7 hn) rfl) ?_ h3 rfl,h4,h5⟩;rw[aP,dN,decide_eq_true (aS hn (by decide)),Bool.and_true];exact decide_eq_true ⟨by decide,by decide,fun c hc=>by rw[bU.mp hc];exact⟨by decide,by show 1<r.length+1+1;omega,by decide⟩⟩
end
theorem zJa{A:SE}{x0:Slot}{r:Ev}(h:A (x0::sN a::r)=.ok (.ow .lst (ds.map .fz),x0::sN a::r)):∃ds' :List D,qXj v8 A (pOf (oN 1)) (x0::sN a::r)=.ok (.ow .lst (ds'.map .fz),x0::sN a::r)/\ds'.length=ds.length/\∀d∈ds',d∈ds:=by
 obtain⟨ds',h1,h2,h3⟩:=zXa ds a;refine⟨ds',?_,h2,h3⟩;unfold qXj;rw[h];show(v8 [fl ds,sN a]).bind _=_;rw[h1];rfl
theorem typed{α:Type}{f:α->D}{P:α->Prop}:∀(ds:List D),(∀d∈ds,∃m,d=f m/\P m)->∃ms:List α,ds=ms.map f/\∀m∈ms,P m
 |[],_=>⟨[],rfl,fun m hm=>by cases hm⟩
 | d::ds,h=>by
   obtain⟨m,e,hm⟩:=h d (by simp);obtain⟨ms,e2,h2⟩:=typed ds fun d hd=>h d (aK _ hd)
   exact⟨m::ms,by rw[e,e2];rfl,fun z hz=>by rcases aH.mp hz with q|q;rw[q];exact hm;exact h2 z q⟩
theorem vQa(h:evO (oN i) env=.ok (.p i [],env))(g:getE env i []=some (.ow .lst (ds.map .fz)))(s:setE env i [] (.fz (.nd .lst ds))=e):oV (oN i) env=.ok (.nd .lst ds,e):=by
 refine vQ h ?_
 show(opt (getE env i [])).bind _=_;rw[g];show Res.ok (fzO (.ow .lst (ds.map .fz)),setE env i [] (.fz (fzO (.ow .lst (ds.map .fz)))))=_;rw[xU,s]
theorem vZ3{v:SV}{x y:Str}(hx:x=S A)(hy:y=S B)(h:∀t∈ts,Tx t)(hl:ts.length<=7)(hf:f<=4)(hA:A.length+B.length<=100)(hv:v env=.ok (.nd .lst (tsD ts),e))(h2:oV (oN 2) e=.ok (.int (f:Nat),e)):owS (oV (o2 addS (o2 addS (oC (.str x)) (.v (fzS (qY vM [(.v v),(.v (oV (oN 2)))])))) (oC (.str y)))) env=.ok (.fz (.str (S (A ++ (xJ f ts ++ B)))),e):=by
 subst hx hy;have hj:fzS (qY vM [(.v v),(.v (oV (oN 2)))]) env=.ok (.str (S (xJ f ts)),e):=zP (o:=.fz (.str (S (xJ f ts)))) (qXi (vs:=[v,oV (oN 2)]) (zs:=[.nd .lst (tsD ts),.int (f:Nat)]) (x9 hv (x9 h2 (zVb rfl) rfl) rfl) rfl (zZh h hl f hf)) rfl;have l:=(zJr h f).2;refine zZ (d:=.str (S (A ++ (xJ f ts ++ B)))) (vQ (h1:=.d (.str (S (A ++ (xJ f ts ++ B))))) (qB (h1:=.d (.str (S (A ++ xJ f ts)))) (h2:=.d (.str (S B))) (qB (h1:=.d (.str (S A))) (h2:=.d (.str (S (xJ f ts)))) rfl (zC hj rfl) rfl rfl rfl ?_ rfl) rfl rfl rfl rfl ?_ rfl) rfl) rfl
 ·rw[qZs (by rw[zJ,zJ];omega),qQ0]
 ·rw[qZs (by rw[zJ,zJ,aW];omega),qQ0,bX]
theorem le_o{n m:Int}(h:evO (oN i) env=.ok (.d (.int n),env))(hr:rsv env (.d (.int n))=some (.int n)):oV (oLe (oN i) (oC (.int m))) env=.ok (.bl (decide (n<=m)),env):=
 vQ (h1:=.d (.bl (decide (n<=m)))) (qB (h1:=.d (.int n)) (h2:=.d (.int m)) h rfl rfl hr rfl rfl rfl) rfl
theorem ch_o{n:Int}{r:Ev}:oV (oCh (c2 fun i j=>decide (i<=j)) (c2 fun i j=>decide (i<=j)) (oC (.int 1)) (oN 0) (oC (.int 6))) (sN n::r)=.ok (.bl (decide (1<=n) && decide (n<=6)),sN n::r):=by
 show cond (decide (1<=n)) _ _=_;cases decide (1<=n) <;> rfl
theorem zZ9(hk:ks.length<=50)(h:oV (oN 3) env=.ok (.nd .lst (ks.map kd),env)):oV (oNot (.v (fzS (qY zV [(.v (oV (oN 3)))])))) env=.ok (.bl (!dup ks),env):=
 jQs (vQ (h1:=.d (.bl (dup ks))) (zC (zP (o:=.fz (.bl (dup ks))) (qXi (vs:=[oV (oN 3)]) (zs:=[.nd .lst (ks.map kd)]) (x9 h (zVb rfl) rfl) rfl (jZ5 hk)) rfl) rfl) rfl)
theorem tup7(h:evO (oN i) env=.ok (.p i [],env))(g:getE env i []=some (.ow .lst (ds.map .fz)))(s:setE env i [] (.ow .lst (ds.map .fz))=e):svA tupleD [(oN i)] env=.ok (.tup ds,e):=by
 refine vQd (hs:=[.p i []]) (xs:=[.nd .lst ds]) (xV h rfl rfl rfl) ?_ rfl rfl;show((opt (getE env i [])).bind fun o=>Res.ok (fzO o,setE env i [] (vK1 o))).bind _=_;rw[g];show Res.ok ([fzO (.ow .lst (ds.map .fz))],setE env i [] (vK1 (.ow .lst (ds.map .fz))))=_;rw[xU,show vK1 (.ow .lst (ds.map .fz))=.ow .lst (ds.map .fz) by show O.ow .lst ((ds.map O.fz).map fun o=>O.fz (fzO o))=_;rw[bZ];rfl,s]
mutual
def okA:D->Bool
 |.str _=>true
 |.int _=>true
 |.nd .tup ds=>okAs ds
 |.nd .lst ds=>okAs ds
 |_=>false
def okAs:List D->Bool
 |[]=>true
 |d::ds=>okA d && okAs ds
end
mutual
def hA:D->Nat
 |.nd _ ds=>hAs ds+1
 |_=>1
def hAs:List D->Nat
 |[]=>0
 |d::ds=>max (hA d) (hAs ds)
end
theorem zVm(i:Int):eqF (.int i) (.int i)=some (.bl true):=by
 show some (D.bl (i == i))=_;rw[beq_self_eq_true]
theorem jVv(i:Str):eqF (.str i) (.str i)=some (.bl true):=by
 show some (D.bl (decide (i=i)))=_;rw[decide_eq_true rfl]
theorem alike_loop{h:Nat}{x y:Slot}:∀(ds:List D) (a b:Slot),(∀d∈ds,zQ h [fz d,fz d]=.ok (.fz (.bl true),[.un,.un]))->∃a' b',forS (gT 2 (gCn (gN 2) (gCn (gN 3) gNl))) (qWn (zQ h)) (zipD ds ds) [x,y,a,b]=.ok (.nx [x,y,a',b'])
 |[],a,b,_=>⟨a,b,rfl⟩
 | d::ds,a,b,H=>by
   obtain⟨a',b',ih⟩:=alike_loop (h:=h) (x:=x) (y:=y) ds (fz d) (fz d) fun z hz=>H z (aK _ hz)
   refine⟨a',b',xQ (e1:=[x,y,fz d,fz d]) (e2:=[x,y,fz d,fz d]) rfl ?_ ih⟩;have c1:qY (zQ h) [(.v (oV (oN 2))),(.v (oV (oN 3)))] [x,y,fz d,fz d]=.ok (.fz (.bl true),[x,y,fz d,fz d]):=by
    show(zQ h [fz d,fz d]).bind _=_;rw[H d (aA ..)];rfl
   exact yG (q:=false) (not_of (qZr (zP c1 rfl)) rfl) rfl
mutual
theorem vVk:∀(d:D) (h:Nat),okA d=true->hA d<=h->zQ h [fz d,fz d]=.ok (.fz (.bl true),[.un,.un])
 |.str s,0,_,hh=>by simp[hA]at hh
 | .str s,h + 1,_,_=>by
   refine vE (qD (q:=true) (e:=[fz (.str s),fz (.str s),.un,.un]) rfl (xR (zZ (vAnd (p:=true) (q:=true) rfl fun _=>vQ (h1:=.d (.bl true)) (qB (h1:=.d (.str s)) (h2:=.d (.str s)) rfl rfl rfl rfl rfl (jVv s) rfl) rfl) rfl) rfl)) rfl
 |.int i,0,_,hh=>by simp[hA]at hh
 | .int i,h + 1,_,_=>by
   refine vE (qD (q:=false) (e:=[fz (.int i),fz (.int i),.un,.un]) rfl (qO (qD (q:=true) (e:=[fz (.int i),fz (.int i),.un,.un]) rfl (xR (zZ (vAnd (p:=true) (q:=true) rfl fun _=>vAnd (p:=true) (q:=true) rfl fun _=>vQ (h1:=.d (.bl true)) (qB (h1:=.d (.int i)) (h2:=.d (.int i)) rfl rfl rfl rfl rfl (zVm i) rfl) rfl) rfl) rfl)))) rfl
 |.nd .tup ds,0,_,hh=>by simp[hA]at hh
 | .nd .tup ds,h + 1,ho,hh=>by
   obtain⟨a',b',lp⟩:=alike_loop (x:=fz (.tup ds)) (y:=fz (.tup ds)) ds .un .un (alike_selfs ds h (by simpa[okA] using ho) (by simp[hA]at hh;omega));have t:asB (o2 neF (oL lenD [(oN 0)]) (oL lenD [(oN 1)])) [fz (.tup ds),fz (.tup ds),.un,.un]=.ok (false,[fz (.tup ds),fz (.tup ds),.un,.un]):=by
    show Res.ok (!((ds.length:Int) == (ds.length:Int)),_)=_;rw[beq_self_eq_true];rfl
   exact vE (qD (q:=false) (e:=[fz (.tup ds),fz (.tup ds),.un,.un]) rfl (qO (qD (q:=false) (e:=[fz (.tup ds),fz (.tup ds),.un,.un]) rfl (qO (qD (q:=false) (e:=[fz (.tup ds),fz (.tup ds),.un,.un]) rfl (qO (qD t (qO (jD (qQl (ds:=zipD ds ds) (e:=[fz (.tup ds),fz (.tup ds),.un,.un]) rfl lp) rfl))))))))) rfl
 |.nd .lst ds,0,_,hh=>by simp[hA]at hh
 | .nd .lst ds,h + 1,ho,hh=>by
   obtain⟨a',b',lp⟩:=alike_loop (x:=fz (.nd .lst ds)) (y:=fz (.nd .lst ds)) ds .un .un (alike_selfs ds h (by simpa[okA] using ho) (by simp[hA]at hh;omega));have t:asB (o2 neF (oL lenD [(oN 0)]) (oL lenD [(oN 1)])) [fz (.nd .lst ds),fz (.nd .lst ds),.un,.un]=.ok (false,[fz (.nd .lst ds),fz (.nd .lst ds),.un,.un]):=by
    show Res.ok (!((ds.length:Int) == (ds.length:Int)),_)=_;rw[beq_self_eq_true];rfl
   exact vE (qD (q:=false) (e:=[fz (.nd .lst ds),fz (.nd .lst ds),.un,.un]) rfl (qO (qD (q:=false) (e:=[fz (.nd .lst ds),fz (.nd .lst ds),.un,.un]) rfl (qO (qD (q:=false) (e:=[fz (.nd .lst ds),fz (.nd .lst ds),.un,.un]) rfl (qO (qD t (qO (jD (qQl (ds:=zipD ds ds) (e:=[fz (.nd .lst ds),fz (.nd .lst ds),.un,.un]) rfl lp) rfl))))))))) rfl
 |.non,_,ho,_=>by cases ho
 |.bl _,_,ho,_=>by cases ho
 |.fn _,_,ho,_=>by cases ho
 |.nd (.dct _) _,_,ho,_=>by cases ho
 |.nd (.dcT _) _,_,ho,_=>by cases ho
 |.nd (.obj _ _) _,_,ho,_=>by cases ho
 |.nd (.exc _ _) _,_,ho,_=>by cases ho
theorem alike_selfs:∀(ds:List D) (h:Nat),okAs ds=true->hAs ds<=h->∀d∈ds,zQ h [fz d,fz d]=.ok (.fz (.bl true),[.un,.un])
 |[],_,_,_,d,hd=>by cases hd
 | x::ds,h,ho,hh,d,hd=>by
   rw[okAs,aE]at ho;rw[hAs]at hh;rcases aH.mp hd with z|z
   ·rw[z];exact vVk x h ho.1 (by omega)
   ·exact alike_selfs ds h ho.2 (by omega) d z
end
section
variable{F:Fn}{as:List Am}{hd:Nat->Bool}{i:Nat}{su:SS}{env:Ev}{r:List Hn×Ev}
theorem jZ6{C:Nat}{fs:List (Str×D)}{o:O}(h0:evOs (as.map Am.o) env=.ok r)(h1:qZq F as r.1 r.2=.er C fs)(h2:(hd C && decide (i<env.length))=true)(h3:su ((r.2.map vQb).set i (.s false (.fz (.nd (.exc C (fs.map (·.1))) (fs.map (·.2))))))=.ok (.rt o e)):sTry F as hd i su env=.ok (.rt o e):=by
 unfold sTry;rw[h0];simp only[h1,h2,h3,cond]
end
theorem vY3{T:Str}{i:Int}(h:wN [sS T]=er i):jU [sS T,sN i]=.ok (.fz (.bl true),[.un,.un]):=by
 unfold jU;have su:yC [sS T,sN i,.s false (.fz (.nd (.exc 23 ["row"]) [.int i]))]=.ok (.rt (.fz (.bl true)) [sS T,sN i,.s false (.fz (.nd (.exc 23 ["row"]) [.int i]))]):=by
  have e:oV (oAnd (o1 (isiD "int") (o1 (xfD [23] "row") (oN 2))) (oAnd (oNot (o1 (isiD "bool") (o1 (xfD [23] "row") (oN 2)))) (o2 eqF (o1 (xfD [23] "row") (oN 2)) (oN 1)))) [sS T,sN i,.s false (.fz (.nd (.exc 23 ["row"]) [.int i]))]=.ok (.bl (true && (true && true)),[sS T,sN i,.s false (.fz (.nd (.exc 23 ["row"]) [.int i]))]):=
   vAnd (p:=true) (q:=true && true) rfl fun _=>vAnd (p:=true) (q:=true) rfl fun _=>vQ (h1:=.d (.bl true)) (qB (h1:=.d (.int i)) (h2:=.d (.int i)) rfl rfl rfl rfl rfl (zVm i) rfl) rfl
  unfold yC;exact qD (q:=false) (e:=[sS T,sN i,.s false (.fz (.nd (.exc 23 ["row"]) [.int i]))]) rfl (qO (qD (q:=false) (e:=[sS T,sN i,.s false (.fz (.nd (.exc 23 ["row"]) [.int i]))]) rfl (qO (qD (q:=false) (e:=[sS T,sN i,.s false (.fz (.nd (.exc 23 ["row"]) [.int i]))]) rfl (qO (wE (zZ e rfl) rfl))))))
 refine vE (vQe (jZ6 (C:=23) (fs:=[("row",.int i)]) (o:=.fz (.bl true)) (e:=[sS T,sN i,.s false (.fz (.nd (.exc 23 ["row"]) [.int i]))]) (r:=([.d (.str T)],[sS T,sN i,.un])) rfl ?_ rfl su) rfl) rfl;show(wN [sS T]).bind _=_;rw[h];rfl
noncomputable def okC(l:List Nat):Bool:=l.all fun c=>decide (c<128) &&!decide (c=10)
theorem bits:∀k:Nat,k<=13->Builtin.Int.intBits (k:Int)<=64:=by decide +kernel
theorem okAs_of:∀{ds:List D} {k:Nat},(∀d∈ds,okA d=true/\hA d<=k)->okAs ds=true/\hAs ds<=k
 |[],k,_=>⟨by rw[okAs],by rw[hAs];omega⟩
 | d::ds,k,h=>by
   obtain⟨h1,h2⟩:=h d (by simp);obtain⟨h3,h4⟩:=okAs_of fun d hd=>h d (aK _ hd)
   rw[okAs,hAs,h1,h3];exact⟨rfl,by omega⟩
abbrev ask0:D:=.tup [.str "ask",tg "num" [.int 0]]
noncomputable def zT(two:Bool):List Nat:=cond two (10::cd "ask 0") []
noncomputable def zD(two:Bool):List D:=cond two [ask0] []
noncomputable def Mde(F:Fn)(n:Nat)(a:Int)(f:Nat):Prop:=∃(ts:List Th) (A B:List Nat) (d:D) (g two:Bool),F [sN n,sN a,sN f]=.ok (.fz (.tup [.str (S (A ++ (xJ f ts ++ (B ++ zT two)))),.bl g,.nd .lst (d::zD two)]),[.un,.un,.un])/\qWi A B d f ts g/\(∀t∈ts,Tx t)/\ts.length<=7/\(okC A && okC B)=true/\A.length+B.length<=50/\decide (qY9 d="ask")= !two/\okA d=true/\hA d<=6
theorem nat_mod(x:Int){p:Nat}(hp:0<p):∃m:Nat,x % (p:Int)=(m:Int)/\m<p:=by
 have e1:=Int.emod_nonneg x (show(p:Int)≠0 by omega);have e2:=Int.emod_lt_of_pos x (show(0:Int)<p by omega);exact⟨(x % (p:Int)).toNat,by omega,by omega⟩
section
variable{a:Int}{k:Nat}(hk:k<=7)
include hk
theorem el1:∃v,oV (oMod (oAdd (oMul (oN 1) (oC (.int 31))) (oMul (oC (.int 37)) (oN 0))) (oPow (oC (.int 10)) (oC (.int 12)))) [sN (k:Nat),sN a]=.ok (v,[sN (k:Nat),sN a])/\∃m:Nat,v=.int m/\m<10 ^ 12:=by
 obtain⟨m,e,h⟩:=nat_mod (a * 31+37 * k) (p:=10 ^ 12) (by decide);refine⟨.int m,?_,m,rfl,h⟩;rw[←e];exact vQ (h1:=.d (.int ((a * 31+37 * k) % 10 ^ 12))) (qB (h1:=.d (.int (a * 31+37 * k))) (h2:=.d (.int (10 ^ 12))) (qB (h1:=.d (.int (a * 31))) (h2:=.d (.int (37 * k))) (qB (h1:=.d (.int a)) (h2:=.d (.int 31)) rfl rfl rfl rfl rfl (ml (.of_right (by decide +kernel))) rfl) (qB (h1:=.d (.int 37)) (h2:=.d (.int k)) rfl rfl rfl rfl rfl (ml (.of_right (bits k (by omega)))) rfl) rfl rfl rfl rfl rfl) rfl rfl rfl rfl (md (by decide)) rfl) rfl
theorem el2:∃v,oV (oAdd (oC (.int 1)) (oMod (oAdd (oN 1) (oMul (oC (.int 104729)) (oN 0))) (oPow (oC (.int 10)) (oC (.int 6))))) [sN (k:Nat),sN a]=.ok (v,[sN (k:Nat),sN a])/\∃m:Nat,v=.int m/\1<=m/\m<=10 ^ 6:=by
 obtain⟨m,e,h⟩:=nat_mod (a+104729 * k) (p:=10 ^ 6) (by decide);refine⟨.int (1+m:Nat),?_,1+m,rfl,by omega,by omega⟩;rw[Int.natCast_add,←e];exact vQ (h1:=.d (.int (1+(a+104729 * k) % 10 ^ 6))) (qB (h1:=.d (.int 1)) (h2:=.d (.int ((a+104729 * k) % 10 ^ 6))) rfl (qB (h1:=.d (.int (a+104729 * k))) (h2:=.d (.int (10 ^ 6))) (qB (h1:=.d (.int a)) (h2:=.d (.int (104729 * k))) rfl (qB (h1:=.d (.int 104729)) (h2:=.d (.int k)) rfl rfl rfl rfl rfl (ml (.of_right (bits k (by omega)))) rfl) rfl rfl rfl rfl rfl) rfl rfl rfl rfl (md (by decide)) rfl) rfl rfl rfl rfl rfl) rfl
theorem el3:∃v,oV (oMod (oAdd (oN 1) (oMul (oC (.int 7919)) (oN 0))) (oPow (oC (.int 10)) (oC (.int 12)))) [sN (k:Nat),sN a]=.ok (v,[sN (k:Nat),sN a])/\∃m:Nat,v=.int m/\m<10 ^ 12:=by
 obtain⟨m,e,h⟩:=nat_mod (a+7919 * k) (p:=10 ^ 12) (by decide);refine⟨.int m,?_,m,rfl,h⟩;rw[←e];exact vQ (h1:=.d (.int ((a+7919 * k) % 10 ^ 12))) (qB (h1:=.d (.int (a+7919 * k))) (h2:=.d (.int (10 ^ 12))) (qB (h1:=.d (.int a)) (h2:=.d (.int (7919 * k))) rfl (qB (h1:=.d (.int 7919)) (h2:=.d (.int k)) rfl rfl rfl rfl rfl (ml (.of_right (bits k (by omega)))) rfl) rfl rfl rfl rfl rfl) rfl rfl rfl rfl (md (by decide)) rfl) rfl
end
abbrev nD(m:Nat):D:=.int (m:Int)
theorem zZ8:∀(xs ys:List Nat),zipD (xs.map nD) (ys.map nD)=(xs.zip ys).map fun q=>D.tup [nD q.1,nD q.2]
 |[],_=>rfl
 |_::_,[]=>rfl
 |x::xs,y::ys=>by show D.tup [nD x,nD y]::zipD (xs.map nD) (ys.map nD)=_;rw[zZ8 xs ys];rfl
theorem vKt(h:m<10 ^ 12)(he:evO (oN i) env=.ok (.d (nD m),env)):evO (oL strD [(oN i)]) env=.ok (.d (.str (S (dg m))),env):=
 qKa (hs:=[.d (nD m)]) (xs:=[nD m]) (xV he rfl rfl rfl) rfl (zKg h) rfl
abbrev sG2:SG:=gT 2 (gCn (gN 0) (gCn (gN 1) gNl))
theorem zWs(ms:List Nat):ms.map nD=(ms.map fun(m:Nat)=>(Sum.inl (m:Int):L2.Key)).map kd:=by rw[bZ];rfl
theorem jQw{n:Nat}(a:Int)(hn:n<=7)(hf:f<=4)(h2:2<f->2<=n):Mde xM n a f:=by
 obtain⟨vs,c1,l1,q1⟩:=comp_n (n:=n) (a:=a) (r:=[sN f,.un,.un,.un,.un,.un]) (by omega) fun k hk=>el1 (a:=a) (k:=k) (by omega)
 obtain⟨d3,c3,l3,q3⟩:=zJa c1;obtain⟨xs,rfl,hx⟩:=typed d3 fun d hd=>q1 d (q3 d hd)
 obtain⟨d4,c4,l4,q4⟩:=comp_n (n:=n) (a:=a) (r:=[sN f,fl (xs.map nD),.un,.un,.un,.un]) (by omega) fun k hk=>el2 (a:=a) (k:=k) (by omega)
 obtain⟨ys,rfl,hy⟩:=typed d4 q4;rw[aP]at l3 l4;have lz:(xs.zip ys).length =n:=by rw[List.length_zip];omega
 have hq:∀q∈xs.zip ys,q.1<10 ^ 12/\1<=q.2/\q.2<=10 ^ 6:=fun q hq=>⟨hx _ (List.of_mem_zip hq).1,hy _ (List.of_mem_zip hq).2⟩
 generalize ht:(xs.zip ys).map (fun q=>vVz q.1 q.2)=ts;have tl:ts.length=n:=by rw[←ht,aP,lz]
 have tx:∀t∈ts,Tx t:=fun t h=>by
  rw[←ht]at h;obtain⟨q,hq1,rfl⟩:=cQ.mp h;exact zKc (hq q hq1).1 (hq q hq1).2.2
 have to:∀t∈ts,OkT pOut ")" t:=fun t h=>by
  rw[←ht]at h;obtain⟨q,hq1,rfl⟩:=cQ.mp h;exact jQp (hq q hq1).1 (hq q hq1).2.1 (hq q hq1).2.2
 have hk:(ts.map Th.d).map fst1=(xs.map fun(m:Nat)=>(Sum.inl (m:Int):L2.Key)).map kd:=by
  rw[←zWs,←ht,bZ,bZ];conv=>rhs;rw[←List.map_fst_zip (l₁:=xs) (l₂:=ys) (by omega),bZ]
  rfl
 have it:iL zpA [(oV (oN 3)),(oV (oN 4))] [sN n,sN a,sN f,fl (xs.map nD),fl (ys.map nD),.un,.un,.un]=.ok ((xs.zip ys).map fun q=>D.tup [nD q.1,nD q.2],[sN n,sN a,sN f,fz (.nd .lst (xs.map nD)),fz (.nd .lst (ys.map nD)),.un,.un,.un]):=
  qXh (xs:=[.nd .lst (xs.map nD),.nd .lst (ys.map nD)]) (qN (vQa (ds:=xs.map nD) rfl rfl rfl) (qN (vQa (ds:=ys.map nD) rfl rfl rfl) rfl rfl) rfl) (show some (zipD (xs.map nD) (ys.map nD))=_ by rw[zZ8]) rfl
 have c5:compS 2 [] [0,1] (iL zpA [(oV (oN 3)),(oV (oN 4))]) sG2 bTrue (oV (o2 addS (o2 addS (oL strD [(oN 0)]) (oC (.str ":"))) (oL strD [(oN 1)]))) [sN n,sN a,sN f,fl (xs.map nD),fl (ys.map nD),.un,.un,.un]=.ok (.ow .lst ((tsD ts).map .fz),[sN n,sN a,sN f,fz (.nd .lst (xs.map nD)),fz (.nd .lst (ys.map nD)),.un,.un,.un]):=by
  rw[show tsD ts=(xs.zip ys).map (fun q=>D.str (S (vVz q.1 q.2).txt)) by rw[←ht,tsD,bZ];rfl];refine qYi it (by omega) fun q hq1 e he=>?_
  match e,he with
  |[y0,y1],_=>
  have l1:=vQl (hq q hq1).1;have l2:=vK9 (hq q hq1).2.2;refine⟨[sN q.1,sN q.2],rfl,vQ (h1:=.d (.str (S (vVz q.1 q.2).txt))) (qB (h1:=.d (.str (S (dg q.1 ++ [58])))) (h2:=.d (.str (S (dg q.2)))) (qB (h1:=.d (.str (S (dg q.1)))) (h2:=.d (.str (S [58]))) (vKt (hq q hq1).1 rfl) rfl rfl rfl rfl ?_ rfl) (vKt (dA (hq q hq1).2.2 (by decide)) rfl) rfl rfl rfl ?_ rfl) rfl,rfl⟩
  ·rw[qZs (by rw[zJ,zJ];show _+1<=_;omega),qQ0]
  ·rw[qZs (by rw[zJ,zJ,aW];show _+1+_<=_;omega),qQ0,bX];rfl
 have c6:=vZ3 (v:=oV (oN 5)) (env:=[sN n,sN a,sN f,fz (.nd .lst (xs.map nD)),fz (.nd .lst (ys.map nD)),fl (tsD ts),.un,.un]) (A:=cd "ask pick(") (B:=cd ")") (x:="ask pick(") (y:=")") (by kernel_rfl) (by kernel_rfl) tx (by omega) hf (by decide) (vQa rfl rfl rfl) rfl;generalize hT:S (cd "ask pick(" ++ (xJ f ts ++ cd ")"))=T at c6;have c7:compS 2 [] [0,1] (iL zpA [(oV (oN 3)),(oV (oN 4))]) sG2 bTrue (qS [(oV (oN 0)),(oV (oN 1))]) [sN n,sN a,sN f,fz (.nd .lst (xs.map nD)),fz (.nd .lst (ys.map nD)),fz (.nd .lst (tsD ts)),sS T,.un]=.ok (.ow .lst ((ts.map Th.d).map .fz),[sN n,sN a,sN f,fz (.nd .lst (xs.map nD)),fz (.nd .lst (ys.map nD)),fz (.nd .lst (tsD ts)),sS T,.un]):=by
  rw[show ts.map Th.d=(xs.zip ys).map (fun q=>(vVz q.1 q.2).d) by rw[←ht,bZ];rfl];refine qYi (dn:=fun q:Nat×Nat=>D.tup [nD q.1,nD q.2]) (qXh (xs:=[.nd .lst (xs.map nD),.nd .lst (ys.map nD)]) rfl (show some (zipD (xs.map nD) (ys.map nD))=_ by rw[zZ8]) rfl) (by omega) fun q hq1 e he=>?_
  match e,he with
  |[y0,y1],_=>exact⟨[sN q.1,sN q.2],rfl,rfl,rfl⟩
 have kl' :(xs.map fun(m:Nat)=>(Sum.inl (m:Int):L2.Key)).length <=50:=by rw[aP];omega
 generalize hK:(xs.map fun(m:Nat)=>(Sum.inl (m:Int):L2.Key))=ks at hk kl';have hg:okG ts ks=((decide (1<=(n:Int)) && decide ((n:Int)<=6)) &&!dup ks):=by rw[okG,tl]
 refine⟨ts,cd "ask pick(",cd ")",.tup [.str "ask",tg "pick" [.tup (ts.map Th.d)]],okG ts ks,false,?_,zXo tx hf (by omega) (by rw[tl];exact h2) to hk,tx,by omega,by decide +kernel,by decide,by kernel_rfl,?_⟩
 ·show xM _= .ok (.fz (.tup [.str (S (cd "ask pick(" ++ (xJ f ts ++ (cd ")" ++ [])))), .bl (okG ts ks), .nd .lst [.tup [.str "ask",tg "pick" [.tup (ts.map Th.d)]]]]),_);rw[bM,hT,hg];unfold xM;refine vE (qC c3 (qC c4 (qC c5 (qC c6 (qC c7 (wE (o:=.fz (.tup [.str T,.bl ((decide (1<=(n:Int)) && decide ((n:Int)<=6)) &&!dup ks),.nd .lst [.tup [.str "ask",tg "pick" [.tup (ts.map Th.d)]]]])) (e:=[sN n,sN a,sN f,fz (.nd .lst (xs.map nD)),fz (.nd .lst (ys.map nD)),fz (.nd .lst (tsD ts)),sS T,fl (ts.map Th.d)]) ?_ rfl)))))) rfl;refine zZ (xD (qN (d:=.str T) rfl (qN (vAnd (qZr ch_o) fun _=>zZ9 kl' (by rw[←hK,←zWs];rfl)) (qN (qXz (ds:=[.tup [.str "ask",tg "pick" [.tup (ts.map Th.d)]]]) (qN (xD (qN (d:=.str "ask") rfl (qN (xD (qN (d:=.str "pick") rfl (qN (tup7 (ds:=ts.map Th.d) rfl rfl rfl) rfl rfl) rfl) rfl rfl) rfl rfl) rfl) rfl rfl) rfl rfl) rfl rfl) rfl rfl) rfl) rfl) rfl rfl) rfl
 ·obtain⟨o1,o2⟩:=okAs_of (ds:=ts.map Th.d) (k:=3) fun d hd=>by
   rw[←ht,bZ]at hd;obtain⟨q,_,rfl⟩:=cQ.mp hd;exact⟨by kernel_rfl,cK (by kernel_rfl)⟩
  constructor
  ·show okAs [.str "ask",tg "pick" [.tup (ts.map Th.d)]]=true;simp[okAs,okA,o1]
  ·show hAs [.str "ask",tg "pick" [.tup (ts.map Th.d)]] + 1<=6;simp only[hAs,hA];omega
theorem zQu{n:Nat}(a:Int)(hn:n<=7)(r:Ev):∃Ls:List (List Nat),qXj v8 (qY wY [(.v (oV (oN 1))),(.v (oV (oN 0)))]) (pOf (oN 1)) (sN n::sN a::r)=.ok (.ow .lst ((nmD Ls).map .fz),sN n::sN a::r)/\Ls.length=n/\∀L∈Ls,Nm L:=by
 obtain⟨L0,h1,h2,h3⟩:=zX8 a hn;have c1:qY wY [(.v (oV (oN 1))),(.v (oV (oN 0)))] (sN n::sN a::r)=.ok (.ow .lst ((nmD L0).map .fz),sN n::sN a::r):=qXi (vs:=[oV (oN 1),oV (oN 0)]) (zs:=[.int a,.int n]) rfl rfl h1;obtain⟨d3,c3,l3,q3⟩:=zJa c1;obtain⟨Ls,rfl,hx⟩:=typed (f:=fun L=>D.str (S L)) (P:=Nm) d3 fun d hd=>by
  obtain⟨L,hL,rfl⟩:=cQ.mp (q3 d hd);exact⟨L,rfl,h3 L hL⟩
 exact⟨Ls,c3,by rw[aP,aP]at l3;omega,hx⟩
theorem vJb(Ls:List (List Nat)):nmD Ls=(Ls.map fun L=>(Sum.inr (S L):L2.Key)).map kd:=by rw[bZ];rfl
noncomputable def ixs:Nat->List (List Nat)->List (List Nat×Nat)
 |_,[]=> []
 |i,L::Ls=>(L,i)::ixs (i+1) Ls
theorem qKx:∀(i:Nat) (Ls:List (List Nat)),(ixs i Ls).length =Ls.length
 |_,[]=>rfl
 |i,L::Ls=>by rw[ixs,aY,qKx (i+1) Ls,aY]
theorem zQ2:∀{i:Nat} {Ls:List (List Nat)} {q:List Nat×Nat},q∈ixs i Ls->q.1∈Ls/\q.2<i+Ls.length
 |_,[],q,h=>by cases h
 | i,L::Ls,q,h=>by
   rcases aH.mp h with e|e
   ·rw[e,aY];exact⟨aA ..,by show i<_;omega⟩
   ·obtain⟨a,b⟩:=zQ2 e;rw[aY];exact⟨aK _ a,by omega⟩
theorem vQz:∀(i:Nat) (Ls:List (List Nat)),yQ i (nmD Ls)=(ixs i Ls).map fun q=>D.tup [nD q.2,.str (S q.1)]
 |_,[]=>rfl
 |i,L::Ls=>by show D.tup [.int (i:Int),.str (S L)]::yQ (i+1) (nmD Ls)=_;rw[vQz (i+1) Ls];rfl
theorem zQ3:∀(i:Nat) (Ls:List (List Nat)),(ixs i Ls).map (fun q=>D.str (S q.1))=nmD Ls
 |_,[]=>rfl
 |i,L::Ls=>by rw[ixs,bJ,zQ3 (i+1) Ls];rfl
theorem jWm{n:Nat}(a:Int)(hn:n<=7)(hf:f<=4)(h2:2<f->2<=n):Mde wD n a f:=by
 obtain⟨Ls,c3,l3,hL⟩:=zQu a hn [sN f,.un,.un,.un,.un];have hq:∀q∈ixs 0 Ls,Nm q.1/\q.2<=10 ^ 6:=fun q hq=>by
  obtain⟨a,b⟩:=zQ2 hq;exact⟨hL _ a,by omega⟩
 generalize ht:(ixs 0 Ls).map (fun q=>tFld q.1 q.2)=ts;have tl:ts.length=n:=by rw[←ht,aP,qKx,l3]
 have tx:∀t∈ts,Tx t:=fun t h=>by
  rw[←ht]at h;obtain⟨q,hq1,rfl⟩:=cQ.mp h;exact jZ4 (hq q hq1).1 (hq q hq1).2
 have to:∀t∈ts,OkT (qVw (jB 11)) "}" t:=fun t h=>by
  rw[←ht]at h;obtain⟨q,hq1,rfl⟩:=cQ.mp h;exact jWg (hq q hq1).1 (dA (hq q hq1).2 (by decide))
 have hk:(ts.map Th.d).map fst1=(Ls.map fun L=>(Sum.inr (S L):L2.Key)).map kd:=by
  rw[←vJb,←zQ3 0,←ht,bZ,bZ];rfl
 have hs:ts.map Th.d=((ixs 0 Ls).map fun q=>(S q.1,(q.2:Int))).map fun q=>.tup [.str q.1,tg "num" [.int q.2]]:=by rw[←ht,bZ,bZ];rfl
 have c4:compS 2 [] [0,1] (iL enL [(oV (oN 3))]) sG2 bTrue (oV (o2 addS (o2 addS (oN 1) (oC (.str ": "))) (oL strD [(oN 0)]))) [sN n,sN a,sN f,fl (nmD Ls),.un,.un,.un]=.ok (.ow .lst ((tsD ts).map .fz),[sN n,sN a,sN f,fz (.nd .lst (nmD Ls)),.un,.un,.un]):=by
  rw[show tsD ts=(ixs 0 Ls).map (fun q=>D.str (S (tFld q.1 q.2).txt)) by rw[←ht,tsD,bZ];rfl];refine qYi (dn:=fun q:List Nat×Nat=>D.tup [nD q.2,.str (S q.1)]) (qXh (xs:=[.nd .lst (nmD Ls)]) (qN (vQa (ds:=nmD Ls) rfl rfl rfl) rfl rfl) (show some (yQ 0 (nmD Ls))=_ by rw[vQz]) rfl) (by rw[qKx];omega) fun q hq1 e he=>?_
  match e,he with
  |[y0,y1],_=>
  have l1:=(hq q hq1).1.h2;have l2:=vK9 (hq q hq1).2;refine⟨[sN q.2,sS (S q.1)],rfl,vQ (h1:=.d (.str (S (tFld q.1 q.2).txt))) (qB (h1:=.d (.str (S (q.1 ++ [58,32])))) (h2:=.d (.str (S (dg q.2)))) (qB (h1:=.d (.str (S q.1))) (h2:=.d (.str (S [58,32]))) rfl rfl rfl rfl rfl ?_ rfl) (vKt (dA (hq q hq1).2 (by decide)) rfl) rfl rfl rfl ?_ rfl) rfl,rfl⟩
  ·rw[qZs (by rw[zJ,zJ];show _+2<=_;omega),qQ0]
  ·rw[qZs (by rw[zJ,zJ,aW];show _+2+_<=_;omega),qQ0,bX];rfl
 have c5:compS 2 [] [0,1] (iL enL [(oV (oN 3))]) sG2 bTrue (qS [(oV (oN 1)),(qS [(oV (oC (.str "num"))),(oV (oN 0))])]) [sN n,sN a,sN f,fz (.nd .lst (nmD Ls)),fl (tsD ts),.un,.un]=.ok (.ow .lst ((ts.map Th.d).map .fz),[sN n,sN a,sN f,fz (.nd .lst (nmD Ls)),fl (tsD ts),.un,.un]):=by
  rw[show ts.map Th.d=(ixs 0 Ls).map (fun q=>(tFld q.1 q.2).d) by rw[←ht,bZ];rfl];refine qYi (dn:=fun q:List Nat×Nat=>D.tup [nD q.2,.str (S q.1)]) (qXh (xs:=[.nd .lst (nmD Ls)]) rfl (show some (yQ 0 (nmD Ls))=_ by rw[vQz]) rfl) (by rw[qKx];omega) fun q hq1 e he=>?_
  match e,he with
  |[y0,y1],_=>exact⟨[sN q.2,sS (S q.1)],rfl,rfl,rfl⟩
 have c6:=vZ3 (v:=oV (oN 4)) (env:=[sN n,sN a,sN f,fz (.nd .lst (nmD Ls)),fl (tsD ts),fl (ts.map Th.d),.un]) (A:=cd "ask {") (B:=cd "}") (x:="ask {") (y:="}") (by kernel_rfl) (by kernel_rfl) tx (by omega) hf (by decide) (vQa rfl rfl rfl) rfl;generalize hT:S (cd "ask {" ++ (xJ f ts ++ cd "}"))=T at c6;have kl' :(Ls.map fun L=>(Sum.inr (S L):L2.Key)).length <=50:=by rw[aP];omega
 generalize hK:(Ls.map fun L=>(Sum.inr (S L):L2.Key))=ks at hk kl';have hg:okG ts ks=((decide (1<=(n:Int)) && decide ((n:Int)<=6)) &&!dup ks):=by rw[okG,tl]
 refine⟨ts,cd "ask {",cd "}",.tup [.str "ask",tg "record" [.tup (ts.map Th.d)]],okG ts ks,false,?_,zKr tx hf (by omega) (by rw[tl];exact h2) to hk hs,tx,by omega,by decide +kernel,by decide,by kernel_rfl,?_⟩
 ·show wD _= .ok (.fz (.tup [.str (S (cd "ask {" ++ (xJ f ts ++ (cd "}" ++ [])))), .bl (okG ts ks), .nd .lst [.tup [.str "ask",tg "record" [.tup (ts.map Th.d)]]]]),_);rw[bM,hT,hg];unfold wD;refine vE (qC c3 (qC c4 (qC c5 (qC c6 (wE (o:=.fz (.tup [.str T,.bl ((decide (1<=(n:Int)) && decide ((n:Int)<=6)) &&!dup ks),.nd .lst [.tup [.str "ask",tg "record" [.tup (ts.map Th.d)]]]])) (e:=[sN n,sN a,sN f,fz (.nd .lst (nmD Ls)),fz (.nd .lst (tsD ts)),fl (ts.map Th.d),sS T]) ?_ rfl))))) rfl;refine zZ (xD (qN (d:=.str T) rfl (qN (vAnd (qZr ch_o) fun _=>zZ9 kl' (by rw[←hK,←vJb];rfl)) (qN (qXz (ds:=[.tup [.str "ask",tg "record" [.tup (ts.map Th.d)]]]) (qN (xD (qN (d:=.str "ask") rfl (qN (xD (qN (d:=.str "record") rfl (qN (tup7 (ds:=ts.map Th.d) rfl rfl rfl) rfl rfl) rfl) rfl rfl) rfl rfl) rfl) rfl rfl) rfl rfl) rfl rfl) rfl rfl) rfl) rfl) rfl rfl) rfl
 ·obtain⟨o1,o2⟩:=okAs_of (ds:=ts.map Th.d) (k:=3) fun d hd=>by
   rw[←ht,bZ]at hd;obtain⟨q,_,rfl⟩:=cQ.mp hd;exact⟨by kernel_rfl,cK (by kernel_rfl)⟩
  constructor
  ·show okAs [.str "ask",tg "record" [.tup (ts.map Th.d)]]=true;simp[okAs,okA,o1]
  ·show hAs [.str "ask",tg "record" [.tup (ts.map Th.d)]] + 1<=6;simp only[hAs,hA];omega
theorem jQx{n:Nat}(a:Int)(hn:n<=7)(hf:f<=4)(h2:2<f->2<=n):Mde xN n a f:=by
 obtain⟨vs,c1,l1,q1⟩:=comp_n (n:=n) (a:=a) (r:=[sN f,.un,.un]) (by omega) fun k hk=>el3 (a:=a) (k:=k) (by omega)
 obtain⟨d3,c3,l3,q3⟩:=zJa c1;obtain⟨xs,rfl,hx⟩:=typed d3 fun d hd=>q1 d (q3 d hd)
 rw[aP]at l3;generalize ht:xs.map tNum=ts;have tl:ts.length=n:=by rw[←ht,aP];omega
 have tx:∀t∈ts,Tx t:=fun t h=>by
  rw[←ht]at h;obtain⟨q,hq1,rfl⟩:=cQ.mp h;exact jZ2 (hx q hq1)
 have to:∀t∈ts,OkT (jB 11) ")" t:=fun t h=>by
  rw[←ht]at h;obtain⟨q,hq1,rfl⟩:=cQ.mp h;exact jWe (hx q hq1)
 have hs:ts.map Th.d=(xs.map fun(m:Nat)=>(m:Int)).map fun i=>tg "num" [.int i]:=by rw[←ht,bZ,bZ];rfl
 have c4:fzS (compS 1 [] [0] (iV (oV (oN 3))) (gN 0) bTrue (oV (oL strD [(oN 0)]))) [sN n,sN a,sN f,fl (xs.map nD),.un]=.ok (.nd .lst (tsD ts),[sN n,sN a,sN f,fz (.nd .lst (xs.map nD)),.un]):=by
  rw[show tsD ts=xs.map (fun m=>D.str (S (tNum m).txt)) by rw[←ht,tsD,bZ];rfl];refine zP (qYi (dn:=nD) (vn:=fun m=>D.str (S (tNum m).txt)) (e:=[sN n,sN a,sN f,fz (.nd .lst (xs.map nD)),.un]) (vK3 (vQa (ds:=xs.map nD) rfl rfl rfl) rfl rfl) (by omega) fun q hq1 e he=>?_) (by rw[xU]);match e,he with
  |[y0],_=>exact⟨[sN q],rfl,vQ (vKt (hx q hq1) rfl) rfl,rfl⟩
 have c5:fzS (compS 1 [] [0] (iV (oV (oN 3))) (gN 0) bTrue (qS [(oV (oC (.str "num"))),(oV (oN 0))])) [sN n,sN a,sN f,fz (.nd .lst (xs.map nD)),sS (S (cd "ask f(" ++ (xJ f ts ++ cd ")")))]=.ok (.nd .lst (ts.map Th.d),[sN n,sN a,sN f,fz (.nd .lst (xs.map nD)),sS (S (cd "ask f(" ++ (xJ f ts ++ cd ")")))]):=by
  rw[show ts.map Th.d=xs.map (fun m=>(tNum m).d) by rw[←ht,bZ];rfl];refine zP (qYi (dn:=nD) (vn:=fun m=>(tNum m).d) (e:=[sN n,sN a,sN f,fz (.nd .lst (xs.map nD)),sS (S (cd "ask f(" ++ (xJ f ts ++ cd ")")))]) (vK3 (d:=.nd .lst (xs.map nD)) rfl rfl rfl) (by omega) fun q hq1 e he=>?_) (by rw[xU]);match e,he with
  |[y0],_=>exact⟨[sN q],rfl,rfl,rfl⟩
 have c6:=vZ3 (env:=[sN n,sN a,sN f,fl (xs.map nD),.un]) (A:=cd "ask f(") (B:=cd ")") (x:="ask f(") (y:=")") (by kernel_rfl) (by kernel_rfl) tx (by omega) hf (by decide) c4 rfl;generalize hT:S (cd "ask f(" ++ (xJ f ts ++ cd ")"))=T at c5 c6;refine⟨ts,cd "ask f(",cd ")",.tup [.str "ask",tg "call" [.str "f",.tup (ts.map Th.d)]],decide ((ts.length:Int)<=3),false,?_,zXp tx hf (by omega) (by rw[tl];exact h2) to hs,tx,by omega,by decide +kernel,by decide,by kernel_rfl,?_⟩
 ·show xN _= .ok (.fz (.tup [.str (S (cd "ask f(" ++ (xJ f ts ++ (cd ")" ++ [])))), .bl (decide ((ts.length:Int)<=3)), .nd .lst [.tup [.str "ask",tg "call" [.str "f", .tup (ts.map Th.d)]]]]),_);rw[bM,hT,tl];unfold xN;refine vE (qC c3 (qC c6 (wE (o:=.fz (.tup [.str T,.bl (decide ((n:Int)<=3)),.nd .lst [.tup [.str "ask",tg "call" [.str "f",.tup (ts.map Th.d)]]]])) (e:=[sN n,sN a,sN f,fz (.nd .lst (xs.map nD)),sS T]) ?_ rfl))) rfl;refine zZ (xD (qN (d:=.str T) rfl (qN (le_o (n:=n) rfl rfl) (qN (qXz (ds:=[.tup [.str "ask",tg "call" [.str "f",.tup (ts.map Th.d)]]]) (qN (xD (qN (d:=.str "ask") rfl (qN (xD (qN (d:=.str "call") rfl (qN (d:=.str "f") rfl (qN (vQd (hs:=[.d (.nd .lst (ts.map Th.d))]) (xV (zC c5 rfl) rfl rfl rfl) rfl rfl rfl) rfl rfl) rfl) rfl) rfl rfl) rfl rfl) rfl) rfl rfl) rfl rfl) rfl rfl) rfl rfl) rfl) rfl) rfl rfl) rfl
 ·obtain⟨o1,o2⟩:=okAs_of (ds:=ts.map Th.d) (k:=3) fun d hd=>by
   rw[←ht,bZ]at hd;obtain⟨q,_,rfl⟩:=cQ.mp hd;exact⟨by kernel_rfl,cK (by kernel_rfl)⟩
  constructor
  ·show okAs [.str "ask",tg "call" [.str "f", .tup (ts.map Th.d)]]=true;simp[okAs,okA,o1]
  ·show hAs [.str "ask",tg "call" [.str "f", .tup (ts.map Th.d)]] + 1<=6;simp only[hAs,hA];omega
theorem jWn{n:Nat}(a:Int)(hn:n<=7)(hf:f<=4)(h2:2<f->2<=n):Mde y8 n a f:=by
 obtain⟨Ls,c3,l3,hL⟩:=zQu a hn [sN f,.un,.un,.un];generalize ht:Ls.map tNam=ts;have tl:ts.length=n:=by rw[←ht,aP,l3]
 have tx:∀t∈ts,Tx t:=fun t h=>by
  rw[←ht]at h;obtain⟨q,hq1,rfl⟩:=cQ.mp h;exact jZ3 (hL q hq1)
 have to:∀t∈ts,OkT pName' ")" t:=fun t h=>by
  rw[←ht]at h;obtain⟨q,hq1,rfl⟩:=cQ.mp h;exact jWf (hL q hq1)
 have hd:ts.map Th.d=nmD Ls:=by rw[←ht,bZ];rfl
 have hd' :nmD Ls=tsD ts:=by rw[←ht,tsD,bZ];rfl
 have hk:ts.map Th.d=(Ls.map fun L=>(Sum.inr (S L):L2.Key)).map kd:=by rw[hd,vJb]
 have c4:=vZ3 (v:=oV (oN 3)) (env:=[sN n,sN a,sN f,fl (tsD ts),.un,.un]) (A:=cd "def f(") (B:=cd ") = 1" ++ zT true) (x:="def f(") (y:=") = 1\nask 0") (by kernel_rfl) (by kernel_rfl) tx (by omega) hf (by decide +kernel) (vQa rfl rfl rfl) rfl;rw[←hd']at c4;generalize hT:S (cd "def f(" ++ (xJ f ts ++ (cd ") = 1" ++ zT true)))=T at c4;have kl' :(Ls.map fun L=>(Sum.inr (S L):L2.Key)).length <=50:=by rw[aP];omega
 generalize hK:(Ls.map fun L=>(Sum.inr (S L):L2.Key))=ks at hk kl';have hn3:nmD Ls=ks.map kd:=by rw[←hK,←vJb]
 refine⟨ts,cd "def f(",cd ") = 1",tg "def" [.str "f",.tup (ts.map Th.d),tg "num" [.int 1]],decide ((ts.length:Int)<=3) &&!dup ks,true,?_,zKs tx hf (by omega) (by rw[tl];exact h2) to hk,tx,by omega,by decide +kernel,by decide,by kernel_rfl,?_⟩
 ·show y8 _= .ok (.fz (.tup [.str (S (cd "def f(" ++ (xJ f ts ++ (cd ") = 1" ++ zT true)))), .bl (decide ((ts.length:Int)<=3) &&!dup ks), .nd .lst [tg "def" [.str "f", .tup (ts.map Th.d),tg "num" [.int 1]],ask0]]),_);rw[hT,tl,hd];unfold y8;have c5:owS (oV (oAnd (oLe (oN 0) (oC (.int 3))) (oNot (.v (fzS (qY zV [(.v (oV (oN 3)))])))))) [sN n,sN a,sN f,fz (.nd .lst (nmD Ls)),sS T,.un]=.ok (.fz (.bl (decide ((n:Int)<=3) &&!dup ks)),[sN n,sN a,sN f,fz (.nd .lst (nmD Ls)),sS T,.un]):=
   zZ (vAnd (qZr (le_o (n:=n) rfl rfl)) fun _=>zZ9 kl' (by rw[←hn3];rfl)) rfl
  generalize (decide ((n:Int)<=3) &&!dup ks)=g at c5;have cR:owS (qS [(oV (oN 4)),(oV (oN 5)),(fzS (eLst [(qS [(oV (oC (.str "def"))),(oV (oC (.str "f"))),(svA tupleD [(oN 3)]),(qS [(oV (oC (.str "num"))),(oV (oC (.int 1)))])]),(qS [(oV (oC (.str "ask"))),(qS [(oV (oC (.str "num"))),(oV (oC (.int 0)))])])]))]) [sN n,sN a,sN f,fz (.nd .lst (nmD Ls)),sS T,.s false (.fz (.bl g))]=.ok (.fz (.tup [.str T,.bl g,.nd .lst [tg "def" [.str "f",.tup (nmD Ls),tg "num" [.int 1]],ask0]]),[sN n,sN a,sN f,fz (.nd .lst (nmD Ls)),sS T,.s false (.fz (.bl g))]):=by
   generalize nmD Ls=N;kernel_rfl
  exact vE (qC c3 (qC c4 (qC c5 (wE (o:=.fz (.tup [.str T,.bl g,.nd .lst [tg "def" [.str "f",.tup (nmD Ls),tg "num" [.int 1]],ask0]])) (e:=[sN n,sN a,sN f,fz (.nd .lst (nmD Ls)),sS T,.s false (.fz (.bl g))]) cR rfl)))) rfl
 ·obtain⟨o1,o2⟩:=okAs_of (ds:=ts.map Th.d) (k:=1) fun d hd=>by
   rw[←ht,bZ]at hd;obtain⟨q,_,rfl⟩:=cQ.mp hd;exact⟨by kernel_rfl,cK (by kernel_rfl)⟩
  constructor
  ·show okAs [.str "def", .str "f", .tup (ts.map Th.d),tg "num" [.int 1]]=true;simp[okAs,okA,o1]
  ·show hAs [.str "def", .str "f", .tup (ts.map Th.d),tg "num" [.int 1]] + 1<=6;simp only[hAs,hA];omega
abbrev lA:List Nat:=cd "let a = 1"
abbrev letD:D:=tg "let" [.str "a",tg "num" [.int 1]]
theorem jXo:rowW (wL lA)=.ok letD []:=by kernel_rfl
theorem jZy:rowW (wL (cd "ask 0"))=.ok ask0 []:=by kernel_rfl
noncomputable def zR(two:Bool):List (List Nat):=cond two [cd "ask 0"] []
noncomputable abbrev rws(k:Nat)(R:List Nat)(two:Bool):List (List Nat):=List.replicate k lA ++ (R::zR two)
theorem vYj(R:List Nat)(two:Bool):∀k,jn (rws k R two)=(List.replicate k (cd "let a = 1\n")).flatten ++ (R ++ zT two)
 | 0=>by
   cases two with
   |true=>rfl
   |false=>show R=[] ++ (R ++ []);rw[bM,eV]
 | k + 1=>by
   have e:jn (rws (k+1) R two)=lA ++ 10::jn (rws k R two):=by
    cases k with
    |zero=>rfl
    |succ k=>rfl
   rw[e,vYj R two k,cT,List.flatten_cons,show cd "let a = 1\n"=lA ++ [10] by decide +kernel,bX,bX];rfl
theorem rl{tot:Nat}{rs:List (List Nat)}(hr:0<rs.length)(ht:tot<=40):∀(k i:Nat) (acc:List D),i+k+rs.length=tot->yD (tot:Int) i acc (List.replicate k lA ++ rs)=yD (tot:Int) (i+k) (acc ++ List.replicate k letD) rs
 | 0,i,acc,_=>by rw[List.replicate_zero,List.replicate_zero,bM];rfl
 | k + 1,i,acc,h=>by
   rw[cT,cT,cW,yD,jXo,decide_eq_false (show¬((i:Int)=40) by omega)];show cond (!(decide (qY9 letD="ask") == decide ((i:Int)=(tot:Int) - 1))) _ _=_;rw[show decide (qY9 letD="ask")=false by kernel_rfl,decide_eq_false (show¬((i:Int)=(tot:Int) - 1) by omega)];show yD (tot:Int) (i+1) (acc ++ [letD]) (List.replicate k lA ++ rs)=_;rw[rl hr ht k (i+1) _ (by omega),bX,show i+1+k=i+(k+1) by omega];rfl
theorem zWi{l:List Nat}(h:okC l=true):∀c∈l,c<128/\c≠10:=fun c hc=>by
 have:=List.all_eq_true.mp h c hc;simpa only[aE,decide_eq_true_eq,Bool.not_eq_true',decide_eq_false_iff_not] using this
theorem jJg{g two:Bool}(hR:qWi A B d f ts g)(hx:∀t∈ts,Tx t)(hl:ts.length<=7)(hAB:(okC A && okC B)=true)(hn:A.length+B.length<=50)(hd:decide (qY9 d="ask")= !two)(hk:k<=3):
  wN [sS (S (jn (rws k (A ++ (xJ f ts ++ B)) two)))]=cond (decide (0<f) ||!g) (er k) (.ok (.ow .lst ((List.replicate k letD ++ (d::zD two)).map .fz),[.un])):=by
 obtain⟨c1,c2⟩:=zJr hx f;rw[aE]at hAB;have hm:∀r∈rws k (A ++ (xJ f ts ++ B)) two,r.length<=300/\∀c∈r,c<128/\c≠10:=fun r hr=>by
  rcases bG.mp hr with q|q
  ·rw[List.eq_of_mem_replicate q];exact⟨by decide,by decide +kernel⟩
  ·rcases aH.mp q with q | q
   ·rw [q];refine⟨by rw[aW,aW];omega,fun c hc=>?_⟩;rcases bG.mp hc with y|y
    ·exact zWi hAB.1 c y
    ·rcases bG.mp y with y | y
     ·exact c1 c y
     ·exact zWi hAB.2 c y
   ·cases two with
    |false=>cases q
    |true=>rw[bU.mp q];exact⟨by decide,by decide +kernel⟩
 have zl:(zR two).length <=1:=by cases two <;> decide
 have hlen:(rws k (A ++ (xJ f ts ++ B)) two).length =k+1+(zR two).length :=by rw[aW,eZ,aY];omega
 have hj:(jn (rws k (A ++ (xJ f ts ++ B)) two)).length <=100000:=by
  rw[vYj,aW,aW,aW,aW];have e1:((List.replicate k (cd "let a = 1\n")).flatten).length <=30:=by
   rw[List.length_flatten,List.map_replicate,List.sum_replicate_nat,show(cd "let a = 1\n").length =10 by decide];omega
  have e2:(zT two).length <=6:=by cases two <;> decide
  omega
 have:=zKt (rows:=rws k (A ++ (xJ f ts ++ B)) two) (by intro z;have:=congrArg List.length z;rw[hlen]at this;simp at this) (fun r hr z=>((hm r hr).2 10 z).2 rfl) (fun r hr=>⟨aS (hm r hr).1 (by decide),fun c h=>((hm r hr).2 c h).1⟩) (by omega) hj;have e:yD ((rws k (A ++ (xJ f ts ++ B)) two).length :Int) 0 [] (rws k (A ++ (xJ f ts ++ B)) two)=cond (decide (0<f) ||!g) (.er k) (.ok (List.replicate k letD ++ (d::zD two))):=by
  rw[rl (tot:=(rws k (A ++ (xJ f ts ++ B)) two).length) (rs:=(A ++ (xJ f ts ++ B))::zR two) (by rw[aY];omega) (by omega) k 0 [] (by rw[hlen,aY];omega),hlen,yD,hR,Nat.zero_add,decide_eq_false (show¬((k:Int)=40) by omega)];cases(decide (0<f) ||!g) with
  |true=>rfl
  | false=>
    show cond (!(decide (qY9 d="ask") == decide ((k:Int)=((k+1+(zR two).length :Nat):Int) - 1))) _ (yD _ (k+1) (([] ++ List.replicate k letD) ++ [d]) (zR two))=_;rw[hd,eV];cases two with
    | false=>
      rw[decide_eq_true (show(k:Int)=((k+1+(zR false).length :Nat):Int) - 1 by show(k:Int)=((k+1+0:Nat):Int) - 1;omega)];rfl
    | true=>
      rw[decide_eq_false (show¬((k:Int)=((k+1+(zR true).length :Nat):Int) - 1) by show¬((k:Int)=((k+1+1:Nat):Int) - 1);omega)];show yD ((k+1+1:Nat):Int) (k+1) (List.replicate k letD ++ [d]) [cd "ask 0"]=_;rw[yD,jZy,decide_eq_false (show¬(((k+1:Nat):Int)=40) by omega)];show cond (!(decide (qY9 ask0="ask") == decide (((k+1:Nat):Int)=((k+1+1:Nat):Int) - 1))) _ (Rr.ok ((List.replicate k letD ++ [d]) ++ [ask0]))=_;rw[show decide (qY9 ask0="ask")=true by kernel_rfl,decide_eq_true (show(((k+1:Nat):Int)=((k+1+1:Nat):Int) - 1) by omega),bX];rfl
 rw[e]at this;cases q:(decide (0<f) ||!g) with
 |true=>rw[q]at this;exact this
 |false=>rw[q]at this;exact this
theorem ml4:∀k:Nat,k<=3->mulS (.str "let a = 1\n") (.int (k:Nat))=some (.str (S ((List.replicate k (cd "let a = 1\n")).flatten)))
 | 0,_=>by kernel_rfl
 | 1,_=>by kernel_rfl
 | 2,_=>by kernel_rfl
 | 3,_=>by kernel_rfl
 |k+4,h=>absurd h (by omega)
section
variable{cell n a:Int}{m f k:Nat}{T:Str}{g:Bool}{ds:List D}
noncomputable abbrev ge(cell n:Int)(m:Nat)(a:Int)(f:Nat)(s5 s6 s7 s8:Slot):Ev:=[sN cell,sN n,sN m,sN a,sN f,s5,s6,s7,s8]
noncomputable abbrev bS(b:Bool):Slot:=.s false (.fz (.bl b))
noncomputable abbrev due8:Oe:=.v (fzS (vK7 (.v (fzS (eLst [(qS [(oV (oC (.str "let"))),(oV (oC (.str "a"))),(qS [(oV (oC (.str "num"))),(oV (oC (.int 1)))])])]))) (oN 8)))
theorem jY0(hk:k<=3){s5 s6 s7:Slot}:evO due8 (ge cell n m a f s5 s6 s7 (sN k))=.ok (.d (.nd .lst (List.replicate k letD)),ge cell n m a f s5 s6 s7 (sN k)):=by
 have:k=0\/k=1\/k=2\/k=3:=by omega
 rcases this with rfl|rfl|rfl|rfl <;> kernel_rfl
theorem jXk{oa ob:Oe}{e1:Ev}{xs ys:List D}(h1:evO oa env=.ok (.d (.nd .lst xs),e))(h2:evO ob e=.ok (.d (.nd .lst ys),e1))(c:xs.length+ys.length<=1000000):eCat oa ob env=.ok (.ow .lst ((xs ++ ys).map .fz),e1):=by
 show(evO oa env).bind _=_;rw[h1];show(evO ob e).bind _=_;rw[h2];show cond (decide (xs.length+ys.length<=lim)) (Res.ok (O.ow .lst ((xs ++ ys).map O.fz),e1)) Res.no=_;rw[decide_eq_true c];rfl
theorem fin(hk:k<=3)(hr:wN [sS T]=cond (decide (0<f) ||!g) (er k) (.ok (.ow .lst ((List.replicate k letD ++ ds).map .fz),[.un])))(ho:okAs ds=true/\hAs ds<=6)(hl:ds.length<=10):
  (sSeq (sIf (bOr (asB (oGt (oN 4) (oC (.int 0)))) (bNot (asB (oN 6)))) (sRet (qY jU [(.v (oV (oN 5))),(.v (oV (oN 8)))])) sNil) (sRet (qY (zQ 8) [(.v (fzS (qY wN [(.v (oV (oN 5)))]))),(.v (fzS (eCat due8 (oN 7))))]))) (ge cell n m a f (sS T) (bS g) (fz (.nd .lst ds)) (sN k))=.ok (.rt (.fz (.bl true)) (ge cell n m a f (sS T) (bS g) (fz (.nd .lst ds)) (sN k))):=by
 have t1:asB (oGt (oN 4) (oC (.int 0))) (ge cell n m a f (sS T) (bS g) (fz (.nd .lst ds)) (sN k))=.ok (decide (0<f),ge cell n m a f (sS T) (bS g) (fz (.nd .lst ds)) (sN k)):=by
  rw[show decide (0<f)=decide ((f:Int) > 0) from decide_eq_decide.mpr (by omega)];exact vS (d:=.bl (decide ((f:Int) > 0))) (vQ (h1:=.d (.bl (decide ((f:Int) > 0)))) (qB (h1:=.d (.int f)) (h2:=.d (.int 0)) rfl rfl rfl rfl rfl rfl rfl) rfl) rfl rfl
 have t2:bNot (asB (oN 6)) (ge cell n m a f (sS T) (bS g) (fz (.nd .lst ds)) (sN k))=.ok (!g,ge cell n m a f (sS T) (bS g) (fz (.nd .lst ds)) (sN k)):=rfl;have t3:bOr (asB (oGt (oN 4) (oC (.int 0)))) (bNot (asB (oN 6))) (ge cell n m a f (sS T) (bS g) (fz (.nd .lst ds)) (sN k))=.ok (decide (0<f) ||!g,ge cell n m a f (sS T) (bS g) (fz (.nd .lst ds)) (sN k)):=by
  refine qQz t1 ?_
  cases decide (0<f) with
  |true=>rfl
  |false=>exact t2
 cases q:(decide (0<f) ||!g) with
 | true=>
   rw[q]at hr t3;have c6:qY jU [(.v (oV (oN 5))),(.v (oV (oN 8)))] (ge cell n m a f (sS T) (bS g) (fz (.nd .lst ds)) (sN k))=.ok (.fz (.bl true),ge cell n m a f (sS T) (bS g) (fz (.nd .lst ds)) (sN k)):=qXi (vs:=[oV (oN 5),oV (oN 8)]) (zs:=[.str T,.int (k:Nat)]) rfl rfl (vY3 hr);exact qD t3 (xR c6 rfl)
 | false=>
   rw[q]at hr t3;have r1:fzS (qY wN [(.v (oV (oN 5)))]) (ge cell n m a f (sS T) (bS g) (fz (.nd .lst ds)) (sN k))=.ok (.nd .lst (List.replicate k letD ++ ds),ge cell n m a f (sS T) (bS g) (fz (.nd .lst ds)) (sN k)):=by
    refine zP (o:=.ow .lst ((List.replicate k letD ++ ds).map .fz)) ?_ (by rw[xU])
    exact qXi (vs:=[oV (oN 5)]) (zs:=[.str T]) rfl rfl hr
   have r2:fzS (eCat due8 (oN 7)) (ge cell n m a f (sS T) (bS g) (fz (.nd .lst ds)) (sN k))=.ok (.nd .lst (List.replicate k letD ++ ds),ge cell n m a f (sS T) (bS g) (fz (.nd .lst ds)) (sN k)):=
    zP (jXk (jY0 hk) rfl (by rw[eZ];omega)) (by rw[xU])
   have ho2:okAs (List.replicate k letD ++ ds)=true/\hAs (List.replicate k letD ++ ds)<=7:=okAs_of fun d hd=>by
    rcases bG.mp hd with y|y
    ·rw[List.eq_of_mem_replicate y];exact⟨by kernel_rfl,cK (by kernel_rfl)⟩
    ·have k1:∀(ds:List D),okAs ds=true->∀d∈ds,okA d=true/\hA d<=hAs ds:=fun ds=>by
      induction ds with
      |nil=>intro _ d hd;cases hd
      | cons x ds ih=>
        intro h d hd;rw[okAs,aE]at h;rw[hAs];rcases aH.mp hd with z|z
        ·rw[z];exact⟨h.1,by omega⟩
        ·have:=ih h.2 d z;exact⟨this.1,by omega⟩
     have:=k1 ds ho.1 d y;exact⟨this.1,by omega⟩
   have c7:qY (zQ 8) [(.v (fzS (qY wN [(.v (oV (oN 5)))]))),(.v (fzS (eCat due8 (oN 7))))] (ge cell n m a f (sS T) (bS g) (fz (.nd .lst ds)) (sN k))=.ok (.fz (.bl true),ge cell n m a f (sS T) (bS g) (fz (.nd .lst ds)) (sN k)):=by
    have al:=vVk (.nd .lst (List.replicate k letD ++ ds)) 8 (by rw[okA];exact ho2.1) (by rw[hA];have:=ho2.2;omega);exact qXi (vs:=[fzS (qY wN [(.v (oV (oN 5)))]),fzS (eCat due8 (oN 7))]) (zs:=[.nd .lst (List.replicate k letD ++ ds),.nd .lst (List.replicate k letD ++ ds)]) (x9 r1 (x9 r2 rfl rfl) rfl) rfl al
   exact qD t3 (qO (wE c7 rfl))
abbrev sG3:SG:=gT 3 (gCn (gN 5) (gCn (gN 6) (gCn (gN 7) gNl)))
theorem mid(hM:Mde F m a f)(hk:k<=3)(hc:cell % 10 ^ 15 / 3 % 4=(k:Int)){t:SS}(ht:t (ge cell n m a f .un .un .un .un)=sAsg (fzS (qY F [(.v (oV (oN 2))),(.v (oV (oN 3))),(.v (oV (oN 4)))])) sG3 (ge cell n m a f .un .un .un .un)):
  ∃e,(sSeq t (sSeq (sSet 8 (owS (oV (oMod (oDiv (oMod (oN 0) (oPow (oC (.int 10)) (oC (.int 15)))) (oC (.int 3))) (oC (.int 4)))))) (sSeq (sSet 5 (owS (oV (o2 addS (o2 mulS (oC (.str "let a = 1\n")) (oN 8)) (oN 5))))) (sSeq (sIf (bOr (asB (oGt (oN 4) (oC (.int 0)))) (bNot (asB (oN 6)))) (sRet (qY jU [(.v (oV (oN 5))),(.v (oV (oN 8)))])) sNil) (sRet (qY (zQ 8) [(.v (fzS (qY wN [(.v (oV (oN 5)))]))),(.v (fzS (eCat due8 (oN 7))))])))))) (ge cell n m a f .un .un .un .un)=.ok (.rt (.fz (.bl true)) e)/\outs 1 e=[.un]:=by
 obtain⟨ts,A,B,d,g,two,h1,hR,hx,hl,hAB,hn,hd,ho1,ho2⟩:=hM;obtain⟨c1,c2⟩:=zJr hx f;have z2:(zT two).length <=6:=by cases two <;> decide
 have hA3:qQe (cell % 10 ^ 15) 3:=⟨by decide,by decide +kernel⟩
 have rd:=jJg (k:=k) hR hx hl hAB hn hd hk;rw[vYj]at rd;generalize hT0:A ++ (xJ f ts ++ (B ++ zT two))=T0 at h1;have eT:(A ++ (xJ f ts ++ B)) ++ zT two=T0:=by rw[←hT0];simp
 have lT:T0.length<=1000:=by rw[←hT0];simp only[aW];omega
 rw[eT]at rd;have lz:((List.replicate k (cd "let a = 1\n")).flatten).length <=30:=by
  rw[List.length_flatten,List.map_replicate,List.sum_replicate_nat,show(cd "let a = 1\n").length =10 by decide];omega
 have a1:sAsg (fzS (qY F [(.v (oV (oN 2))),(.v (oV (oN 3))),(.v (oV (oN 4)))])) sG3 (ge cell n m a f .un .un .un .un)=.ok (.nx (ge cell n m a f (sS (S T0)) (bS g) (fz (.nd .lst (d::zD two))) .un)):=
  jXl (d:=.tup [.str (S T0),.bl g,.nd .lst (d::zD two)]) (zP (qXi (vs:=[oV (oN 2),oV (oN 3),oV (oN 4)]) (zs:=[.int (m:Nat),.int a,.int (f:Nat)]) rfl rfl h1) rfl) rfl rfl
 have a2:oV (oMod (oDiv (oMod (oN 0) (oPow (oC (.int 10)) (oC (.int 15)))) (oC (.int 3))) (oC (.int 4))) (ge cell n m a f (sS (S T0)) (bS g) (fz (.nd .lst (d::zD two))) .un)=.ok (.int (k:Nat),ge cell n m a f (sS (S T0)) (bS g) (fz (.nd .lst (d::zD two))) .un):=by
  rw[←hc];exact vQ (h1:=.d (.int (cell % 10 ^ 15 / 3 % 4))) (qB (h1:=.d (.int (cell % 10 ^ 15 / 3))) (h2:=.d (.int 4)) (qB (h1:=.d (.int (cell % 10 ^ 15))) (h2:=.d (.int 3)) (qB (h1:=.d (.int cell)) (h2:=.d (.int (10 ^ 15))) rfl rfl rfl rfl rfl (md (by decide)) rfl) rfl rfl rfl rfl (dv hA3) rfl) rfl rfl rfl rfl (md (by decide)) rfl) rfl
 have a3:oV (o2 addS (o2 mulS (oC (.str "let a = 1\n")) (oN 8)) (oN 5)) (ge cell n m a f (sS (S T0)) (bS g) (fz (.nd .lst (d::zD two))) (sN k))=.ok (.str (S ((List.replicate k (cd "let a = 1\n")).flatten ++ T0)),ge cell n m a f (sS (S T0)) (bS g) (fz (.nd .lst (d::zD two))) (sN k)):=by
  refine vQ (h1:=.d (.str (S ((List.replicate k (cd "let a = 1\n")).flatten ++ T0)))) (qB (h1:=.d (.str (S ((List.replicate k (cd "let a = 1\n")).flatten)))) (h2:=.d (.str (S T0))) (qB (h1:=.d (.str "let a = 1\n")) (h2:=.d (.int (k:Nat))) rfl rfl rfl rfl rfl (ml4 k hk) rfl) rfl rfl rfl rfl ?_ rfl) rfl;rw[qZs (by rw[zJ,zJ];omega),qQ0]
 have zo:okAs (d::zD two)=true/\hAs (d::zD two)<=6:=by
  rw[okAs,hAs,ho1];cases two with
  |true=>exact⟨by kernel_rfl,by have:hAs (zD true)<=6:=cK (by kernel_rfl);omega⟩
  |false=>exact⟨by kernel_rfl,by have:hAs (zD false)<=6:=cK (by kernel_rfl);omega⟩
 have fi:=fin (cell:=cell) (n:=n) (m:=m) (a:=a) hk rd zo (cK (by cases two <;> rfl));exact⟨_,jD (ht.trans a1) (qC (zZ a2 rfl) (qC (zZ a3 rfl) fi)),rfl⟩
end
section
variable{cell n a:Int}{m:Nat}
theorem eq_o{x:Oe}{i j:Int}(h:evO x env=.ok (.d (.int i),env)):asB (o2 eqF x (oC (.int j))) env=.ok (decide (i=j),env):=
 vS (d:=.bl (i == j)) (vQ (h1:=.d (.bl (i == j))) (qB (h1:=.d (.int i)) (h2:=.d (.int j)) h rfl rfl rfl rfl rfl rfl) rfl) rfl (by rw[show(i == j)=decide (i=j) by rw[cH];simp])
theorem step2(hf:f<=4):∃f' :Nat,f' <=4/\(2<f' ->2<=m)/\∀(t:SS) (X:Res Out),t (ge cell n m a f' .un .un .un .un)=X->sSeq (sIf (bAnd (asB (oGt (oN 4) (oC (.int 2)))) (asB (oLt (oN 2) (oC (.int 2))))) (sSet 4 (owS (oV (oC (.int 1))))) sNil) t (ge cell n m a f .un .un .un .un)=X:=by
 have t1:asB (oGt (oN 4) (oC (.int 2))) (ge cell n m a f .un .un .un .un)=.ok (decide ((f:Int) > 2),ge cell n m a f .un .un .un .un):=
  vS (d:=.bl (decide ((f:Int) > 2))) (vQ (h1:=.d (.bl (decide ((f:Int) > 2)))) (qB (h1:=.d (.int f)) (h2:=.d (.int 2)) rfl rfl rfl rfl rfl rfl rfl) rfl) rfl rfl
 have t2:asB (oLt (oN 2) (oC (.int 2))) (ge cell n m a f .un .un .un .un)=.ok (decide ((m:Int)<2),ge cell n m a f .un .un .un .un):=
  vS (d:=.bl (decide ((m:Int)<2))) (vQ (h1:=.d (.bl (decide ((m:Int)<2)))) (qB (h1:=.d (.int m)) (h2:=.d (.int 2)) rfl rfl rfl rfl rfl rfl rfl) rfl) rfl rfl
 by_cases h1:(f:Int) > 2
 ·rw [decide_eq_true h1] at t1;by_cases h2:(m:Int)<2
  ·rw [decide_eq_true h2] at t2;exact⟨1,by decide,by omega,fun t X h=>qD (qQm t1 t2) (qC (o:=.fz (.int 1)) (e:=ge cell n m a f .un .un .un .un) rfl h)⟩
  ·rw [decide_eq_false h2] at t2;exact⟨f,hf,by omega,fun t X h=>qD (qQm t1 t2) (qO h)⟩
 ·rw [decide_eq_false h1] at t1;exact⟨f,hf,by omega,fun t X h=>qD (q:=false) (e:=ge cell n m a f .un .un .un .un) (qQm t1 rfl) (qO h)⟩
theorem step1:∃f:Nat,f<=4/\∀(t:SS) (X:Res Out),t (ge cell n m a f .un .un .un .un)=X->sSeq (sIf (asB (o2 eqF (oMod (oDiv (oN 1) (oC (.int 32))) (oC (.int 4))) (oC (.int 1)))) (sSet 4 (owS (oV (oAdd (oC (.int 1)) (oMod (oDiv (oN 1) (oC (.int 128))) (oC (.int 4))))))) sNil) t (ge cell n m a 0 .un .un .un .un)=X:=by
 have d1:qQe n 32:=⟨by decide,by decide +kernel⟩
 have d2:qQe n 128:=⟨by decide,by decide +kernel⟩
 have t1:=eq_o (x:=oMod (oDiv (oN 1) (oC (.int 32))) (oC (.int 4))) (i:=n / 32 % 4) (j:=1) (env:=ge cell n m a 0 .un .un .un .un) (qB (h1:=.d (.int (n / 32))) (h2:=.d (.int 4)) (qB (h1:=.d (.int n)) (h2:=.d (.int 32)) rfl rfl rfl rfl rfl (dv d1) rfl) rfl rfl rfl rfl (md (by decide)) rfl);by_cases h:n / 32 % 4=1
 ·rw [decide_eq_true h] at t1;obtain⟨j,ej,hj⟩:=nat_mod (n / 128) (p:=4) (by decide);refine⟨1+j,by omega,fun t X h=>qD t1 (qC (o:=.fz (.int ((1+j:Nat):Int))) (e:=ge cell n m a 0 .un .un .un .un) (zZ ?_ rfl) h)⟩;rw[Int.natCast_add,←ej];exact vQ (h1:=.d (.int (1+n / 128 % 4))) (qB (h1:=.d (.int 1)) (h2:=.d (.int (n / 128 % 4))) rfl (qB (h1:=.d (.int (n / 128))) (h2:=.d (.int 4)) (qB (h1:=.d (.int n)) (h2:=.d (.int 128)) rfl rfl rfl rfl rfl (dv d2) rfl) rfl rfl rfl rfl (md (by decide)) rfl) rfl rfl rfl rfl rfl) rfl
 ·rw [decide_eq_false h] at t1;exact⟨0,by decide,fun t X h=>qD t1 (qO h)⟩
end
theorem if_t{b:ST}(h:b env=.ok (true,e)):sIf b s1 s2 env=s1 e:=by unfold sIf;rw[h];rfl
theorem if_f{b:ST}(h:b env=.ok (false,e)):sIf b s1 s2 env=s2 e:=by unfold sIf;rw[h];rfl
noncomputable abbrev asF(F:Fn):SS:=sAsg (fzS (qY F [(.v (oV (oN 2))),(.v (oV (oN 3))),(.v (oV (oN 4)))])) sG3
noncomputable abbrev i4(j:Int):ST:=asB (o2 eqF (oMod (oN 1) (oC (.int 4))) (oC (.int j)))
theorem four{n:Int}(hm:m<=7)(hf:f<=4)(h2:2<f->2<=m):∃F,Mde F m a f/\(sIf (i4 0) (asF xM) (sIf (i4 1) (asF wD) (sIf (i4 2) (asF xN) (asF y8)))) (ge cell n m a f .un .un .un .un)=asF F (ge cell n m a f .un .un .un .un):=by
 have t:∀j,i4 j (ge cell n m a f .un .un .un .un)=.ok (decide (n % 4=j),ge cell n m a f .un .un .un .un):=fun j=>eq_o (qB (h1:=.d (.int n)) (h2:=.d (.int 4)) rfl rfl rfl rfl rfl (md (by decide)) rfl)
 by_cases h0:n % 4=0
 ·have t0:=t 0;rw[decide_eq_true h0]at t0;exact⟨_,jQw a hm hf h2,if_t t0⟩
 ·have t0:=t 0;rw[decide_eq_false h0]at t0;by_cases h1:n % 4=1
  ·have t1:=t 1;rw[decide_eq_true h1]at t1;exact⟨_,jWm a hm hf h2,(if_f t0).trans (if_t t1)⟩
  ·have t1:=t 1;rw[decide_eq_false h1]at t1;by_cases h3:n % 4=2
   ·have t3:=t 2;rw[decide_eq_true h3]at t3;exact⟨_,jQx a hm hf h2,(if_f t0).trans ((if_f t1).trans (if_t t3))⟩
   ·have t3:=t 2;rw[decide_eq_false h3]at t3;exact⟨_,jWn a hm hf h2,(if_f t0).trans ((if_f t1).trans (if_f t3))⟩
noncomputable abbrev e9(cell:Int)(a b c d:Slot):Ev:=[sN cell,a,b,c,d,.un,.un,.un,.un]
section
variable{cell n:Int}{m:Nat}
theorem n_ok(hn:(cell % 10 ^ 15+7) * 630360016 % 2147483647=n):oV (oMod (oMul (oAdd (oMod (oN 0) (oPow (oC (.int 10)) (oC (.int 15)))) (oC (.int 7))) (oC (.int 630360016))) (oC (.int 2147483647))) (e9 cell .un .un .un .un)=.ok (.int n,e9 cell .un .un .un .un):=by
 rw[←hn];exact vQ (h1:=.d (.int ((cell % 10 ^ 15+7) * 630360016 % 2147483647))) (qB (h1:=.d (.int ((cell % 10 ^ 15+7) * 630360016))) (h2:=.d (.int 2147483647)) (qB (h1:=.d (.int (cell % 10 ^ 15+7))) (h2:=.d (.int 630360016)) (qB (h1:=.d (.int (cell % 10 ^ 15))) (h2:=.d (.int 7)) (qB (h1:=.d (.int cell)) (h2:=.d (.int (10 ^ 15))) rfl rfl rfl rfl rfl (md (by decide)) rfl) rfl rfl rfl rfl rfl rfl) rfl rfl rfl rfl (ml (.of_right (by decide +kernel))) rfl) rfl rfl rfl rfl (md (by decide)) rfl) rfl
theorem m_ok(hm:n / 4 % 8=(m:Int)):oV (oMod (oDiv (oN 1) (oC (.int 4))) (oC (.int 8))) (e9 cell (sN n) .un .un .un)=.ok (.int (m:Nat),e9 cell (sN n) .un .un .un):=by
 have d1:qQe n 4:=⟨by decide,by decide +kernel⟩
 rw[←hm];exact vQ (h1:=.d (.int (n / 4 % 8))) (qB (h1:=.d (.int (n / 4))) (h2:=.d (.int 8)) (qB (h1:=.d (.int n)) (h2:=.d (.int 4)) rfl rfl rfl rfl rfl (dv d1) rfl) rfl rfl rfl rfl (md (by decide)) rfl) rfl
theorem a_ok:oV (oDiv (oN 1) (oC (.int 512))) (e9 cell (sN n) (sN m) .un .un)=.ok (.int (n / 512),e9 cell (sN n) (sN m) .un .un):=by
 have d1:qQe n 512:=⟨by decide,by decide +kernel⟩
 exact vQ (h1:=.d (.int (n / 512))) (qB (h1:=.d (.int n)) (h2:=.d (.int 512)) rfl rfl rfl rfl rfl (dv d1) rfl) rfl
end
theorem jW9{n:Int}(hn:(cell % 10 ^ 15+7) * 630360016 % 2147483647=n)(hm:n / 4 % 8=(m:Int))(hm7:m<=7)(hc:cell % 10 ^ 15 / 3 % 4=(k:Int))(hk:k<=3):zL [sN cell]=.ok (.fz (.bl true),[.un]):=by
 have x1:=n_ok hn;clear hn;obtain⟨f1,h1,s1⟩:=step1 (cell:=cell) (n:=n) (m:=m) (a:=n / 512);obtain⟨f,hf,h2,s2⟩:=step2 (cell:=cell) (n:=n) (m:=m) (a:=n / 512) h1;obtain⟨F,hM,hF⟩:=four (cell:=cell) (n:=n) (a:=n / 512) hm7 hf h2;obtain⟨e,he,ho⟩:=mid (cell:=cell) (n:=n) hM hk hc hF;unfold zL;refine vE (o:=.rt (.fz (.bl true)) e) ?_ (by show Res.ok (_,outs 1 e)=_;rw[ho])
 exact qC (zZ x1 rfl) (qC (zZ (m_ok hm) rfl) (qC (zZ a_ok rfl) (qC (o:=.fz (.int 0)) (e:=e9 cell (sN n) (sN m) (sN (n / 512)) .un) rfl (s1 _ _ (s2 _ _ he)))))
theorem zQ7(cell:Int):zL [sN cell]=.ok (.fz (.bl true),[.un]):=by
 obtain⟨m,h1,h2⟩:=nat_mod (((cell % 10 ^ 15+7) * 630360016 % 2147483647) / 4) (p:=8) (by decide);obtain⟨k,h3,h4⟩:=nat_mod (cell % 10 ^ 15 / 3) (p:=4) (by decide);exact jW9 rfl h1 (Nat.le_of_lt_succ h2) h3 (Nat.le_of_lt_succ h4)
theorem jWp{x:Slot}{i:Int}:qK5 [x,sN i]=.ok (.nx [x,sN i]):=by
 have c:qY zL [(.v (oV (oN 1)))] [x,sN i]=.ok (.fz (.bl true),[x,sN i]):=qXi (vs:=[oV (oN 1)]) (zs:=[.int i]) rfl rfl (zQ7 i);have f:fzS (qY zL [(.v (oV (oN 1)))]) [x,sN i]=.ok (.bl true,[x,sN i]):=zP (o:=.fz (.bl true)) c rfl;have t:asB (.v (fzS (qY zL [(.v (oV (oN 1)))]))) [x,sN i]=.ok (true,[x,sN i]):=qZr f;have n:bNot (asB (.v (fzS (qY zL [(.v (oV (oN 1)))])))) [x,sN i]=.ok (false,[x,sN i]):=not_of t rfl;unfold qK5;exact yG n rfl
theorem law_loop{x:Slot}:∀(ds:List D) (y:Slot),(∀d∈ds,∃i,d=.int i)->∃y',forS (gN 1) qK5 ds [x,y]=.ok (.nx [x,y'])
 |[],y,_=>⟨y,rfl⟩
 | d::ds,y,h=>by
   obtain⟨i,rfl⟩:=h d (aA ..);obtain⟨y',ih⟩:=law_loop (x:=x) ds (sN i) fun z hz=>h z (aK _ hz)
   exact⟨y',xQ (e1:=[x,sN i]) (e2:=[x,sN i]) rfl jWp ih⟩
theorem jXy(ns:List Int):fzS (eSlL (oN 0) none (some (oV (oC (.int 30))))) [fz (.nd .lst (ns.map .int)),.un]=.ok (.nd .lst (cutL (ns.map D.int) none (some 30)),[fz (.nd .lst (ns.map .int)),.un]):=by
 refine zP (o:=.ow .lst ((cutL (ns.map D.int) none (some 30)).map .fz)) rfl ?_
 rw[xU]
theorem jYq(ns:List Int)(y' :Slot):oV (oL lenD [(oN 0)]) [fz (.nd .lst (ns.map .int)),y']=.ok (.int ((ns.map D.int).length :Nat),[fz (.nd .lst (ns.map .int)),y']):=rfl
theorem zYg(ns:List Int)(h:ns.length<=63):∃e,zJt [.s false (.fz (.nd .lst (ns.map .int)))]=.ok (.fz (.bl true),e):=by
 obtain⟨y',lp⟩:=law_loop (x:=fz (.nd .lst (ns.map .int))) (cutL (ns.map D.int) none (some 30)) .un fun d hd=>by
  unfold cutL at hd;obtain⟨i,_,rfl⟩:=cQ.mp (List.mem_of_mem_drop (List.mem_of_mem_take hd));exact⟨i,rfl⟩
 have c1:qY zL [(.v (oV (oL lenD [(oN 0)])))] [fz (.nd .lst (ns.map .int)),y']=.ok (.fz (.bl true),[fz (.nd .lst (ns.map .int)),y']):=qXi (vs:=[oV (oL lenD [(oN 0)])]) (zs:=[.int ((ns.map D.int).length :Nat)]) (x9 (jYq ns y') rfl rfl) rfl (zQ7 _);refine⟨[.un],?_⟩;unfold zJt;exact vE (jD (qQl (ds:=cutL (ns.map D.int) none (some 30)) (e:=[fz (.nd .lst (ns.map .int)),.un]) (vK3 (jXy ns) rfl rfl) lp) (wE (o:=.fz (.bl true)) (e:=[fz (.nd .lst (ns.map .int)),y']) c1 rfl)) rfl
end X13
namespace DX
open PySem L2 PyProof.Rows
theorem vWu:∀ws:List (Str×Tok),Vals (ws.map fun q=>V.str q.1) (ws.map fun q=>Value.str q.1 q.2)
 |[]=>.nil
 |q::ws=>.cons ⟨q.2,rfl⟩ (vWu ws)
end DX
namespace DX
open PySem L2
variable{C0:Nat}{l:List Nat}{K:aQ}{pl:Sem Bool}{o':Oe}
theorem jVg{p:Nat->Bool->Prop}:∀C b,(C,b)∈([]:List (Nat×Bool))->p C b:=fun _ _ h=>nomatch h
theorem zYx{p:Nat->Bool->Prop}{b0:Bool}{l:List (Nat×Bool)}(h0:p C0 b0)(hl:∀C b,(C,b)∈l->p C b):∀C b,(C,b)∈(C0,b0)::l->p C b:=fun C b h=>by
 grind
theorem jVh{p:Nat->Prop}:∀C∈([]:List Nat),p C:=fun _ h=>nomatch h
theorem zYy{p:Nat->Prop}(h0:p C0)(hl:∀C∈l,p C):∀C∈C0::l,p C:=fun C h=>by
 grind
theorem jVi{p:Nat->Prop}:∀C,([]:List Nat).contains C=true->p C:=fun _ h=>nomatch h
theorem zYz{p:Nat->Prop}(h0:p C0)(hl:∀C,l.contains C=true->p C):∀C,(C0::l).contains C=true->p C:=fun C h=>by
 grind
theorem jYs{c:Nat->aV}{p:aV}{o:Obj}{n:Nat}(ws:List (Str×Tok))(h1:K.lookup p=some o)(h2:o.cls=.type "tuple")(h3:o.data=.seq (ws.map fun q=>Value.str q.1 q.2).toArray n)(h4:ws.length<=100):∀F,DAt K c F (.ref p) (.tup (ws.map fun q=>.str q.1)):=fun F=>by
 refine DAt.nd (k:=.tup) (vs:=ws.map fun q=>V.str q.1) (show SqT K F p _ from .inr ⟨o,_,n,h1,h2,h3,?_,by rw[List.toList_toArray];exact vWu ws⟩) (by rw[aP,aP]) fun i v d hv hd=>?_
 ·rw[bV,aP];exact aS h4 (by decide)
 ·rw [cN] at hv hd;cases q:ws[i]? with
  |none=>grind
  |some x=>rw[q]at hv hd;cases hv;cases hd;exact .str _
section
variable{X:Cx}{c:Nat->aV}{E:XK}{e o:Expr}{es:List Expr}{as:List Am}{a0:Am}{x m q y:Str}{C j n:Nat}{st:Stmt}{f:aV}{fd:aG}{ps:List Str}{k k0:Nat}{F:Fn}{p pos apos np cpos:Pos}{s:SV}{tb:List (Nat×Fn)}
theorem cA(A:FnAt X.K X.mg x st ps f fd)(G:FnOk X.prog X.w X.K X.mg X.base (CXd X.prog X.w) k f fd ps (spD X.K c as.length F))(hr:Room k0 X.A)(ha:OsD X c E (e::es) (as.map Am.o))(hx:jS (CXd X.prog X.w) X E:=by exact jL)(hk:k<=k0:=by first|decide|omega)(hg:Gl X x:=by exact rfl)(hdb:(x == ("__debug__":Str))=false:=by decide)(he:aJ (e::es) X.env=(false,eval e X.env)::aJ es X.env:=by rfl)(hpl:(cU pos (aJ es X.env)).any (·.1)=false:=by rfl):ED X c E (.Call (.Name x p) (e::es) [] pos) (qY F as):=
 vJw G (hr.mono hk) hg A.m A.F.kp A.b hx ha hdb he hpl
theorem mA(ho:OD X c E o a0.o)(hc:Cls X.K (c C))(hm:Meth X.K (c C) m f)(A:MethAt X.K m q st ps f fd)(G:FnOk X.prog X.w X.K X.mg X.base (CXd X.prog X.w) k f fd ps (spD X.K c (a0::as).length F))(hr:Room k0 X.A)(ha:OsD X c E (e::es) (as.map Am.o))(hx:jS (CXd X.prog X.w) X E:=by exact jL)(hk:k<=k0:=by first|decide|omega)(hst:aJ (e::es) X.env=(false,eval e X.env)::aJ es X.env:=by rfl)(hpl:(cU pos (aJ es X.env)).any (·.1)=false:=by rfl)(ht:eval (.Call (.Attribute o m apos) (e::es) [] pos) X.env=(do
   let ov ←eval o X.env;standAt apos.atName;let (f,first) ←holding [ov] (getMethod ov m pl);callWith pos f first (cU pos (aJ (e::es) X.env)) (backToKw pos (keywordEach [] X.env))):=by rfl):
  ED X c E (.Call (.Attribute o m apos) (e::es) [] pos) (vL C m F a0 as):=jVm ho hc hm G (hr.mono hk) A.b hx ha hst hpl ht
theorem m0A(ho:OD X c E o a0.o)(hc:Cls X.K (c C))(hm:Meth X.K (c C) m f)(A:MethAt X.K m q st ps f fd)(G:FnOk X.prog X.w X.K X.mg X.base (CXd X.prog X.w) k f fd ps (spD X.K c 1 F))(hr:Room k0 X.A)(hx:jS (CXd X.prog X.w) X E:=by exact jL)(hk:k<=k0:=by first|decide|omega)(ht:eval (.Call (.Attribute o m apos) [] [] pos) X.env=(do
   let ov ←eval o X.env;standAt apos.atName;let (f,first) ←holding [ov] (getMethod ov m pl);callWith pos f first (cU pos (aJ [] X.env)) (backToKw pos (keywordEach [] X.env))):=by rfl):
  ED X c E (.Call (.Attribute o m apos) [] [] pos) (vL C m F a0 []):=zY5 ho hc hm G (hr.mono hk) A.b hx ht
theorem rA{fI:aV}(ce:IniCls X.K (c C) fI)(A:MethAt X.K m q st ps fI fd)(G:FnOk X.prog X.w X.K X.mg X.base (CXd X.prog X.w) k fI fd ps (vKu (c C) y))(hr:Room k0 X.A)(hm:X.mg x=some (.ref (c C)))(he:EV X c E e s)(hk:k+1<=k0:=by first|decide|omega)(hg:Gl X x:=by exact rfl)(hcalm:X.calm=true:=by rfl)(hex:X.ex=[]:=by rfl)(ht:qK4 X (c C) (fun ea dx H1=>E (.ref (c C)) (some dx) (but1 H1 ea)):=by exact vYx)(hs:aJ [e] X.env=[(false,eval e X.env)]:=by rfl)(hdb:(x == ("__debug__":Str))=false:=by decide):SD X c E (.Raise (some (.Call (.Name x np) [e] [] cpos)) none pos) (jZ C y s):=
 zVz ce G (hr.mono hk) A.b hg hm hcalm hex he ht hs hdb
theorem fA(e1:X.mg y=some (.ref (c j)))(A:FnAt X.K X.mg y st ps f fd)(hr:Room k0 X.A)(G:FnOk X.prog X.w X.K X.mg X.base (CXd X.prog X.w) k f fd ps (spD X.K c n F))(t:FnT X c n tb)(hk:k<=k0:=by first|decide|omega):FnT X c n ((j,F)::tb):=zYu e1 A.m (hr.mono hk) G A.F.kp A.b t
theorem scA{N P:List Str}{sc:Scope}(a:sc.kind=.function :=by rfl)(b:sc.isCoroutine=false:=by rfl)(g:sc.isGenerator=false:=by rfl)(nd:N.Nodup:=by decide +kernel)(pre:List.take P.length N=P:=by rfl)(par:∀x∈P,List.lookup x sc.names=some .local \/List.lookup x sc.names=some .cell :=by decide +kernel)(nf:∀y∈sc.names,y.2≠ .free :=by decide +kernel):FnScope N P sc:=⟨a,b,g,nd,pre,par,nf⟩
theorem sA{i:Nat}{s:SE}{pos' :Pos}(hN:X.N.Nodup)(he:ED X c E e s)(hi:X.N[i]?=some x:=by rfl)(hx:Loc X.env.scope x:=by exact Or.inl rfl)(hs:swapsWith e (some (.Name x pos')) pos.line X.env=pure false:=by rfl)(hf:X.fn x=true\/X.env.scope.names.lookup x=some .local :=by first|exact .inl rfl|exact .inr rfl|assumption):
  SD X c E (.Assign [.Name x pos'] e pos) (sSet i s):=jJc hN hi hx he hs hf
theorem vA{ss:List SV}(ha:OD X c E e o')(hr:VsD X c E es ss)(hs:aJ (e::es) X.env=(false,eval e X.env)::aJ es X.env:=by rfl):VsD X c E (e::es) (oV o' ::ss):=vU ha.val hr hs
theorem oA{os:List Oe}(ha:OD X c E e o')(hr:OsD X c E es os)(hs:aJ (e::es) X.env=(false,eval e X.env)::aJ es X.env:=by rfl):OsD X c E (e::es) (.v (oV o')::os):=qE (od_v ha.val) hr hs
end
theorem faM{mg:Str->Option Value}{h:Heap}{x:Str}{st:Stmt}{ps:List Str}{f:aV}{oc:Value}{od an:Option aV}{osl:Array (Option Value)}{kV doc pm cdv ct:Value}(X:K.In h)(G:h.Ns cG mg)(a:PySem.W.nsIn K cG x=some (some (.ref f)))(l:K.lookup f=some ⟨oc,od,.func (cB x x (j6 st) (jY st) (qW st) .none kV doc pm an cdv ct),osl⟩)(c:PySem.W.codeIn K cdv x=true)(k:bT K (.ref f)=true)(b:∀(kV doc pm:Value) (an:Option aV) (cdv ct:Value) (us:List Value),us.length=ps.length->bindArgs (cB x x (j6 st) (jY st) (qW st) .none kV doc pm an cdv ct) ⟨us,[]⟩=pure (ps.zip us):=by first|exact(fun _ _ _ _ _ _ us hl=>match us,hl with|[_],_=>rfl)|exact(fun _ _ _ _ _ _ us hl=>match us,hl with|[_,_],_=>rfl)|exact(fun _ _ _ _ _ _ us hl=>match us,hl with|[_,_,_],_=>rfl)|exact(fun _ _ _ _ _ _ us hl=>match us,hl with|[_,_,_,_],_=>rfl)):
  FnAt K mg x st ps f (cB x x (j6 st) (jY st) (qW st) .none kV doc pm an cdv ct):=jVe X G a l c k b
end DX
namespace L2
open PySem PySem.Spec PyProof.Rows
variable{prog:bQ}{w:bH}{A:cE}{E Q:Value->aX->Prop}{s:aX}{t t':Bool}{elts:List Expr}{kk:Nat}{pos:Pos}
noncomputable def SqB:Bool->aQ->Hp->aV->List V->Prop
 |true,K,H,a,xs=>SqT K H a xs
 |false,K,H,a,xs=>SqL K H a xs
noncomputable def IsB:Bool->Heap->aV->Array Value->Prop
 |true,h,a,xs=>h.IsTuple a xs
 |false,h,a,xs=>h.IsList a xs
noncomputable def ItB:Bool->Heap->aV->aV->Nat->Prop
 |true,h,i,l,k=>h.IsTupleIter i l k
 |false,h,i,l,k=>h.IsListIter i l k
noncomputable def itO:Bool->aV->Obj
 |true,l=> {cls:=.type "tuple_iterator",data:=.fields #[.ref l,.int 0 0]}
 |false,l=> {cls:=.type "list_iterator",data:=.fields #[.ref l,.int 0 0]}
section
variable{t t' :Bool}{h g:Heap}{a b i l m:aV}{k:Nat}{xs ys:Array Value}
theorem vK6(t:Bool)(hil:l≠i)(xs:Array Value):Feed i l (fun k h=>ItB t h i l k/\IsB t h l xs) (fun k=>xs[k]?):=by
 cases t
 ·exact zZn hil xs
 ·exact vKc hil xs
theorem IsB.lt(p:IsB t h a xs):a<h.objs.size:=by
 cases t <;> (obtain⟨_,e,_⟩:=p;exact aC e)
theorem IsB.push{o:Obj}(p:IsB t h a xs):IsB t (h.push o) a xs:=by
 cases t
 ·exact Heap.IsList.push p _
 ·exact Heap.IsTuple.push p _
theorem ItB.new(e:h.get? i=some (itO t l)):ItB t h i l 0:=by
 cases t <;> exact⟨_,e,rfl,rfl⟩
theorem ItB.obj(p:ItB t h i l k):∃o,h.get? i=some o/\∀v,o.data≠ .cell v:=by
 cases t <;> (obtain⟨o,e,_,d⟩:=p;exact⟨o,e,fun v z=>by rw[d]at z;cases z⟩)
theorem ItB.to(p:ItB t h i l k)(q:∀o,h.get? i=some o->g.get? i=some o):ItB t g i l k:=by
 cases t <;> (obtain⟨o,e,d⟩:=p;exact⟨o,q o e,d⟩)
theorem vXh:(itO t l).isFreed =false:=by cases t <;> rfl
theorem jZo(p:IsB t s.heap l xs)(hQ:Q (.ref s.heap.objs.size) {s with heap:=s.heap.push (itO t l)}):aR (model prog w) A (pyIter (.ref l)) Q E s:=by
 cases t
 ·exact wpAny_pyIter_list p hQ
 ·exact wpAny_pyIter_tuple p hQ
noncomputable abbrev bB(t t' :Bool)(h:Heap)(l m:aV):Heap:=(h.push (itO t l)).push (itO t' m)
noncomputable abbrev bC(t t' :Bool)(h:Heap)(l m:aV):Heap:=(bB t t' h l m).push {cls:=.type "tuple",data:=.seq #[.ref h.objs.size,.ref (h.push (itO t l)).objs.size]}
noncomputable abbrev bD(t t' :Bool)(h:Heap)(l m:aV):Heap:=(bC t t' h l m).push {cls:=.type "tuple",data:=.seq #[.none,.none]}
noncomputable abbrev bE(t t' :Bool)(h:Heap)(l m:aV):Heap:=(bD t t' h l m).push {cls:=.type "zip",data:=.fields #[.none,.bool false,.bool false,.ref (bB t t' h l m).objs.size,.ref (bC t t' h l m).objs.size]}
theorem jWo(t t' :Bool)(l m:aV)(xs ys:Array Value):
  Meets (Builtin.«zip.__new__» ⟨[.type "zip",.ref l,.ref m],[]⟩) (fun _ R s=>IsB t s.heap l xs/\IsB t' s.heap m ys/\R (.ok (.ret (.ref (bD t t' s.heap l m).objs.size))) {s with heap:=bE t t' s.heap l m}):=
 .of_wp fun prog w A R s h=>by
  obtain⟨hp,g,d,tk,os⟩:=s;obtain⟨t1,t2,h⟩:=h;have hsub:=sub_zip;have T1:IsB t (Shared.heap ⟨hp,g,d,tk,os⟩) l xs:=t1;have T2:IsB t' (Shared.heap ⟨hp.push (itO t l),g,d,tk,os⟩) m ys:=IsB.push t2;wp_walk using jZo T1,jZo T2;exact⟨_,rfl,h⟩
theorem jY8(t1:IsB t s.heap l xs)(t2:IsB t' s.heap m ys)(h:∀g,IsZip g (s.heap.objs.size+4) (s.heap.objs.size+2) (s.heap.objs.size+3) .none ->IsPair g (s.heap.objs.size+2) (.ref s.heap.objs.size) (.ref (s.heap.objs.size+1))->
   IsPair g (s.heap.objs.size+3) .none .none ->ItB t g s.heap.objs.size l 0->ItB t' g (s.heap.objs.size+1) m 0->(∀c o,s.heap.get? c=some o->g.get? c=some o)->Q (.ref (s.heap.objs.size+4)) {s with heap:=g}):
  aR (model prog w) A (call (.type "zip") [.ref l,.ref m]) Q E s:=by
 refine callType_new PySem.F.called_zip (by decide) (PySem.F.typeCall_zip_2 _ _) (PySem.F.newCall_zip_2 _ _) (fun obj=>PySem.F.args_object_init_3 obj _ _) PySem.F.entry_zip_new (jWo t t' l m xs ys) ⟨t1,t2,?_⟩;have n1:(s.heap.push (itO t l)).objs.size=s.heap.objs.size+1:=cM ..;have n2:(bB t t' s.heap l m).objs.size=s.heap.objs.size+2:=by rw[cM,n1]
 have n3:(bC t t' s.heap l m).objs.size=s.heap.objs.size+3:=by rw[cM,n2]
 have n4:(bD t t' s.heap l m).objs.size=s.heap.objs.size+4:=by rw[cM,n3]
 have up:∀{h:Heap} {o u:Obj} {c:aV},h.get? c=some u->(h.push o).get? c=some u:=aU _;have w5:(bE t t' s.heap l m).get? (bD t t' s.heap l m).objs.size=some _:=aN _ rfl;have w4:(bE t t' s.heap l m).get? (bC t t' s.heap l m).objs.size=some _:=up (aN _ rfl);have w3:(bE t t' s.heap l m).get? (bB t t' s.heap l m).objs.size=some _:=up (up (aN _ rfl));have w2:(bE t t' s.heap l m).get? (s.heap.push (itO t l)).objs.size=some _:=up (up (up (aN _ vXh)));have w1:(bE t t' s.heap l m).get? s.heap.objs.size=some _:=up (up (up (up (aN _ vXh))));show _/\_;rw[n2,n3,n4]at w5;rw[n1,n2]at w3;rw[n3]at w4;rw[n1]at w2;rw[n4];exact⟨⟨_,w5,rfl⟩,h _ w5 w3 w4 (.new w1) (.new w2) fun c o q=>up (up (up (up (up q))))⟩
end
section
variable{X:Cx}{pins:List (aV×Obj)}{σ:St}{H:Hp}{s:aX}{t:Bool}{a:aV}{xs ys:List V}
theorem Inv.sqB(I:Inv X pins σ H s)(h:SqB t X.K H a xs):∃its:List Value,Vals xs its/\IsB t s.heap a its.toArray:=by
 cases t
 ·obtain⟨its,r,p,_⟩:=I.list h;exact⟨its,r,p.isList⟩
 ·obtain⟨its,r,p,_⟩:=I.tuple h;exact⟨its,r,p⟩
theorem Inv.sqB_inj(I:Inv X pins σ H s)(h:SqB t X.K H a xs)(h' :SqB t X.K H a ys):xs=ys:=by
 cases t
 ·exact I.list_inj h h'
 ·exact I.tuple_inj h h'
end
noncomputable def ItzB(t t' :Bool)(K:aQ)(a b:aV):It:=
 ⟨fun i H=>∃xs ys x y,SqB t K H a xs/\SqB t' K H b ys/\xs[i]?=some x/\ys[i]?=some y,
  fun i H v H' =>∃p,v=.ref p/\H p=none/\∀xs ys x y,SqB t K H a xs->SqB t' K H b ys->xs[i]?=some x->ys[i]?=some y->H' =upd H p (.tup [x,y]),
  fun i H=>∃xs ys,SqB t K H a xs/\SqB t' K H b ys/\(xs.length<=i\/ys.length<=i)⟩
noncomputable def StB(t t' :Bool)(a b z TI TO i1 i2:aV)(i:Nat)(h:Heap):Prop:=IsZip h z TI TO .none /\IsPair h TI (.ref i1) (.ref i2)/\(∃x y,IsPair h TO x y)/\ItB t h i1 a i/\ItB t' h i2 b i
theorem StB.obj{a b z TI TO i1 i2 c:aV}{i:Nat}{h:Heap}(st:StB t t' a b z TI TO i1 i2 i h)(hc:c∈ [z,TI,TO,i1,i2]):∃o,h.get? c=some o/\∀v,o.data≠ .cell v:=by
 obtain⟨hz,hTI,⟨x,y,hTO⟩,h1,h2⟩:=st;have hc' :c=z\/c=TI\/c=TO\/c=i1\/c=i2:=by simpa using hc
 rcases hc' with rfl|rfl|rfl|rfl|rfl
 ·exact⟨_,hz,fun v q=>by cases q⟩
 ·exact⟨_,hTI,fun v q=>by cases q⟩
 ·exact⟨_,hTO,fun v q=>by cases q⟩
 ·exact h1.obj
 ·exact h2.obj
theorem jXr{P:bQ}{K:aQ}(a b z TI TO i1 i2:aV)(D:ZipApart z TI TO i1 i2 a b):
  Turn P w K (.Tuple elts kk pos) (ItzB t t' K a b) [z,TI,TO,i1,i2] z (StB t t' a b z TI TO i1 i2) where
 mem:=by simp
 obj:=fun i h st c hc=>st.obj hc
 keep:=fun i h h' st k=>by
  obtain⟨hz,hTI,⟨x,y,hTO⟩,h1,h2⟩:=st;exact⟨k z (by simp) _ hz,k TI (by simp) _ hTI,⟨x,y,k TO (by simp) _ hTO⟩,h1.to fun o e=>k i1 (by simp) o e,h2.to fun o e=>k i2 (by simp) o e⟩
 item:=by
  intro X hP hw hK hc i pins s σ H E I hf st hg;subst hP hw hK;obtain⟨xs,ys,x,y,hq1,hq2,hx,hy⟩:=hg;obtain⟨its,rv,p1⟩:=I.sqB hq1;obtain⟨its2,rv2,p2⟩:=I.sqB hq2;obtain⟨u,hu,ru⟩:=rv.get hx;obtain⟨v,hv,rvv⟩:=rv2.get hy;have st' :=st;obtain⟨hz,hTI,⟨ta,tb,hTO⟩,h1,h2⟩:=st;refine zVr (vK6 t D.l1i1 its.toArray) (vK6 t' D.l2i2 its2.toArray) D hz hTI hTO ⟨h1,p1⟩ ⟨h2,p2⟩ (x:=u) (y:=v) (by simpa using hu) (by simpa using hv) fun h' a1 a2 a3 a4 a5 hk=>?_
  refine⟨_,rfl,wpAny_letOwnedTupleGo_zip a1 fun h'' hz'' sb=>?_⟩;have nz:s.heap.objs.size≠z:=dR (aC hz);have hk2:∀c o,c∉ [z,TI,TO,i1,i2]->s.heap.get? c=some o->h''.get? c=some o:=fun c o hc e=>by
   simp only[aH,List.not_mem_nil,or_false,not_or]at hc;exact sb.extBut c o hc.1 (hk c o hc.1 hc.2.2.1 hc.2.2.2.1 hc.2.2.2.2 e)
  refine⟨.ref s.heap.objs.size,upd H s.heap.objs.size (.tup [x,y]),I.turnedLaid (t' :=s.toks) hk2 hf (aD _) ⟨zJx,[u,v],.cons ru (.cons rvv .nil),⟨_,sb.extBut _ _ nz a5,rfl,_,rfl⟩⟩,rfl,
   ⟨_,rfl,I.hok.fresh (aD _),fun xs' ys' x' y' e1 e2 e3 e4=>?_⟩,⟨hz'',sb.extBut _ _ D.TIz (hk _ _ D.TIz D.TITO D.TIi1 D.TIi2 hTI),⟨_,_,sb.extBut _ _ D.TOz a2⟩,a3.1.to fun o e=>sb.extBut _ _ D.i1z e,a4.1.to fun o e=>sb.extBut _ _ D.i2z e⟩,fun c hc=>?_⟩
  ·rw [I.sqB_inj e1 hq1,hx] at e3;rw[I.sqB_inj e2 hq2,hy]at e4;cases e3;cases e4;rfl
  ·obtain⟨o,e,_⟩:=st'.obj hc;rw[qM (bW (aC e))];exact(hf c hc).1
 done:=by
  intro X hP hw hK hc i pins s σ H E I hf st hg;subst hP hw hK;obtain⟨xs,ys,hq1,hq2,hend⟩:=hg;obtain⟨its,rv,p1⟩:=I.sqB hq1;obtain⟨its2,rv2,p2⟩:=I.sqB hq2;obtain⟨hz,hTI,⟨ta,tb,hTO⟩,h1,h2⟩:=st;have l1:=rv.length;have l2:=rv2.length;refine zW8 (I.ok.hd hc) (vK6 t D.l1i1 its.toArray) (vK6 t' D.l2i2 its2.toArray) D hz hTI hTO ⟨h1,p1⟩ ⟨h2,p2⟩ ?_ fun h' hk=>⟨rfl,I.turnedAll (t' :=s.toks) (ch:=[z,TI,TO,i1,i2]) (fun c o hc e=>?_) hf⟩
  ·rcases hend with q | q
   ·exact .inl (by simp;omega)
   ·exact .inr (by simp;omega)
  ·simp only [aH,List.not_mem_nil,or_false,not_or] at hc;exact hk c o hc.1 hc.2.2.1 hc.2.2.2.1 hc.2.2.2.2 e
 self:=fun _ _ _ _ _ st h=>wpAny_pyIter_zip st.1 h
noncomputable def jYv(K:aQ)(ta:TA):TI:=fun σ H R=>ta σ H fun vs H1=>∃a b t t' xs ys,vs=[.ref a,.ref b]/\SqB t K H1 a xs/\SqB t' K H1 b ys/\R (ItzB t t' K a b) H1
theorem jQe{X:Cx}{tpos:Pos}{e1 e2:Expr}{ta:TA}{p:Pos}(hg:Gl X "zip")(hm:X.mg "zip"=none)(ha:PA X [e1,e2] ta)(hs:aJ [e1,e2] X.env=[(false,eval e1 X.env),(false,eval e2 X.env)])(hs2:aJ [e2] X.env=[(false,eval e2 X.env)]):PI X (.Tuple elts kk tpos) (.Call (.Name "zip" p) [e1,e2] [] pos) (jYv X.K ta):=by
 intro pins s σ H R I h;refine Call_ (qYh I hg hm Boot.«zip» (dL (thn (ha pos pins s σ H _ I h) fun us s1 ⟨vs,H1,I1,r1,q1⟩=>?_) (by rw[hs,hs2]) (by rw[hs2];rfl)));obtain⟨a,b,t,t',xs,ys,rfl,hx,hy,q⟩:=q1;cases r1 with
 | cons r rr=>
   cases rr with
   | cons r' rr=>
     cases rr;cases r;cases r';obtain⟨its,rv,p1⟩:=I1.sqB hx;obtain⟨its2,rv2,p2⟩:=I1.sqB hy;refine jY8 p1 p2 fun h' hz hTI hTO hi1 hi2 hk=>?_
     refine wpAny_pyIter_zip hz ?_
     refine⟨s1.heap.objs.size+4,[s1.heap.objs.size+4,s1.heap.objs.size+2,s1.heap.objs.size+3,s1.heap.objs.size,s1.heap.objs.size+1],_,_,H1,rfl,I1.kept (t' :=s1.toks) hk,jXr a b _ _ _ _ _ (zipApart_new p1.lt p2.lt),⟨hz,hTI,⟨_,_,hTO⟩,hi1,hi2⟩,fun c hc=>?_,q⟩;have hc' :s1.heap.objs.size<=c:=by
      simp only[aH,List.not_mem_nil,or_false]at hc;rcases hc with e|e|e|e|e <;> rw[e] <;> first|exact aD _|exact Nat.le_add_right _ _
     exact I1.fpOk hc' (I1.hok.fresh hc')
end L2
namespace DX
open PySem L2 PyProof.Rows
section
variable{K:aQ}{c:Nat->aV}{F G:Hp}{a b:aV}{t t' :Bool}{xs ys:List V}{ds es:List D}
theorem qVo(e:Same F G)(h:SqB t K F a xs):SqB t K G a xs:=by
 cases t
 ·exact yV e h
 ·exact e.tup h
theorem zYm(h1:SqB t K F a xs)(h2:SqB t' K F b ys)(k1:DsAt K c F xs ds)(k2:DsAt K c F ys es):ItD K c F (ItzB t t' K a b) (zipD ds es):=by
 intro i H T sm hb;have g1:=qVo vD (qVo sm h1);have g2:=qVo vD (qVo sm h2);refine⟨fun z hz=>?_,fun hi=>⟨xs,ys,g1,g2,by rw[qKc,←k1.len,←k2.len]at hi;omega⟩⟩;obtain⟨d,e,e1,e2,rfl⟩:=zipD_get hz;obtain⟨v,v1,v2⟩:=k1.get e1;obtain⟨u,u1,u2⟩:=k2.get e2;refine⟨⟨xs,ys,v,u,g1,g2,v1,u1⟩,fun x H' y=>?_⟩;obtain⟨p,rfl,hn,y2⟩:=y;rw[y2 xs ys v u g1 g2 v1 u1];exact vXb hn hb (v2.same sm) (u2.same sm)
noncomputable def sqOf:Bool->D->Option (List D)
 |true=>vVy
 |false=>qVl
theorem zQh{u:V}{d:D}(h:DAt K c F u d)(e:sqOf t d=some ds):∃p vs,u=.ref p/\SqB t K F p vs/\DsAt K c F vs ds:=by
 cases t
 ·exact vXf h e
 ·exact zXb h e
theorem jZx{zs:List D}{r:List D}(e:zpA zs=some r):∃x y t t' ds es,zs=[x,y]/\sqOf t x=some ds/\sqOf t' y=some es/\r=zipD ds es:=by
 have k:∀{t t'} {x y:D},((sqOf t x).bind fun ds=>(sqOf t' y).bind fun es=>some (zipD ds es))=some r->∃x' y' t t' ds es,[x,y]=[x',y']/\sqOf t x' =some ds/\sqOf t' y' =some es/\r=zipD ds es:=fun {t t' x y} h=>by
  obtain⟨ds,h1,h⟩:=bnd h;obtain⟨es,h2,h⟩:=bnd h;cases h;exact⟨x,y,t,t',ds,es,rfl,h1,h2,rfl⟩
 match zs,e with
 | [x,y],e=>
   unfold zpA at e;split at e
   ·rename_i h;cases e;exact k (t:=false) (t' :=false) h
   ·split at e
    ·rename_i h;cases e;exact k (t:=true) (t' :=true) h
    ·exact k (t:=true) (t' :=false) e
 |[],e=>cases e
 |[_],e=>cases e
 |_::_::_::_,e=>cases e
end
theorem vJs{X:Cx}{c:Nat->aV}{E:XK}{e1 e2:Expr}{ss:List SV}{p pos tpos:Pos}{elts:List Expr}{kk:Nat}(hg:Gl X "zip")(hm:X.mg "zip"=none)(ha:VsD X c E [e1,e2] ss)(hs:aJ [e1,e2] X.env=[(false,eval e1 X.env),(false,eval e2 X.env)]:=by rfl)(hs2:aJ [e2] X.env=[(false,eval e2 X.env)]:=by rfl):
  ID' X c E (.Tuple elts kk tpos) (.Call (.Name "zip" p) [e1,e2] [] pos) (iL zpA ss):=by
 refine⟨PI.imp (jQe hg hm ha.h hs hs2) fun σ H R=>?_⟩;rintro⟨env,B,W,cf,w⟩;refine qYe cf (qP.mp w) fun r w1 us H1 W1 g=>?_
 obtain⟨ds,e1,w2⟩:=qH w1;have ga:=g.at_;obtain⟨x,y,t,t',ds,es,e2,q1,q2,rfl⟩:=jZx e1;rw[e2]at ga;obtain⟨u,v,rfl,a,b⟩:=ds2 ga;obtain⟨q,vs,rfl,c1,c2⟩:=zQh a q1;obtain⟨q',vs',rfl,c3,c4⟩:=zQh b q2;exact⟨q,q',t,t',_,_,rfl,qVo vD c1,qVo vD c3,w2 _ H1 W1 g.st g.cf (zYm c1 c3 c2 c4)⟩
end DX
namespace X13
open PySem L2 DX RF PyProof.Rows
variable{R:Fn}{k:Nat}
theorem qKm:FnScope ["self","row"] ["self","row"] (qW qQv):=scA
theorem qKe:FnScope ["term","kind"] ["term"] (qW qW0):=scA
theorem vYz:FnScope ["sign"] ["sign"] (qW qYo):=scA
theorem qJ7:FnScope ["row","begin","kind","end"] ["row","begin"] (qW vQr):=scA
theorem yZ:FnScope ["row","words","begin","end"] ["row"] (qW qWv):=scA
theorem qKo:FnScope ["self","row","words"] ["self","row","words"] (qW qQx):=scA
theorem qKn:FnScope ["self"] ["self"] (qW qQw):=scA
theorem yH:FnScope ["self","word"] ["self"] (qW wR):=scA
theorem qY2:FnScope ["self","sign"] ["self","sign"] (qW yU):=scA
theorem vVn:FnScope ["self","sign"] ["self","sign"] (qW qVh):=scA
theorem vXs:FnScope ["word"] ["word"] (qW qW4):=scA
theorem vY0:FnScope ["word"] ["word"] (qW qYp):=scA
theorem vJ5:FnScope ["word"] ["word"] (qW qJr):=scA
theorem qX6:FnScope ["cursor","word"] ["cursor"] (qW qJk):=scA
theorem qJx:FnScope ["cursor","least","most","word"] ["cursor","least","most"] (qW qVf):=scA
theorem qWl:FnScope ["cursor","name"] ["cursor"] (qW qZf):=scA
theorem qZu:FnScope ["cursor","number"] ["cursor"] (qW qQu):=scA
theorem qX7:FnScope ["cursor","close","most","read_one","found"] ["cursor","close","most","read_one"] (qW qJl):=scA
theorem qKl:FnScope ["cursor","things"] ["cursor","things"] (qW qQs):=scA
theorem qWk:FnScope ["cursor","close","read_one","pairs"] ["cursor","close","read_one"] (qW qZd):=scA
theorem vQ9:FnScope ["cursor","parts"] ["cursor"] (qW qYm):=scA
theorem qV8:FnScope ["cursor","top","bottom"] ["cursor"] (qW qJn):=scA
theorem qV6:FnScope ["cursor","term","number"] ["cursor"] (qW qJj):=scA
theorem vVs:FnScope ["cursor","word"] ["cursor","word"] (qW qZg):=scA
theorem vVr:FnScope ["cursor","word"] ["cursor","word"] (qW qZe):=scA
theorem qV7:FnScope ["cursor","word","term"] ["cursor"] (qW qJm):=scA
theorem qVd:FnScope ["cursor","term"] ["cursor"] (qW qZc):=scA
theorem yY:FnScope ["cursor","term"] ["cursor"] (qW qQt):=scA
theorem qQ2:FnScope ["cursor","term","sign"] ["cursor"] (qW qWw):=scA
theorem yL:FnScope ["cursor","term","sign"] ["cursor"] (qW qJi):=scA
theorem vJ4:FnScope ["cursor"] ["cursor"] (qW qJh):=scA
theorem qJf:FnScope ["cursor","name","names"] ["cursor"] (qW qWz):=scA
theorem qKd:FnScope ["cursor","name"] ["cursor"] (qW qWy):=scA
theorem qVe:FnScope ["cursor","rounds","name"] ["cursor"] (qW qZh):=scA
theorem qWj:FnScope ["cursor","kind"] ["cursor"] (qW qZb):=scA
theorem zX:FnScope ["words","deep","deepest","word"] ["words"] (qW yK):=scA
theorem qXw:FnScope ["term","deepest","part"] ["term"] (qW vJj):=scA
theorem qQ3:FnScope ["number","row","words","cursor","found"] ["number","row"] (qW qWx):=scA
theorem qJ4:FnScope ["text","rows","program","number","row","found"] ["text"] (qW vYc):=scA
theorem jI:FnScope ["_law_more","_law_many","_law_names_here","_law_k","_law_word","_law_j","_law_at"] ["_law_more","_law_many"] (qW qJp):=scA
theorem qV9:FnScope ["_law_things","_law_more","_law_at","_law_far"] ["_law_things","_law_more"] (qW qJo):=scA
theorem qVr:FnScope ["_law_things","_law_k"] ["_law_things"] (qW yP):=scA
theorem vVt:FnScope ["_law_parts","_law_fault"] ["_law_parts","_law_fault"] (qW qZj):=scA
theorem xW:FnScope ["_law_many","_law_more","_law_fault","_law_numbers","_law_weights","_law_parts","_law_text","_law_pairs"] ["_law_many","_law_more","_law_fault"] (qW qW1):=scA
theorem wH:FnScope ["_law_many","_law_more","_law_fault","_law_names_here","_law_parts","_law_fields","_law_text"] ["_law_many","_law_more","_law_fault"] (qW qZi):=scA
theorem qJg:FnScope ["_law_many","_law_more","_law_fault","_law_numbers","_law_text"] ["_law_many","_law_more","_law_fault"] (qW qW3):=scA
theorem qV2:FnScope ["_law_many","_law_more","_law_fault","_law_names_here","_law_text","_law_good_here"] ["_law_many","_law_more","_law_fault"] (qW qYn):=scA
theorem qZa:FnScope ["_law_found","_law_due","_law_one","_law_other"] ["_law_found","_law_due"] (qW qJq):=scA
theorem qJy:FnScope ["_law_text","_law_row","e"] ["_law_text","_law_row"] (qW qVg):=scA
theorem vJ:FnScope ["_law_cell","_law_number","_law_many","_law_more","_law_fault","_law_text","_law_good_here","_law_due","_law_ahead"] ["_law_cell"] (qW qW2):=scA
theorem zWa:FnScope ["_law_script","_law_cell"] ["_law_script"] (qW zJe):=scA
set_option genInjectivity false
set_option genSizeOf false
structure Fs(K:aQ)(mg:Str->Option Value)(c:Nat->aV) where
 b0:aV
 c0:aG
 d0:MethAt K "__init__" "NoText.__init__" qQv ["self","row"] b0 c0
 e0:aV
 f0:aG
 g0:MethAt K "__init__" "NoName.__init__" qJz ["self","row"] e0 f0
 h0:aV
 i0:aG
 j0:FnAt K mg "parts_of" qW0 ["term"] h0 i0
 k0:aV
 l0:aG
 m0:FnAt K mg "kind_of" qYo ["sign"] k0 l0
 n0:aV
 o0:aG
 p0:FnAt K mg "end_of" vQr ["row","begin"] n0 o0
 q0:aV
 r0:aG
 s0:FnAt K mg "words_of" qWv ["row"] q0 r0
 t0:aV
 u0:aG
 v0:MethAt K "__init__" "Cursor.__init__" qQx ["self","row","words"] t0 u0
 w0:aV
 x0:aG
 y0:MethAt K "ahead" "Cursor.ahead" qQw ["self"] w0 x0
 z0:aV
 A0:aG
 B0:MethAt K "next_word" "Cursor.next_word" wR ["self"] z0 A0
 C0:aV
 D0:aG
 E0:MethAt K "passed" "Cursor.passed" yU ["self","sign"] C0 D0
 F0:aV
 G0:aG
 H0:MethAt K "need" "Cursor.need" qVh ["self","sign"] F0 G0
 I0:aV
 J0:aG
 K0:FnAt K mg "is_small" qW4 ["word"] I0 J0
 L0:aV
 M0:aG
 N0:FnAt K mg "is_name" qYp ["word"] L0 M0
 O0:aV
 P0:aG
 Q0:FnAt K mg "is_number" qJr ["word"] O0 P0
 R0:aV
 S0:aG
 T0:FnAt K mg "read_name" qJk ["cursor"] R0 S0
 U0:aV
 V0:aG
 W0:FnAt K mg "read_number" qVf ["cursor","least","most"] U0 V0
 X0:aV
 Y0:aG
 Z0:FnAt K mg "read_field" qZf ["cursor"] X0 Y0
 a1:aV
 b1:aG
 c1:FnAt K mg "read_outcome" qQu ["cursor"] a1 b1
 d1:aV
 e1:aG
 f1:FnAt K mg "read_list" qJl ["cursor","close","most","read_one"] d1 e1
 g1:aV
 h1:aG
 i1:FnAt K mg "refuse_alike" qQs ["cursor","things"] g1 h1
 j1:aV
 k1:aG
 l1:FnAt K mg "read_pairs" qZd ["cursor","close","read_one"] j1 k1
 m1:aV
 n1:aG
 p1:FnAt K mg "read_if" qYm ["cursor"] m1 n1
 q1:aV
 r1:aG
 s1:FnAt K mg "read_flip" qJn ["cursor"] q1 r1
 t1:aV
 u1:aG
 v1:FnAt K mg "read_rest" qJj ["cursor"] t1 u1
 w1:aV
 x1:aG
 y1:FnAt K mg "read_built" qZg ["cursor","word"] w1 x1
 z1:aV
 A1:aG
 B1:FnAt K mg "read_named" qZe ["cursor","word"] z1 A1
 C1:aV
 D1:aG
 E1:FnAt K mg "read_head" qJm ["cursor"] C1 D1
 F1:aV
 G1:aG
 H1:FnAt K mg "read_tight" qZc ["cursor"] F1 G1
 I1:aV
 J1:aG
 K1:FnAt K mg "read_product" qQt ["cursor"] I1 J1
 L1:aV
 M1:aG
 N1:FnAt K mg "read_sum" qWw ["cursor"] L1 M1
 O1:aV
 P1:aG
 Q1:FnAt K mg "read_term" qJi ["cursor"] O1 P1
 R1:aV
 S1:aG
 T1:FnAt K mg "read_told" qJh ["cursor"] R1 S1
 U1:aV
 V1:aG
 W1:FnAt K mg "read_def" qWz ["cursor"] U1 V1
 X1:aV
 Y1:aG
 Z1:FnAt K mg "read_let" qWy ["cursor"] X1 Y1
 a2:aV
 b2:aG
 c2:FnAt K mg "read_again" qZh ["cursor"] a2 b2
 d2:aV
 e2:aG
 f2:FnAt K mg "read_words" qZb ["cursor"] d2 e2
 g2:aV
 h2:aG
 i2:FnAt K mg "most_brackets" yK ["words"] g2 h2
 j2:aV
 k2:aG
 l2:FnAt K mg "depth" vJj ["term"] j2 k2
 m2:aV
 n2:aG
 o2:FnAt K mg "read_row" qWx ["number","row"] m2 n2
 p2:aV
 q2:aG
 r2:FnAt K mg "read" vYc ["text"] p2 q2
 s2:aV
 t2:aG
 u2:FnAt K mg "_law_names" qJp ["_law_more","_law_many"] s2 t2
 v2:aV
 w2:aG
 x2:FnAt K mg "_law_twins" qJo ["_law_things","_law_more"] v2 w2
 y2:aV
 z2:aG
 A2:FnAt K mg "_law_alike_two" yP ["_law_things"] y2 z2
 B2:aV
 C2:aG
 D2:FnAt K mg "_law_joined" qZj ["_law_parts","_law_fault"] B2 C2
 E2:aV
 F2:aG
 G2:FnAt K mg "_law_pick" qW1 ["_law_many","_law_more","_law_fault"] E2 F2
 H2:aV
 I2:aG
 J2:FnAt K mg "_law_record" qZi ["_law_many","_law_more","_law_fault"] H2 I2
 K2:aV
 M2:aG
 N2:FnAt K mg "_law_call" qW3 ["_law_many","_law_more","_law_fault"] K2 M2
 O2:aV
 P2:aG
 Q2:FnAt K mg "_law_def" qYn ["_law_many","_law_more","_law_fault"] O2 P2
 R2:aV
 S2:aG
 T2:FnAt K mg "_law_alike" qJq ["_law_found","_law_due"] R2 S2
 U2:aV
 V2:aG
 W2:FnAt K mg "_law_refused" qVg ["_law_text","_law_row"] U2 V2
 X2:aV
 Y2:aG
 Z2:FnAt K mg "_law_good" qW2 ["_law_cell"] X2 Y2
 a3:aV
 b3:aG
 c3:FnAt K mg "law" zJe ["_law_script"] a3 b3
 d3:Cls K (c 9)
 e3:Mk K (c 9) t0
 f3:IniCls K (c 24) e0
 g3:bO K (.ref (c 24)) "row"=some none
 h3:IniCls K (c 23) b0
 i3:bO K (.ref (c 23)) "row"=some none
 j3:mg "Cursor"=some (.ref (c 9))
 k3:mg "FlipError"=some (.ref (c 20))
 l3:mg "Never"=some (.ref (c 22))
 m3:mg "NoName"=some (.ref (c 24))
 n3:mg "NoNumber"=some (.ref (c 27))
 o3:mg "NoOrder"=some (.ref (c 26))
 p3:mg "NoRow"=some (.ref (c 28))
 q3:mg "NoShare"=some (.ref (c 21))
 r3:mg "NoText"=some (.ref (c 23))
 s3:mg "TooMuch"=some (.ref (c 25))
 t3:Meth K (c 9) "ahead" w0
 u3:Meth K (c 9) "need" F0
 v3:Meth K (c 9) "next_word" z0
 w3:Meth K (c 9) "passed" C0
 x3:∀C b,(C,b)∈([(23,false)]:List (Nat×Bool))->ExcKit K (c C)/\bK K (.ref (c C)) (.ref (c 22))=some b
 y3:∀C b,(C,b)∈([(23,false)]:List (Nat×Bool))->ExcKit K (c C)/\bK K (.ref (c C)) (.ref (c 24))=some b
 z3:∀C b,(C,b)∈([(23,false)]:List (Nat×Bool))->ExcKit K (c C)/\bK K (.ref (c C)) (.ref (c 27))=some b
 A3:∀C b,(C,b)∈([(23,false)]:List (Nat×Bool))->ExcKit K (c C)/\bK K (.ref (c C)) (.ref (c 26))=some b
 B3:∀C b,(C,b)∈([(23,false)]:List (Nat×Bool))->ExcKit K (c C)/\bK K (.ref (c C)) (.ref (c 28))=some b
 C3:∀C b,(C,b)∈([(23,false)]:List (Nat×Bool))->ExcKit K (c C)/\bK K (.ref (c C)) (.ref (c 21))=some b
 D3:∀C b,(C,b)∈([(23,true)]:List (Nat×Bool))->ExcKit K (c C)/\bK K (.ref (c C)) (.ref (c 23))=some b
 E3:∀C b,(C,b)∈([(23,false)]:List (Nat×Bool))->ExcKit K (c C)/\bK K (.ref (c C)) (.ref (c 25))=some b
 F3:∀C b,(C,b)∈([(23,true)]:List (Nat×Bool))->ExcKit K (c C)/\bK K (.ref (c C)) (.type "ValueError")=some b
 G3:∀C,([23]:List Nat).contains C=true->PySem.W.exmOne K (.ref (c C)) (.ref (c 20))=some true
 H3:∀C∈([23]:List Nat),ExcKit K (c C)/\PySem.W.hasDictIn K (c C)=true/\bO K (.ref (c C)) "row"=some none
 I3:qZt K c [9] "place"
 J3:qZt K c [9] "row"
 K3:qZt K c [9] "words"
 L3:mg "read_field"=some (.ref (c 32))
 M3:mg "read_name"=some (.ref (c 33))
 N3:mg "read_outcome"=some (.ref (c 31))
 O3:mg "read_term"=some (.ref (c 30))
 P3:mg "ValueError"=none
 Q3:mg "all"=none
 R3:mg "bool"=none
 S3:mg "enumerate"=none
 T3:mg "int"=none
 U3:mg "isinstance"=none
 V3:mg "len"=none
 W3:mg "list"=none
 X3:mg "max"=none
 Y3:mg "range"=none
 Z3:mg "set"=none
 a4:mg "str"=none
 b4:mg "tuple"=none
 c4:mg "zip"=none
 d4:Tok
 e4:mg "MOST_BRACKETS"=some (.int 10 d4)
 f4:Tok
 g4:mg "MOST_DEPTH"=some (.int 10 f4)
 h4:Tok
 i4:mg "MOST_FIGURES"=some (.int 12 h4)
 j4:Tok
 k4:mg "MOST_LETTERS"=some (.int 8 j4)
 l4:Tok
 m4:mg "MOST_NUMBER"=some (.int 999999999999 l4)
 n4:Tok
 o4:mg "MOST_PAIRS"=some (.int 6 n4)
 p4:Tok
 q4:mg "MOST_ROUNDS"=some (.int 30 p4)
 r4:Tok
 s4:mg "MOST_ROWS"=some (.int 40 r4)
 t4:Tok
 u4:mg "MOST_SIGNS"=some (.int 1000 t4)
 v4:Tok
 w4:mg "MOST_TERMS"=some (.int 3 v4)
 x4:Tok
 y4:mg "MOST_WEIGHT"=some (.int 1000000 x4)
 z4:Tok
 A4:mg "MOST_WORDS"=some (.int 60 z4)
 B4:aV
 C4:mg "NO_NAMES"=some (.ref B4)
 D4:∀F,DAt K c F (.ref B4) (.tup [(.str "flip"),(.str "pick"),(.str "if"),(.str "rest")])
section
variable{P:bQ}{w:bH}{K:aQ}{c:Nat->aV}{mg:Str->Option Value}{base:Heap}(S:Fs K mg c)
set_option maxHeartbeats 4000000
theorem vB:FnOk P w K mg base (CXd P w) 1 S.b0 S.c0 ["self","row"] (vKu (c 23) "row"):=iniD S.d0.F qKm S.i3 (fun _ _ _ _ _ _=>zK2 S.h3 (pv 0) (pv 1) rfl) rfl
theorem vKi:FnOk P w K mg base (CXd P w) 1 S.h0 S.i0 ["term"] (spD K c 1 vVl):=fnD S.j0.F qKe fun _ _ _ _ _ _ hr=>(qV (sA (i:=1) qKe.nd (OD.ow (o_ix hr (qQ (pv 0)) qX)))
   (qV (vP (jT (qQ (pv 1)) qJ) (qZ (qU (xH (vA (o_ix hr (qQ (pv 0)) qX) (vA (o_ix hr (qQ (pv 0)) qX) (vA (o_ix hr (qQ (pv 0)) qX) qG)))))) qF)
   (qV (vP (t_in hr (qQ (pv 1)) (od_v (vX (vA qJ (vA qJ qG))))) (qZ (qU (xH (vA (o_ix hr (qQ (pv 0)) qX) (vA (o_ix hr (qQ (pv 0)) qX) qG))))) qF)
   (qV (vP (t_in hr (qQ (pv 1)) (od_v (vX (vA qJ (vA qJ qG))))) (qZ (qU (xH (vA (o_ix hr (qQ (pv 0)) qX) qG)))) qF)
   (qV (vP (jT (qQ (pv 1)) qJ) (qZ (qU (qV1 rfl (Nc:=["name","part"]) (cs:=[]) (qVy rfl (by decide +kernel) (by decide +kernel) (by decide +kernel)) (qWs (OD.val (o_ix hr (qQ (pv 0)) qX))) (fun _ _ _ _=>(qQk rfl (vG (vZ (i:=0) (show List.Nodup (["name","part"]:List Str) by decide +kernel) rfl (Or.inl rfl)) (vG (vZ (i:=1) (show List.Nodup (["name","part"]:List Str) by decide +kernel) rfl (Or.inl rfl)) xP)))) (fun _ _ _ _=>wM) (fun _ _ _ _=>(OD.val (qQ (pv 1))))))) qF)
   (qV (vP (jT (qQ (pv 1)) qJ) (qZ (qU (jXh rfl S.W3 (o_ix hr (qQ (pv 0)) qX)))) qF)
   (qZ (qU (xH qG)))))))))
theorem vZt:FnOk P w K mg base (CXd P w) 1 S.k0 S.l0 ["sign"] (spD K c 1 xZ):=fnD S.m0.F vYz fun _ _ _ _ _ _ hr=>(qV (vP (td_w (qZo (qXu jM qQ9 jM qQ9 qJ (qQ (pv 0)) qJ) (qVs (qXu jM qQ9 jM qQ9 qJ (qQ (pv 0)) qJ)))) (qZ (qU (OD.ow qJ))) qF)
   (qV (vP (qXu jM qQ9 jM qQ9 qJ (qQ (pv 0)) qJ) (qZ (qU (OD.ow qJ))) qF)
   (qV (vP (jT (qQ (pv 0)) qJ) (qZ (qU (OD.ow qJ))) qF)
   (qZ (qU (OD.ow qJ))))))
theorem zY6:FnOk P w K mg base (CXd P w) 2 S.n0 S.o0 ["row","begin"] (spD K c 2 qJd):=fnD S.p0.F qJ7 fun _ _ _ _ _ _ hr=>(qV (sA (i:=2) qJ7.nd (cA (as:=[(.v (oV (oIx (oN 0) (oN 1))))]) S.m0 (vZt S) hr (oA (o_ix hr (qQ (pv 0)) (qQ (pv 1))) qK)))
   (qV (sA (i:=3) qJ7.nd (OD.ow (qVk (qQ (pv 1)) qX)))
   (qV (qVp 100000 bN (td_w (vZ2 (qY4 (qQ (pv 2)) qJ) (vZ2 (t_lt (qQ (pv 3)) (wF rfl S.V3 (qQ (pv 0)))) (vJg (jT (od_e (cA (as:=[(.v (oV (oIx (oN 0) (oN 3))))]) S.m0 (vZt S) hr (oA (o_ix hr (qQ (pv 0)) (qQ (pv 3))) qK))) (qQ (pv 2))))))) (qZ (vYa (i:=3) qJ7.nd rfl (Or.inl rfl) (OD.val qX) vJe (vQf _))))
   (qZ (qU (qQc (pv 3)))))))
theorem vKe:FnOk P w K mg base (CXd P w) 3 S.q0 S.r0 ["row"] (spD K c 1 qQr):=fnD S.s0.F yZ fun _ _ _ _ _ _ hr=>(qV (sA (i:=1) yZ.nd (xH qG))
   (qV (sA (i:=2) yZ.nd (OD.ow qX))
   (qV (qVp 100000 bN (t_lt (qQ (pv 2)) (wF rfl S.V3 (qQ (pv 0)))) (qV (sA (i:=3) yZ.nd (cA (as:=[(.v (oV (oN 0))),(.v (oV (oN 2)))]) S.p0 (zY6 S) hr (oA (qQ (pv 0)) (oA (qQ (pv 2)) qK))))
   (qV (vP (qY4 (o_ix hr (qQ (pv 0)) (qQ (pv 2))) qJ) (qZ (jV (qX1 (qQ (pv 1)) (ed_v (qWb (qQ (pv 0)) (qVz (OD.val (qQ (pv 2)))) (qVz (OD.val (qQ (pv 3))))))))) qF)
   (qZ (sA (i:=2) yZ.nd (OD.ow (qQ (pv 3))))))))
   (qZ (qU (qQc (pv 1)))))))
theorem vVo:FnOk P w K mg base (CXd P w) 1 S.t0 S.u0 ["self","row","words"] (spD K c 3 qQy):=fnD S.v0.F qKo fun _ _ _ _ _ _ hr=>(qV (vYb S.J3 (qQ (pv 0)) (OD.ow (qQ (pv 1))))
   (qV (vYb S.K3 (qQ (pv 0)) (OD.ow (qQ (pv 2))))
   (qZ (vYb S.I3 (qQ (pv 0)) (OD.ow qX)))))
theorem wP:FnOk P w K mg base (CXd P w) 1 S.w0 S.x0 ["self"] (spD K c 1 vC):=fnD S.y0.F qKn fun _ _ _ _ _ _ hr=>(qV (vP (t_lt (xF S.I3 (qQ (pv 0))) (wF rfl S.V3 (xF S.K3 (qQ (pv 0))))) (qZ (qU (OD.ow (o_ix hr (xF S.K3 (qQ (pv 0))) (xF S.I3 (qQ (pv 0))))))) qF)
   (qZ (qU (OD.ow qJ))))
theorem zY:FnOk P w K mg base (CXd P w) 2 S.z0 S.A0 ["self"] (spD K c 1 vW):=fnD S.B0.F yH fun _ _ _ _ _ _ hr=>(qV (sA (i:=1) yH.nd (m0A (C:=9) (a0:=(.b (pOf (oN 0)))) (qK9 (qQ (pv 0))) S.d3 S.t3 S.y0 (wP S) hr))
   (qV (zWb S.I3 (qQ (pv 0)) (OD.val qX) vJe (vQf _))
   (qZ (qU (qQc (pv 1))))))
theorem z9:FnOk P w K mg base (CXd P w) 2 S.C0 S.D0 ["self","sign"] (spD K c 2 qT):=fnD S.E0.F qY2 fun _ _ _ _ _ _ hr=>(qV (vP (qY4 (od_e (m0A (C:=9) (a0:=(.b (pOf (oN 0)))) (qK9 (qQ (pv 0))) S.d3 S.t3 S.y0 (wP S) hr)) (qQ (pv 1))) (qZ (qU (OD.ow qVj))) qF)
   (qV (zWb S.I3 (qQ (pv 0)) (OD.val qX) vJe (vQf _))
   (qZ (qU (OD.ow qVj)))))
theorem vN:FnOk P w K mg base (CXd P w) 4 S.F0 S.G0 ["self","sign"] (spD K c 2 qL):=fnD S.H0.F vVn fun _ _ _ _ _ _ hr=>(qZ (vP (qQ8 (zU (od_e (mA (C:=9) (a0:=(.io 0)) (as:=[(.v (oV (oN 1)))]) (vV (pv 0)) S.d3 S.w3 S.E0 (z9 S) hr (oA (qQ (pv 1)) qK))))) (qZ (rA (C:=23) S.h3 S.d0 (vB S) hr S.r3 (OD.val (xF S.J3 (qQ (pv 0)))))) qF))
theorem vKl:FnOk P w K mg base (CXd P w) 1 S.I0 S.J0 ["word"] (spD K c 1 xO):=fnD S.K0.F vXs fun _ _ _ _ _ _ hr=>(qZ (qU (OD.ow (yX (qZ6 qXc (qZx _) qXc (qZx _) qX (wF rfl S.V3 (qQ (pv 0))) (od_c (vH (v:=.int 8) rfl S.k4 ⟨_,rfl⟩) (fun _=>.int _))) (qVb (jYn rfl rfl S.Q3 (od_e (qV1 rfl (Nc:=["sign"]) (cs:=[]) (qVy rfl (by decide +kernel) (by decide +kernel) (by decide +kernel)) (jW5 (OD.val (qQ (pv 0)))) (fun _ _ _ _=>(vZ (i:=0) (show List.Nodup (["sign"]:List Str) by decide +kernel) rfl (Or.inl rfl))) (fun _ _ _ _=>wM) (fun _ _ _ _=>(OD.val (qZ6 jM qQ9 jM qQ9 qJ (qQ (pv 0)) qJ)))))))))))
theorem vZu:FnOk P w K mg base (CXd P w) 2 S.L0 S.M0 ["word"] (spD K c 1 y9):=fnD S.N0.F vY0 fun _ _ _ _ _ _ hr=>(qZ (qU (OD.ow (yX (od_e (cA (as:=[(.v (oV (oN 0)))]) S.K0 (vKl S) hr (oA (qQ (pv 0)) qK))) (qVb (jQr hr (qQ (pv 0)) (od_c (vH (v:=.ref S.B4) rfl S.C4 rfl) S.D4)))))))
theorem qKk:FnOk P w K mg base (CXd P w) 1 S.O0 S.P0 ["word"] (spD K c 1 wK):=fnD S.Q0.F vJ5 fun _ _ _ _ _ _ hr=>(qZ (qU (OD.ow (yX (qZ6 jM qQ9 jM qQ9 qJ (od_v (qWb (qQ (pv 0)) qXn (qVz (OD.val qX)))) qJ) (yX (o_le (wF rfl S.V3 (qQ (pv 0))) (od_c (vH (v:=.int 12) rfl S.i4 ⟨_,rfl⟩) (fun _=>.int _))) (qVb (jYj (vV3 (qQ (pv 0)) qJ) (qVb (jYm (o_ix hr (qQ (pv 0)) qX) qJ)))))))))
theorem wW:FnOk P w K mg base (CXd P w) 4 S.R0 S.S0 ["cursor"] (spD K c 1 zG):=fnD S.T0.F qX6 fun _ _ _ _ _ _ hr=>(qV (sA (i:=1) qX6.nd (m0A (C:=9) (a0:=(.io 0)) (vV (pv 0)) S.d3 S.v3 S.B0 (zY S) hr))
   (qV (vP (qQ8 (zU (od_e (cA (as:=[(.v (oV (oN 1)))]) S.N0 (vZu S) hr (oA (qQ (pv 1)) qK))))) (qZ (rA (C:=23) S.h3 S.d0 (vB S) hr S.r3 (OD.val (xF S.J3 (qQ (pv 0)))))) qF)
   (qZ (qU (qQc (pv 1))))))
theorem jN:FnOk P w K mg base (CXd P w) 4 S.U0 S.V0 ["cursor","least","most"] (spD K c 3 vY):=fnD S.W0.F qJx fun _ _ _ _ _ _ hr=>(qV (sA (i:=3) qJx.nd (m0A (C:=9) (a0:=(.io 0)) (vV (pv 0)) S.d3 S.v3 S.B0 (zY S) hr))
   (qV (vP (td_w (qZo (qQ8 (zU (od_e (cA (as:=[(.v (oV (oN 3)))]) S.Q0 (qKk S) hr (oA (qQ (pv 3)) qK))))) (qVs (qQ8 (qXu qXc (qZx _) qXc (qZx _) (qQ (pv 1)) (vYf rfl S.T3 (qQ (pv 3))) (qQ (pv 2))))))) (qZ (rA (C:=23) S.h3 S.d0 (vB S) hr S.r3 (OD.val (xF S.J3 (qQ (pv 0)))))) qF)
   (qZ (qU (OD.ow (vYf rfl S.T3 (qQ (pv 3))))))))
theorem qYd(G:FnOk P w K mg base (CXd P w) k S.O1 S.P1 ["cursor"] (spD K c 1 R)):FnOk P w K mg base (CXd P w) (k+5) S.X0 S.Y0 ["cursor"] (spD K c 1 (xB R)):=fnD (k:=k+4) S.Z0.F qWl fun _ _ _ _ _ _ hr=>(qV (sA (i:=1) qWl.nd (cA (as:=[(.io 0)]) S.T0 (wW S) hr (qE (vV (pv 0)) qK)))
   (qV (jV (mA (C:=9) (a0:=(.io 0)) (as:=[(.v (oV (oC (.str ":"))))]) (vV (pv 0)) S.d3 S.u3 S.H0 (vN S) hr (oA qJ qK)))
   (qZ (qU (ed_v (vX (vA (qQ (pv 1)) (vU (ev_e (cA (as:=[(.io 0)]) S.Q1 G hr (qE (vV (pv 0)) qK))) qG))))))))
theorem qJ2:FnOk P w K mg base (CXd P w) 5 S.a1 S.b1 ["cursor"] (spD K c 1 wB):=fnD S.c1.F qZu fun _ _ _ _ _ _ hr=>(qV (sA (i:=1) qZu.nd (cA (as:=[(.io 0),(.v (oV (oC (.int 0)))),(.v (oV (oC (.int 999999999999))))]) S.W0 (jN S) hr (qE (vV (pv 0)) (oA qX (oA (od_c (vH (v:=.int 999999999999) rfl S.m4 ⟨_,rfl⟩) (fun _=>.int _)) qK)))))
   (qV (jV (mA (C:=9) (a0:=(.io 0)) (as:=[(.v (oV (oC (.str ":"))))]) (vV (pv 0)) S.d3 S.u3 S.H0 (vN S) hr (oA qJ qK)))
   (qZ (qU (ed_v (vX (vA (qQ (pv 1)) (vU (ev_e (cA (as:=[(.io 0),(.v (oV (oC (.int 1)))),(.v (oV (oC (.int 1000000))))]) S.W0 (jN S) hr (qE (vV (pv 0)) (oA qX (oA (od_c (vH (v:=.int 1000000) rfl S.y4 ⟨_,rfl⟩) (fun _=>.int _)) qK))))) qG))))))))
theorem qQ5(G:FnOk P w K mg base (CXd P w) k S.O1 S.P1 ["cursor"] (spD K c 1 R)):FnOk P w K mg base (CXd P w) (k+7) S.d1 S.e1 ["cursor","close","most","read_one"] (spD K c 4 (wX R)):=fnD (k:=k+6) S.f1.F qX7 fun _ _ _ _ _ _ hr=>(qV (vP (zU (od_e (mA (C:=9) (a0:=(.io 0)) (as:=[(.v (oV (oN 1)))]) (vV (pv 0)) S.d3 S.w3 S.E0 (z9 S) hr (oA (qQ (pv 1)) qK)))) (qZ (qU (ed_v (vX qG)))) qF)
   (qV (sA (i:=4) qX7.nd (xH (vU (ev_e (vXm (as:=[(.io 0)]) (fA S.O3 S.Q1 hr G (fA S.N3 S.c1 hr (qJ2 S) (fA S.L3 S.Z0 hr (qYd S G) (fA S.M3 S.T0 hr (wW S) zQ9)))) (pv 3) jL (qE (vV (pv 0)) qK))) qG)))
   (qV (qVp 100000 bN (zU (od_e (mA (C:=9) (a0:=(.io 0)) (as:=[(.v (oV (oC (.str ","))))]) (vV (pv 0)) S.d3 S.w3 S.E0 (z9 S) hr (oA qJ qK)))) (qZ (jV (qX1 (qQ (pv 4)) (vXm (as:=[(.io 0)]) (fA S.O3 S.Q1 hr G (fA S.N3 S.c1 hr (qJ2 S) (fA S.L3 S.Z0 hr (qYd S G) (fA S.M3 S.T0 hr (wW S) zQ9)))) (pv 3) jL (qE (vV (pv 0)) qK))))))
   (qV (jV (mA (C:=9) (a0:=(.io 0)) (as:=[(.v (oV (oN 1)))]) (vV (pv 0)) S.d3 S.u3 S.H0 (vN S) hr (oA (qQ (pv 1)) qK)))
   (qV (vP (t_gt (wF rfl S.V3 (qQ (pv 4))) (qQ (pv 2))) (qZ (rA (C:=23) S.h3 S.d0 (vB S) hr S.r3 (OD.val (xF S.J3 (qQ (pv 0)))))) qF)
   (qZ (qU (ed_v (qXl rfl S.b4 (qQ (pv 4)))))))))))
theorem qJ0:FnOk P w K mg base (CXd P w) 3 S.g1 S.h1 ["cursor","things"] (spD K c 2 wU):=fnD S.i1.F qKl fun _ _ _ _ _ _ hr=>(qZ (vP (t_lt (od_v (jZz rfl rfl S.Z3 rfl S.V3 (qQ (pv 1)))) (wF rfl S.V3 (qQ (pv 1)))) (qZ (rA (C:=23) S.h3 S.d0 (vB S) hr S.r3 (OD.val (xF S.J3 (qQ (pv 0)))))) qF))
theorem qYc(G:FnOk P w K mg base (CXd P w) k S.O1 S.P1 ["cursor"] (spD K c 1 R)):FnOk P w K mg base (CXd P w) (k+9) S.j1 S.k1 ["cursor","close","read_one"] (spD K c 3 (yO R)):=fnD (k:=k+8) S.l1.F qWk fun _ _ _ _ _ _ hr=>(qV (sA (i:=3) qWk.nd (cA (as:=[(.io 0),(.v (oV (oN 1))),(.v (oV (oC (.int 6)))),(.v (oV (oN 2)))]) S.f1 (qQ5 S G) hr (qE (vV (pv 0)) (oA (qQ (pv 1)) (oA (od_c (vH (v:=.int 6) rfl S.o4 ⟨_,rfl⟩) (fun _=>.int _)) (oA (qQ (pv 2)) qK))))))
   (qV (vP (jT (wF rfl S.V3 (qQ (pv 3))) qX) (qZ (rA (C:=23) S.h3 S.d0 (vB S) hr S.r3 (OD.val (xF S.J3 (qQ (pv 0)))))) qF)
   (qV (jV (cA (as:=[(.b (pOf (oN 0))),(.v (fzS (compS 1 [] [0] (iV (oV (oN 3))) (gN 0) bTrue (oV (oIx (oN 0) (oC (.int 0)))))))]) S.i1 (qJ0 S) hr (qE (qK9 (qQ (pv 0))) (qE (od_v (ev_e (qV1 rfl (Nc:=["pair"]) (cs:=[]) (qVy rfl (by decide +kernel) (by decide +kernel) (by decide +kernel)) (qWs (OD.val (qQ (pv 3)))) (fun _ _ _ _=>(vZ (i:=0) (show List.Nodup (["pair"]:List Str) by decide +kernel) rfl (Or.inl rfl))) (fun _ _ _ _=>wM) (fun _ _ _ _=>(OD.val (o_ix hr (qQ (pv 0)) qX)))))) qK))))
   (qZ (qU (qQc (pv 3)))))))
theorem zZu(G:FnOk P w K mg base (CXd P w) k S.O1 S.P1 ["cursor"] (spD K c 1 R)):FnOk P w K mg base (CXd P w) (k+9) S.m1 S.n1 ["cursor"] (spD K c 1 (qY1 R)):=fnD (k:=k+8) S.p1.F vQ9 fun _ _ _ _ _ _ hr=>(qV (sA (i:=1) vQ9.nd (cA (as:=[(.io 0),(.v (oV (oC (.str ")")))),(.v (oV (oC (.int 3)))),(.v (oV (oC (.fn 30))))]) S.f1 (qQ5 S G) hr (qE (vV (pv 0)) (oA qJ (oA qX (oA (od_c (vH (v:=.ref (c 30)) rfl S.O3 rfl) (fun _=>.fn 30)) qK))))))
   (qV (vP (t_lt (wF rfl S.V3 (qQ (pv 1))) qX) (qZ (rA (C:=23) S.h3 S.d0 (vB S) hr S.r3 (OD.val (xF S.J3 (qQ (pv 0)))))) qF)
   (qZ (qU (ed_v (vX (vA qJ (vA (o_ix hr (qQ (pv 1)) qX) (vA (o_ix hr (qQ (pv 1)) qX) (vA (o_ix hr (qQ (pv 1)) qX) qG))))))))))
theorem vX3:FnOk P w K mg base (CXd P w) 5 S.q1 S.r1 ["cursor"] (spD K c 1 qJv):=fnD S.s1.F qV8 fun _ _ _ _ _ _ hr=>(qV (sA (i:=1) qV8.nd (cA (as:=[(.io 0),(.v (oV (oC (.int 1)))),(.v (oV (oC (.int 1000000))))]) S.W0 (jN S) hr (qE (vV (pv 0)) (oA qX (oA (od_c (vH (v:=.int 1000000) rfl S.y4 ⟨_,rfl⟩) (fun _=>.int _)) qK)))))
   (qV (jV (mA (C:=9) (a0:=(.io 0)) (as:=[(.v (oV (oC (.str "/"))))]) (vV (pv 0)) S.d3 S.u3 S.H0 (vN S) hr (oA qJ qK)))
   (qV (sA (i:=2) qV8.nd (cA (as:=[(.io 0),(.v (oV (oAdd (oN 1) (oC (.int 1))))),(.v (oV (oC (.int 1000000))))]) S.W0 (jN S) hr (qE (vV (pv 0)) (oA (qVk (qQ (pv 1)) qX) (oA (od_c (vH (v:=.int 1000000) rfl S.y4 ⟨_,rfl⟩) (fun _=>.int _)) qK)))))
   (qV (jV (mA (C:=9) (a0:=(.io 0)) (as:=[(.v (oV (oC (.str ")"))))]) (vV (pv 0)) S.d3 S.u3 S.H0 (vN S) hr (oA qJ qK)))
   (qZ (qU (ed_v (vX (vA qJ (vA (qQ (pv 1)) (vA (qQ (pv 2)) qG)))))))))))
theorem vX1(G:FnOk P w K mg base (CXd P w) k S.O1 S.P1 ["cursor"] (spD K c 1 R)):FnOk P w K mg base (CXd P w) (k+5) S.t1 S.u1 ["cursor"] (spD K c 1 (qJt R)):=fnD (k:=k+4) S.v1.F qV6 fun _ _ _ _ _ _ hr=>(qV (sA (i:=1) qV6.nd (cA (as:=[(.io 0)]) S.Q1 G hr (qE (vV (pv 0)) qK)))
   (qV (jV (mA (C:=9) (a0:=(.io 0)) (as:=[(.v (oV (oC (.str ","))))]) (vV (pv 0)) S.d3 S.u3 S.H0 (vN S) hr (oA qJ qK)))
   (qV (sA (i:=2) qV6.nd (cA (as:=[(.io 0),(.v (oV (oC (.int 1)))),(.v (oV (oC (.int 999999999999))))]) S.W0 (jN S) hr (qE (vV (pv 0)) (oA qX (oA (od_c (vH (v:=.int 999999999999) rfl S.m4 ⟨_,rfl⟩) (fun _=>.int _)) qK)))))
   (qV (jV (mA (C:=9) (a0:=(.io 0)) (as:=[(.v (oV (oC (.str ")"))))]) (vV (pv 0)) S.d3 S.u3 S.H0 (vN S) hr (oA qJ qK)))
   (qZ (qU (ed_v (vX (vA qJ (vA (qQ (pv 1)) (vA (qQ (pv 2)) qG)))))))))))
theorem vWa(G:FnOk P w K mg base (CXd P w) k S.O1 S.P1 ["cursor"] (spD K c 1 R)):FnOk P w K mg base (CXd P w) (k+10) S.w1 S.x1 ["cursor","word"] (spD K c 2 (qZm R)):=fnD (k:=k+9) S.y1.F vVs fun _ _ _ _ _ _ hr=>(qV (jV (mA (C:=9) (a0:=(.io 0)) (as:=[(.v (oV (oC (.str "("))))]) (vV (pv 0)) S.d3 S.u3 S.H0 (vN S) hr (oA qJ qK)))
   (qV (vP (jT (qQ (pv 1)) qJ) (qZ (qU (cA (as:=[(.io 0)]) S.p1 (zZu S G) hr (qE (vV (pv 0)) qK)))) qF)
   (qV (vP (jT (qQ (pv 1)) qJ) (qZ (qU (cA (as:=[(.io 0)]) S.s1 (vX3 S) hr (qE (vV (pv 0)) qK)))) qF)
   (qV (vP (jT (qQ (pv 1)) qJ) (qZ (qU (ed_v (vX (vA qJ (vU (ev_e (cA (as:=[(.io 0),(.v (oV (oC (.str ")")))),(.v (oV (oC (.fn 31))))]) S.l1 (qYc S G) hr (qE (vV (pv 0)) (oA qJ (oA (od_c (vH (v:=.ref (c 31)) rfl S.N3 rfl) (fun _=>.fn 31)) qK))))) qG)))))) qF)
   (qZ (qU (cA (as:=[(.io 0)]) S.v1 (vX1 S G) hr (qE (vV (pv 0)) qK))))))))
theorem vJ9(G:FnOk P w K mg base (CXd P w) k S.O1 S.P1 ["cursor"] (spD K c 1 R)):FnOk P w K mg base (CXd P w) (k+9) S.z1 S.A1 ["cursor","word"] (spD K c 2 (qZl R)):=fnD (k:=k+8) S.B1.F vVr fun _ _ _ _ _ _ hr=>(qV (vP (qQ8 (zU (od_e (cA (as:=[(.v (oV (oN 1)))]) S.N0 (vZu S) hr (oA (qQ (pv 1)) qK))))) (qZ (rA (C:=23) S.h3 S.d0 (vB S) hr S.r3 (OD.val (xF S.J3 (qQ (pv 0)))))) qF)
   (qV (vP (zU (od_e (mA (C:=9) (a0:=(.io 0)) (as:=[(.v (oV (oC (.str "("))))]) (vV (pv 0)) S.d3 S.w3 S.E0 (z9 S) hr (oA qJ qK)))) (qZ (qU (ed_v (vX (vA qJ (vA (qQ (pv 1)) (vU (ev_e (cA (as:=[(.io 0),(.v (oV (oC (.str ")")))),(.v (oV (oC (.int 3)))),(.v (oV (oC (.fn 30))))]) S.f1 (qQ5 S G) hr (qE (vV (pv 0)) (oA qJ (oA (od_c (vH (v:=.int 3) rfl S.w4 ⟨_,rfl⟩) (fun _=>.int _)) (oA (od_c (vH (v:=.ref (c 30)) rfl S.O3 rfl) (fun _=>.fn 30)) qK)))))) qG))))))) qF)
   (qZ (qU (ed_v (vX (vA qJ (vA (qQ (pv 1)) qG))))))))
theorem vX2(G:FnOk P w K mg base (CXd P w) k S.O1 S.P1 ["cursor"] (spD K c 1 R)):FnOk P w K mg base (CXd P w) (k+11) S.C1 S.D1 ["cursor"] (spD K c 1 (qJu R)):=fnD (k:=k+10) S.E1.F qV7 fun _ _ _ _ _ _ hr=>(qV (sA (i:=1) qV7.nd (m0A (C:=9) (a0:=(.io 0)) (vV (pv 0)) S.d3 S.v3 S.B0 (zY S) hr))
   (qV (vP (jT (qQ (pv 1)) qJ) (qV (sA (i:=2) qV7.nd (cA (as:=[(.io 0)]) S.Q1 G hr (qE (vV (pv 0)) qK)))
   (qV (jV (mA (C:=9) (a0:=(.io 0)) (as:=[(.v (oV (oC (.str ")"))))]) (vV (pv 0)) S.d3 S.u3 S.H0 (vN S) hr (oA qJ qK)))
   (qZ (qU (qQc (pv 2)))))) qF)
   (qV (vP (jT (qQ (pv 1)) qJ) (qZ (qU (ed_v (vX (vA qJ (vU (ev_e (cA (as:=[(.io 0),(.v (oV (oC (.str "}")))),(.v (oV (oC (.fn 32))))]) S.l1 (qYc S G) hr (qE (vV (pv 0)) (oA qJ (oA (od_c (vH (v:=.ref (c 32)) rfl S.L3 rfl) (fun _=>.fn 32)) qK))))) qG)))))) qF)
   (qV (vP (t_in hr (qQ (pv 1)) (od_c (vH (v:=.ref S.B4) rfl S.C4 rfl) S.D4)) (qZ (qU (cA (as:=[(.io 0),(.v (oV (oN 1)))]) S.y1 (vWa S G) hr (qE (vV (pv 0)) (oA (qQ (pv 1)) qK))))) qF)
   (qV (vP (zU (od_e (cA (as:=[(.v (oV (oN 1)))]) S.Q0 (qKk S) hr (oA (qQ (pv 1)) qK)))) (qZ (qU (ed_v (vX (vA qJ (vA (vYf rfl S.T3 (qQ (pv 1))) qG)))))) qF)
   (qZ (qU (cA (as:=[(.io 0),(.v (oV (oN 1)))]) S.B1 (vJ9 S G) hr (qE (vV (pv 0)) (oA (qQ (pv 1)) qK))))))))))
theorem qYb(G:FnOk P w K mg base (CXd P w) k S.O1 S.P1 ["cursor"] (spD K c 1 R)):FnOk P w K mg base (CXd P w) (k+12) S.F1 S.G1 ["cursor"] (spD K c 1 (yN R)):=fnD (k:=k+11) S.H1.F qVd fun _ _ _ _ _ _ hr=>(qV (sA (i:=1) qVd.nd (cA (as:=[(.io 0)]) S.E1 (vX2 S G) hr (qE (vV (pv 0)) qK)))
   (qV (qVp 100000 bN (zU (od_e (mA (C:=9) (a0:=(.io 0)) (as:=[(.v (oV (oC (.str "."))))]) (vV (pv 0)) S.d3 S.w3 S.E0 (z9 S) hr (oA qJ qK)))) (qZ (sA (i:=1) qVd.nd (ed_v (vX (vA qJ (vA (qQ (pv 1)) (vU (ev_e (cA (as:=[(.io 0)]) S.T0 (wW S) hr (qE (vV (pv 0)) qK))) qG))))))))
   (qZ (qU (qQc (pv 1))))))
theorem qJ1(G:FnOk P w K mg base (CXd P w) k S.O1 S.P1 ["cursor"] (spD K c 1 R)):FnOk P w K mg base (CXd P w) (k+13) S.I1 S.J1 ["cursor"] (spD K c 1 (xC R)):=fnD (k:=k+12) S.K1.F yY fun _ _ _ _ _ _ hr=>(qV (sA (i:=1) yY.nd (cA (as:=[(.io 0)]) S.H1 (qYb S G) hr (qE (vV (pv 0)) qK)))
   (qV (qVp 100000 bN (zU (od_e (mA (C:=9) (a0:=(.io 0)) (as:=[(.v (oV (oC (.str "*"))))]) (vV (pv 0)) S.d3 S.w3 S.E0 (z9 S) hr (oA qJ qK)))) (qZ (sA (i:=1) yY.nd (ed_v (vX (vA qJ (vA qJ (vA (qQ (pv 1)) (vU (ev_e (cA (as:=[(.io 0)]) S.H1 (qYb S G) hr (qE (vV (pv 0)) qK))) qG)))))))))
   (qZ (qU (qQc (pv 1))))))
theorem vVg(G:FnOk P w K mg base (CXd P w) k S.O1 S.P1 ["cursor"] (spD K c 1 R)):FnOk P w K mg base (CXd P w) (k+14) S.L1 S.M1 ["cursor"] (spD K c 1 (xL R)):=fnD (k:=k+13) S.N1.F qQ2 fun _ _ _ _ _ _ hr=>(qV (sA (i:=1) qQ2.nd (cA (as:=[(.io 0)]) S.K1 (qJ1 S G) hr (qE (vV (pv 0)) qK)))
   (qV (qVp 100000 bN (t_in hr (od_e (m0A (C:=9) (a0:=(.b (pOf (oN 0)))) (qK9 (qQ (pv 0))) S.d3 S.t3 S.y0 (wP S) hr)) (od_v (vX (vA qJ (vA qJ qG))))) (qV (sA (i:=2) qQ2.nd (m0A (C:=9) (a0:=(.io 0)) (vV (pv 0)) S.d3 S.v3 S.B0 (zY S) hr))
   (qZ (sA (i:=1) qQ2.nd (ed_v (vX (vA qJ (vA (qQ (pv 2)) (vA (qQ (pv 1)) (vU (ev_e (cA (as:=[(.io 0)]) S.K1 (qJ1 S G) hr (qE (vV (pv 0)) qK))) qG))))))))))
   (qZ (qU (qQc (pv 1))))))
theorem qQ4:∀h:Nat,FnOk P w K mg base (CXd P w) (15 * h+15) S.O1 S.P1 ["cursor"] (spD K c 1 (zF h))
 | 0=>fnNo
 | h + 1=>by
   have ih:=qQ4 h
   exact FnOk.lv (by omega) (fnD (k:=15 * h+29) S.Q1.F yL fun _ _ _ _ _ _ hr=>(qV (sA (i:=1) yL.nd (cA (as:=[(.io 0)]) S.N1 (vVg S ih) hr (qE (vV (pv 0)) qK)))
    (qV (vP (t_in hr (od_e (m0A (C:=9) (a0:=(.b (pOf (oN 0)))) (qK9 (qQ (pv 0))) S.d3 S.t3 S.y0 (wP S) hr)) (od_v (vX (vA qJ (vA qJ qG))))) (qV (sA (i:=2) yL.nd (m0A (C:=9) (a0:=(.io 0)) (vV (pv 0)) S.d3 S.v3 S.B0 (zY S) hr))
    (qZ (sA (i:=1) yL.nd (ed_v (vX (vA qJ (vA (qQ (pv 2)) (vA (qQ (pv 1)) (vU (ev_e (cA (as:=[(.io 0)]) S.N1 (vVg S ih) hr (qE (vV (pv 0)) qK))) qG))))))))) qF)
    (qZ (qU (qQc (pv 1)))))))
theorem qJs:FnOk P w K mg base (CXd P w) 196 S.R1 S.S1 ["cursor"] (spD K c 1 yW):=fnD S.T1.F vJ4 fun _ _ _ _ _ _ hr=>(qV (jV (mA (C:=9) (a0:=(.io 0)) (as:=[(.v (oV (oC (.str "="))))]) (vV (pv 0)) S.d3 S.u3 S.H0 (vN S) hr (oA qJ qK)))
   (qZ (qU (cA (as:=[(.io 0)]) S.Q1 (qQ4 S 12) hr (qE (vV (pv 0)) qK)))))
theorem vKh:FnOk P w K mg base (CXd P w) 203 S.U1 S.V1 ["cursor"] (spD K c 1 qXa):=fnD S.W1.F qJf fun _ _ _ _ _ _ hr=>(qV (sA (i:=1) qJf.nd (cA (as:=[(.io 0)]) S.T0 (wW S) hr (qE (vV (pv 0)) qK)))
   (qV (jV (mA (C:=9) (a0:=(.io 0)) (as:=[(.v (oV (oC (.str "("))))]) (vV (pv 0)) S.d3 S.u3 S.H0 (vN S) hr (oA qJ qK)))
   (qV (sA (i:=2) qJf.nd (cA (as:=[(.io 0),(.v (oV (oC (.str ")")))),(.v (oV (oC (.int 3)))),(.v (oV (oC (.fn 33))))]) S.f1 (qQ5 S (qQ4 S 12)) hr (qE (vV (pv 0)) (oA qJ (oA (od_c (vH (v:=.int 3) rfl S.w4 ⟨_,rfl⟩) (fun _=>.int _)) (oA (od_c (vH (v:=.ref (c 33)) rfl S.M3 rfl) (fun _=>.fn 33)) qK))))))
   (qV (jV (cA (as:=[(.b (pOf (oN 0))),(.v (oV (oN 2)))]) S.i1 (qJ0 S) hr (qE (qK9 (qQ (pv 0))) (oA (qQ (pv 2)) qK))))
   (qZ (qU (ed_v (vX (vA qJ (vA (qQ (pv 1)) (vA (qQ (pv 2)) (vU (ev_e (cA (as:=[(.io 0)]) S.T1 (qJs S) hr (qE (vV (pv 0)) qK))) qG))))))))))))
theorem vKg:FnOk P w K mg base (CXd P w) 197 S.X1 S.Y1 ["cursor"] (spD K c 1 qW9):=fnD S.Z1.F qKd fun _ _ _ _ _ _ hr=>(qV (sA (i:=1) qKd.nd (cA (as:=[(.io 0)]) S.T0 (wW S) hr (qE (vV (pv 0)) qK)))
   (qZ (qU (ed_v (vX (vA qJ (vA (qQ (pv 1)) (vU (ev_e (cA (as:=[(.io 0)]) S.T1 (qJs S) hr (qE (vV (pv 0)) qK))) qG))))))))
theorem vWb:FnOk P w K mg base (CXd P w) 197 S.a2 S.b2 ["cursor"] (spD K c 1 qZn):=fnD S.c2.F qVe fun _ _ _ _ _ _ hr=>(qV (sA (i:=1) qVe.nd (cA (as:=[(.io 0),(.v (oV (oC (.int 0)))),(.v (oV (oC (.int 30))))]) S.W0 (jN S) hr (qE (vV (pv 0)) (oA qX (oA (od_c (vH (v:=.int 30) rfl S.q4 ⟨_,rfl⟩) (fun _=>.int _)) qK)))))
   (qV (sA (i:=2) qVe.nd (cA (as:=[(.io 0)]) S.T0 (wW S) hr (qE (vV (pv 0)) qK)))
   (qZ (qU (ed_v (vX (vA qJ (vA (qQ (pv 1)) (vA (qQ (pv 2)) (vU (ev_e (cA (as:=[(.io 0)]) S.T1 (qJs S) hr (qE (vV (pv 0)) qK))) qG))))))))))
theorem vJ8:FnOk P w K mg base (CXd P w) 205 S.d2 S.e2 ["cursor"] (spD K c 1 qZk):=fnD S.f2.F qWj fun _ _ _ _ _ _ hr=>(qV (sA (i:=1) qWj.nd (m0A (C:=9) (a0:=(.io 0)) (vV (pv 0)) S.d3 S.v3 S.B0 (zY S) hr))
   (qV (vP (jT (qQ (pv 1)) qJ) (qZ (qU (cA (as:=[(.io 0)]) S.W1 (vKh S) hr (qE (vV (pv 0)) qK)))) qF)
   (qV (vP (jT (qQ (pv 1)) qJ) (qZ (qU (cA (as:=[(.io 0)]) S.Z1 (vKg S) hr (qE (vV (pv 0)) qK)))) qF)
   (qV (vP (jT (qQ (pv 1)) qJ) (qZ (qU (cA (as:=[(.io 0)]) S.c2 (vWb S) hr (qE (vV (pv 0)) qK)))) qF)
   (qV (vP (t_in hr (qQ (pv 1)) (od_v (vX (vA qJ (vA qJ qG))))) (qZ (qU (ed_v (vX (vA (qQ (pv 1)) (vU (ev_e (cA (as:=[(.io 0)]) S.Q1 (qQ4 S 12) hr (qE (vV (pv 0)) qK))) qG)))))) qF)
   (qZ (rA (C:=23) S.h3 S.d0 (vB S) hr S.r3 (OD.val (xF S.J3 (qQ (pv 0)))))))))))
theorem qKq:FnOk P w K mg base (CXd P w) 1 S.g2 S.h2 ["words"] (spD K c 1 jQ):=fnD S.i2.F zX fun _ _ _ _ _ _ hr=>(qV (sA (i:=1) zX.nd (OD.ow qX))
   (qV (sA (i:=2) zX.nd (OD.ow qX))
   (qV (qZ1 bN rfl (qWs (OD.val (qQ (pv 0)))) (vZ (i:=3) zX.nd rfl (Or.inl rfl)) (qV (vP (t_in hr (qQ (pv 3)) (od_v (vX (vA qJ (vA qJ qG))))) (qZ (vYa (i:=1) zX.nd rfl (Or.inl rfl) (OD.val qX) vJe (vQf _))) (qZ (vP (t_in hr (qQ (pv 3)) (od_v (vX (vA qJ (vA qJ qG))))) (qZ (vYa (i:=1) zX.nd rfl (Or.inl rfl) (OD.val qX) jW3 (vQf _))) qF)))
   (qZ (sA (i:=2) zX.nd (OD.ow (zWj rfl rfl S.X3 (qQ (pv 2)) (qQ (pv 1))))))))
   (qZ (qU (qQc (pv 2)))))))
theorem zVi:∀h:Nat,FnOk P w K mg base (CXd P w) (1 * h+2) S.j2 S.k2 ["term"] (spD K c 1 (qQ1 h))
 | 0=>fnNo
 | h + 1=>by
   have ih:=zVi h
   exact FnOk.lv (by omega) (fnD (k:=1 * h+2) S.l2.F qXw fun _ _ _ _ _ _ hr=>(qV (sA (i:=1) qXw.nd (OD.ow qX))
    (qV (qZ1 bN rfl (qWs (ev_e (cA (as:=[(.v (oV (oN 0)))]) S.j0 (vKi S) hr (oA (qQ (pv 0)) qK)))) (vZ (i:=2) qXw.nd rfl (Or.inl rfl)) (qZ (sA (i:=1) qXw.nd (OD.ow (zWj rfl rfl S.X3 (qQ (pv 1)) (od_e (vJw (as:=[(.v (oV (oN 2)))]) ih (hr.mono (by omega)) rfl S.l2.m S.l2.F.kp S.l2.b jL (oA (qQ (pv 2)) qK))))))))
    (qZ (qU (OD.ow (qVk (qQ (pv 1)) qX)))))))
theorem vKf:FnOk P w K mg base (CXd P w) 207 S.m2 S.n2 ["number","row"] (spD K c 2 vF):=fnD S.o2.F qQ3 fun _ _ _ _ _ _ hr=>(qV (vP (t_gt (wF rfl S.V3 (qQ (pv 1))) (od_c (vH (v:=.int 1000) rfl S.u4 ⟨_,rfl⟩) (fun _=>.int _))) (qZ (rA (C:=23) S.h3 S.d0 (vB S) hr S.r3 (OD.val (qQ (pv 0))))) qF)
   (qV (sA (i:=2) qQ3.nd (cA (as:=[(.v (oV (oN 1)))]) S.s0 (vKe S) hr (oA (qQ (pv 1)) qK)))
   (qV (vP (td_w (qZo (t_gt (wF rfl S.V3 (qQ (pv 2))) (od_c (vH (v:=.int 60) rfl S.A4 ⟨_,rfl⟩) (fun _=>.int _))) (qVs (t_gt (od_e (cA (as:=[(.v (oV (oN 2)))]) S.i2 (qKq S) hr (oA (qQ (pv 2)) qK))) (od_c (vH (v:=.int 10) rfl S.e4 ⟨_,rfl⟩) (fun _=>.int _)))))) (qZ (rA (C:=23) S.h3 S.d0 (vB S) hr S.r3 (OD.val (qQ (pv 0))))) qF)
   (qV (sA (i:=3) qQ3.nd (jVn (C:=9) (as:=[(.v (oV (oN 0))),(.v (oV (oN 2)))]) S.e3 (vVo S) (hr.mono (by decide)) rfl S.j3 S.v0.b jL (oA (qQ (pv 0)) (oA (qQ (pv 2)) qK))))
   (qV (sA (i:=4) qQ3.nd (cA (as:=[(.io 3)]) S.f2 (vJ8 S) hr (qE (vV (pv 3)) qK)))
   (qV (vP (td_w (qZo (qY4 (od_e (m0A (C:=9) (a0:=(.b (pOf (oN 3)))) (qK9 (qQ (pv 3))) S.d3 S.t3 S.y0 (wP S) hr)) qJ) (qVs (t_gt (od_e (cA (as:=[(.v (oV (oIx (oN 4) (o1 negD (oC (.int 1))))))]) S.l2 (zVi S 62) hr (oA (o_ix hr (qQ (pv 4)) (jYl qX)) qK))) (od_c (vH (v:=.int 10) rfl S.g4 ⟨_,rfl⟩) (fun _=>.int _)))))) (qZ (rA (C:=23) S.h3 S.d0 (vB S) hr S.r3 (OD.val (qQ (pv 0))))) qF)
   (qZ (qU (qQc (pv 4))))))))))
theorem zW4:FnOk P w K mg base (CXd P w) 209 S.p2 S.q2 ["text"] (spD K c 1 wN):=fnD S.r2.F qJ4 fun _ _ _ _ _ _ hr=>(qV (sA (i:=1) qJ4.nd (jVr (qQ (pv 0)) ⟨rfl,rfl,rfl,rfl⟩))
   (qV (sA (i:=2) qJ4.nd (xH qG))
   (qV (qZ1 bN rfl (vJt rfl S.S3 (vA (qQ (pv 1)) qG)) (qQk rfl (vG (vZ (i:=3) qJ4.nd rfl (Or.inl rfl)) (vG (vZ (i:=4) qJ4.nd rfl (Or.inl rfl)) xP))) (qV (vP (jT (qQ (pv 3)) (od_c (vH (v:=.int 40) rfl S.s4 ⟨_,rfl⟩) (fun _=>.int _))) (qZ (rA (C:=23) S.h3 S.d0 (vB S) hr S.r3 (OD.val (qQ (pv 3))))) qF)
   (qV (sA (i:=5) qJ4.nd (cA (as:=[(.v (oV (oN 3))),(.v (oV (oN 4)))]) S.o2 (vKf S) hr (oA (qQ (pv 3)) (oA (qQ (pv 4)) qK))))
   (qV (vP (qY4 (vV3 (o_ix hr (qQ (pv 5)) qX) qJ) (vV3 (qQ (pv 3)) (jZg (wF rfl S.V3 (qQ (pv 1))) qX))) (qZ (rA (C:=23) S.h3 S.d0 (vB S) hr S.r3 (OD.val (qQ (pv 3))))) qF)
   (qZ (jV (qX1 (qQ (pv 2)) (OD.ow (qQ (pv 5))))))))))
   (qZ (qU (qQc (pv 2)))))))
theorem qKi:FnOk P w K mg base (CXd P w) 1 S.s2 S.t2 ["_law_more","_law_many"] (spD K c 2 wY):=fnD S.u2.F jI fun _ _ _ _ _ _ hr=>(qV (sA (i:=2) jI.nd (xH qG))
   (qV (qZ1 bN rfl (yS rfl S.Y3 (vA (qQ (pv 1)) qG)) (vZ (i:=3) jI.nd rfl (Or.inl rfl)) (qV (sA (i:=4) jI.nd (OD.ow qJ))
   (qV (qZ1 bN rfl (yS rfl S.Y3 (vA (wS (qQ (pv 0)) qX) qG)) (vZ (i:=5) jI.nd rfl (Or.inl rfl)) (qZ (sA (i:=4) jI.nd (OD.ow (jR (qQ (pv 4)) (o_ix hr qJ (wS (qXd (qQ (pv 0)) (qVk (qQ (pv 5)) qX)) qX)))))))
   (qV (sA (i:=6) jI.nd (OD.ow (wS (qXd (qQ (pv 0)) qX) (qVk (wF rfl S.V3 (qQ (pv 4))) qX))))
   (qZ (jV (qX1 (qQ (pv 2)) (OD.ow (jR (jR (od_v (qWb (qQ (pv 4)) qXn (qVz (OD.val (qQ (pv 6)))))) (o_ix hr qJ (qQ (pv 3)))) (od_v (qWb (qQ (pv 4)) (qVz (OD.val (qQ (pv 6)))) qXn)))))))))))
   (qZ (qU (qQc (pv 2))))))
theorem qQ6:FnOk P w K mg base (CXd P w) 1 S.v2 S.w2 ["_law_things","_law_more"] (spD K c 2 v8):=fnD S.x2.F qV9 fun _ _ _ _ _ _ hr=>(qV (vP (td_w (vZ2 (t_gt (wF rfl S.V3 (qQ (pv 0))) qX) (vJg (jT (wS (qQ (pv 1)) qX) qX)))) (qV (sA (i:=2) qV9.nd (OD.ow (wS (qXd (qQ (pv 1)) qX) (wF rfl S.V3 (qQ (pv 0))))))
   (qV (sA (i:=3) qV9.nd (OD.ow (qVk qX (wS (qXd (qQ (pv 1)) qX) (jZg (wF rfl S.V3 (qQ (pv 0))) qX)))))
   (qZ (zKm (qQ (pv 0)) (qQ (pv 2)) (OD.ow (o_ix hr (qQ (pv 0)) (wS (qVk (qQ (pv 2)) (qQ (pv 3))) (wF rfl S.V3 (qQ (pv 0)))))))))) qF)
   (qZ (qU (qQc (pv 0)))))
theorem yB:FnOk P w K mg base (CXd P w) 1 S.y2 S.z2 ["_law_things"] (spD K c 1 zV):=fnD S.A2.F qVr fun _ _ _ _ _ _ hr=>(qV (qZ1 bN rfl (yS rfl S.Y3 (vA (wF rfl S.V3 (qQ (pv 0))) qG)) (vZ (i:=1) qVr.nd rfl (Or.inl rfl)) (qZ (vP (t_in hr (o_ix hr (qQ (pv 0)) (qQ (pv 1))) (od_e (vXl (qQ (pv 0)) qXn (qVz (OD.val (qQ (pv 1))))))) (qZ (qU (OD.ow qVj))) qF)))
   (qZ (qU (OD.ow qVj))))
theorem yM:FnOk P w K mg base (CXd P w) 1 S.B2 S.C2 ["_law_parts","_law_fault"] (spD K c 2 vM):=fnD S.D2.F vVt fun _ _ _ _ _ _ hr=>(qV (vP (jT (qQ (pv 1)) qX) (qZ (qU (OD.ow (jR qJ (vQi (qQ (pv 0)) ⟨rfl,rfl,rfl,rfl⟩))))) qF)
   (qV (vP (jT (qQ (pv 1)) qX) (qZ (qU (OD.ow (jR (vQi (qQ (pv 0)) ⟨rfl,rfl,rfl,rfl⟩) qJ)))) qF)
   (qV (vP (jT (qQ (pv 1)) qX) (qZ (qU (OD.ow (vQi (qQ (pv 0)) ⟨rfl,rfl,rfl,rfl⟩)))) qF)
   (qV (vP (jT (qQ (pv 1)) qX) (qZ (qU (OD.ow (vQi (qQ (pv 0)) ⟨rfl,rfl,rfl,rfl⟩)))) qF)
   (qZ (qU (OD.ow (vQi (qQ (pv 0)) ⟨rfl,rfl,rfl,rfl⟩))))))))
theorem vKj:FnOk P w K mg base (CXd P w) 2 S.E2 S.F2 ["_law_many","_law_more","_law_fault"] (spD K c 3 xM):=fnD S.G2.F xW fun _ _ _ _ _ _ hr=>(qV (sA (i:=3) xW.nd (qX0 (t:=pOf (oN 1)) (qQ6 S) (hr.mono (by decide)) rfl S.x2.m S.x2.F.kp S.x2.b jL (qV1 rfl (Nc:=["_law_k","_law_more"]) (cs:=[(1,1)]) (zJs (cl:=[("_law_more",_)]) [(1,1)] [(".0",.local),("_law_k",.local),("_law_more",.cell)] ["_law_more"] rfl rfl rfl rfl (by decide +kernel) (by decide +kernel) ⟨rfl,trivial⟩ (by decide +kernel) ⟨⟨_,rfl,rfl,rfl,rfl⟩,trivial⟩) (yS rfl S.Y3 (vA (qQ (pv 0)) qG)) (fun _ _ _ _=>(vZ (i:=0) (show List.Nodup (["_law_k","_law_more"]:List Str) by decide +kernel) rfl (Or.inl rfl))) (fun _ _ _ _=>wM) (fun _ _ _ _=>(OD.val (wS (qVk (vWm (qQ (pv 1)) qX) (vWm qX (qQ (pv 0)))) (vWl qX qX))))) (qQ (pv 1))))
   (qV (qXm (i:=4) rfl xW.nd rfl (Or.inl rfl) (Nc:=["_law_k","_law_more"]) (cs:=[(1,1)]) (zJs (cl:=[("_law_more",_)]) [(1,1)] [(".0",.local),("_law_k",.local),("_law_more",.cell)] ["_law_more"] rfl rfl rfl rfl (by decide +kernel) (by decide +kernel) ⟨rfl,trivial⟩ (by decide +kernel) ⟨⟨_,rfl,rfl,rfl,rfl⟩,trivial⟩) (yS rfl S.Y3 (vA (qQ (pv 0)) qG)) (fun _ _ _ _=>(vZ (i:=0) (show List.Nodup (["_law_k","_law_more"]:List Str) by decide +kernel) rfl (Or.inl rfl))) (fun _ _ _ _=>wM) (fun _ _ _ _=>(OD.val (qVk qX (wS (qVk (qQ (pv 1)) (vWm qX (qQ (pv 0)))) (vWl qX qX))))))
   (qV (qXm (i:=5) rfl xW.nd rfl (Or.inl rfl) (Nc:=["_law_one","_law_other"]) (cs:=[]) (qVy rfl (by decide +kernel) (by decide +kernel) (by decide +kernel)) (vJs rfl S.c4 (vA (qQ (pv 3)) (vA (qQ (pv 4)) qG))) (fun _ _ _ _=>(qQk rfl (vG (vZ (i:=0) (show List.Nodup (["_law_one","_law_other"]:List Str) by decide +kernel) rfl (Or.inl rfl)) (vG (vZ (i:=1) (show List.Nodup (["_law_one","_law_other"]:List Str) by decide +kernel) rfl (Or.inl rfl)) xP)))) (fun _ _ _ _=>wM) (fun _ _ _ _=>(OD.val (jR (jR (vKy rfl S.a4 (qQ (pv 0))) qJ) (vKy rfl S.a4 (qQ (pv 1)))))))
   (qV (sA (i:=6) xW.nd (OD.ow (jR (jR qJ (od_e (cA (as:=[(.v (oV (oN 5))),(.v (oV (oN 2)))]) S.D2 (yM S) hr (oA (qQ (pv 5)) (oA (qQ (pv 2)) qK))))) qJ)))
   (qV (qXm (i:=7) rfl xW.nd rfl (Or.inl rfl) (Nc:=["_law_one","_law_other"]) (cs:=[]) (qVy rfl (by decide +kernel) (by decide +kernel) (by decide +kernel)) (vJs rfl S.c4 (vA (qQ (pv 3)) (vA (qQ (pv 4)) qG))) (fun _ _ _ _=>(qQk rfl (vG (vZ (i:=0) (show List.Nodup (["_law_one","_law_other"]:List Str) by decide +kernel) rfl (Or.inl rfl)) (vG (vZ (i:=1) (show List.Nodup (["_law_one","_law_other"]:List Str) by decide +kernel) rfl (Or.inl rfl)) xP)))) (fun _ _ _ _=>wM) (fun _ _ _ _=>(vX (vA (qQ (pv 0)) (vA (qQ (pv 1)) qG)))))
   (qZ (qU (ed_v (vX (vA (qQ (pv 6)) (vA (yX (qZ6 qXc (qZx _) qXc (qZx _) qX (qQ (pv 0)) qX) (qVb (vQh (od_e (cA (as:=[(.v (oV (oN 3)))]) S.A2 (yB S) hr (oA (qQ (pv 3)) qK)))))) (vU (ev_e (xH (vU (vX (vA qJ (vU (vX (vA qJ (vU (qXl rfl S.b4 (qQ (pv 7))) qG))) qG))) qG))) qG))))))))))))
theorem vWc:FnOk P w K mg base (CXd P w) 2 S.H2 S.I2 ["_law_many","_law_more","_law_fault"] (spD K c 3 wD):=fnD S.J2.F wH fun _ _ _ _ _ _ hr=>(qV (sA (i:=3) wH.nd (qX0 (t:=pOf (oN 1)) (qQ6 S) (hr.mono (by decide)) rfl S.x2.m S.x2.F.kp S.x2.b jL (cA (as:=[(.v (oV (oN 1))),(.v (oV (oN 0)))]) S.u2 (qKi S) hr (oA (qQ (pv 1)) (oA (qQ (pv 0)) qK))) (qQ (pv 1))))
   (qV (qXm (i:=4) rfl wH.nd rfl (Or.inl rfl) (Nc:=["_law_k","_law_one"]) (cs:=[]) (qVy rfl (by decide +kernel) (by decide +kernel) (by decide +kernel)) (vJt rfl S.S3 (vA (qQ (pv 3)) qG)) (fun _ _ _ _=>(qQk rfl (vG (vZ (i:=0) (show List.Nodup (["_law_k","_law_one"]:List Str) by decide +kernel) rfl (Or.inl rfl)) (vG (vZ (i:=1) (show List.Nodup (["_law_k","_law_one"]:List Str) by decide +kernel) rfl (Or.inl rfl)) xP)))) (fun _ _ _ _=>wM) (fun _ _ _ _=>(OD.val (jR (jR (qQ (pv 1)) qJ) (vKy rfl S.a4 (qQ (pv 0)))))))
   (qV (qXm (i:=5) rfl wH.nd rfl (Or.inl rfl) (Nc:=["_law_k","_law_one"]) (cs:=[]) (qVy rfl (by decide +kernel) (by decide +kernel) (by decide +kernel)) (vJt rfl S.S3 (vA (qQ (pv 3)) qG)) (fun _ _ _ _=>(qQk rfl (vG (vZ (i:=0) (show List.Nodup (["_law_k","_law_one"]:List Str) by decide +kernel) rfl (Or.inl rfl)) (vG (vZ (i:=1) (show List.Nodup (["_law_k","_law_one"]:List Str) by decide +kernel) rfl (Or.inl rfl)) xP)))) (fun _ _ _ _=>wM) (fun _ _ _ _=>(vX (vA (qQ (pv 1)) (vU (vX (vA qJ (vA (qQ (pv 0)) qG))) qG)))))
   (qV (sA (i:=6) wH.nd (OD.ow (jR (jR qJ (od_e (cA (as:=[(.v (oV (oN 4))),(.v (oV (oN 2)))]) S.D2 (yM S) hr (oA (qQ (pv 4)) (oA (qQ (pv 2)) qK))))) qJ)))
   (qZ (qU (ed_v (vX (vA (qQ (pv 6)) (vA (yX (qZ6 qXc (qZx _) qXc (qZx _) qX (qQ (pv 0)) qX) (qVb (vQh (od_e (cA (as:=[(.v (oV (oN 3)))]) S.A2 (yB S) hr (oA (qQ (pv 3)) qK)))))) (vU (ev_e (xH (vU (vX (vA qJ (vU (vX (vA qJ (vU (qXl rfl S.b4 (qQ (pv 5))) qG))) qG))) qG))) qG)))))))))))
theorem vKk:FnOk P w K mg base (CXd P w) 2 S.K2 S.M2 ["_law_many","_law_more","_law_fault"] (spD K c 3 xN):=fnD S.N2.F qJg fun _ _ _ _ _ _ hr=>(qV (sA (i:=3) qJg.nd (qX0 (t:=pOf (oN 1)) (qQ6 S) (hr.mono (by decide)) rfl S.x2.m S.x2.F.kp S.x2.b jL (qV1 rfl (Nc:=["_law_k","_law_more"]) (cs:=[(1,1)]) (zJs (cl:=[("_law_more",_)]) [(1,1)] [(".0",.local),("_law_k",.local),("_law_more",.cell)] ["_law_more"] rfl rfl rfl rfl (by decide +kernel) (by decide +kernel) ⟨rfl,trivial⟩ (by decide +kernel) ⟨⟨_,rfl,rfl,rfl,rfl⟩,trivial⟩) (yS rfl S.Y3 (vA (qQ (pv 0)) qG)) (fun _ _ _ _=>(vZ (i:=0) (show List.Nodup (["_law_k","_law_more"]:List Str) by decide +kernel) rfl (Or.inl rfl))) (fun _ _ _ _=>wM) (fun _ _ _ _=>(OD.val (wS (qVk (qQ (pv 1)) (vWm qX (qQ (pv 0)))) (vWl qX qX))))) (qQ (pv 1))))
   (qV (sA (i:=4) qJg.nd (OD.ow (jR (jR qJ (od_e (cA (as:=[(.v (fzS (compS 1 [] [0] (iV (oV (oN 3))) (gN 0) bTrue (oV (oL strD [(oN 0)]))))),(.v (oV (oN 2)))]) S.D2 (yM S) hr (qE (od_v (ev_e (qV1 rfl (Nc:=["_law_one"]) (cs:=[]) (qVy rfl (by decide +kernel) (by decide +kernel) (by decide +kernel)) (qWs (OD.val (qQ (pv 3)))) (fun _ _ _ _=>(vZ (i:=0) (show List.Nodup (["_law_one"]:List Str) by decide +kernel) rfl (Or.inl rfl))) (fun _ _ _ _=>wM) (fun _ _ _ _=>(OD.val (vKy rfl S.a4 (qQ (pv 0)))))))) (oA (qQ (pv 2)) qK))))) qJ)))
   (qZ (qU (ed_v (vX (vA (qQ (pv 4)) (vA (o_le (qQ (pv 0)) qX) (vU (ev_e (xH (vU (vX (vA qJ (vU (vX (vA qJ (vA qJ (vU (qXl rfl S.b4 (od_e (qV1 rfl (Nc:=["_law_one"]) (cs:=[]) (qVy rfl (by decide +kernel) (by decide +kernel) (by decide +kernel)) (qWs (OD.val (qQ (pv 3)))) (fun _ _ _ _=>(vZ (i:=0) (show List.Nodup (["_law_one"]:List Str) by decide +kernel) rfl (Or.inl rfl))) (fun _ _ _ _=>wM) (fun _ _ _ _=>(vX (vA qJ (vA (qQ (pv 0)) qG))))))) qG)))) qG))) qG))) qG)))))))))
theorem zZv:FnOk P w K mg base (CXd P w) 2 S.O2 S.P2 ["_law_many","_law_more","_law_fault"] (spD K c 3 y8):=fnD S.Q2.F qV2 fun _ _ _ _ _ _ hr=>(qV (sA (i:=3) qV2.nd (qX0 (t:=pOf (oN 1)) (qQ6 S) (hr.mono (by decide)) rfl S.x2.m S.x2.F.kp S.x2.b jL (cA (as:=[(.v (oV (oN 1))),(.v (oV (oN 0)))]) S.u2 (qKi S) hr (oA (qQ (pv 1)) (oA (qQ (pv 0)) qK))) (qQ (pv 1))))
   (qV (sA (i:=4) qV2.nd (OD.ow (jR (jR qJ (od_e (cA (as:=[(.v (oV (oN 3))),(.v (oV (oN 2)))]) S.D2 (yM S) hr (oA (qQ (pv 3)) (oA (qQ (pv 2)) qK))))) qJ)))
   (qV (sA (i:=5) qV2.nd (OD.ow (yX (o_le (qQ (pv 0)) qX) (qVb (vQh (od_e (cA (as:=[(.v (oV (oN 3)))]) S.A2 (yB S) hr (oA (qQ (pv 3)) qK))))))))
   (qZ (qU (ed_v (vX (vA (qQ (pv 4)) (vA (qQ (pv 5)) (vU (ev_e (xH (vU (vX (vA qJ (vA qJ (vU (qXl rfl S.b4 (qQ (pv 3))) (vU (vX (vA qJ (vA qX qG))) qG))))) (vU (vX (vA qJ (vU (vX (vA qJ (vA qX qG))) qG))) qG)))) qG))))))))))
theorem qKj:∀h:Nat,FnOk P w K mg base (CXd P w) (1 * h+1) S.R2 S.S2 ["_law_found","_law_due"] (spD K c 2 (zQ h))
 | 0=>fnNo
 | h + 1=>by
   have ih:=qKj h
   exact FnOk.lv (by omega) (fnD (k:=1 * h+1) S.T2.F qZa fun _ _ _ _ _ _ hr=>(qV (vP (zU (qQh (n:="str") (by decide) rfl S.U3 Boot.«isinstance» rfl S.a4 Boot.«str» (qQ (pv 1)))) (qZ (qU (OD.ow (yX (qQh (n:="str") (by decide) rfl S.U3 Boot.«isinstance» rfl S.a4 Boot.«str» (qQ (pv 0))) (qVb (vV3 (qQ (pv 0)) (qQ (pv 1)))))))) qF)
    (qV (vP (zU (qQh (n:="int") (by decide) rfl S.U3 Boot.«isinstance» rfl S.T3 Boot.«int» (qQ (pv 1)))) (qZ (qU (OD.ow (yX (qQh (n:="int") (by decide) rfl S.U3 Boot.«isinstance» rfl S.T3 Boot.«int» (qQ (pv 0))) (yX (vQh (qQh (n:="bool") (by decide) rfl S.U3 Boot.«isinstance» rfl S.R3 Boot.«bool» (qQ (pv 0)))) (qVb (vV3 (qQ (pv 0)) (qQ (pv 1))))))))) qF)
    (qV (vP (td_w (qZo (qY4 (qQh (n:="tuple") (by decide) rfl S.U3 Boot.«isinstance» rfl S.b4 Boot.«tuple» (qQ (pv 1))) (qQh (n:="tuple") (by decide) rfl S.U3 Boot.«isinstance» rfl S.b4 Boot.«tuple» (qQ (pv 0)))) (qVs (qY4 (qQh (n:="list") (by decide) rfl S.U3 Boot.«isinstance» rfl S.W3 Boot.«list» (qQ (pv 1))) (qQh (n:="list") (by decide) rfl S.U3 Boot.«isinstance» rfl S.W3 Boot.«list» (qQ (pv 0))))))) (qZ (qU (OD.ow qVj))) qF)
    (qV (vP (qY4 (wF rfl S.V3 (qQ (pv 0))) (wF rfl S.V3 (qQ (pv 1)))) (qZ (qU (OD.ow qVj))) qF)
    (qV (qZ1 bN rfl (vJs rfl S.c4 (vA (qQ (pv 0)) (vA (qQ (pv 1)) qG))) (qQk rfl (vG (vZ (i:=2) qZa.nd rfl (Or.inl rfl)) (vG (vZ (i:=3) qZa.nd rfl (Or.inl rfl)) xP))) (qZ (vP (qQ8 (zU (od_e (vJw (as:=[(.v (oV (oN 2))),(.v (oV (oN 3)))]) ih (hr.mono (by omega)) rfl S.T2.m S.T2.F.kp S.T2.b jL (oA (qQ (pv 2)) (oA (qQ (pv 3)) qK)))))) (qZ (qU (OD.ow qVj))) qF)))
    (qZ (qU (OD.ow qVj)))))))))
theorem vVw:FnOk P w K mg base (CXd P w) 210 S.U2 S.V2 ["_law_text","_law_row"] (spD K c 2 jU):=fnD S.W2.F qJy fun _ _ _ _ _ _ hr=>(qV (jJb (as:=[(.v (oV (oN 0)))]) (hd:=fun C=> [23].contains C) (zW4 S) (hr.mono (by decide)) rfl S.r2.m S.r2.F.kp S.r2.b (oA (qQ (pv 0)) qK) rfl S.k3 qJy.nd (i:=2) rfl rfl S.G3 (fun ea=>(qV (vP (td_w (qZo (zU (qVx (tb:=[(23,false)]) (.inr ⟨_,rfl⟩) rfl S.C3 rfl S.U3 Boot.«isinstance» (vH rfl S.q3 rfl) (qQ (pv 2)))) (qZo (zU (qVx (tb:=[(23,false)]) (.inr ⟨_,rfl⟩) rfl S.x3 rfl S.U3 Boot.«isinstance» (vH rfl S.l3 rfl) (qQ (pv 2)))) (qZo (zU (qVx (tb:=[(23,false)]) (.inr ⟨_,rfl⟩) rfl S.y3 rfl S.U3 Boot.«isinstance» (vH rfl S.m3 rfl) (qQ (pv 2)))) (qVs (zU (qVx (tb:=[(23,false)]) (.inr ⟨_,rfl⟩) rfl S.E3 rfl S.U3 Boot.«isinstance» (vH rfl S.s3 rfl) (qQ (pv 2))))))))) (qZ (qU (OD.ow qVj))) qF)
   (qV (vP (td_w (qZo (zU (qVx (tb:=[(23,false)]) (.inr ⟨_,rfl⟩) rfl S.A3 rfl S.U3 Boot.«isinstance» (vH rfl S.o3 rfl) (qQ (pv 2)))) (qZo (zU (qVx (tb:=[(23,false)]) (.inr ⟨_,rfl⟩) rfl S.z3 rfl S.U3 Boot.«isinstance» (vH rfl S.n3 rfl) (qQ (pv 2)))) (qVs (zU (qVx (tb:=[(23,false)]) (.inr ⟨_,rfl⟩) rfl S.B3 rfl S.U3 Boot.«isinstance» (vH rfl S.p3 rfl) (qQ (pv 2)))))))) (qZ (qU (OD.ow qVj))) qF)
   (qV (vP (td_w (qZo (qQ8 (zU (qVx (tb:=[(23,true)]) (.inr ⟨_,rfl⟩) rfl S.D3 rfl S.U3 Boot.«isinstance» (vH rfl S.r3 rfl) (qQ (pv 2))))) (qVs (qQ8 (zU (qVx (tb:=[(23,true)]) (.inl ⟨_,rfl⟩) rfl S.F3 rfl S.U3 Boot.«isinstance» (zQr rfl S.P3 Boot.«ValueError» (v:=.ty "ValueError") rfl (by decide) (by decide)) (qQ (pv 2)))))))) (qZ (qU (OD.ow qVj))) qF)
   (qZ (qU (OD.ow (yX (qQh (n:="int") (by decide) rfl S.U3 Boot.«isinstance» rfl S.T3 Boot.«int» (zJk (Cs:=[23]) S.H3 (qQ (pv 2)))) (yX (vQh (qQh (n:="bool") (by decide) rfl S.U3 Boot.«isinstance» rfl S.R3 Boot.«bool» (zJk (Cs:=[23]) S.H3 (qQ (pv 2))))) (qVb (vV3 (zJk (Cs:=[23]) S.H3 (qQ (pv 2))) (qQ (pv 1))))))))))))))
   (qZ (qU (OD.ow qVj))))
theorem vVh:FnOk P w K mg base (CXd P w) 211 S.X2 S.Y2 ["_law_cell"] (spD K c 1 zL):=fnD S.Z2.F vJ fun _ _ _ _ _ _ hr=>(qV (sA (i:=1) vJ.nd (OD.ow (wS (vWm (qVk (wS (qQ (pv 0)) (vWl qX qX)) qX) qX) qX)))
   (qV (sA (i:=2) vJ.nd (OD.ow (wS (qXd (qQ (pv 1)) qX) qX)))
   (qV (sA (i:=3) vJ.nd (OD.ow (qXd (qQ (pv 1)) qX)))
   (qV (sA (i:=4) vJ.nd (OD.ow qX))
   (qV (vP (jT (wS (qXd (qQ (pv 1)) qX) qX) qX) (qZ (sA (i:=4) vJ.nd (OD.ow (qVk qX (wS (qXd (qQ (pv 1)) qX) qX))))) qF)
   (qV (vP (td_w (vZ2 (t_gt (qQ (pv 4)) qX) (vJg (t_lt (qQ (pv 2)) qX)))) (qZ (sA (i:=4) vJ.nd (OD.ow qX))) qF)
   (qV (vP (jT (wS (qQ (pv 1)) qX) qX) (qZ (vZ4 (ev_e (cA (as:=[(.v (oV (oN 2))),(.v (oV (oN 3))),(.v (oV (oN 4)))]) S.G2 (vKj S) hr (oA (qQ (pv 2)) (oA (qQ (pv 3)) (oA (qQ (pv 4)) qK))))) (qQk rfl (vG (vZ (i:=5) vJ.nd rfl (Or.inl rfl)) (vG (vZ (i:=6) vJ.nd rfl (Or.inl rfl)) (vG (vZ (i:=7) vJ.nd rfl (Or.inl rfl)) xP)))))) (qZ (vP (jT (wS (qQ (pv 1)) qX) qX) (qZ (vZ4 (ev_e (cA (as:=[(.v (oV (oN 2))),(.v (oV (oN 3))),(.v (oV (oN 4)))]) S.J2 (vWc S) hr (oA (qQ (pv 2)) (oA (qQ (pv 3)) (oA (qQ (pv 4)) qK))))) (qQk rfl (vG (vZ (i:=5) vJ.nd rfl (Or.inl rfl)) (vG (vZ (i:=6) vJ.nd rfl (Or.inl rfl)) (vG (vZ (i:=7) vJ.nd rfl (Or.inl rfl)) xP)))))) (qZ (vP (jT (wS (qQ (pv 1)) qX) qX) (qZ (vZ4 (ev_e (cA (as:=[(.v (oV (oN 2))),(.v (oV (oN 3))),(.v (oV (oN 4)))]) S.N2 (vKk S) hr (oA (qQ (pv 2)) (oA (qQ (pv 3)) (oA (qQ (pv 4)) qK))))) (qQk rfl (vG (vZ (i:=5) vJ.nd rfl (Or.inl rfl)) (vG (vZ (i:=6) vJ.nd rfl (Or.inl rfl)) (vG (vZ (i:=7) vJ.nd rfl (Or.inl rfl)) xP)))))) (qZ (vZ4 (ev_e (cA (as:=[(.v (oV (oN 2))),(.v (oV (oN 3))),(.v (oV (oN 4)))]) S.Q2 (zZv S) hr (oA (qQ (pv 2)) (oA (qQ (pv 3)) (oA (qQ (pv 4)) qK))))) (qQk rfl (vG (vZ (i:=5) vJ.nd rfl (Or.inl rfl)) (vG (vZ (i:=6) vJ.nd rfl (Or.inl rfl)) (vG (vZ (i:=7) vJ.nd rfl (Or.inl rfl)) xP)))))))))))
   (qV (sA (i:=8) vJ.nd (OD.ow (wS (qXd (wS (qQ (pv 0)) (vWl qX qX)) qX) qX)))
   (qV (sA (i:=5) vJ.nd (OD.ow (jR (jWh qJ (qQ (pv 8))) (qQ (pv 5)))))
   (qV (vP (td_w (qZo (t_gt (qQ (pv 4)) qX) (qVs (qQ8 (zU (qQ (pv 6))))))) (qZ (qU (cA (as:=[(.v (oV (oN 5))),(.v (oV (oN 8)))]) S.W2 (vVw S) hr (oA (qQ (pv 5)) (oA (qQ (pv 8)) qK))))) qF)
   (qZ (qU (cA (as:=[(.v (fzS (qY wN [(.v (oV (oN 5)))]))),(.v (fzS (eCat (.v (fzS (vK7 (.v (fzS (eLst [(qS [(oV (oC (.str "let"))),(oV (oC (.str "a"))),(qS [(oV (oC (.str "num"))),(oV (oC (.int 1)))])])]))) (oN 8)))) (oN 7))))]) S.T2 (qKj S 8) hr (qE (od_v (ev_e (cA (as:=[(.v (oV (oN 5)))]) S.r2 (zW4 S) hr (oA (qQ (pv 5)) qK)))) (qE (od_v (ev_e (jXg (od_e (jVl (od_e (xH (vU (vX (vA qJ (vA qJ (vU (vX (vA qJ (vA qX qG))) qG)))) qG))) (qQ (pv 8)))) (qQ (pv 7))))) qK)))))))))))))))
theorem jY5:FnOk P w K mg base (CXd P w) 212 S.a3 S.b3 ["_law_script"] (spD K c 1 zJt):=fnD S.c3.F zWa fun _ _ _ _ _ _ hr=>(qV (qZ1 bN rfl (qWs (ev_e (vXl (qQ (pv 0)) qXn (qVz (OD.val qX))))) (vZ (i:=1) zWa.nd rfl (Or.inl rfl)) (qZ (vP (qQ8 (zU (od_e (cA (as:=[(.v (oV (oN 1)))]) S.Z2 (vVh S) hr (oA (qQ (pv 1)) qK))))) (qZ (qU (OD.ow qVj))) qF)))
   (qZ (qU (cA (as:=[(.v (oV (oL lenD [(oN 0)])))]) S.Z2 (vVh S) hr (oA (wF rfl S.V3 (qQ (pv 0))) qK)))))
end
def cm:Nat->aV:=fun n=>match n with | 9=>209 | 20=>24 | 21=>37 | 22=>49 | 23=>68 | 24=>87 | 25=>99 | 26=>111 | 27=>123 | 28=>135 | 30=>349 | 31=>272 | 32=>279 | 33=>239|_=>0
end X13
open PySem PySem.W PyProof.Rows L2 DX
set_option maxHeartbeats 0 in
theorem PySem.Challenge.cw_flipwright_k13_lists_holds : PySem.Challenge.rw_flipwright_k13_lists.Holds := by
 w_on;o_law;refine holds_open (q:=X13.vw) (loose:=X13.pg.boundNames) (Xt:=fun s=>xlAt X13.vw [] s && recOk (RowW.records (OpenRow.toRowW PySem.Challenge.rw_flipwright_k13_lists.row)) s) (XP:=XL X13.vw []) (Yf:=Hook.obs (kHook X13.KF X13.KA X13.KAs)) (Ya:=Hook.val (kHook X13.KF X13.KA X13.KAs)) (YP:=Hook.says (kHook X13.KF X13.KA X13.KAs)) (N:=7810) ?hl (Hook.of _) (Hook.keeps _) (fun s e=>xl_of s (Bool.and_eq_true_iff.mp e).1) XL.keeps (by rfl) (by rfl) (by rfl) (fun s e=>recFacts_of (Bool.and_eq_true_iff.mp e).2) (by rfl) (by first|assumption|decide +kernel) (by decide +kernel) ⟨rfl,rfl,rfl,rfl,rfl,by decide +kernel⟩ ?hw ?hc
 (case hw=>w_witness2);(case hl=>exact TH.left (k0:=12) rfl (by rfl) (fun _=>rfl) X13.jVb X13.jW8 X13.jVa X13.zYr X13.jW7 (by rfl));k_fill;refine DX.jXn (l:=PySem.Challenge.rw_flipwright_k13_lists) (k:=212) (x:="_law_script") rfl rfl ⟨rfl,by decide,by decide,rfl⟩ (fun w h Y=>PySem.W.kIn_of Y) X13.zYg ?F
 case F=>
  intro w mg fa h KX G hmg;let S:X13.Fs (X13.KF w.params) mg X13.cm:=by
   constructor
   iterate 2 all_goals try first
    |exact faM KX G (by k_is) (by k_is) (by k_is) (by k_is)
    |exact PySem.W.mg_of KX G (by k_is)
    |exact PySem.W.mg_none_of KX G (by k_is)
    |exact⟨by k_is,by k_is,by k_is⟩
    |exact⟨by k_is,by k_is,by k_is,by k_is⟩
    |k_is
    |exact qYs (by k_is) (by k_is) (by k_is) (fun _ _ _ _ _ _ us hl=>match us,hl with|[_],_=>rfl)
    |exact qYs (by k_is) (by k_is) (by k_is) (fun _ _ _ _ _ _ us hl=>match us,hl with|[_,_],_=>rfl)
    |exact qYs (by k_is) (by k_is) (by k_is) (fun _ _ _ _ _ _ us hl=>match us,hl with|[_,_,_],_=>rfl)
    |exact⟨DX.jW4 (by kernel_rfl),by k_is,by k_is,by k_is,by k_is⟩
    |exact zYx ⟨⟨by k_is,by k_is,by k_is,by k_is,by k_is⟩,by kit_is⟩ jVg
    |exact zYz (by kts_exm) jVi
    |exact zYy ⟨⟨by k_is,by k_is,by k_is,by k_is,by k_is⟩,by k_is,by k_is⟩ jVh
    |exact zYw (C:=9) ⟨by k_is,by k_is,by k_is,by k_is⟩ (by unfold L2.qQn;k_is) jVf
    |exact jYs [("flip",416),("pick",417),("if",418),("rest",419)] (n:=0) rfl rfl rfl (by decide)
  have e:fa=S.a3:=by have e:=hmg.symm.trans S.c3.m;cases e;rfl
  rw[e];exact⟨X13.cm,S.b3,rfl,fun s u=>.of_eq rfl,fun base _ _=>X13.jY5 S⟩
