import PyProof.Rows.All
import Wide.All
import OpenK.AllK
import Wide.FinOn
import PyProof.EqAt
import PyProof.EqKinds
import PyProof.TupleCall
import Lean
import PySem.Challenge.RW_flipwright_k18_no_bracket_too_many
set_option Elab.async false
set_option linter.all false
set_option maxRecDepth 100000
set_option compiler.extract_closed false
set_option bootstrap.genMatcherCode false
open PySem.W renaming Frag → aQ, keepIn → bO, fnOf → bA, findIn → cW, emptyDict → cK, instObj → cM, behindTheImports → cN
open PySem renaming Addr → aV, starEach → aX, Shared → aY, wpAny_bind → aU, sizeLine → aD, FuncData → aH, wpAny_pure → aT, Program → bZ, wpAny → bJ, World → bX, compareOp → bI, wpAny_mono → bR, backTo → cZ, mainGlobals → cX, Around → cB, mem_of_lookup → cF, wpAny_truthy_bool → cG, typeIs_str → dD, bootBuiltins → dE, wpAny_Call_Name_kw → dF, wpAny_passesOwn → dG
open List renaming length_cons → aZ, length_append → aJ, getElem?_eq_some_iff → aW, length_map → aB, mem_cons → aC, getElem?_eq_getElem → aF, mem_cons_of_mem → aI, mem_cons_self → aM, size_toArray → aR, cons_append → aA, append_assoc → bV, length_drop → bP, append_nil → bU, map_cons → bD, mem_append_right → bE, drop_eq_getElem_cons → bF, mem_singleton → bG, map_append → bL, getD_eq_getElem?_getD → bM, mem_filterMap → bN, not_mem_nil → bS, getElem?_set_ne → bT, mem_append → cV, length_take → cY, nil_append → cC, getElem?_append_right → cL, length_set → cR, map_map → cS, getElem?_map → cT, all_cons → dQ, drop_succ_cons → dZ, eq_nil_of_length_eq_zero → dY, mem_map → dW, zip_cons_cons → dP, nodup_cons → dB, length_singleton → dC
open PySem.Heap renaming get?_push_of_some → aK, lt_size → aL, get?_push_size → bW, size_push → dH
open Nat renaming le_refl → aP, le_trans → aG, lt_of_lt_of_le → aN, ne_of_lt → bK, zero_le → cJ, lt_irrefl → cE, le_add_right → cI
open Bool renaming and_eq_true → aE, false_ne_true → bQ, eq_iff_iff → bH
open PySem.PyData renaming keyHash → aO
open Option renaming map_eq_some_iff → bY
open PySem.PassesOwn renaming leaving → bB
open List.cons renaming injEq → bC
open Array renaming length_toList → cU
open PySem.F renaming called_set → cD
open Int renaming add_zero → cH, emod_lt_of_pos → dU
open PySem.StrLaws renaming glued_eq_join → dJ
open PyProof.Rows renaming callWith_type1 → dX
open PySem.SeqAt renaming EqAt → dI
namespace L2
open PySem
noncomputable def qJm(s:Stmt)(j:Nat):Stmt:=match s with
 |.ClassDef _ _ _ body _ _ _ _ _ _ _=>body.getD j (.Pass ⟨0,0,0,0⟩)
 |_=> .Pass ⟨0,0,0,0⟩
noncomputable def jF(s:Stmt):Arguments:=match s with
 |.FunctionDef _ a _ _ _ _ _ _ _ _=>a
 |_=> {posonlyargs:=[],args:=[],vararg:=none,kwonlyargs:=[],kw_defaults:=[],kwarg:=none,defaults:=[]}
noncomputable def z6(s:Stmt):List Stmt:=match s with
 |.FunctionDef _ _ b _ _ _ _ _ _ _=>b
 |_=> []
noncomputable def qW(s:Stmt):Scope:=match s with
 |.FunctionDef _ _ _ _ _ _ sc _ _ _=>sc
 |_=> {kind:=.function,names:=[],isGenerator:=false,isCoroutine:=false}
end L2
namespace TH
open PySem PySem.W PySem.Calls PyProof.Rows
variable{N k:Nat}{c:Code}{pos:Pos}{p:bZ}{ann:Option Value}{env:Env}
noncomputable def zJa:List Obj->Nat->BT->BT
 |[],_,t=>t
 |o::l,n,t=>zJa l (n+1) (t.ins n o)
noncomputable def ofS(s:aY):SharedT:=⟨zJa s.heap.objs.toList 0 .nil,s.heap.objs.size,s.heap.life,s.gens,s.drawn,s.toks,s.os⟩
section
variable{tb:String->Option Builtin}{p:bZ}{w:bX}{n₀:Nat}{ann:Option Value}{env:Env}{q:Pos}
theorem app{n:Nat}{s s' r:aY}{l:List Stmt}{c':Code}{p':Pos}(h:segRun tb p w n₀ ann 1 n s (piecesOf l env c pos [topFrame q])=some (.next,s',c',p'))(k:topRun tb p w n₀ ann N s' (restOf [] env c' p' [topFrame q])=some r):topRun tb p w n₀ ann (n+N) s (restOf l env c pos [topFrame q])=some r:=by
 obtain⟨a,ha,hN⟩:=seg_top (res:=id) (K' :=fun f=>match f with|.next =>(execs [] env).wrap doneF (leaveH env) id id|f=>doneF f) (H' :=leaveH env) (B:=[topFrame q]) rfl n s (piecesOf l env c pos [topFrame q])
  ⟨(execs l env).wrap (fun f=>match f with|.next =>(execs [] env).wrap doneF (leaveH env) id id|f=>doneF f) (leaveH env) id id,c,pos,[topFrame q]⟩ _ _ _ _ ⟨rfl,rfl,.inl ⟨rfl,rfl,_,rfl,rfl⟩⟩ h
 obtain rfl:a=.next :=ha
 have:=hN N r k;rw[show l=l ++ [] by simp];unfold restOf;rw[execs_app_wrap];exact this
end
noncomputable def vVo{β:Type}(p:bZ)(w:bX)(n₀:Nat)(ann:Option Value)(b:List Stmt)(env:Env)(c:Code)(pos q:Pos)(k:Nat)(s:SharedT)(look:aY->β):Option β:=
 match segRunT treeTable p w n₀ ann 1 k s (piecesOf b env c pos [topFrame q]) with
 |some (.next,s',c',p')=>(topRun treeTable p w n₀ ann 5 s'.abs (restOf [] env c' p' [topFrame q])).map look
 |_=>none
theorem zKt{β:Type}{w:bX}{n₀:Nat}{b:List Stmt}{q:Pos}{s:SharedT}{look:aY->β}{v:β}(h:vVo p w n₀ ann b env c pos q k s look=some v):∃r,topRun treeTable p w n₀ ann (k+5) s.abs (restOf b env c pos [topFrame q])=some r/\look r=v:=by
 unfold vVo at h;split at h
 ·next s' c' p' e=>
  obtain⟨r,hr,hv⟩:=bY.mp h;exact⟨r,app (segRun_of e) hr,hv⟩
 ·cases h
noncomputable def vWg{α:Type}(p q:bZ)(loose:List Str)(Xt:aY->Bool)(Yf:aY->α)(g0:Bool)(H₀:Heap)(s:aY):=
 ((staticsOk (importedModules p.main.body) H₀ s.heap && namesBound p s.heap && gensDone s && laidKept H₀ s.heap),openSeen q loose (importedModules p.main.body) Xt g0 s,Yf s)
theorem left{q:bZ}{loose:List Str}{Xt:aY->Bool}{α:Type}{Yf:aY->α}{Ya:bX->α}{g0:Bool}{m₀:Nat}{k0:Nat}{q0:Pos}{Sa:bX->OsState->aY}(e:opening p=plainProg p.main.scope.names)(hN:Nat.ble 600 N=true)(f:∀s,fenceModules? p s=some s)(size:∀w:bX,((boot_heap w.params).isNs cX,(boot_heap w.params).objs.size,(boot_heap w.params).nsMap cX "__annotations__")=(true,m₀,ann))(pre:∀(w:bX) (os:OsState),topGo treeTable p w m₀ ann k0 ⟨boot_heap w.params,Array.mk [],boot_drawn,boot_toks,os⟩ (topStub p)=
   some (Sa w os,⟨denote treeTable (.body (cN p) env),.body (cN p) env,pos,[topFrame q0]⟩))(tree:∀w os,(ofS (Sa w os)).abs =Sa w os)(block:blockStart (cN p) env=.pure ())(run:∀w os,vVo p w m₀ ann (cN p) env (.body (cN p) env) pos q0 k (ofS (Sa w os)) (vWg p q loose Xt Yf g0 (boot_heap w.params))=some (true,openGood q loose,Ya w))(le:Nat.ble (k0+(1+(k+5))) N=true):LeftO p q loose Xt Yf Ya N g0:=fun w=>by
 obtain⟨⟨h,gs,d,kk,os⟩,e1,e'⟩:=bY.mp (boot_open (N:=N) e hN f w);obtain⟨rfl,rfl,rfl,rfl⟩:h=boot_heap w.params/\gs=Array.mk []/\d=boot_drawn/\kk=boot_toks:=by simpa using e'
 obtain⟨z1,z2,z3⟩:_/\_/\_:=by simpa only[Prod.mk.injEq] using size w
 obtain⟨r,hr,hv⟩:=zKt (run w os);rw[tree w os]at hr;have hb:segRun treeTable p w m₀ ann 1 1 (Sa w os) (blockOf (cN p) env (.body (cN p) env) pos [topFrame q0])=some (.next,Sa w os,.body (cN p) env,pos):=by
  unfold blockOf;rw[block];rfl
 have r1:=go_top (pre w os) (piece_block hb hr);have r2:=topRun_mono (N - (k0+(1+(k+5)))) _ _ _ _ r1;rw[show(k0+(1+(k+5)))+(N - (k0+(1+(k+5))))=N by have:=Nat.le_of_ble_eq_true le;omega]at r2;obtain⟨l1,l2,l3⟩:_/\_/\_:=by simpa only[vWg,Prod.mk.injEq] using hv
 have t:topFrom treeTable p w N ⟨boot_heap w.params,Array.mk [],boot_drawn,boot_toks,os⟩=some r:=by
  unfold topFrom;dsimp only;rw[z1,z2,z3,r2];show(match staticsOk (importedModules p.main.body) (boot_heap w.params) r.heap && namesBound p r.heap && gensDone r && laidKept (boot_heap w.params) r.heap with|true=>_|false=>_)=_;rw[l1]
 unfold openEnds;rw[e1];show(topFrom treeTable p w N _).map _=_;rw[t];exact congrArg some (Prod.ext l2 l3)
end TH
namespace X18
open PySem L2 PyProof.Rows
noncomputable def top(i:Nat):Stmt:=PySem.Challenge.pw_flipwright_k18_no_bracket_too_many.main.body.getD i (.Pass ⟨0,0,0,0⟩)
noncomputable abbrev qWu:Stmt:=top 3
noncomputable abbrev qWj:Stmt:=top 4
noncomputable abbrev qQ2:Stmt:=top 5
noncomputable abbrev yQ:Stmt:=top 6
noncomputable abbrev qQ3:Stmt:=top 7
noncomputable abbrev qQf:Stmt:=top 8
noncomputable abbrev qVv:Stmt:=top 9
noncomputable abbrev qQj:Stmt:=qJm (top 12) 0
noncomputable abbrev qWo:Stmt:=top 14
noncomputable abbrev qX8:Stmt:=top 16
noncomputable abbrev vQa:Stmt:=top 17
noncomputable abbrev qWi:Stmt:=top 18
noncomputable abbrev qQl:Stmt:=qJm (top 33) 0
noncomputable abbrev qQk:Stmt:=qJm (top 33) 1
noncomputable abbrev wB:Stmt:=qJm (top 33) 2
noncomputable abbrev yZ:Stmt:=qJm (top 33) 3
noncomputable abbrev qQ6:Stmt:=qJm (top 33) 4
noncomputable abbrev qWt:Stmt:=top 34
noncomputable abbrev qX9:Stmt:=top 35
noncomputable abbrev qZ5:Stmt:=top 36
noncomputable abbrev qZ1:Stmt:=top 37
noncomputable abbrev qQ4:Stmt:=top 38
noncomputable abbrev qV0:Stmt:=top 43
noncomputable abbrev qQi:Stmt:=top 42
noncomputable abbrev qZ2:Stmt:=top 39
noncomputable abbrev qQg:Stmt:=top 40
noncomputable abbrev qVy:Stmt:=top 41
noncomputable abbrev qX6:Stmt:=top 44
noncomputable abbrev qZ4:Stmt:=top 45
noncomputable abbrev qZ0:Stmt:=top 46
noncomputable abbrev qV1:Stmt:=top 47
noncomputable abbrev qVz:Stmt:=top 48
noncomputable abbrev qZ3:Stmt:=top 49
noncomputable abbrev qVx:Stmt:=top 50
noncomputable abbrev qQh:Stmt:=top 51
noncomputable abbrev qWk:Stmt:=top 52
noncomputable abbrev qZz:Stmt:=top 53
noncomputable abbrev qZy:Stmt:=top 54
noncomputable abbrev qWn:Stmt:=top 55
noncomputable abbrev qWm:Stmt:=top 56
noncomputable abbrev qV2:Stmt:=top 57
noncomputable abbrev qVw:Stmt:=top 58
noncomputable abbrev yV:Stmt:=top 59
noncomputable abbrev vZ9:Stmt:=top 60
noncomputable abbrev qWl:Stmt:=top 61
noncomputable abbrev vYb:Stmt:=top 62
noncomputable abbrev qV3:Stmt:=top 64
noncomputable abbrev qWq:Stmt:=top 65
noncomputable abbrev qWr:Stmt:=top 66
noncomputable abbrev qWp:Stmt:=top 67
noncomputable abbrev qX7:Stmt:=top 68
noncomputable abbrev qQ5:Stmt:=top 69
noncomputable abbrev qWs:Stmt:=top 70
noncomputable abbrev zZs:Stmt:=top 71
noncomputable def fO(x q:Str)(s:Stmt)(m:Str)(t c:Nat):Obj:=⟨(.type "function"),none,(.func ⟨x,q,jF s,.stmts (z6 s),qW s,3,[],.none,.none,.none,(.str m t),none,(.ref c),.none,0⟩),#[]⟩
noncomputable def cO(x q:Str)(a b d:Nat)(l n v:Int)(e:Nat)(i:Int)(f g h j:Nat)(k o:Int)(p:Nat):Obj:=⟨(.type "code"),none,(.fields #[(.str x a),(.str q b),(.str "/claim/cut.py" d),(.int l 0),(.int n 0),(.int 0 0),(.int 0 0),(.int v 0),(.ref e),(.bool true),(.int i 0),(.ref f),.none,(.ref g),(.ref h),(.ref j),(.int k 0),(.int o 0),(.str "/claim/cut.py" p)]),#[]⟩
noncomputable def eR(P:Params)(x:Str)(t c:Nat):DictEntry:=⟨aO P x,.str x t,.ref c⟩
noncomputable def cQ(c:Nat)(x q:Str)(a:Nat)(l n:Int):Obj:=⟨(.type "code"),none,(.fields #[(.str x a),(.str q (a+1)),(.str "/claim/cut.py" (a+2)),(.int l 0),(.int n 0),(.int 0 0),(.int 0 0),(.int 3 0),(.ref (c - 3)),(.bool true),(.int 181 0),(.ref (c - 2)),.none,.none,.none,(.ref (c - 1)),(.int (a+3) 0),(.int l 0),(.str "/claim/cut.py" (a+4))]),#[]⟩
noncomputable def cP(c:Nat)(x:Str)(a:Nat)(l n:Int)(e:Nat):Obj:=cO x x a (a+1) (a+2) l n 3 (c - 5) 181 (c - 4) (c - 3) (c - 2) (c - 1) (e:Int) l (e+1)
noncomputable def g0(x:Str)(s:Stmt)(c:Nat):Obj:=fO x x s "flipwright.writer" 187 c
noncomputable def g1(x:Str)(s:Stmt)(c:Nat):Obj:=fO x x s "flipwright.opening" 338 c
noncomputable def g2(x:Str)(s:Stmt)(c:Nat):Obj:=fO x x s "flipwright.words" 346 c
noncomputable def g3(x:Str)(s:Stmt)(c:Nat):Obj:=fO x x s "flipwright.reader" 375 c
noncomputable def g4(x:Str)(s:Stmt)(c:Nat):Obj:=fO x x s "law_flipwright_k18_no_bracket_too_many" 716 c
noncomputable def KF:Params->aQ:=fun P=>
 (nat_lit 2,⟨.none,none,(.dict #[] 0),#[]⟩)::
 (nat_lit 3,⟨(.type "dict"),none,(.dict #[⟨aO P "__name__",(.str "__name__" 165),(.str "law_flipwright_k18_no_bracket_too_many" 716)⟩,⟨aO P "__doc__",(.str "__doc__" 166),.none⟩,⟨aO P "__package__",(.str "__package__" 167),.none⟩,⟨aO P "__loader__",(.str "__loader__" 168),(.builtin "__main__.__loader__#opaque")⟩,⟨aO P "__spec__",(.str "__spec__" 169),.none⟩,eR P "__annotations__" 170 6,eR P "__builtins__" 171 4,⟨aO P "__file__",(.str "__file__" 173),(.str "/claim/cut.py" 172)⟩,⟨aO P "__cached__",(.str "__cached__" 174),.none⟩,eR P "BARE_LEFT" 212 15,eR P "BARE_RIGHT" 231 21,eR P "in_place" 240 33,eR P "shown_op" 250 40,eR P "shown_terms" 256 45,eR P "shown_outcome" 265 52,eR P "shown_field" 274 59,eR P "shown_listed" 280 64,eR P "shown_term" 292 71,eR P "FlipError" 312 81,eR P "NoText" 337 101,eR P "parts_of" 345 108,eR P "kind_of" 354 115,eR P "end_of" 364 122,eR P "words_of" 374 129,⟨aO P "MOST_ROWS",(.str "MOST_ROWS" 378),(.int 40 377)⟩,⟨aO P "MOST_SIGNS",(.str "MOST_SIGNS" 380),(.int 1000 379)⟩,⟨aO P "MOST_WORDS",(.str "MOST_WORDS" 382),(.int 60 381)⟩,⟨aO P "MOST_BRACKETS",(.str "MOST_BRACKETS" 384),(.int 10 383)⟩,⟨aO P "MOST_DEPTH",(.str "MOST_DEPTH" 386),(.int 10 385)⟩,⟨aO P "MOST_ROUNDS",(.str "MOST_ROUNDS" 388),(.int 30 387)⟩,⟨aO P "MOST_LETTERS",(.str "MOST_LETTERS" 390),(.int 8 389)⟩,⟨aO P "MOST_FIGURES",(.str "MOST_FIGURES" 392),(.int 12 391)⟩,⟨aO P "MOST_NUMBER",(.str "MOST_NUMBER" 394),(.int 999999999999 393)⟩,⟨aO P "MOST_WEIGHT",(.str "MOST_WEIGHT" 396),(.int 1000000 395)⟩,⟨aO P "MOST_PAIRS",(.str "MOST_PAIRS" 398),(.int 6 397)⟩,⟨aO P "MOST_TERMS",(.str "MOST_TERMS" 400),(.int 3 399)⟩,eR P "NO_NAMES" 405 130,eR P "Cursor" 468 175,eR P "is_small" 474 184,eR P "is_name" 481 191,eR P "is_number" 488 198,eR P "read_name" 496 205,eR P "read_number" 506 212,eR P "read_list" 517 219,eR P "refuse_alike" 525 226,eR P "read_pairs" 531 231,eR P "read_outcome" 539 238,eR P "read_field" 547 245,eR P "read_if" 555 252,eR P "read_flip" 564 259,eR P "read_rest" 573 266,eR P "read_built" 581 273,eR P "read_named" 589 280,eR P "read_head" 598 287,eR P "read_tight" 606 294,eR P "read_product" 614 301,eR P "read_sum" 623 308,eR P "read_term" 632 315,eR P "read_told" 639 322,eR P "read_def" 648 329,eR P "read_let" 656 336,eR P "read_again" 665 343,eR P "read_words" 673 350,eR P "most_brackets" 683 357,eR P "depth" 692 364,eR P "read_row" 703 371,eR P "read" 715 378,eR P "_law_stream" 728 385,eR P "_law_name" 735 392,eR P "_law_leaf" 742 399,eR P "_law_tree" 755 406,eR P "_law_end" 765 413,eR P "_law_another" 774 420,eR P "_law_good" 786 427,eR P "law" 795 434] 75),#[]⟩)::
 (nat_lit 15,⟨(.type "dict"),none,(.dict #[eR P "=" 189 16,eR P "<" 193 17,eR P "+" 197 18,eR P "-" 201 19,eR P "*" 205 20] 5),#[]⟩)::
 (nat_lit 16,⟨(.type "tuple"),none,(.seq #[(.str "+" 190),(.str "-" 191),(.str "*" 192)] 0),#[]⟩)::
 (nat_lit 17,⟨(.type "tuple"),none,(.seq #[(.str "+" 194),(.str "-" 195),(.str "*" 196)] 0),#[]⟩)::
 (nat_lit 18,⟨(.type "tuple"),none,(.seq #[(.str "+" 198),(.str "-" 199),(.str "*" 200)] 0),#[]⟩)::
 (nat_lit 19,⟨(.type "tuple"),none,(.seq #[(.str "+" 202),(.str "-" 203),(.str "*" 204)] 0),#[]⟩)::
 (nat_lit 20,⟨(.type "tuple"),none,(.seq #[(.str "*" 206)] 0),#[]⟩)::
 (nat_lit 21,⟨(.type "dict"),none,(.dict #[eR P "=" 213 22,eR P "<" 217 23,eR P "+" 221 24,eR P "-" 223 25,eR P "*" 225 26] 5),#[]⟩)::
 (nat_lit 22,⟨(.type "tuple"),none,(.seq #[(.str "+" 214),(.str "-" 215),(.str "*" 216)] 0),#[]⟩)::
 (nat_lit 23,⟨(.type "tuple"),none,(.seq #[(.str "+" 218),(.str "-" 219),(.str "*" 220)] 0),#[]⟩)::
 (nat_lit 24,⟨(.type "tuple"),none,(.seq #[(.str "*" 222)] 0),#[]⟩)::
 (nat_lit 25,⟨(.type "tuple"),none,(.seq #[(.str "*" 224)] 0),#[]⟩)::
 (nat_lit 26,⟨(.type "tuple"),none,(.seq #[] 0),#[]⟩)::
 (nat_lit 32,cP 32 "in_place" 232 4 2 238)::
 (nat_lit 33,g0 "in_place" qWu 32)::
 (nat_lit 39,cP 39 "shown_op" 241 9 1 248)::
 (nat_lit 40,g0 "shown_op" qWj 39)::
 (nat_lit 44,cQ 44 "shown_terms" "shown_terms" 251 14 1)::
 (nat_lit 45,g0 "shown_terms" qQ2 44)::
 (nat_lit 51,cP 51 "shown_outcome" 257 16 1 263)::
 (nat_lit 52,g0 "shown_outcome" yQ 51)::
 (nat_lit 58,cP 58 "shown_field" 266 20 1 272)::
 (nat_lit 59,g0 "shown_field" qQ3 58)::
 (nat_lit 63,cQ 63 "shown_listed" "shown_listed" 275 24 1)::
 (nat_lit 64,g0 "shown_listed" qQf 63)::
 (nat_lit 70,cP 70 "shown_term" 281 38 1 290)::
 (nat_lit 71,g0 "shown_term" qVv 70)::
 (nat_lit 72,⟨(.type "tuple"),none,(.seq #[(.type "ValueError")] 0),#[]⟩)::
 (nat_lit 79,⟨(.type "tuple"),none,(.seq #[] 0),#[]⟩)::
 (nat_lit 80,⟨(.type "dict"),none,(.dict #[⟨aO P "__module__",(.str "__module__" 302),(.str "flipwright.errors" 293)⟩,⟨aO P "__firstlineno__",(.str "__firstlineno__" 306),(.int 58 305)⟩,eR P "__static_attributes__" 307 79,eR P "__weakref__" 309 82,⟨aO P "__doc__",(.str "__doc__" 310),.none⟩] 3),#[]⟩)::
 (nat_lit 81,⟨(.type "type"),none,(.cls (.mk "FlipError" [(.type "ValueError")] [(.ref 81),(.type "ValueError"),(.type "Exception"),(.type "BaseException"),(.type "object")] 80 "FlipError" true [] [(.ref 101)] false none false)),#[(some (.ref 72)),none,(some (.str "FlipError" 295)),(some (.str "FlipError" 303)),(some (.builtin "ValueError.__new__")),(some (.bool true))]⟩)::
 (nat_lit 82,⟨(.type "getset_descriptor"),none,(.fields #[(.str "__weakref__" 308),(.ref 81),(.builtin "ExceptionGroup.__weakref__"),.none]),#[]⟩)::
 (nat_lit 85,⟨(.type "tuple"),none,(.seq #[(.ref 81)] 0),#[]⟩)::
 (nat_lit 97,cO "__init__" "NoText.__init__" 325 326 327 62 2 3 92 181 93 94 95 96 330 62 331)::
 (nat_lit 98,fO "__init__" "NoText.__init__" qQj "flipwright.errors" 293 97)::
 (nat_lit 99,⟨(.type "tuple"),none,(.seq #[(.str "row" 333)] 0),#[]⟩)::
 (nat_lit 100,⟨(.type "dict"),none,(.dict #[⟨aO P "__module__",(.str "__module__" 320),(.str "flipwright.errors" 293)⟩,⟨aO P "__firstlineno__",(.str "__firstlineno__" 324),(.int 60 323)⟩,eR P "__init__" 332 98,eR P "__static_attributes__" 334 99,⟨aO P "__doc__",(.str "__doc__" 335),.none⟩] 2),#[]⟩)::
 (nat_lit 101,⟨(.type "type"),none,(.cls (.mk "NoText" [(.ref 81)] [(.ref 101),(.ref 81),(.type "ValueError"),(.type "Exception"),(.type "BaseException"),(.type "object")] 100 "NoText" true [] [] false none false)),#[(some (.ref 85)),none,(some (.str "NoText" 313)),(some (.str "NoText" 321)),(some (.builtin "ValueError.__new__")),(some (.bool true))]⟩)::
 (nat_lit 107,cQ 107 "parts_of" "parts_of" 340 65 1)::
 (nat_lit 108,g1 "parts_of" qWo 107)::
 (nat_lit 114,cP 114 "kind_of" 348 79 1 352)::
 (nat_lit 115,g2 "kind_of" qX8 114)::
 (nat_lit 121,cP 121 "end_of" 355 87 2 362)::
 (nat_lit 122,g2 "end_of" vQa 121)::
 (nat_lit 128,cP 128 "words_of" 365 93 1 372)::
 (nat_lit 129,g2 "words_of" qWi 128)::
 (nat_lit 130,⟨(.type "tuple"),none,(.seq #[(.str "flip" 401),(.str "pick" 402),(.str "if" 403),(.str "rest" 404)] 0),#[]⟩)::
 (nat_lit 143,cO "__init__" "Cursor.__init__" 418 419 420 118 3 3 138 181 139 140 141 142 424 118 425)::
 (nat_lit 144,fO "__init__" "Cursor.__init__" qQl "flipwright.reader" 375 143)::
 (nat_lit 150,cO "ahead" "Cursor.ahead" 427 428 429 123 1 3 145 181 146 147 148 149 431 123 432)::
 (nat_lit 151,fO "ahead" "Cursor.ahead" qQk "flipwright.reader" 375 150)::
 (nat_lit 157,cO "next_word" "Cursor.next_word" 434 435 436 128 1 3 152 181 153 154 155 156 439 128 440)::
 (nat_lit 158,fO "next_word" "Cursor.next_word" wB "flipwright.reader" 375 157)::
 (nat_lit 164,cO "passed" "Cursor.passed" 442 443 444 133 2 3 159 181 160 161 162 163 447 133 448)::
 (nat_lit 165,fO "passed" "Cursor.passed" yZ "flipwright.reader" 375 164)::
 (nat_lit 171,cO "need" "Cursor.need" 450 451 452 139 2 3 166 181 167 168 169 170 455 139 456)::
 (nat_lit 172,fO "need" "Cursor.need" qQ6 "flipwright.reader" 375 171)::
 (nat_lit 173,⟨(.type "tuple"),none,(.seq #[(.str "place" 458),(.str "row" 459),(.str "words" 460)] 0),#[]⟩)::
 (nat_lit 174,⟨(.type "dict"),none,(.dict #[⟨aO P "__module__",(.str "__module__" 413),(.str "flipwright.reader" 375)⟩,⟨aO P "__firstlineno__",(.str "__firstlineno__" 417),(.int 116 416)⟩,eR P "__init__" 426 144,eR P "ahead" 433 151,eR P "next_word" 441 158,eR P "passed" 449 165,eR P "need" 457 172,eR P "__static_attributes__" 461 173,eR P "__dict__" 463 176,eR P "__weakref__" 465 177,⟨aO P "__doc__",(.str "__doc__" 466),.none⟩] 4),#[]⟩)::
 (nat_lit 175,⟨(.type "type"),none,(.cls (.mk "Cursor" [(.type "object")] [(.ref 175),(.type "object")] 174 "Cursor" true [] [] false none false)),#[none,none,(some (.str "Cursor" 406)),(some (.str "Cursor" 414)),(some (.builtin "object.__new__")),(some (.bool true))]⟩)::
 (nat_lit 176,⟨(.type "getset_descriptor"),none,(.fields #[(.str "__dict__" 462),(.ref 175),(.builtin "function.__dict__"),(.builtin "function.__dict__#set")]),#[]⟩)::
 (nat_lit 177,⟨(.type "getset_descriptor"),none,(.fields #[(.str "__weakref__" 464),(.ref 175),(.builtin "ExceptionGroup.__weakref__"),.none]),#[]⟩)::
 (nat_lit 183,cQ 183 "is_small" "is_small" 469 142 1)::
 (nat_lit 184,g3 "is_small" qWt 183)::
 (nat_lit 190,cP 190 "is_name" 475 144 1 479)::
 (nat_lit 191,g3 "is_name" qX9 190)::
 (nat_lit 197,cP 197 "is_number" 482 146 1 486)::
 (nat_lit 198,g3 "is_number" qZ5 197)::
 (nat_lit 204,cP 204 "read_name" 489 148 1 494)::
 (nat_lit 205,g3 "read_name" qZ1 204)::
 (nat_lit 211,cP 211 "read_number" 497 153 3 504)::
 (nat_lit 212,g3 "read_number" qQ4 211)::
 (nat_lit 218,cP 218 "read_list" 507 158 4 515)::
 (nat_lit 219,g3 "read_list" qZ2 218)::
 (nat_lit 225,cP 225 "refuse_alike" 518 168 2 523)::
 (nat_lit 226,g3 "refuse_alike" qQg 225)::
 (nat_lit 230,cQ 230 "read_pairs" "read_pairs" 526 171 3)::
 (nat_lit 231,g3 "read_pairs" qVy 230)::
 (nat_lit 237,cP 237 "read_outcome" 532 177 1 537)::
 (nat_lit 238,g3 "read_outcome" qQi 237)::
 (nat_lit 244,cP 244 "read_field" 540 181 1 545)::
 (nat_lit 245,g3 "read_field" qV0 244)::
 (nat_lit 251,cP 251 "read_if" 548 185 1 553)::
 (nat_lit 252,g3 "read_if" qX6 251)::
 (nat_lit 258,cP 258 "read_flip" 556 190 1 562)::
 (nat_lit 259,g3 "read_flip" qZ4 258)::
 (nat_lit 265,cP 265 "read_rest" 565 196 1 571)::
 (nat_lit 266,g3 "read_rest" qZ0 265)::
 (nat_lit 272,cP 272 "read_built" 574 202 2 579)::
 (nat_lit 273,g3 "read_built" qV1 272)::
 (nat_lit 279,cP 279 "read_named" 582 211 2 587)::
 (nat_lit 280,g3 "read_named" qVz 279)::
 (nat_lit 286,cP 286 "read_head" 590 217 1 596)::
 (nat_lit 287,g3 "read_head" qZ3 286)::
 (nat_lit 293,cP 293 "read_tight" 599 230 1 604)::
 (nat_lit 294,g3 "read_tight" qVx 293)::
 (nat_lit 300,cP 300 "read_product" 607 235 1 612)::
 (nat_lit 301,g3 "read_product" qQh 300)::
 (nat_lit 307,cP 307 "read_sum" 615 240 1 621)::
 (nat_lit 308,g3 "read_sum" qWk 307)::
 (nat_lit 314,cP 314 "read_term" 624 246 1 630)::
 (nat_lit 315,g3 "read_term" qZz 314)::
 (nat_lit 321,cP 321 "read_told" 633 252 1 637)::
 (nat_lit 322,g3 "read_told" qZy 321)::
 (nat_lit 328,cP 328 "read_def" 640 255 1 646)::
 (nat_lit 329,g3 "read_def" qWn 328)::
 (nat_lit 335,cP 335 "read_let" 649 261 1 654)::
 (nat_lit 336,g3 "read_let" qWm 335)::
 (nat_lit 342,cP 342 "read_again" 657 264 1 663)::
 (nat_lit 343,g3 "read_again" qV2 342)::
 (nat_lit 349,cP 349 "read_words" 666 268 1 671)::
 (nat_lit 350,g3 "read_words" qVw 349)::
 (nat_lit 356,cP 356 "most_brackets" 674 279 1 681)::
 (nat_lit 357,g3 "most_brackets" yV 356)::
 (nat_lit 363,cP 363 "depth" 684 289 1 690)::
 (nat_lit 364,g3 "depth" vZ9 363)::
 (nat_lit 370,cP 370 "read_row" 693 294 2 701)::
 (nat_lit 371,g3 "read_row" qWl 370)::
 (nat_lit 377,cP 377 "read" 704 305 1 713)::
 (nat_lit 378,g3 "read" vYb 377)::
 (nat_lit 384,cP 384 "_law_stream" 718 317 2 726)::
 (nat_lit 385,g4 "_law_stream" qV3 384)::
 (nat_lit 391,cP 391 "_law_name" 729 324 1 733)::
 (nat_lit 392,g4 "_law_name" qWq 391)::
 (nat_lit 398,cP 398 "_law_leaf" 736 326 1 740)::
 (nat_lit 399,g4 "_law_leaf" qWr 398)::
 (nat_lit 405,cP 405 "_law_tree" 743 332 1 753)::
 (nat_lit 406,g4 "_law_tree" qWp 405)::
 (nat_lit 412,cP 412 "_law_end" 756 353 2 763)::
 (nat_lit 413,g4 "_law_end" qX7 412)::
 (nat_lit 419,cP 419 "_law_another" 766 363 2 772)::
 (nat_lit 420,g4 "_law_another" qQ5 419)::
 (nat_lit 426,cP 426 "_law_good" 775 369 1 784)::
 (nat_lit 427,g4 "_law_good" qWs 426)::
 (nat_lit 433,cP 433 "law" 787 383 1 793)::
 (nat_lit 434,g4 "law" zZs 433):: []
noncomputable def KA:List aV:=[2,3,15,16,17,18,19,20,21,22,23,24,25,26,32,33,39,40,44,45,51,52,58,59,63,64,70,71,72,79,80,81,82,85,97,98,99,100,101,107,108,114,115,121,122,128,129,130,143,144,150,151,157,158,164,165,171,172,173,174,175,176,177,183,184,190,191,197,198,204,205,211,212,218,219,225,226,230,231,237,238,244,245,251,252,258,259,265,266,272,273,279,280,286,287,293,294,300,301,307,308,314,315,321,322,328,329,335,336,342,343,349,350,356,357,363,364,370,371,377,378,384,385,391,392,398,399,405,406,412,413,419,420,426,427,433,434]
theorem KAs(P:Params):KA=List.map (fun x=>x.fst) (KF P):=by kernel_rfl
noncomputable abbrev pg:bZ:=PySem.Challenge.rw_flipwright_k18_no_bracket_too_many.row.toRowW.prog
noncomputable def vw:bZ:={pg with main:={pg.main with body:=pg.main.body.drop 71}}
noncomputable def ev0:Env:={scope:=pg.main.scope,locals:=mainNs,globals:=mainNs,cells:=[],code:=.ref 13,frame:=some 14}
noncomputable def Sa(w:bX)(os:OsState):aY:=match PySem.W.topGo treeTable pg w 11 (some (.ref 6)) 12 ⟨PySem.W.boot_heap w.params,Array.mk [],PySem.W.boot_drawn,PySem.W.boot_toks,os⟩ (PySem.W.topStub pg) with|some r=>r.1|none=>⟨PySem.W.boot_heap w.params,Array.mk [],PySem.W.boot_drawn,PySem.W.boot_toks,os⟩
theorem jJn(w:bX)(os:OsState):PySem.W.topGo treeTable pg w 11 (some (.ref 6)) 12 ⟨PySem.W.boot_heap w.params,Array.mk [],PySem.W.boot_drawn,PySem.W.boot_toks,os⟩ (PySem.W.topStub pg)=
   some (Sa w os,⟨denote treeTable (.body (PySem.W.behindTheImports pg) ev0),.body (PySem.W.behindTheImports pg) ev0,default,[PySem.W.topFrame default]⟩):=by kernel_rfl
theorem zK3(w:bX)(os:OsState):(TH.ofS (Sa w os)).abs =Sa w os:=by kernel_rfl
theorem zXv:blockStart (PySem.W.behindTheImports pg) ev0=.pure ():=by kernel_rfl
theorem zK4(w:bX):((PySem.W.boot_heap w.params).isNs cX,(PySem.W.boot_heap w.params).objs.size,(PySem.W.boot_heap w.params).nsMap cX "__annotations__")=(true,11,some (.ref 6)):=by kernel_rfl
set_option maxHeartbeats 0 in
theorem hd_b(w:bX)(b:Bool):(fun w:bX=>∀os:OsState,TH.vVo pg w 11 (some (.ref 6)) (PySem.W.behindTheImports pg) ev0 (.body (PySem.W.behindTheImports pg) ev0) default default 2698 (TH.ofS (Sa w os)) (TH.vWg pg vw pg.boundNames (fun s=>PySem.W.xlAt vw [] s && PySem.W.recOk (PySem.W.RowW.records (PySem.W.OpenRow.toRowW PySem.Challenge.rw_flipwright_k18_no_bracket_too_many.row)) s) (PySem.W.Hook.obs (PySem.W.kHook KF KA KAs)) true (PySem.W.boot_heap w.params))=some (true,PySem.W.openGood vw pg.boundNames,PySem.W.Hook.val (PySem.W.kHook KF KA KAs) w)) (w.withFollow "special-get-raises" b):=by
 cases b <;> (intro os;kernel_rfl)
theorem jJm(w:bX)(os:OsState):TH.vVo pg w 11 (some (.ref 6)) (PySem.W.behindTheImports pg) ev0 (.body (PySem.W.behindTheImports pg) ev0) default default 2698 (TH.ofS (Sa w os)) (TH.vWg pg vw pg.boundNames (fun s=>PySem.W.xlAt vw [] s && PySem.W.recOk (PySem.W.RowW.records (PySem.W.OpenRow.toRowW PySem.Challenge.rw_flipwright_k18_no_bracket_too_many.row)) s) (PySem.W.Hook.obs (PySem.W.kHook KF KA KAs)) true (PySem.W.boot_heap w.params))=some (true,PySem.W.openGood vw pg.boundNames,PySem.W.Hook.val (PySem.W.kHook KF KA KAs) w):=PySem.W.byRow2 "special-get-raises" (P:=fun w:bX=>∀os:OsState,TH.vVo pg w 11 (some (.ref 6)) (PySem.W.behindTheImports pg) ev0 (.body (PySem.W.behindTheImports pg) ev0) default default 2698 (TH.ofS (Sa w os)) (TH.vWg pg vw pg.boundNames (fun s=>PySem.W.xlAt vw [] s && PySem.W.recOk (PySem.W.RowW.records (PySem.W.OpenRow.toRowW PySem.Challenge.rw_flipwright_k18_no_bracket_too_many.row)) s) (PySem.W.Hook.obs (PySem.W.kHook KF KA KAs)) true (PySem.W.boot_heap w.params))=some (true,PySem.W.openGood vw pg.boundNames,PySem.W.Hook.val (PySem.W.kHook KF KA KAs) w)) (fun w=>hd_b w false) (fun w=>hd_b w true) w os
end X18
namespace L2
open PySem PySem.Spec PyProof.Rows
variable{us:List Value}{H:Hp}{α:Type}{h base:Heap}{g':Array GenState}{t' i j k n:Nat}{d':Drawn}{ch fp:List aV}{it dx C:aV}{N ps:List Str}{M:Model}{A:cB}{Q:Value->aY->Prop}{X:Cx}{s:aY}{pos pos' p:Pos}{pins:List (aV×Obj)}{y:V}{K:aQ}{c:Expr}{es:List Expr}{te:TE}{op op':CmpOp}{g:Int->Int->Int}{r':R2}{pl:Sem Bool}{kw:List (Str×Value)}{mg:Str->Option Value}{CX:CXT}{fd:aH}{sp:Sp}{outer:List Env}{vs:List V}{kindOf:Str->Option NameKind}{qual:Str}{scope:Scope}
noncomputable abbrev Key:=Sum Int Str
noncomputable def yM:Key->Value->Bool
 |.inl k,v=>Value.isInt k v
 |.inr x,v=>Value.isStrOf x v
noncomputable def keyH(w:bX):Key->Int
 |.inl k=>hashInt k
 |.inr x=>hashStr w x
theorem zX:∀{k:Key} {v:Value},yM k v=true->(∃i t,k=Sum.inl i/\v=Value.int i t)\/(∃x t,k=Sum.inr x/\v=Value.str x t)
 | .inl i,v,h=>by
   obtain⟨t,e⟩:=Value.isInt_shape (k:=i) (v:=v) h;exact .inl ⟨i,t,rfl,e⟩
 | .inr x,v,h=>by
   obtain⟨t,e⟩:=Value.isStrOf_shape (x:=x) (v:=v) h;exact .inr ⟨x,t,rfl,e⟩
theorem vZb(i:Int)(t:Tok):yM (.inl i) (.int i t)=true:=by simp[yM,Value.isInt]
theorem qJv(x:Str)(t:Tok):yM (.inr x) (.str x t)=true:=by simp[yM,Value.isStrOf]
theorem jJd(a b:Int):decide ((Sum.inl a:Key)=Sum.inl b)=(a == b):=by
 grind
theorem jJa(a b:Str):decide ((Sum.inr a:Key)=Sum.inr b)=decide (a=b):=by
 grind
theorem jJc(a:Int)(b:Str):decide ((Sum.inl a:Key)=Sum.inr b)=false:=decide_eq_false (fun q=>nomatch q)
theorem jJb(a:Str)(b:Int):decide ((Sum.inr a:Key)=Sum.inl b)=false:=decide_eq_false (fun q=>nomatch q)
noncomputable def zU(prog:bZ)(w:bX):PySem.KeyKind prog w Key where
 is:=yM;hash:=keyH w;inj:=fun v a b ha hb=>by
  rcases zX ha with⟨i,t,rfl,rfl⟩|⟨x,t,rfl,rfl⟩
  ·rcases zX hb with⟨j,u,rfl,e⟩ | ⟨y,u,rfl,e⟩
   ·injection e with e1 _;rw[e1]
   ·exact nomatch e
  ·rcases zX hb with⟨j,u,rfl,e⟩ | ⟨y,u,rfl,e⟩
   ·exact nomatch e
   ·injection e with e1 _;rw[e1]
 byValue:=fun k v h=>by
  rcases zX h with⟨i,t,rfl,rfl⟩|⟨x,t,rfl,rfl⟩ <;> rfl
 pyHash:=fun hv h=>by
  rcases zX hv with⟨i,t,rfl,rfl⟩|⟨x,t,rfl,rfl⟩
  ·exact wpAny_pyHash_int h
  ·exact wpAny_pyHash_str h
 eqBool:=fun hu hv h=>by
  rcases zX hu with⟨i,t,rfl,rfl⟩|⟨x,t,rfl,rfl⟩
  ·rcases zX hv with⟨j,u,rfl,rfl⟩ | ⟨y,u,rfl,rfl⟩
   ·rw[jJd]at h;exact wpAny_eqBool_int h
   ·rw[jJc]at h;exact SeqAt.EqAt.int_str i t y u _ _ _ _ h
  ·rcases zX hv with⟨j,u,rfl,rfl⟩ | ⟨y,u,rfl,rfl⟩
   ·rw[jJb]at h;exact SeqAt.EqAt.str_int x t j u _ _ _ _ h
   ·rw[jJa]at h;exact wpAny_eqBool_str h
 «strs»:=fun k x t v h=>by
  rcases zX h with⟨i,u,rfl,e⟩|⟨y,u,rfl,e⟩
  ·exact nomatch e
  ·injection e with e1 _
   subst e1;cases v <;> rfl
theorem vXw(prog:bZ)(w:bX)(i:Int)(t:Tok):(zU prog w).is (.inl i) (.int i t)=true:=vZb i t
theorem vXv(prog:bZ)(w:bX)(x:Str)(t:Tok):(zU prog w).is (.inr x) (.str x t)=true:=qJv x t
inductive V where
 |non|bl (b:Bool)|int (i:Int)|str (x:Str)|byt (b:Array UInt8)|flt (b:UInt64)|ref (a:aV)|ty (n:String)
 deriving DecidableEq
noncomputable def RelV:V->Value->Prop
 |.non,u=>u=Value.none
 |.bl b,u=>u=Value.bool b
 |.int i,u=>∃t,u=Value.int i t
 |.str x,u=>∃t,u=Value.str x t
 |.byt b,u=>∃t,u=Value.bytes b t
 |.flt b,u=>∃t,u=Value.float b t
 |.ref a,u=>u=Value.ref a
 |.ty n,u=>u=Value.type n
noncomputable abbrev Vals:List V->List Value->Prop:=Paired RelV
theorem Vals.length{xs:List V}(r:Vals xs us):xs.length=us.length:=Paired.length r
theorem Vals.get:∀{xs:List V} {us:List Value} {i:Nat} {x:V},Vals xs us->xs[i]?=some x->∃u,us[i]?=some u/\RelV x u
 |_,_,_,_,.nil,e=>by simp at e
 |_,_,0,_,.cons r _,e=>by simp at e;subst e;exact⟨_,rfl,r⟩
 | _,_,i + 1,x, .cons _ t,e=>by
   obtain⟨u,h1,h2⟩:=Vals.get (i:=i) (x:=x) t (by simpa using e);exact⟨u,by simpa using h1,h2⟩
theorem Vals.append:∀{xs ys:List V} {us ws:List Value},Vals xs us->Vals ys ws->Vals (xs ++ ys) (us ++ ws)
 |_,_,_,_,.nil,s=>s
 |_,_,_,_,.cons r t,s=>.cons r (Vals.append t s)
theorem Vals.take:∀{xs:List V} {us:List Value} (n:Nat),Vals xs us->Vals (xs.take n) (us.take n)
 |_,_,0,_=>.nil
 |_,_,_+1,.nil =>.nil
 |_,_,n+1,.cons r t=>.cons r (Vals.take n t)
theorem Vals.drop:∀{xs:List V} {us:List Value} (n:Nat),Vals xs us->Vals (xs.drop n) (us.drop n)
 |_,_,0,r=>r
 |_,_,_+1,.nil =>.nil
 |_,_,n+1,.cons _ t=>Vals.drop n t
noncomputable def RelO:Option V->Option Value->Prop
 |some v,some u=>RelV v u
 |none,none=>True
 |_,_=>False
noncomputable def KV{κ:Type}:List (κ×V)->List (κ×Value)->Prop:=Paired fun(p:κ×V) (q:κ×Value)=>p.1=q.1/\RelV p.2 q.2
noncomputable def kV:Key->V
 |.inl i=>.int i
 |.inr x=>.str x
inductive HO where
  |lst (xs:List V)
  |tup (xs:List V)
  |dK (kvs:List (Key×V))|dT (kvs:List (List Key×V))
  |set (S:Int->Bool) (n:Nat)
  |ins (C dx:aV) (fs:List (Str×V))
  |own (x:aV)
  |xd (fs:List (Str×V))
  |met (f x:aV)
  |rng (lo hi:Int)
  |frz (o:Obj) (u:HO)
  |tbl (ps:Array Value)
 | tab (l c:Nat) (q:Str)
   |ext (φ:Heap->Prop)
noncomputable abbrev Hp:=aV->Option HO
noncomputable def upd(H:Hp)(a:aV)(o:HO):Hp:=fun b=>if b=a then some o else H b
theorem upd_same{a:aV}{o:HO}:upd H a o a=some o:=by unfold upd;rw[if_pos rfl]
theorem qH{a b:aV}{o:HO}(h:b≠a):upd H a o b=H b:=by unfold upd;rw[if_neg h]
theorem vU{a b:aV}{o:HO}(h:H a=some o)(h' :H b=none):a≠b:=by
 grind
noncomputable def TabL(H:Hp)(h:Heap)(a:aV)(l c:Nat)(q:Str)(ps:List Value):Prop:=ps=[]\/∃c1 co fs t,ps=[rawInt l,rawInt c,.ref c1]/\H c1=some (.own a)/\h.get? c1=some co/\co.data=.fields fs/\fs[1]?=some (.str q t)
section
variable(P:bZ)(w:bX)
noncomputable def zL(H:Hp)(h:Heap)(a:aV):HO->Prop
 |.lst xs=>xs.length<=aD/\∃(its:List Value) (n:Nat),Vals xs its/\h.get? a=some {cls:=.type "list",data:=.seq its.toArray n}
 |.tup xs=>xs.length<=aD/\∃its:List Value,Vals xs its/\IsTup h a its.toArray
 |.dK kvs=>kvs.length<=aD/\(a == sysModules)=false/\∃vs,KV kvs vs/\h.DictOf (zU P w) a vs
 | .dT kvs=>kvs.length<=aD/\(a == sysModules)=false/\∃xs:List (List Key×aV×Value),
   Paired (fun(p:List Key×V) (q:List Key×aV×Value)=>p.1=q.1/\H q.2.1=some (.tup (p.1.map kV))/\RelV p.2 q.2.2) kvs xs/\
   ∃o es ep,h.get? a=some o/\o.ExactDict/\o.data=.dict es ep/\es.toList=xs.map (entryOfKey (tupleKind (zU P w)))/\(xs.map (·.1)).Nodup
 |.set S n=>h.SetOf (intKind P w) a S n
 | .ins C dx fs=>H dx=some (.own a)/\fs.length<=1000/\dx≠a/\h.get? a=some (cM C dx)/\
   ∃mA,h.Ns1 dx mA/\(∀f,RelO (fs.lookup f) (mA f))/\PySem.Within mA (fs.map (·.1))
 |.own _=>∃o,h.get? a=some o
 |.xd fs=>∃mA,h.Ns1 a mA/\∀f,RelO (fs.lookup f) (mA f)
 |.rng lo hi=>∃t u v,h.get? a=some {cls:=.type "range",data:=.fields #[.int lo t,.int hi u,.int 1 v]}
 |.frz o u=>h.get? a=some o/\zL H h a u
 |.tbl ps=>h.get? a=some {cls:=.none,data:=.fields ps}
 |.tab l c q=>∃ps,h.get? a=some {cls:=.none,data:=.fields ps}/\TabL H h a l c q ps.toList
 |.met f x=>h.get? a=some (PySem.W.methodObj (.ref f) (.ref x))
 |.ext φ=>φ h/\(∃o,h.get? a=some o)/\∀h1 h2:Heap,φ h1->(∀o,h1.get? a=some o->h2.get? a=some o)->φ h2
noncomputable def HOk(H:Hp)(h:Heap):Prop:=∀a o,H a=some o->zL P w H h a o
end
section
variable{P:bZ}{w:bX}{H H' :Hp}{h h' :Heap}{a:aV}{o:HO}
theorem zL.lt(x:zL P w H h a o):a<h.objs.size:=by
 cases o with
 |lst xs=>obtain⟨_,_,_,_,e⟩:=x;exact aL e
 |tup xs=>obtain⟨_,_,_,p⟩:=x;exact p.lt
 |dK kvs=>obtain⟨_,_,_,_,o,_,_,e,_⟩:=x;exact aL e
 |dT kvs=>obtain⟨_,_,_,_,o,_,_,e,_⟩:=x;exact aL e
 |set S n=>obtain⟨o,_,_,_,e,_⟩:=x;exact aL e
 |ins C dx fs=>obtain⟨_,_,_,e,_⟩:=x;exact aL e
 |own y=>obtain⟨_,e⟩:=x;exact aL e
 |xd fs=>obtain⟨_,⟨_,_,_,e,_⟩,_⟩:=x;exact aL e
 |rng lo hi=>obtain⟨_,_,_,e⟩:=x;exact aL e
 |frz ob u=>obtain⟨e,_⟩:=x;exact aL e
 |tbl ps=>exact aL (show h.get? a=some _ from x)
 |tab l c q=>obtain⟨_,e,_⟩:=x;exact aL e
 |met f y=>exact aL (show h.get? a=some _ from x)
 |ext φ=>obtain⟨_,⟨_,e⟩,_⟩:=x;exact aL e
theorem Paired.mapP{β:Type}{F G:α->β->Prop}:∀{l₁:List α} {l₂:List β},Paired F l₁ l₂->(∀a b,F a b->G a b)->Paired G l₁ l₂
 |_,_,.nil,_=>.nil
 |_,_,.cons r t,f=>.cons (f _ _ r) (Paired.mapP t f)
theorem zL.stay(x:zL P w H h a o)(k:∀b u,(b=a\/H b=some (.own a))->h.get? b=some u->h'.get? b=some u)(ho:∀b,H b=some (.own a)->H' b=some (.own a))(ht:∀b xs,H b=some (.tup xs)->H' b=some (.tup xs)):zL P w H' h' a o:=by
 induction o with
 |lst xs=>obtain⟨z,its,n,r,e⟩:=x;exact⟨z,its,n,r,k _ _ (.inl rfl) e⟩
 |tup xs=>obtain⟨z,its,r,ob,e,c⟩:=x;exact⟨z,its,r,ob,k _ _ (.inl rfl) e,c⟩
 |dK kvs=>obtain⟨z,y,vs,r,ob,es,ep,e,c⟩:=x;exact⟨z,y,vs,r,ob,es,ep,k _ _ (.inl rfl) e,c⟩
 | dT kvs=>
   obtain⟨z,y,xs,r,ob,es,ep,e,c⟩:=x;exact⟨z,y,xs,Paired.mapP r fun p q z=>⟨z.1,ht _ _ z.2.1,z.2.2⟩,ob,es,ep,k _ _ (.inl rfl) e,c⟩
 |set S n=>obtain⟨ob,es,ep,t,e,c⟩:=x;exact⟨ob,es,ep,t,k _ _ (.inl rfl) e,c⟩
 | ins C dx fs=>
   obtain⟨d,z,ne,e,mA,⟨od,es,ep,e2,c⟩,r⟩:=x;exact⟨ho _ d,z,ne,k _ _ (.inl rfl) e,mA,⟨od,es,ep,k _ _ (.inr d) e2,c⟩,r⟩
 |own y=>obtain⟨ob,e⟩:=x;exact⟨ob,k _ _ (.inl rfl) e⟩
 |xd fs=>obtain⟨mA,⟨od,es,ep,e,c⟩,r⟩:=x;exact⟨mA,⟨od,es,ep,k _ _ (.inl rfl) e,c⟩,r⟩
 |rng lo hi=>obtain⟨t,u,v,e⟩:=x;exact⟨t,u,v,k _ _ (.inl rfl) e⟩
 |frz ob u ih=>obtain⟨e,q⟩:=x;exact⟨k _ _ (.inl rfl) e,ih q⟩
 | tbl ps=>
   have e:h.get? a=some {cls:=.none,data:=.fields ps}:=x;show h'.get? a=some {cls:=.none,data:=.fields ps};exact k a _ (.inl rfl) e
 | tab l c q=>
   obtain⟨ps,e,t⟩:=x;refine⟨ps,k a _ (.inl rfl) e,?_⟩;rcases t with t|⟨c,co,fs,tq,h1,h2,h3,h4⟩
   ·exact .inl t
   ·exact .inr ⟨c,co,fs,tq,h1,ho c h2,k c co (.inr h2) h3,h4⟩
 | met f y=>
   have e:h.get? a=some (PySem.W.methodObj (.ref f) (.ref y)):=x;show h'.get? a=some (PySem.W.methodObj (.ref f) (.ref y));exact k a _ (.inl rfl) e
 |ext φ=>obtain⟨p,⟨o,e⟩,st⟩:=x;exact⟨st _ _ p fun o q=>k _ _ (.inl rfl) q,⟨o,k _ _ (.inl rfl) e⟩,st⟩
theorem HOk.lt(x:HOk P w H h)(e:H a=some o):a<h.objs.size:=(x a o e).lt
theorem HOk.fresh(x:HOk P w H h)(e:h.objs.size<=a):H a=none:=by
 cases q:H a with
 |none=>rfl
 |some u=>exact absurd (aN (x.lt q) e) (cE _)
theorem HOk.kept(x:HOk P w H h)(k:∀b u,h.get? b=some u->h'.get? b=some u):HOk P w H h' :=fun a o e=>
 (x a o e).stay (fun b u _ q=>k b u q) (fun _ q=>q) fun _ _ q=>q
theorem HOk.laid(x:HOk P w H h)(k:∀b u,h.get? b=some u->h'.get? b=some u)(hp:h.objs.size<=a)(new:zL P w (upd H a o) h' a o):HOk P w (upd H a o) h' :=fun b u e=>by
 have hn:=x.fresh hp;by_cases hb:b=a
 ·subst hb;rw[upd_same]at e;cases e;exact new
 ·rw [qH hb] at e;exact(x b u e).stay (fun c v _ q=>k c v q) (fun c q=>by rw[qH (vU q hn)];exact q) fun c xs q=>by rw[qH (vU q hn)];exact q
end
noncomputable def Rd(H:Hp)(a:aV)(u:HO):Prop:=H a=some u\/∃o,H a=some (.frz o u)
theorem Rd.ok{P:bZ}{w:bX}{a:aV}{u:HO}(r:Rd H a u)(x:HOk P w H h):zL P w H h a u:=by
 rcases r with r|⟨o,r⟩
 ·exact x a u r
 ·obtain⟨_,q⟩:=x a _ r;exact q
noncomputable def Mut:Option HO->Prop
 |some (.lst _)=>True
 |some (.dK _)=>True
 |some (.dT _)=>True
 |some (.set _ _)=>True
 |some (.ins _ _ _)=>True
 |some (.ext _)=>True
 |_=>False
section
variable{P:bZ}{w:bX}{H:Hp}{h h' :Heap}{x e:aV}{o' :HO}
theorem HOk.write(ok:HOk P w H h)(mu:Mut (H x))(he:e=x\/H e=some (.own x))(k:∀b u,b≠e->h.get? b=some u->h'.get? b=some u)(heo:∃u,h'.get? e=some u)(new:zL P w (upd H x o') h' x o'):HOk P w (upd H x o') h' :=fun b u q=>by
 have nown:∀c y,H c=some (.own y)->c≠x:=fun c y r z=>by subst z;rw[r]at mu;exact mu
 have ntup:∀c xs,H c=some (.tup xs)->c≠x:=fun c xs r z=>by subst z;rw[r]at mu;exact mu
 by_cases hb:b=x
 ·subst hb;rw[upd_same]at q;cases q;exact new
 ·rw [qH hb] at q;by_cases hbe:b=e
  ·have q' :H b=some (.own x):=by
    rcases he with z|z
    ·exact absurd (hbe.trans z) hb
    ·rw[hbe];exact z
   rw[q]at q';cases q';obtain⟨v,hv⟩:=heo;exact⟨v,by rw[hbe];exact hv⟩
  ·refine(ok b u q).stay (fun c v hc r=>k c v ?_ r) (fun c r=>by rw [qH (nown c b r)];exact r) fun c xs r=>by rw [qH (ntup c xs r)];exact r
   rcases hc with rfl|hc
   ·exact hbe
   ·rintro rfl;rcases he with z|z
    ·exact nown c b hc z
    ·rw[hc]at z;cases z;exact hb rfl
end
structure Un(fs ex:List aV)(H H' :Hp)(h h' :Heap):Prop where
 keep:∀b o,h.get? b=some o->H b=none->b∉fs->b∉ex->h'.get? b=some o
 slot:∀b o,h.get? b=some o->H b=none->b∈fs->b∉ex->∃sl,h'.get? b=some {o with slots:=sl}
 free:∀b o,h.get? b=some o->H b=none->b∉ex->H' b=none
 there:∀b o,h.get? b=some o->b∉ex->∃o',h'.get? b=some o'
 tups:∀b xs,H b=some (.tup xs)->H' b=some (.tup xs)
 frzs:∀b o u,H b=some (.frz o u)->H' b=some (.frz o u)
 tbls:∀b ps,H b=some (.tbl ps)->∃more,H' b=some (.tbl (ps ++ more))
section
variable{fs fs' ex ex' :List aV}{H H1 H2:Hp}{h h1 h2 h' :Heap}{a x e:aV}{o:HO}
theorem Un.any(u:Un fs ex H H1 h h1){b:aV}{ob:Obj}(q:h.get? b=some ob)(n:H b=none)(hx:b∉ex):∃sl,h1.get? b=some {ob with slots:=sl}:=by
 by_cases hb:b∈fs
 ·exact u.slot b ob q n hb hx
 ·exact⟨ob.slots,u.keep b ob q n hb hx⟩
theorem Un.kept(k:∀b u,h.get? b=some u->h'.get? b=some u):Un fs ex H H h h' :=
 ⟨fun b ob q _ _ _=>k b ob q,fun b ob q _ _ _=>⟨ob.slots,k b ob q⟩,fun _ _ _ n _=>n,fun b ob q _=>⟨ob,k b ob q⟩,fun _ _ q=>q,fun _ _ _ q=>q,fun _ ps q=>⟨#[],by rw[q];simp⟩⟩
theorem Un.refl:Un fs ex H H h h:=Un.kept fun _ _ q=>q
theorem Un.laid(k:∀b u,h.get? b=some u->h'.get? b=some u)(hp:h.objs.size<=a)(hn:H a=none):Un fs ex H (upd H a o) h h' where
 keep:=fun b u q _ _ _=>k b u q
 slot:=fun b u q _ _ _=>⟨u.slots,k b u q⟩
 free:=fun b u q n _=>by rw[qH (bK (aN (aL q) hp))];exact n
 there:=fun b u q _=>⟨u,k b u q⟩
 tups:=fun b xs q=>by rw[qH (vU q hn)];exact q
 frzs:=fun b u xs q=>by rw[qH (vU q hn)];exact q
 tbls:=fun b ps q=>⟨#[],by rw[qH (vU q hn),q];simp⟩
theorem Un.write(mu:Mut (H x))(he:e=x\/H e=some (.own x))(k:∀b u,b≠e->h.get? b=some u->h'.get? b=some u)(heo:∃u,h'.get? e=some u):Un fs ex H (upd H x o) h h' :=by
 have hx:∀b,H b=none->b≠x:=fun b n z=>by subst z;rw[n]at mu;exact mu
 have hb:∀b,H b=none->b≠e:=fun b n z=>by
  subst z;rcases he with r|r
  ·exact hx b n r
  ·rw[n]at r;cases r
 have hm:∀b u,H b=some u->¬Mut (some u)->b≠x:=fun b u q nm z=>by subst z;rw[q]at mu;exact nm mu
 refine⟨fun b u q n _ _=>k b u (hb b n) q,fun b u q n _ _=>⟨u.slots,k b u (hb b n) q⟩,fun b u q n _=>by rw[qH (hx b n)];exact n,fun b u q _=>?_,
  fun b xs q=>by rw[qH (hm b _ q fun z=>z)];exact q,fun b u xs q=>by rw[qH (hm b _ q fun z=>z)];exact q,fun b ps q=>⟨#[],by rw[qH (hm b _ q fun z=>z),q];simp⟩⟩
 by_cases hbe:b=e
 ·subst hbe;exact heo
 ·exact⟨u,k b u hbe q⟩
end
noncomputable def trk(h:Heap)(H:Hp):List aV:=(List.range h.objs.size).filter fun a=>(H a).isSome
noncomputable def hidT(h:Heap)(H:Hp):Heap:=PySem.W.hideAll h (trk h H)
theorem zV7(h:Heap)(H:Hp):(hidT h H).objs.size=h.objs.size:=PySem.W.hideAll_size _ _
theorem zXu{b:aV}{o:Obj}(e:h.get? b=some o)(n:H b=none):(hidT h H).get? b=some o:=
 PySem.W.hideAll_get _ e fun hm=>by
  have q:(H b).isSome =true:=(List.mem_filter.mp hm).2;grind
theorem zKl{b:aV}{o:Obj}(e:(hidT h H).get? b=some o):h.get? b=some o/\H b=none:=by
 have e' :h.get? b=some o:=PySem.W.of_hideAll (trk h H) e;refine⟨e',?_⟩;cases q:H b with
 |none=>rfl
 | some x=>
   have hm:b∈trk h H:=List.mem_filter.mpr ⟨List.mem_range.mpr (aL e'),by simp[q]⟩;have z:(hidT h H).get? b=none:=PySem.W.hideAll_none (trk h H) hm;grind
structure Mod(K:aQ)(mg:Str->Option Value)(base:Heap):Prop where
 kin:K.In base
 glob:base.Ns cX mg
 blt:∃mb,base.Ns builtinsNs mb/\∀x:Str,x≠"__name__"->mb x=dE x
 nolimit:base.NoLimit
structure Cx where
 prog:bZ
 w:bX
 K:aQ
 mg:Str->Option Value
 base:Heap
 A:cB
 N:List Str
 s₀:aY
 H₀:Hp
 env:Env
 outer:List Env
 stack:List Env
 ex:List aV
 fn:Str->Bool
 calm:Bool
 pn:List (aV×Obj)
 xe:Value->aY->Prop
noncomputable def frs(l:List Env):List aV:=l.filterMap (·.frame)
noncomputable abbrev Cx.fs(X:Cx):List aV:=frs X.outer
noncomputable def Vis(sc:Scope)(x:Str):Prop:=sc.names.lookup x=some .local \/sc.names.lookup x=some .cell \/sc.names.lookup x=some .free
noncomputable def Loc(sc:Scope)(x:Str):Prop:=sc.names.lookup x=some .local \/sc.names.lookup x=some .cell
noncomputable def Look(env:Env)(h:Heap)(m:Str->Option Value)(x:Str)(u:Value):Prop:=
 (env.kindOf x=some .local /\m x=some u)\/((env.kindOf x=some .cell \/env.kindOf x=some .free)/\∃c,env.cells.lookup x=some c/\h.IsCell c (some u))
structure Cx.Ok(X:Cx):Prop where
 mod:Mod X.K X.mg X.base
 kind:X.env.scope.kind=.function
 glob:X.env.globals=cX
 blt:X.env.builtins=builtinsNs
 above:X.s₀.heap.objs.size<=X.env.locals
 inj:∀x y c,X.env.cells.lookup x=some c->X.env.cells.lookup y=some c->x=y
 has:∀x,(X.env.kindOf x=some .cell \/X.env.kindOf x=some .free)->∃c,X.env.cells.lookup x=some c
 cab:∀x c,X.fn x=true->X.env.cells.lookup x=some c->X.s₀.heap.objs.size<=c
 hd:X.calm=true->X.A.handled=none
 frames:X.A.frames=some X.stack
 stk:X.stack=X.outer\/(X.stack=X.env::X.outer/\X.env.frame=some X.env.locals)
 exf:∀b∈X.ex,b≠X.env.locals/\∀x c,X.env.cells.lookup x=some c->c≠b
 bs:∀b o,X.base.get? b=some o->X.s₀.heap.get? b=some o/\X.H₀ b=none
 bsz:X.base.objs.size<=X.s₀.heap.objs.size
 noex:∀b o,X.base.get? b=some o->b∉X.ex
 exfs:∀b∈X.ex,b∉X.fs
 funs:X.s₀.heap.FunFrames X.base X.outer
 frf:∀b∈X.fs,X.H₀ b=none
structure Inv(X:Cx)(pins:List (aV×Obj))(σ:List (Option V))(H:Hp)(s:aY):Prop where
 ok:X.Ok
 os:s.os=X.s₀.os
 bare:AllBare s.gens
 base:Un X.fs X.ex X.H₀ H X.s₀.heap s.heap
 loc:∃m,s.heap.Ns X.env.locals m/\∀(i:Nat) (x:Str) (v:V),X.N[i]?=some x->σ[i]?=some (some v)->Vis X.env.scope x->∃u,RelV v u/\Look X.env s.heap m x u
 cell:∀x c,X.env.cells.lookup x=some c->∃v,s.heap.IsCell c v
 free:H X.env.locals=none
 freeC:∀x c,X.env.cells.lookup x=some c->H c=none
 pin:∀p∈X.pn ++ pins,s.heap.get? p.1=some p.2/\H p.1=none/\p.1≠X.env.locals/\p.1∉X.fs/\∀v,p.2.data≠ .cell v
 hok:HOk X.prog X.w H s.heap
 len:σ.length=X.N.length
section
variable{X:Cx}{pins:List (aV×Obj)}{σ:List (Option V)}{H H' :Hp}{s:aY}{h' :Heap}
theorem Cx.Ok.nofr(ok:X.Ok){b:aV}{o:Obj}(e:X.base.get? b=some o):b∉X.fs:=fun hb=>by
 have:=(ok.funs.mem hb).1;grind
theorem Inv.bs(I:Inv X pins σ H s):∀b o,X.base.get? b=some o->s.heap.get? b=some o/\H b=none:=fun b o e=>
 ⟨I.base.keep b o (I.ok.bs b o e).1 (I.ok.bs b o e).2 (I.ok.nofr e) (I.ok.noex b o e),I.base.free b o (I.ok.bs b o e).1 (I.ok.bs b o e).2 (I.ok.noex b o e)⟩
theorem Inv.bk(I:Inv X pins σ H s):∀b o,X.base.get? b=some o->s.heap.get? b=some o:=fun b o e=>(I.bs b o e).1
theorem Inv.mod(I:Inv X pins σ H s):Mod X.K X.mg X.base:=I.ok.mod
theorem Inv.kIn(I:Inv X pins σ H s):X.K.In s.heap:=I.ok.mod.kin.keeps I.bk
theorem Inv.lt(I:Inv X pins σ H s):X.env.locals<s.heap.objs.size:=let ⟨_,hn,_⟩:=I.loc;hn.lt
theorem Inv.sz(I:Inv X pins σ H s):X.s₀.heap.objs.size<=s.heap.objs.size:=aG I.ok.above (Nat.le_of_lt I.lt)
theorem Inv.nofs(I:Inv X pins σ H s){a:aV}(h:s.heap.objs.size<=a):a∉X.fs:=fun hb=>by
 obtain⟨_,o,ho,_⟩:=I.ok.funs.mem hb;exact absurd (aN (aL ho) (aG I.sz h)) (cE _)
theorem Inv.cne(I:Inv X pins σ H s):∀x c,X.env.cells.lookup x=some c->c≠X.env.locals:=fun x c e z=>by
 obtain⟨v,o,ho,hd⟩:=I.cell x c e;obtain⟨m,⟨o',es,ep,ho',hd',_⟩,_⟩:=I.loc;grind
theorem Inv.funs(I:Inv X pins σ H s):s.heap.FunFrames X.base X.outer:=by
 have all:∀(l:List Env),(∀b∈frs l,b∈X.fs)->X.s₀.heap.FunFrames X.base l->s.heap.FunFrames X.base l:=by
  intro l;induction l with
  |nil=>intro _ _;trivial
  | cons env r ih=>
    intro hs hl;obtain⟨hk,⟨L,o,hf,hn,ho,hd⟩,hr⟩:=hl;have hL:L∈X.fs:=hs L (by unfold frs;rw[List.filterMap_cons,hf];exact aM);obtain⟨sl,e⟩:=I.base.slot L o ho (I.ok.frf L hL) hL fun z=>I.ok.exfs L z hL
    exact⟨hk,⟨L,_,hf,hn,e,hd⟩,ih (fun b hb=>hs b (by unfold frs;rw[List.filterMap_cons,hf];exact aI _ hb)) hr⟩
 exact all X.outer (fun _ hb=>hb) I.ok.funs
theorem Inv.stack(I:Inv X pins σ H s):s.heap.FunFrames X.base X.stack:=by
 rcases I.ok.stk with e|⟨e,hf⟩
 ·rw[e];exact I.funs
 ·rw [e];obtain⟨m,hn,_⟩:=I.loc;refine .cons (by rw[I.ok.kind];decide) hf hn ?_ I.funs;exact Heap.get?_none_of_le (aG I.ok.bsz I.ok.above)
theorem Inv.stkSub(I:Inv X pins σ H s):∀b∈frs X.stack,b∈X.env.locals::X.fs:=fun b hb=>by
 rcases I.ok.stk with e|⟨e,hf⟩
 ·grind
 ·rw [e] at hb;unfold frs at hb;rw[List.filterMap_cons,hf]at hb;exact hb
theorem Inv.stkFree(I:Inv X pins σ H s):∀b∈frs X.stack,H b=none:=fun b hb=>by
 rcases aC.mp (I.stkSub b hb) with e|hb
 ·rw[e];exact I.free
 ·obtain⟨_,o,ho,_⟩:=I.ok.funs.mem hb;exact I.base.free b o ho (I.ok.frf b hb) fun z=>I.ok.exfs b z hb
theorem Inv.step(I:Inv X pins σ H s)(hch:∀b∈ch,(b∈X.ex\/X.s₀.heap.objs.size<=b)/\b≠X.env.locals/\(∀x c,X.env.cells.lookup x=some c->c≠b)/\∀p∈X.pn ++ pins,p.1≠b)(keep:∀b o,b≠X.env.locals->b∉X.fs->b∉ch->s.heap.get? b=some o->H b=none->h'.get? b=some o)(slot:∀b o,b≠X.env.locals->b∈X.fs->b∉ch->s.heap.get? b=some o->H b=none->∃sl,h'.get? b=some {o with slots:=sl})(free:∀b o,b∉ch->s.heap.get? b=some o->H b=none->H' b=none)(there:∀b o,b∉ch->s.heap.get? b=some o->∃o',h'.get? b=some o')(tups:∀b xs,H b=some (.tup xs)->H' b=some (.tup xs))(frzs:∀b o u,H b=some (.frz o u)->H' b=some (.frz o u))(tbls:∀b ps,H b=some (.tbl ps)->∃more,H' b=some (.tbl (ps ++ more)))(ns:∀m,s.heap.Ns X.env.locals m->h'.Ns X.env.locals m)(hok:HOk X.prog X.w H' h')(hg:AllBare g'):
  Inv X pins σ H' {s with heap:=h',gens:=g',drawn:=d',toks:=t' }:=by
 have neL:∀b o,X.s₀.heap.get? b=some o->b≠X.env.locals:=fun b o e=>bK (aN (aL e) I.ok.above)
 have neC:∀b o,X.s₀.heap.get? b=some o->b∉X.ex->b∉ch:=fun b o e hx hb=>by
  rcases(hch b hb).1 with z|z
  ·exact hx z
  ·exact absurd (aN (aL e) z) (cE _)
 have cellK:∀x c,X.env.cells.lookup x=some c->∀v,s.heap.IsCell c v->h'.IsCell c v:=fun x c e v ⟨o,ho,hd⟩=>by
  have nch:c∉ch:=fun z=>(hch c z).2.2.1 x c e rfl
  by_cases hc:c∈X.fs
  ·obtain⟨sl,q⟩:=slot c o (I.cne x c e) hc nch ho (I.freeC x c e);exact⟨_,q,hd⟩
  ·exact⟨o,keep c o (I.cne x c e) hc nch ho (I.freeC x c e),hd⟩
 refine⟨I.ok,I.os,hg,⟨fun b o e n hb hx=>?_,fun b o e n hb hx=>?_,fun b o e n hx=>?_,fun b o e hx=>?_,fun b xs e=>tups b xs (I.base.tups b xs e),fun b o xs e=>frzs b o xs (I.base.frzs b o xs e),fun b ps e=>?_⟩,?_,fun x c e=>?_,?_,fun x c e=>?_,fun p hp=>?_,hok,I.len⟩
 ·exact keep b o (neL b o e) hb (neC b o e hx) (I.base.keep b o e n hb hx) (I.base.free b o e n hx)
 ·obtain⟨sl,e1⟩:=I.base.slot b o e n hb hx;obtain⟨sl',e2⟩:=slot b _ (neL b o e) hb (neC b o e hx) e1 (I.base.free b o e n hx);exact⟨sl',e2⟩
 ·obtain⟨o',e1⟩:=I.base.there b o e hx;exact free b o' (neC b o e hx) e1 (I.base.free b o e n hx)
 ·obtain⟨o',e1⟩:=I.base.there b o e hx;exact there b o' (neC b o e hx) e1
 ·obtain⟨m1,e1⟩:=I.base.tbls b ps e;obtain⟨m2,e2⟩:=tbls b _ e1;exact⟨m1 ++ m2,by rw[e2,Array.append_assoc]⟩
 ·obtain⟨m,hn,hl⟩:=I.loc;refine⟨m,ns m hn,fun i x v e1 e2 e3=>?_⟩;obtain⟨u,r,l⟩:=hl i x v e1 e2 e3;refine⟨u,r,?_⟩;rcases l with l|⟨k,c,e,z⟩
  ·exact .inl l
  ·exact .inr ⟨k,c,e,cellK x c e _ z⟩
 ·obtain⟨v,z⟩:=I.cell x c e;exact⟨v,cellK x c e v z⟩
 ·obtain⟨m,⟨o,_,_,ho,_⟩,_⟩:=I.loc;exact free _ o (fun z=>(hch _ z).2.1 rfl) ho I.free
 ·obtain⟨v,o,ho,hd⟩:=I.cell x c e;exact free c o (fun z=>(hch c z).2.2.1 x c e rfl) ho (I.freeC x c e)
 ·obtain⟨e,n,ne,nf,d⟩:=I.pin p hp;have nch:p.1∉ch:=fun z=>(hch p.1 z).2.2.2 p hp rfl
  exact⟨keep p.1 p.2 ne nf nch e n,free p.1 p.2 nch e n,ne,nf,d⟩
theorem Inv.un(I:Inv X pins σ H s)(u:Un X.fs [] H H' s.heap h')(hok:HOk X.prog X.w H' h'):Inv X pins σ H' {s with heap:=h',toks:=t' }:=by
 obtain⟨m,⟨o,es,ep,ho,r⟩,_⟩:=id I.loc;obtain⟨sl,hL⟩:=u.any ho I.free (by simp);exact I.step (g' :=s.gens) (d' :=s.drawn) (ch:=[]) (fun _ z=>nomatch z) (fun b o _ hb _ e n=>u.keep b o e n hb (by simp)) (fun b o _ hb _ e n=>u.slot b o e n hb (by simp)) (fun b o _ e n=>u.free b o e n (by simp)) (fun b o _ e=>u.there b o e (by simp)) u.tups u.frzs u.tbls (fun m' hm=>by
  obtain⟨o',es',ep',ho',r'⟩:=hm;rw[ho]at ho';cases ho';exact⟨_,es',ep',hL,r'⟩) hok I.bare
theorem Inv.call(I:Inv X pins σ H s)(u:Un (frs X.stack) ch H H' s.heap h')(hok:HOk X.prog X.w H' h')(hg:AllBare g')(hch:∀b∈ch,(b∈X.ex\/X.s₀.heap.objs.size<=b)/\b≠X.env.locals/\(∀x c,X.env.cells.lookup x=some c->c≠b)/\∀p∈X.pn ++ pins,p.1≠b):
  Inv X pins σ H' {s with heap:=h',gens:=g',drawn:=d',toks:=t' }:=by
 obtain⟨m,⟨o,es,ep,ho,r⟩,_⟩:=id I.loc;obtain⟨sl,hL⟩:=u.any ho I.free fun z=>(hch _ z).2.1 rfl
 exact I.step (ch:=ch) hch (fun b o hL hb hc e n=>u.keep b o e n (fun z=>(aC.mp (I.stkSub b z)).elim hL hb) hc) (fun b o _ _ hc e n=>u.any e n hc) (fun b o hc e n=>u.free b o e n hc) (fun b o hc e=>u.there b o e hc) u.tups u.frzs u.tbls (fun m' hm=>by
  obtain⟨o',es',ep',ho',r'⟩:=hm;rw[ho]at ho';cases ho';exact⟨_,es',ep',hL,r'⟩) hok hg
theorem Inv.turned(I:Inv X pins σ H s)(k:∀b o,b≠it->s.heap.get? b=some o->h'.get? b=some o)(hn:H it=none)(hL:it≠X.env.locals)(h1:it∈X.ex\/X.s₀.heap.objs.size<=it)(h2:∀x c,X.env.cells.lookup x=some c->c≠it)(h3:∀p∈X.pn ++ pins,p.1≠it):Inv X pins σ H {s with heap:=h',toks:=t' }:=by
 have nit:∀b u,H b=some u->b≠it:=fun b u e z=>by rw[z,hn]at e;cases e
 refine I.step (g' :=s.gens) (d' :=s.drawn) (ch:=[it]) (fun b hb=>?_) (fun b o _ _ hc e _=>k b o (fun z=>hc (by simp[z])) e) (fun b o _ _ hc e _=>⟨o.slots,k b o (fun z=>hc (by simp[z])) e⟩) (fun _ _ _ _ n=>n)
  (fun b o hc e=>⟨o,k b o (fun z=>hc (by simp[z])) e⟩) (fun _ _ e=>e) (fun _ _ _ e=>e) (fun b ps e=>⟨#[],by rw[e];simp⟩) (fun m hm=>?_) (fun b u e=>?_) I.bare
 ·have e:b=it:=by simpa using hb
  subst e;exact⟨h1,hL,h2,h3⟩
 ·obtain⟨o,es,ep,ho,r⟩:=hm;exact⟨o,es,ep,k _ o (Ne.symm hL) ho,r⟩
 ·refine(I.hok b u e).stay (fun c v hc q=>k c v ?_ q) (fun _ q=>q) fun _ _ q=>q
  rcases hc with z|z
  ·rw[z];exact nit b u e
  ·exact nit c _ z
theorem Inv.tok(I:Inv X pins σ H s)(t:Nat):Inv X pins σ H {s with toks:=t}:=I.un (h' :=s.heap) (t' :=t) Un.refl I.hok
theorem Inv.kept(I:Inv X pins σ H s)(k:∀b u,s.heap.get? b=some u->h'.get? b=some u):Inv X pins σ H {s with heap:=h',toks:=t' }:=I.un (Un.kept k) (I.hok.kept k)
theorem Inv.laid{a:aV}{o:HO}(I:Inv X pins σ H s)(k:∀b u,s.heap.get? b=some u->h'.get? b=some u)(hp:s.heap.objs.size<=a)(new:zL X.prog X.w (upd H a o) h' a o):
  Inv X pins σ (upd H a o) {s with heap:=h',toks:=t' }:=I.un (Un.laid k hp (I.hok.fresh hp)) (I.hok.laid k hp new)
theorem Inv.write{x e:aV}{o:HO}(I:Inv X pins σ H s)(mu:Mut (H x))(he:e=x\/H e=some (.own x))(k:∀b u,b≠e->s.heap.get? b=some u->h'.get? b=some u)(heo:∃u,h'.get? e=some u)(new:zL X.prog X.w (upd H x o) h' x o):Inv X pins σ (upd H x o) {s with heap:=h',toks:=t' }:=I.un (Un.write mu he k heo) (I.hok.write mu he k heo new)
theorem Inv.pins_of{pins' :List (aV×Obj)}(I:Inv X pins σ H s)(h:∀p∈pins',s.heap.get? p.1=some p.2/\H p.1=none/\p.1≠X.env.locals/\p.1∉X.fs/\∀v,p.2.data≠ .cell v):Inv X pins' σ H s:=
 ⟨I.ok,I.os,I.bare,I.base,I.loc,I.cell,I.free,I.freeC,fun p hp=>(cV.mp hp).elim (fun z=>I.pin p (List.mem_append_left _ z)) (h p),I.hok,I.len⟩
theorem vXb(hN:N.Nodup){x:Str}(a:N[i]?=some x)(b:N[j]?=some x):i=j:=by
 obtain⟨h1,e1⟩:=aW.mp a;obtain⟨h2,e2⟩:=aW.mp b;exact(List.getElem_inj hN).mp (e1.trans e2.symm)
theorem zVk{E:Value->aY->Prop}{x:Str}{v:V}{u:Value}{Q:Unit->aY->Prop}(I:Inv X pins σ H s)(hN:X.N.Nodup)(hi:X.N[i]?=some x)(hx:Loc X.env.scope x)(r:RelV v u)(h:∀s',Inv X pins (σ.set i (some v)) H s' ->(∃a,Heap.SameBut a s.heap s'.heap/\(a=X.env.locals\/X.env.cells.lookup x=some a))->Q () s')(hf:X.fn x=true\/X.env.scope.names.lookup x=some .local :=by first|exact .inl rfl|exact .inr rfl|assumption):bJ M A (storeName X.env x u) Q E s:=by
 obtain⟨m,hn,hl⟩:=id I.loc;have hcls:(X.env.scope.kind ==.class || (X.env.scope.kind ==.module && X.env.locals != X.env.globals))=false:=by rw[I.ok.kind];rfl
 have hiσ:i < σ.length:=by rw[I.len];exact(aW.mp hi).1
 have cne:=I.cne;have tracked:∀{a:aV} {h' :Heap},(∃o,s.heap.get? a=some o/\H a=none)->Heap.SameBut a s.heap h' ->HOk X.prog X.w H h' :=fun {a h'} ha hs b ob e=>by
  obtain⟨_,_,hfree⟩:=ha;refine(I.hok b ob e).stay (fun c w' hc q=>(hs.2 c ?_).trans q) (fun _ q=>q) fun _ _ q=>q
  rintro rfl;rcases hc with rfl|hc
  ·rw[hfree]at e;cases e
  ·rw[hfree]at hc;cases hc
 rcases hx with hk|hk
 ·refine wpAny_storeName_local hk hn (fun h' hn' hs=>?_) hcls;obtain⟨oL,_,_,hoL,_⟩:=id hn;refine h _ ⟨I.ok,I.os,I.bare,⟨fun b o e n hb hx=>?_,fun b o e n hb hx=>?_,I.base.free,fun b o e hx=>?_,I.base.tups,I.base.frzs,I.base.tbls⟩,⟨_,hn',fun j y v' e1 e2 e3=>?_⟩,fun y c e=>?_,I.free,I.freeC,fun p hp=>?_,tracked ⟨oL,hoL,I.free⟩ hs,by simpa using I.len⟩ ⟨_,hs,.inl rfl⟩
  ·exact(hs.2 b (bK (aN (aL e) I.ok.above))).trans (I.base.keep b o e n hb hx)
  ·obtain⟨sl,e1⟩:=I.base.slot b o e n hb hx;exact⟨sl,(hs.2 b (bK (aN (aL e) I.ok.above))).trans e1⟩
  ·obtain⟨o',e1⟩:=I.base.there b o e hx;exact⟨o',(hs.2 b (bK (aN (aL e) I.ok.above))).trans e1⟩
  ·by_cases hj:j=i
   ·subst hj;rw[hi]at e1;cases e1;rw[List.getElem?_set_self hiσ]at e2;cases e2;exact⟨u,r,.inl ⟨hk,by simp⟩⟩
   ·rw [bT (Ne.symm hj)] at e2;obtain⟨u',r',q⟩:=hl j y v' e1 e2 e3;refine⟨u',r',?_⟩;rcases q with⟨k,e⟩|⟨k,c,e,z⟩
    ·refine .inl ⟨k,?_⟩;have:y≠x:=fun e=>hj (vXb hN e1 (e▸hi))
     simp[this,e]
    ·exact .inr ⟨k,c,e,z.sameBut hs (cne y c e)⟩
  ·obtain⟨w',z⟩:=I.cell y c e;exact⟨w',z.sameBut hs (cne y c e)⟩
  ·obtain⟨e,n,ne,nf,d⟩:=I.pin p hp;exact⟨(hs.2 p.1 ne).trans e,n,ne,nf,d⟩
 ·have hfn:X.fn x=true:=by
   rcases hf with z|z
   ·exact z
   ·rw[z]at hk;cases hk
  obtain⟨c,hc⟩:=I.ok.has x (.inl hk);obtain⟨w',z⟩:=I.cell x c hc;refine wpAny_storeName_cell I.ok.kind hk hc z (fun h' hc' hs=>?_);obtain⟨oc,hoc,hocd⟩:=id z;refine h {s with heap:=h' } ⟨I.ok,I.os,I.bare,⟨fun b o e n hb hx=>?_,fun b o e n hb hx=>?_,I.base.free,fun b o e hx=>?_,I.base.tups,I.base.frzs,I.base.tbls⟩,⟨m,hn.sameBut hs (Ne.symm (cne x c hc)),fun j y v' e1 e2 e3=>?_⟩,fun y c' e=>?_,I.free,I.freeC,fun p hp=>?_,tracked ⟨oc,hoc,I.freeC x c hc⟩ hs,by simpa using I.len⟩ ⟨c,hs,.inr hc⟩
  ·exact(hs.2 b (bK (aN (aL e) (I.ok.cab x c hfn hc)))).trans (I.base.keep b o e n hb hx)
  ·obtain⟨sl,e1⟩:=I.base.slot b o e n hb hx;exact⟨sl,(hs.2 b (bK (aN (aL e) (I.ok.cab x c hfn hc)))).trans e1⟩
  ·obtain⟨o',e1⟩:=I.base.there b o e hx;exact⟨o',(hs.2 b (bK (aN (aL e) (I.ok.cab x c hfn hc)))).trans e1⟩
  ·by_cases hj:j=i
   ·subst hj;rw[hi]at e1;cases e1;rw[List.getElem?_set_self hiσ]at e2;cases e2;exact⟨u,r,.inr ⟨.inl hk,c,hc,hc'⟩⟩
   ·rw [bT (Ne.symm hj)] at e2;obtain⟨u',r',q⟩:=hl j y v' e1 e2 e3;refine⟨u',r',?_⟩;rcases q with q|⟨k,c',e,z'⟩
    ·exact .inl q
    ·refine .inr ⟨k,c',e,z'.sameBut hs ?_⟩;rintro rfl;exact hj (vXb hN e1 (I.ok.inj _ _ _ e hc▸hi))
  ·by_cases hcc:c' =c
   ·subst hcc;exact⟨_,hc'⟩
   ·obtain⟨w2,z2⟩:=I.cell y c' e;exact⟨w2,z2.sameBut hs hcc⟩
  ·obtain⟨e,n,ne,nf,d⟩:=I.pin p hp;refine⟨(hs.2 p.1 ?_).trans e,n,ne,nf,d⟩;intro q;rw[q,hoc]at e;have q' :oc=p.2:=Option.some.inj e;exact d w' (by rw[←q'];exact hocd)
theorem qXg{E:Value->aY->Prop}{x:Str}{v:V}{u:Value}{Q:Unit->aY->Prop}(I:Inv X pins σ H s)(hN:X.N.Nodup)(hi:X.N[i]?=some x)(hx:Loc X.env.scope x)(r:RelV v u)(h:∀s',Inv X pins (σ.set i (some v)) H s' ->Q () s')(hf:X.fn x=true\/X.env.scope.names.lookup x=some .local :=by first|exact .inl rfl|exact .inr rfl|assumption):bJ M A (storeName X.env x u) Q E s:=
 zVk I hN hi hx r (fun s' I' _=>h s' I') hf
theorem Inv.call'{s' :aY}(I:Inv X pins σ H s)(ho:s'.os=s.os)(u:Un (frs X.stack) ch H H' s.heap s'.heap)(hok:HOk X.prog X.w H' s'.heap)(hg:AllBare s'.gens)(hch:∀b∈ch,(b∈X.ex\/X.s₀.heap.objs.size<=b)/\b≠X.env.locals/\(∀x c,X.env.cells.lookup x=some c->c≠b)/\∀p∈X.pn ++ pins,p.1≠b):Inv X pins σ H' s' :=by
 obtain⟨h',g',d',t',o'⟩:=s';have e:o' =s.os:=ho;subst e;exact I.call (g' :=g') (t' :=t') (d' :=d') u hok hg hch
end
noncomputable abbrev XK:=Value->Option aV->Hp->Prop
noncomputable abbrev St:=List (Option V)
noncomputable abbrev VK:=V->Hp->Prop
noncomputable abbrev TE:=St->Hp->VK->Prop
noncomputable abbrev TT:=St->Hp->(Bool->Hp->Prop)->Prop
noncomputable abbrev TA:=St->Hp->(List V->Hp->Prop)->Prop
structure Ends where
 nx:St->Hp->Prop
 rt:VK
 bk:St->Hp->Prop:=fun _ _=>False
 ct:St->Hp->Prop:=fun _ _=>False
noncomputable abbrev TS:=Ends->St->Hp->Prop
noncomputable def EP(X:Cx)(pins:List (aV×Obj))(σ:St)(Q:VK)(u:Value)(s' :aY):Prop:=∃v H',Inv X pins σ H' s' /\RelV v u/\Q v H'
noncomputable def TP(X:Cx)(pins:List (aV×Obj))(σ:St)(Q:Bool->Hp->Prop)(b:Bool)(s' :aY):Prop:=∃H',Inv X pins σ H' s' /\Q b H'
noncomputable def AP(X:Cx)(pins:List (aV×Obj))(σ:St)(Q:List V->Hp->Prop)(us:List Value)(s' :aY):Prop:=∃vs H',Inv X pins σ H' s' /\Vals vs us/\Q vs H'
noncomputable def SP(X:Cx)(pins:List (aV×Obj))(D:Ends)(f:Flow)(s' :aY):Prop:=
 match f with
 |.next =>∃σ' H',Inv X pins σ' H' s' /\D.nx σ' H'
 |.brk =>∃σ' H',Inv X pins σ' H' s' /\D.bk σ' H'
 |.cont =>∃σ' H',Inv X pins σ' H' s' /\D.ct σ' H'
 |.ret u=>∃v σ' H',Inv X pins σ' H' s' /\RelV v u/\D.rt v H'
noncomputable def PE(X:Cx)(e:Expr)(t:TE):Prop:=
 ∀(pins:List (aV×Obj)) (s:aY) (σ:St) (H:Hp) (Q:VK),Inv X pins σ H s->t σ H Q->bJ (model X.prog X.w) X.A (eval e X.env) (EP X pins σ Q) X.xe s
noncomputable def PT(X:Cx)(e:Expr)(t:TT):Prop:=
 ∀(pins:List (aV×Obj)) (s:aY) (σ:St) (H:Hp) (Q:Bool->Hp->Prop),Inv X pins σ H s->t σ H Q->bJ (model X.prog X.w) X.A (isTrue e X.env (eval e X.env)) (TP X pins σ Q) X.xe s
noncomputable def PW(X:Cx)(e:Expr)(t:TT):Prop:=
 ∀(whole:Sem Value) (pins:List (aV×Obj)) (s:aY) (σ:St) (H:Hp) (Q:Bool->Hp->Prop),Inv X pins σ H s->t σ H Q->bJ (model X.prog X.w) X.A (isTrue e X.env whole) (TP X pins σ Q) X.xe s
theorem PW.pt{e:Expr}{t:TT}(h:PW X e t):PT X e t:=h _
noncomputable def PA(X:Cx)(es:List Expr)(t:TA):Prop:=
 ∀(pos:Pos) (pins:List (aV×Obj)) (s:aY) (σ:St) (H:Hp) (Q:List V->Hp->Prop),Inv X pins σ H s->t σ H Q->bJ (model X.prog X.w) X.A (spliced (cZ pos (aX es X.env))) (AP X pins σ Q) X.xe s
noncomputable def PS(X:Cx)(st:Stmt)(t:TS):Prop:=
 ∀(pins:List (aV×Obj)) (s:aY) (σ:St) (H:Hp) (D:Ends),Inv X pins σ H s->t D σ H->bJ (model X.prog X.w) X.A (exec st X.env) (SP X pins D) X.xe s
noncomputable def PSs(X:Cx)(st:List Stmt)(t:TS):Prop:=
 ∀(pins:List (aV×Obj)) (s:aY) (σ:St) (H:Hp) (D:Ends),Inv X pins σ H s->t D σ H->bJ (model X.prog X.w) X.A (execs st X.env) (SP X pins D) X.xe s
theorem thn{t:Sem α}{Q Q' :α->aY->Prop}{E:Value->aY->Prop}(h:bJ M A t Q E s)(hQ:∀a s,Q a s->Q' a s):bJ M A t Q' E s:=bR h hQ fun _ _ x=>x
section
variable{X:Cx}
noncomputable def tVar(i:Nat):TE:=fun σ H Q=>∃v,σ[i]?=some (some v)/\Q v H
noncomputable def tC(v:V):TE:=fun _ H Q=>Q v H
theorem jZn{x:Str}(hN:X.N[i]?=some x)(hv:Vis X.env.scope x)(hd:(x == ("__debug__":Str))=false:=by decide)(hcd:(x == ("__classdict__":Str))=false:=by decide):PE X (.Name x pos) (tVar i):=by
 intro pins s σ H Q I h;obtain⟨v,e,h⟩:=h;obtain⟨m,hn,hl⟩:=I.loc;obtain⟨u,r,l⟩:=hl i x v hN e hv;have fin:EP X pins σ Q u s:=⟨v,H,I,r,h⟩
 rcases l with⟨hk,hm⟩|⟨hk,c,hc,hcell⟩
 ·exact wpAny_Name (wpAny_loadName_local I.ok.kind hk hn hm fin) hd
 ·rcases hk with hk | hk
  ·exact wpAny_Name (wpAny_loadName_cell I.ok.kind hk hc hcell fin) hd
  ·exact wpAny_Name (wpAny_loadName_free I.ok.kind hk hc hcell fin hcd) hd
theorem jZr{i j pos}:PE X (.Constant (.int i) j pos) (tC (.int i)):=fun _ _ _ H _ I h=>wpAny_Constant_int ⟨.int i,H,I.tok _,⟨_,rfl⟩,h⟩
theorem jWj{b j pos}:PE X (.Constant (.bool b) j pos) (tC (.bl b)):=fun _ _ _ H _ I h=>Constant_bool ⟨.bl b,H,I,rfl,h⟩
theorem vYc{x j pos}:PE X (.Constant (.str x) j pos) (tC (.str x)):=fun _ _ _ H _ I h=>Calls.Constant_str ⟨.str x,H,I.tok _,⟨_,rfl⟩,h⟩
noncomputable def Gl(X:Cx)(x:Str):Prop:=X.env.kindOf x=some .globalImplicit
theorem qJk{E:Value->aY->Prop}{σ:St}{x:Str}{u:Value}(I:Inv X pins σ H s)(hg:Gl X x)(hm:X.mg x=some u)(h:Q u s)(hd:(x == ("__debug__":Str))=false:=by decide):bJ (model X.prog X.w) X.A (eval (.Name x pos) X.env) Q E s:=
 Calls.Name_function_global I.ok.kind hg (Calls.loadGlobal_global (by rw[I.ok.glob];exact I.mod.glob.keeps I.bk) hm h) hd
theorem qK1{E:Value->aY->Prop}{σ:St}{x:Str}{u:Value}(I:Inv X pins σ H s)(hg:Gl X x)(hm:X.mg x=none)(hv:dE x=some u)(h:Q u s)(hn:x≠"__name__":=by decide)(hd:(x == ("__debug__":Str))=false:=by decide):bJ (model X.prog X.w) X.A (eval (.Name x pos) X.env) Q E s:=by
 obtain⟨mb,h1,h2⟩:=I.mod.blt;exact Calls.Name_function_global I.ok.kind hg (Calls.loadGlobal_builtin (by rw[I.ok.glob];exact I.mod.glob.keeps I.bk) hm (by rw[I.ok.blt];exact h1.keeps I.bk) ((h2 x hn).trans hv) h) hd
theorem vN{x:Str}{v:V}{u:Value}(hg:Gl X x)(hm:X.mg x=some u)(r:RelV v u)(hd:(x == ("__debug__":Str))=false:=by decide):PE X (.Name x pos) (tC v):=
 fun _ _ _ H _ I h=>qJk I hg hm ⟨v,H,I,r,h⟩ hd
variable{a b:Expr}{ta tb:TE}{pos:Pos}
noncomputable def tB(t:TE):TT:=fun σ H Q=>t σ H fun x H1=>∃c,x=.bl c/\Q c H1
theorem jZb{e:Expr}{t:TE}(h:PE X e t)(he:∀whole,isTrue e X.env whole=(do let v ←whole;standAt e.pos;holding [v] (truthy v)):=by intro _;rfl):PT X e (tB t):=by
 intro pins s σ H Q I hw;refine isTrue_plain (thn (h pins s σ H _ I hw) fun v s1 ⟨x,H1,I1,r1,q1⟩=>?_) (he _);obtain⟨d,rfl,q⟩:=q1;cases r1;exact cG ⟨H1,I1,q⟩
variable{tA tB' :TT}{rest:List Expr}
noncomputable def tAnd(t u:TT):TT:=fun σ H Q=>t σ H fun c H1=>if c=true then u σ H1 Q else Q false H1
noncomputable def tOr(t u:TT):TT:=fun σ H Q=>t σ H fun c H1=>if c=true then Q true H1 else u σ H1 Q
noncomputable def tNot(t:TT):TT:=fun σ H Q=>t σ H fun c H1=>Q (!c) H1
theorem zYx(ha:PT X a tA):PW X (.BoolOp .And [a] pos) tA:=by
 intro wh pins s σ H Q I h;refine isTrue_and (thn (ha pins s σ H Q I h) fun c s1 e=>?_);cases c with
 |true=>exact isTrue_and_nil e
 |false=>exact e
theorem jV9(ha:PT X a tA):PW X (.BoolOp .Or [a] pos) tA:=by
 intro wh pins s σ H Q I h;refine isTrue_or (thn (ha pins s σ H Q I h) fun c s1 e=>?_);cases c with
 |false=>exact isTrue_or_nil e
 |true=>exact e
theorem jZa(ha:PT X a tA)(hb:PW X (.BoolOp .And (b::rest) pos) tB'):PW X (.BoolOp .And (a::b::rest) pos) (tAnd tA tB'):=by
 intro wh pins s σ H Q I h;refine isTrue_and (thn (ha pins s σ H _ I h) fun c s1 ⟨H1,I1,q1⟩=>?_);cases c with
 |true=>exact hb wh pins s1 σ H1 Q I1 q1
 |false=>exact⟨H1,I1,q1⟩
theorem jWd(ha:PT X a tA)(hb:PW X (.BoolOp .Or (b::rest) pos) tB'):PW X (.BoolOp .Or (a::b::rest) pos) (tOr tA tB'):=by
 intro wh pins s σ H Q I h;refine isTrue_or (thn (ha pins s σ H _ I h) fun c s1 ⟨H1,I1,q1⟩=>?_);cases c with
 |true=>exact⟨H1,I1,q1⟩
 |false=>exact hb wh pins s1 σ H1 Q I1 q1
theorem jZc(ha:PT X a tA):PT X (.UnaryOp .Not a pos) (tNot tA):=by
 intro pins s σ H Q I h;exact isTrue_not (ha pins s σ H (fun c H1=>Q (!c) H1) I h)
noncomputable def jJ9(ta tb:TE):TE:=fun σ H Q=>ta σ H fun x H1=>∃c,x=.bl c/\if c=true then tb σ H1 Q else Q (.bl false) H1
noncomputable def tOrV(ta tb:TE):TE:=fun σ H Q=>ta σ H fun x H1=>∃c,x=.bl c/\if c=true then Q (.bl true) H1 else tb σ H1 Q
theorem jZp{op}{t:TE}(h:PE X a t):PE X (.BoolOp op [a] pos) t:=fun pins s σ H Q I hw=>BoolOp_one (h pins s σ H Q I hw)
theorem jZu(ha:PE X a ta)(hb:PE X (.BoolOp .And (b::rest) pos) tb):PE X (.BoolOp .And (a::b::rest) pos) (jJ9 ta tb):=by
 intro pins s σ H Q I h;refine BoolOp_and (thn (ha pins s σ H _ I h) fun v s1 ⟨x,H1,I1,r1,q1⟩=>?_);obtain⟨c,rfl,q1⟩:=q1;cases r1;refine cG ?_
 cases c with
 |true=>exact hb pins s1 σ H1 Q I1 q1
 |false=>exact⟨.bl false,H1,I1,rfl,q1⟩
theorem jWh(ha:PE X a ta)(hb:PE X (.BoolOp .Or (b::rest) pos) tb):PE X (.BoolOp .Or (a::b::rest) pos) (tOrV ta tb):=by
 intro pins s σ H Q I h;refine BoolOp_or (thn (ha pins s σ H _ I h) fun v s1 ⟨x,H1,I1,r1,q1⟩=>?_);obtain⟨c,rfl,q1⟩:=q1;cases r1;refine cG ?_
 cases c with
 |false=>exact hb pins s1 σ H1 Q I1 q1
 |true=>exact⟨.bl true,H1,I1,rfl,q1⟩
end
noncomputable def SqL(K:aQ)(H:Hp)(a:aV)(xs:List V):Prop:=
 Rd H a (.lst xs)\/
  ∃(o:Obj) (its:Array Value) (n:Nat),K.lookup a=some o/\o.cls=.type "list"/\o.dict=none/\o.data=.seq its n/\its.size<=aD/\Vals xs its.toList
noncomputable def SqT(K:aQ)(H:Hp)(a:aV)(xs:List V):Prop:=
 Rd H a (.tup xs)\/
  ∃(o:Obj) (its:Array Value) (n:Nat),K.lookup a=some o/\o.cls=.type "tuple"/\o.data=.seq its n/\its.size<=aD/\Vals xs its.toList
noncomputable def absV:Value->Option V
 |.none =>some .non
 |.bool b=>some (.bl b)
 |.int i _=>some (.int i)
 |.str x _=>some (.str x)
 |.bytes b _=>some (.byt b)
 |.float b _=>some (.flt b)
 |.ref a=>some (.ref a)
 |.type n=>some (.ty n)
 |_=>none
theorem RelV.abs{x:V}{u:Value}(r:RelV x u):absV u=some x:=by
 cases x with
 |non=>cases r;rfl
 |bl _=>cases r;rfl
 |int _=>obtain⟨t,rfl⟩:=r;rfl
 |str _=>obtain⟨t,rfl⟩:=r;rfl
 |byt _=>obtain⟨t,rfl⟩:=r;rfl
 |flt _=>obtain⟨t,rfl⟩:=r;rfl
 |ref _=>cases r;rfl
 |ty _=>cases r;rfl
theorem RelV.inj{x:V}{u:Value}(r:RelV x u)(q:RelV y u):x=y:=Option.some.inj (r.abs.symm.trans q.abs)
theorem Vals.inj:∀{xs ys:List V} {us:List Value},Vals xs us->Vals ys us->xs=ys
 |_,_,_,.nil,.nil =>rfl
 |_,_,_,.cons r t,.cons r' t' =>by rw[r.inj r',Vals.inj t t']
section
variable{X:Cx}{pins:List (aV×Obj)}{σ:St}{H:Hp}{s:aY}{a:aV}{xs ys:List V}
theorem SqL.of(h:H a=some (.lst xs)):SqL K H a xs:=.inl (.inl h)
theorem SqT.of(h:H a=some (.tup xs)):SqT K H a xs:=.inl (.inl h)
theorem Inv.list(I:Inv X pins σ H s)(h:SqL X.K H a xs):∃its:List Value,Vals xs its/\PlainL s.heap a its.toArray/\xs.length<=aD:=by
 rcases h with h|⟨o,its,n,hk,hc,hd,hs,hz,r⟩
 ·obtain⟨z,its,n,r,e⟩:=h.ok I.hok;exact⟨its,r,⟨_,n,e,rfl,rfl,rfl⟩,z⟩
 ·refine⟨its.toList,r,⟨o,n,I.kIn a o hk,hc,hd,by simpa using hs⟩,?_⟩;have e:=r.length;simp only[cU]at e;omega
theorem Inv.tuple(I:Inv X pins σ H s)(h:SqT X.K H a xs):∃its:List Value,Vals xs its/\IsTup s.heap a its.toArray/\xs.length<=aD:=by
 rcases h with h|⟨o,its,n,hk,hc,hs,hz,r⟩
 ·obtain⟨z,its,r,p⟩:=h.ok I.hok;exact⟨its,r,p,z⟩
 ·refine⟨its.toList,r,⟨o,I.kIn a o hk,hc,n,by simpa using hs⟩,?_⟩;have e:=r.length;simp only[cU]at e;omega
theorem Inv.list_inj(I:Inv X pins σ H s)(h:SqL X.K H a xs)(h' :SqL X.K H a ys):xs=ys:=by
 obtain⟨its,r,⟨o,n,e,_,_,d⟩,_⟩:=I.list h;obtain⟨its',r',⟨o',n',e',_,_,d'⟩,_⟩:=I.list h';rw[e]at e';cases e';rw[d]at d';injection d' with d1 _
 have:its=its' :=by simpa using congrArg Array.toList d1
 subst this;exact r.inj r'
theorem Inv.tuple_inj(I:Inv X pins σ H s)(h:SqT X.K H a xs)(h' :SqT X.K H a ys):xs=ys:=by
 obtain⟨its,r,⟨o,e,_,n,d⟩,_⟩:=I.tuple h;obtain⟨its',r',⟨o',e',_,n',d'⟩,_⟩:=I.tuple h';rw[e]at e';cases e';rw[d]at d';injection d' with d1 _
 have:its=its' :=by simpa using congrArg Array.toList d1
 subst this;exact r.inj r'
end
section
variable{X:Cx}{st:Stmt}{rest:List Stmt}{t u:TS}{e:Expr}{te:TE}{pos:Pos}
noncomputable def tNext:TS:=fun D σ H=>D.nx σ H
noncomputable def tSeq(t u:TS):TS:=fun D σ H=>t {D with nx:=u D} σ H
theorem zQh:PSs X [] tNext:=fun _ _ σ H _ I h=>wpAny_execs_nil ⟨σ,H,I,h⟩
theorem vW3(h1:PS X st t)(h2:PSs X rest u):PSs X (st::rest) (tSeq t u):=by
 intro pins s σ H D I h;refine wpAny_execs_cons (thn (h1 pins s σ H {D with nx:=u D} I h) fun f s1 q=>?_);cases f with
 | next=>
   obtain⟨σ',H',I',q⟩:=q;exact h2 pins s1 σ' H' D I' q
 |ret v=>exact q
 |brk=>exact q
 |cont=>exact q
theorem zY0(h1:PS X st t):PSs X [st] t:=by
 intro pins s σ H D I h;refine wpAny_execs_cons (thn (h1 pins s σ H D I h) fun f s1 q=>?_);cases f with
 |next=>exact wpAny_execs_nil q
 |ret v=>exact q
 |brk=>exact q
 |cont=>exact q
theorem Inv.quiet{σ:St}(I:Inv X pins σ H s):interactive X.env=false:=by simp[interactive,I.ok.kind]
noncomputable def jJ8(te:TE):TS:=fun D σ H=>te σ H fun _ H1=>D.nx σ H1
theorem zY3(he:PE X e te)(hs:swapsWith e none pos.line X.env=pure false:=by rfl):PS X (.Expr e pos) (jJ8 te):=by
 intro pins s σ H D I h;exact wpAny_Expr_any (thn (he pins s σ H _ I h) fun v s1 ⟨x,H1,I1,r1,q1⟩=>⟨σ,H1,I1,q1⟩) I.quiet hs
noncomputable def tRet(te:TE):TS:=fun D σ H=>te σ H D.rt
theorem jZe(he:PE X e te):PS X (.Return (some e) pos) (tRet te):=by
 intro pins s σ H D I h;exact wpAny_Return_some (thn (he pins s σ H _ I h) fun v s1 ⟨x,H1,I1,r1,q1⟩=>⟨x,σ,H1,I1,r1,q1⟩)
noncomputable def tIfS(c:TT)(t u:TS):TS:=fun D σ H=>c σ H fun b H1=>if b=true then t D σ H1 else u D σ H1
theorem jWe{a b:List Stmt}{tc:TT}(hc:PT X c tc)(ha:PSs X a t)(hb:PSs X b u):PS X (.If c a b pos) (tIfS tc t u):=by
 intro pins s σ H D I h;refine wpAny_If (thn (hc pins s σ H _ I h) fun d s1 ⟨H1,I1,q1⟩=>?_);cases d with
 |true=>exact ha pins s1 σ H1 D I1 q1
 |false=>exact hb pins s1 σ H1 D I1 q1
end
noncomputable abbrev TG:=V->St->Hp->(St->Hp->Prop)->Prop
noncomputable abbrev TGs:=List V->St->Hp->(St->Hp->Prop)->Prop
noncomputable def PG(X:Cx)(target:Expr)(t:TG):Prop:=
 ∀(pins:List (aV×Obj)) (s:aY) (σ:St) (H:Hp) (v:V) (u:Value) (Q:St->Hp->Prop),Inv X pins σ H s->RelV v u->t v σ H Q->
  bJ (model X.prog X.w) X.A (assign target X.env u) (fun _ s' =>∃σ' H',Inv X pins σ' H' s' /\Q σ' H') X.xe s
noncomputable def PGs(X:Cx)(ts:List Expr)(t:TGs):Prop:=
 ∀(pins:List (aV×Obj)) (s:aY) (σ:St) (H:Hp) (vs:List V) (us:List Value) (Q:St->Hp->Prop),Inv X pins σ H s->Vals vs us->t vs σ H Q->
  bJ (model X.prog X.w) X.A (assignInOrder ((assignEach ts X.env).map (·.2)) us) (fun _ s' =>∃σ' H',Inv X pins σ' H' s' /\Q σ' H') X.xe s
noncomputable abbrev TIp:=V->V->Hp->VK->Prop
noncomputable def PIp(X:Cx)(op:Operator)(t:TIp):Prop:=
 ∀(pins:List (aV×Obj)) (s:aY) (σ:St) (H:Hp) (x y:V) (v u:Value) (Q:VK),Inv X pins σ H s->RelV x v->RelV y u->t x y H Q->
  bJ (model X.prog X.w) X.A (inplaceOp op v u) (EP X pins σ Q) X.xe s
section
variable{X:Cx}{pos:Pos}
noncomputable def jVn(i:Nat):TG:=fun v σ H Q=>Q (σ.set i (some v)) H
theorem zKd{x:Str}(hN:X.N.Nodup)(hi:X.N[i]?=some x)(hx:Loc X.env.scope x)(hf:X.fn x=true\/X.env.scope.names.lookup x=some .local :=by first|exact .inl rfl|exact .inr rfl|assumption):PG X (.Name x pos) (jVn i):=by
 intro pins s σ H v u Q I r h;exact wpAny_assign_Name (qXg I hN hi hx r (fun s' I' =>⟨_,H,I',h⟩) hf)
noncomputable def gNil:TGs:=fun vs σ H Q=>vs=[]/\Q σ H
noncomputable def jW9(t:TG)(u:TGs):TGs:=fun vs σ H Q=>∃v r,vs=v::r/\t v σ H fun σ' H' =>u r σ' H' Q
theorem zKc:PGs X [] gNil:=by
 intro pins s σ H vs us Q I r h;obtain⟨e,h⟩:=h;subst e;exact assignInOrder_nil ⟨σ,H,I,h⟩
theorem zW2{e:Expr}{t:TG}{u:TGs}(h1:PG X e t)(h2:PGs X es u)(hs:(assignEach (e::es) X.env).map (·.2)=assign e X.env::(assignEach es X.env).map (·.2):=by rfl):PGs X (e::es) (jW9 t u):=by
 intro pins s σ H vs us Q I r h;obtain⟨v,vr,e1,h⟩:=h;subst e1;cases r with
 | cons r rr=>
   rw[hs];refine assignInOrder_cons (thn (h1 pins s σ H _ _ _ I r h) fun _ s1 ⟨σ1,H1,I1,q1⟩=>?_);exact h2 pins s1 σ1 H1 _ _ Q I1 rr q1
noncomputable def gTup(K:aQ)(n:Nat)(t:TGs):TG:=fun v σ H Q=>∃a xs,v=.ref a/\SqT K H a xs/\xs.length=n/\t xs σ H Q
theorem jZm{t:TGs}(hc:X.calm=true)(h:PGs X es t)(hn:(assignEach es X.env).length =n:=by rfl)(hst:(assignEach es X.env).findIdx? (·.1)=none:=by rfl):PG X (.Tuple es k pos) (gTup X.K n t):=by
 intro pins s σ H v u Q I r hw;obtain⟨a,xs,e1,hq,hl,hw⟩:=hw;subst e1;cases r;obtain⟨its,rv,ht,hz⟩:=I.tuple hq;refine assign_Tuple_tuple (I.ok.hd hc) ht (by simp[hn,←hl,rv.length]) hst fun h' hx=>?_
 have I1:Inv X pins σ H {s with heap:=h' }:=I.kept (t' :=s.toks) fun b o e=>hx b o (bK (aL e)) e
 exact h pins _ σ H xs _ Q I1 (by simpa using rv) hw
noncomputable def tAsg(te:TE)(g:TG):TS:=fun D σ H=>te σ H fun x H1=>g x σ H1 D.nx
theorem jZd{x:Str}{e:Expr}(hN:X.N.Nodup)(hi:X.N[i]?=some x)(hx:Loc X.env.scope x)(he:PE X e te)(hs:swapsWith e (some (.Name x pos')) pos.line X.env=pure false:=by rfl)(hf:X.fn x=true\/X.env.scope.names.lookup x=some .local :=by first|exact .inl rfl|exact .inr rfl|assumption):
  PS X (.Assign [.Name x pos'] e pos) (tAsg te (jVn i)):=by
 intro pins s σ H D I h;refine wpAny_Assign_Name (thn (he pins s σ H _ I h) fun v s1 ⟨y,H1,I1,r1,q1⟩=>?_) hs;exact qXg I1 hN hi hx r1 (fun s2 I2=>⟨_,H1,I2,q1⟩) hf
noncomputable def tAug(i:Nat)(te:TE)(ti:TIp):TS:=fun D σ H=>∃x,σ[i]?=some (some x)/\te σ H fun y H1=>ti x y H1 fun z H2=>D.nx (σ.set i (some z)) H2
theorem jZh{x:Str}{e:Expr}{op:Operator}{ti:TIp}(hN:X.N.Nodup)(hi:X.N[i]?=some x)(hx:Loc X.env.scope x)(he:PE X e te)(ho:PIp X op ti)(hf:X.fn x=true\/X.env.scope.names.lookup x=some .local :=by first|exact .inl rfl|exact .inr rfl|assumption):
  PS X (.AugAssign (.Name x pos') op e pos) (tAug i te ti):=by
 intro pins s σ H D I h;obtain⟨v,e1,h⟩:=h;obtain⟨m,hn,hl⟩:=I.loc;have vis:Vis X.env.scope x:=by rcases hx with k|k;exact .inl k;exact .inr (.inl k)
 obtain⟨u,r,l⟩:=hl i x v hi e1 vis;refine wpAny_AugAssign_Name ?_
 have go:bJ (model X.prog X.w) X.A (eval e X.env) (fun w s₂=>bJ (model X.prog X.w) X.A (inplaceOp op u w) (fun r s₃=>bJ (model X.prog X.w) X.A (storeName X.env x r) (fun _=>SP X pins D .next) X.xe s₃) X.xe s₂) X.xe s:=by
  refine thn (he pins s σ H _ I h) fun w s1 ⟨y,H1,I1,r1,q1⟩=>?_
  refine thn (ho pins s1 σ H1 v y u w _ I1 r r1 q1) fun z s2 ⟨zv,H2,I2,r2,q2⟩=>?_
  exact qXg I2 hN hi hx r2 (fun s3 I3=>⟨_,H2,I3,q2⟩) hf
 rcases l with⟨hk,hm⟩|⟨hk,c,hc,hcell⟩
 ·exact wpAny_loadName_local I.ok.kind hk hn hm go
 ·rcases hk with hk | hk
  ·exact wpAny_loadName_cell I.ok.kind hk hc hcell go
  ·rcases hx with k | k
   ·have:X.env.scope.names.lookup x=some .free :=hk;grind
   ·have:X.env.scope.names.lookup x=some .free :=hk;grind
noncomputable def ipI(f:Int->Int->Int):TIp:=fun x y H Q=>∃i j,x=.int i/\y=.int j/\Q (.int (f i j)) H
theorem vZ0:PIp X .Add (ipI fun i j=>i+j):=by
 intro pins s σ H x y v u Q I r1 r2 h;obtain⟨i,j,e1,e2,q⟩:=h;subst e1;subst e2;obtain⟨t,rfl⟩:=r1;obtain⟨t',rfl⟩:=r2;exact iadd_int ⟨.int _,H,I.tok _,⟨_,rfl⟩,q⟩
theorem jJj:PIp X .Sub (ipI fun i j=>i - j):=by
 intro pins s σ H x y v u Q I r1 r2 h;obtain⟨i,j,e1,e2,q⟩:=h;subst e1;subst e2;obtain⟨t,rfl⟩:=r1;obtain⟨t',rfl⟩:=r2;exact isub_int ⟨.int _,H,I.tok _,⟨_,rfl⟩,q⟩
end
section
variable{X:Cx}{pos:Pos}
noncomputable def zJb(c:TT)(tb:TS):TS:=fun D σ H=>∃W:Nat->St->Hp->Prop,(∃m,W m σ H)/\∀m σ H,W m σ H->
 c σ H fun b H1=>if b=true then∃N:St->Hp->Prop,(∀σ' H',N σ' H' ->∃m',m'<m/\W m' σ' H')/\tb {D with nx:=N,ct:=N,bk:=D.nx} σ H1 else D.nx σ H1
theorem zWz{body:List Stmt}{tc:TT}{tb:TS}(hp:PassesOwn (model X.prog X.w) X.A X.env X.xe)(hc:PT X c tc)(hb:PSs X body tb):PS X (.While c body [] pos) (zJb tc tb):=by
 intro pins s σ H D I h;obtain⟨W,⟨m0,w0⟩,turn⟩:=h;refine wpAny_While (codeAny_whileLoop (fun n s' =>∃σ' H',Inv X pins σ' H' s' /\W n σ' H') ?_ m0 ⟨σ,H,I,w0⟩);rintro n s1 ⟨σ1,H1,I1,w1⟩;refine dG hp (thn (hc pins s1 σ1 H1 _ I1 (turn n σ1 H1 w1)) fun b s2 ⟨H2,I2,q2⟩=>?_);cases b with
 | true=>
   obtain⟨N,hN,q2⟩:=q2;refine dG hp (thn (hb pins s2 σ1 H2 _ I2 q2) fun f s3 q3=>?_);cases f with
   | next=>
     obtain⟨σ3,H3,I3,n3⟩:=q3;grind
   | cont=>
     obtain⟨σ3,H3,I3,n3⟩:=q3;grind
   |brk=>exact q3
   |ret v=>exact q3
 | false=>
   exact wpAny_execs_nil ⟨σ1,H2,I2,q2⟩
end
structure It where
 go:Nat->Hp->Prop
 yld:Nat->Hp->V->Hp->Prop
 stop:Nat->Hp->Prop
noncomputable def FpOk(X:Cx)(pins:List (aV×Obj))(H:Hp)(b:aV):Prop:=
 H b=none/\b≠X.env.locals/\b∉X.fs/\(b∈X.ex\/X.s₀.heap.objs.size<=b)/\(∀x c,X.env.cells.lookup x=some c->c≠b)/\∀p∈X.pn ++ pins,p.1≠b
theorem Inv.fpOk{σ:St}{H':Hp}{b:aV}(I:Inv X pins σ H s)(hb:s.heap.objs.size<=b)(hn:H' b=none):FpOk X pins H' b:=by
 refine⟨hn,Nat.ne_of_gt (aN I.lt hb),I.nofs hb,.inr (aG I.sz hb),fun x c e z=>?_,fun p hp z=>?_⟩
 ·obtain⟨v,q⟩:=I.cell x c e;exact absurd (aN q.lt (by rw[z];exact hb)) (cE _)
 ·exact absurd (aN (aL (I.pin p hp).1) (by rw[z];exact hb)) (cE _)
structure Turn(P:bZ)(w:bX)(K:aQ)(tg:Expr)(J:It)(fp:List aV)(it:aV)(tn:Nat->Heap->Prop):Prop where
 mem:it∈fp
 obj:∀i h,tn i h->∀b∈fp,∃o,h.get? b=some o/\∀v,o.data≠ .cell v
 keep:∀i h h',tn i h->(∀b∈fp,∀o,h.get? b=some o->h'.get? b=some o)->tn i h'
 item:∀(X:Cx),X.prog=P->X.w=w->X.K=K->X.calm=true->∀(i:Nat) (pins:List (aV×Obj)) (s:aY) (σ:St) (H:Hp) (E:Value->aY->Prop),Inv X pins σ H s->(∀b∈fp,FpOk X pins H b)->tn i s.heap->J.go i H->
  bJ (model P w) X.A (pyNext (.ref it)) (fun r s1=>∃u,r=some u/\
   bJ (model P w) X.A (letOwnedTupleGo tg (.ref it) u) (fun _ s2=>∃x H',Inv X pins σ H' s2/\RelV x u/\J.yld i H x H' /\tn (i+1) s2.heap/\∀b∈fp,H' b=none) E s1) E s
 done:∀(X:Cx),X.prog=P->X.w=w->X.K=K->X.calm=true->∀(i:Nat) (pins:List (aV×Obj)) (s:aY) (σ:St) (H:Hp) (E:Value->aY->Prop),Inv X pins σ H s->(∀b∈fp,FpOk X pins H b)->tn i s.heap->J.stop i H->
  bJ (model P w) X.A (pyNext (.ref it)) (fun r s1=>r=none/\Inv X pins σ H s1) E s
 self:∀(A:cB) (i:Nat) (s:aY) (Q:Value->aY->Prop) (E:Value->aY->Prop),tn i s.heap->Q (.ref it) s->bJ (model P w) A (pyIter (.ref it)) Q E s
noncomputable abbrev TI:=St->Hp->(It->Hp->Prop)->Prop
noncomputable def PIE(X:Cx)(pins:List (aV×Obj))(σ:St)(tg:Expr)(R:It->Hp->Prop)(itv:Value)(s2:aY):Prop:=
 ∃(it:aV) (fp:List aV) (tn:Nat->Heap->Prop) (J:It) (H' :Hp),itv=.ref it/\Inv X pins σ H' s2/\Turn X.prog X.w X.K tg J fp it tn/\tn 0 s2.heap/\(∀b∈fp,FpOk X pins H' b)/\R J H'
noncomputable def PI(X:Cx)(tg iter:Expr)(wi:TI):Prop:=
 ∀(pins:List (aV×Obj)) (s:aY) (σ:St) (H:Hp) (R:It->Hp->Prop),Inv X pins σ H s->wi σ H R->
  bJ (model X.prog X.w) X.A (eval iter X.env) (fun v s1=>bJ (model X.prog X.w) X.A (pyIter v) (PIE X pins σ tg R) X.xe s1) X.xe s
theorem vK0{E:Value->aY->Prop}{tg:Expr}{u:Value}{o:Obj}{n:String}{vs:Array Value}{Q:Unit->aY->Prop}(ho:s.heap.get? it=some o)(hc:o.cls=.type n)(hd:o.data=.fields vs)(hn: ["enumerate","zip","dict_itemiterator","dict_reverseitemiterator","odict_iterator","itertools.zip_longest","itertools.pairwise"].contains n=false)(hQ:Q () s):bJ M A (letOwnedTupleGo tg (.ref it) u) Q E s:=by
 unfold letOwnedTupleGo
 cases tg <;> first
  |exact aT hQ
  | (cases u <;> first
    |exact aT hQ
    | (refine aU (wpAny_load ho ?_)
       rw[hc,hd];show bJ M A (if(["enumerate","zip","dict_itemiterator","dict_reverseitemiterator","odict_iterator","itertools.zip_longest","itertools.pairwise"].contains n && vs[0]? == some (rawInt _))=true then _ else _) Q E s;rw[if_neg (by intro h;rw[hn,Bool.false_and]at h;cases h)];exact aT hQ))
noncomputable def Itl(K:aQ)(a:aV):It:=
 ⟨fun i H=>∃xs x,SqL K H a xs/\xs[i]?=some x,fun i H x H' =>H' =H/\∀xs,SqL K H a xs->xs[i]?=some x,fun i H=>∃xs,SqL K H a xs/\xs.length<=i⟩
noncomputable def Itt(K:aQ)(a:aV):It:=
 ⟨fun i H=>∃xs x,SqT K H a xs/\xs[i]?=some x,fun i H x H' =>H' =H/\∀xs,SqT K H a xs->xs[i]?=some x,fun i H=>∃xs,SqT K H a xs/\xs.length<=i⟩
noncomputable def Itr(lo:Int)(n:Nat):It:=⟨fun i _=>i<n,fun i H x H' =>H' =H/\x=.int (lo+i),fun i _=>n<=i⟩
theorem zVh{P:bZ}{w:bX}{tg:Expr}(a it:aV):Turn P w K tg (Itl K a) [it] it (fun i h=>h.IsListIter it a i) where
 mem:=by simp
 obj:=fun i h st b hb=>by
  have e:b=it:=by simpa using hb
  subst e;obtain⟨o,e,c,d⟩:=st;exact⟨o,e,fun v z=>by rw[d]at z;cases z⟩
 keep:=fun i h h' st k=>st.at fun o e=>k it (by simp) o e
 item:=by
  intro X hP hw hK hc i pins s σ H E I hf st hg;subst hP hw hK;obtain⟨xs,x,hq,hx⟩:=hg;obtain⟨its,rv,p,hz⟩:=I.list hq;obtain⟨u,hu,ru⟩:=rv.get hx;obtain⟨f0,f1,f2,f3,f4,f5⟩:=hf it (by simp);refine wpAny_pyNext_list_item st p.isList (x:=u) (by simpa using hu) fun h' st' sb=>?_
  have I1:Inv X pins σ H {s with heap:=h' }:=I.turned (t' :=s.toks) (fun b o hb e=>(sb.2 b hb).trans e) f0 f1 f3 f4 f5;obtain⟨o,e,c,d⟩:=id st';exact⟨u,rfl,vK0 (s:={s with heap:=h' }) e c d (by decide) ⟨x,H,I1,ru,⟨rfl,fun ys hy=>by rw[I.list_inj hy hq];exact hx⟩,st',fun b hb=>(hf b hb).1⟩⟩
 done:=by
  intro X hP hw hK hc i pins s σ H E I hf st hg;subst hP hw hK;obtain⟨xs,hq,hx⟩:=hg;obtain⟨its,rv,p,hz⟩:=I.list hq;obtain⟨f0,f1,f2,f3,f4,f5⟩:=hf it (by simp);have hl:=rv.length;exact wpAny_pyNext_list_end (I.ok.hd hc) st p.isList (by simp;omega) fun h' eb=>⟨rfl,I.turned (t' :=s.toks) (fun b o hb e=>eb b o hb e) f0 f1 f3 f4 f5⟩
 self:=fun _ _ _ _ _ st h=>wpAny_pyIter_listiter st h
theorem vYs{P:bZ}{w:bX}{tg:Expr}(a it:aV):Turn P w K tg (Itt K a) [it] it (fun i h=>h.IsTupleIter it a i) where
 mem:=by simp
 obj:=fun i h st b hb=>by
  have e:b=it:=by simpa using hb
  subst e;obtain⟨o,e,c,d⟩:=st;grind
 keep:=fun i h h' st k=>st.at fun o e=>k it (by simp) o e
 item:=by
  intro X hP hw hK hc i pins s σ H E I hf st hg;subst hP hw hK;obtain⟨xs,x,hq,hx⟩:=hg;obtain⟨its,rv,p,hz⟩:=I.tuple hq;obtain⟨u,hu,ru⟩:=rv.get hx;obtain⟨f0,f1,f2,f3,f4,f5⟩:=hf it (by simp);refine wpAny_pyNext_tuple_item st (show s.heap.IsTuple a its.toArray from p) (x:=u) (by simpa using hu) fun h' st' sb=>?_
  have I1:Inv X pins σ H {s with heap:=h' }:=I.turned (t' :=s.toks) (fun b o hb e=>(sb.2 b hb).trans e) f0 f1 f3 f4 f5;obtain⟨o,e,c,d⟩:=id st';exact⟨u,rfl,vK0 (s:={s with heap:=h' }) e c d (by decide) ⟨x,H,I1,ru,⟨rfl,fun ys hy=>by rw[I.tuple_inj hy hq];exact hx⟩,st',fun b hb=>(hf b hb).1⟩⟩
 done:=by
  intro X hP hw hK hc i pins s σ H E I hf st hg;subst hP hw hK;obtain⟨xs,hq,hx⟩:=hg;obtain⟨its,rv,p,hz⟩:=I.tuple hq;obtain⟨f0,f1,f2,f3,f4,f5⟩:=hf it (by simp);have hl:=rv.length;exact wpAny_pyNext_tuple_end (I.ok.hd hc) st (show s.heap.IsTuple a its.toArray from p) (by simp;omega) fun h' eb=>⟨rfl,I.turned (t' :=s.toks) (fun b o hb e=>eb b o hb e) f0 f1 f3 f4 f5⟩
 self:=fun _ _ _ _ _ st h=>wpAny_pyIter_tupleiter st h
theorem vYt{P:bZ}{w:bX}{tg:Expr}(it:aV)(lo:Int)(n:Nat):Turn P w K tg (Itr lo n) [it] it (fun i h=>IsRangeIter h it (lo+(i:Nat) * 1) ((n:Int) - (i:Nat)) 1) where
 mem:=by simp
 obj:=fun i h st b hb=>by
  have e:b=it:=by simpa using hb
  subst e;exact⟨_,st,fun v z=>by
   have z' :Data.fields _=Data.cell v:=z;cases z'⟩
 keep:=fun i h h' st k=>k it (by simp) _ st
 item:=by
  intro X hP hw hK hc i pins s σ H E I hf st hg;subst hP hw hK;obtain⟨f0,f1,f2,f3,f4,f5⟩:=hf it (by simp);have W:=Walks.range (prog:=X.prog) (w:=X.w) (I.ok.hd hc) it lo 1 n;refine W.item i s _ _ hg st fun v h' tk hv st' kk=>?_
  obtain⟨t,rfl⟩:=hv;have I1:Inv X pins σ H {s with heap:=h',toks:=tk}:=I.turned (fun b o hb e=>kk b o (by simpa using hb) e) f0 f1 f3 f4 f5;refine⟨_,rfl,vK0 (s:={s with heap:=h',toks:=tk}) (n:="range_iterator") st' rfl rfl (by decide) ⟨.int (lo+i),H,I1,⟨t,?_⟩,⟨rfl,rfl⟩,st',fun b hb=>(hf b hb).1⟩⟩;rw[Int.mul_one]
 done:=by
  intro X hP hw hK hc i pins s σ H E I hf st hg;subst hP hw hK;obtain⟨f0,f1,f2,f3,f4,f5⟩:=hf it (by simp);exact wpAny_pyNext_range_end (I.ok.hd hc) st (by have:n<=i:=hg;omega) fun h' eb=>⟨rfl,I.turned (t' :=s.toks) (fun b o hb e=>eb b o hb e) f0 f1 f3 f4 f5⟩
 self:=fun _ _ _ _ _ st h=>wpAny_pyIter_rangeiter st h
section
variable{X:Cx}{tg:Expr}
theorem vW0{σ:St}{R:It->Hp->Prop}{E:Value->aY->Prop}{lo hi:Int}{t u v:Tok}{tk:Nat}(I:Inv X pins σ H s)(h1: -(2 ^ 62)<=lo)(h2:lo<2 ^ 62)(h3: -(2 ^ 62)<=hi)(h4:hi<2 ^ 62)(q:R (Itr lo (hi - lo).toNat) H):bJ (model X.prog X.w) X.A (pyIter (.ref s.heap.objs.size)) (PIE X pins σ tg R) E {s with heap:=s.heap.push {cls:=.type "range",data:=.fields #[.int lo t,.int hi u,.int 1 v]},toks:=tk}:=by
 refine wpAny_pyIter_range (IsRange.new ..) (small_one h1 h2 h3 h4) ?_
 have I1:Inv X pins σ H {s with heap:=s.heap.push {cls:=.type "range",data:=.fields #[.int lo t,.int hi u,.int 1 v]},toks:=tk}:=I.kept fun b o e=>aK _ e
 refine⟨(s.heap.push {cls:=.type "range",data:=.fields #[.int lo t,.int hi u,.int 1 v]}).objs.size,[(s.heap.push {cls:=.type "range",data:=.fields #[.int lo t,.int hi u,.int 1 v]}).objs.size],_,_,H,rfl,
  I1.kept (t' :=tk) fun b o e=>aK _ e,vYt _ lo (hi - lo).toNat,?_,fun b hb=>?_,q⟩
 ·have e1:lo + ((0:Nat):Int) * 1=lo:=by simp
  have e2:(((hi - lo).toNat :Nat):Int) - ((0:Nat):Int)=Builtin.Range.rangeSize lo hi 1:=by rw[rangeSize_one];split <;> omega
  show IsRangeIter _ _ (lo+((0:Nat):Int) * 1) ((((hi - lo).toNat :Nat):Int) - ((0:Nat):Int)) 1;rw[e1,e2];exact bW _ rfl
 ·have e:b=(s.heap.push {cls:= .type "range",data:= .fields #[.int lo t, .int hi u, .int 1 v]}).objs.size:=by simpa using hb
  subst e;exact I1.fpOk (aP _) (I1.hok.fresh (aP _))
noncomputable def jW7(ta:TA):TI:=fun σ H R=>ta σ H fun vs H1=>∃j:Int,vs=[.int j]/\ -(2 ^ 62)<=j/\j<2 ^ 62/\R (Itr 0 j.toNat) H1
noncomputable def jW6(ta:TA):TI:=fun σ H R=>ta σ H fun vs H1=>∃i j:Int,vs=[.int i,.int j]/\(-(2 ^ 62)<=i/\i<2 ^ 62/\ -(2 ^ 62)<=j/\j<2 ^ 62)/\R (Itr i (j - i).toNat) H1
theorem zVu{a:Expr}{ta:TA}(hg:Gl X "range")(hm:X.mg "range"=none)(ha:PA X [a] ta)(hs:aX [a] X.env=[(false,eval a X.env)]:=by rfl):PI X tg (.Call (.Name "range" p) [a] [] pos) (jW7 ta):=by
 intro pins s σ H R I h;refine Call_ (qK1 I hg hm boot_range (dX (thn (ha pos pins s σ H _ I h) fun us s1 ⟨vs,H1,I1,r1,q1⟩=>?_) hs rfl));obtain⟨j,e,q1,q2,q⟩:=q1;subst e;cases r1 with
 | cons r rr=>
   cases rr;obtain⟨t,rfl⟩:=r;exact call_range_1 (vW0 I1 (by omega) (by omega) q1 q2 (by simpa using q))
theorem zVt{a b:Expr}{ta:TA}(hg:Gl X "range")(hm:X.mg "range"=none)(ha:PA X [a,b] ta)(hs:aX [a,b] X.env=[(false,eval a X.env),(false,eval b X.env)]:=by rfl)(hs2:aX [b] X.env=[(false,eval b X.env)]:=by rfl):
  PI X tg (.Call (.Name "range" p) [a,b] [] pos) (jW6 ta):=by
 intro pins s σ H R I h;refine Call_ (qK1 I hg hm boot_range (dX (thn (ha pos pins s σ H _ I h) fun us s1 ⟨vs,H1,I1,r1,q1⟩=>?_) (by rw[hs,hs2]) (by rw[hs2];rfl)));obtain⟨i,j,e,⟨q1,q2,q3,q4⟩,q⟩:=q1;subst e;cases r1 with
 | cons r rr=>
   cases rr with
   | cons r' rr=>
     cases rr;obtain⟨t,rfl⟩:=r;obtain⟨t',rfl⟩:=r';exact call_range_2 (vW0 I1 q1 q2 q3 q4 q)
noncomputable def tFor(wi:TI)(g:TG)(tb:TS):TS:=fun D σ H=>wi σ H fun J H1=>∃W:Nat->Nat->St->Hp->Prop,(∃m,W 0 m σ H1)/\∀i m σ H,W i m σ H->
 (J.stop i H/\D.nx σ H)\/(J.go i H/\∃N:St->Hp->Prop,(∀σ' H',N σ' H' ->∃m',m'<m/\W (i+1) m' σ' H')/\∀x H',J.yld i H x H' ->g x σ H' fun σ2 H2=>tb {D with nx:=N,ct:=N,bk:=D.nx} σ2 H2)
noncomputable def qKv(fp:List aV)(h:Heap):List (aV×Obj):=fp.filterMap fun b=>(h.get? b).map fun o=>(b,o)
theorem qVn{b:aV}{o:Obj}(hb:b∈fp)(e:h.get? b=some o):(b,o)∈qKv fp h:=bN.mpr ⟨b,hb,by rw[e];rfl⟩
theorem zVy{p:aV×Obj}(hp:p∈qKv fp h):p.1∈fp/\h.get? p.1=some p.2:=by
 obtain⟨b,hb,e⟩:=bN.mp hp;cases q:h.get? b with
 |none=>rw[q]at e;cases e
 | some o=>
   rw[q]at e;have e' :(b,o)=p:=Option.some.inj e;subst e';exact⟨hb,q⟩
theorem Inv.pinned{σ:St}(I:Inv X pins σ H s)(hf:∀b∈fp,FpOk X pins H b)(ho:∀b∈fp,∃o,s.heap.get? b=some o/\∀v,o.data≠ .cell v):Inv X (pins ++ qKv fp s.heap) σ H s:=
 I.pins_of fun p hp=>(cV.mp hp).elim (fun z=>I.pin p (bE _ z)) fun z=>by
  obtain⟨hb,e⟩:=zVy z;obtain⟨f0,f1,f2,_⟩:=hf p.1 hb;obtain⟨o,e',d⟩:=ho p.1 hb;rw[e]at e';cases e';exact⟨e,f0,f1,f2,d⟩
theorem Inv.unpinned{pl:List (aV×Obj)}{σ:St}(I:Inv X (pins ++ pl) σ H s):Inv X pins σ H s:=I.pins_of fun p hp=>I.pin p (bE _ (List.mem_append_left _ hp))
theorem jZf{iter:Expr}{body:List Stmt}{wi:TI}{g:TG}{tb:TS}(hp:PassesOwn (model X.prog X.w) X.A X.env X.xe)(hc:X.calm=true)(hi:PI X tg iter wi)(hg:PG X tg g)(hb:PSs X body tb)(hs:∀x,foldedSetIterable iter X.env x=pure x:=by intro _;rfl):PS X (.For tg iter body [] pos) (tFor wi g tb):=by
 intro pins s σ H D I h;refine wpAny_For (thn (hi pins s σ H _ I h) fun v s1 h1=>thn h1 fun itv s2 h2=>?_) hs;obtain⟨it,fp,tn,J,H2,e,I2,T,st2,f2,W,⟨m0,w0⟩,turn⟩:=h2;subst e;have stat:∀{H' :Hp},(∀b∈fp,H' b=none)->∀b∈fp,FpOk X pins H' b:=fun hn b hb=>⟨hn b hb,(f2 b hb).2⟩
 refine codeAny_forLoop_any (fun n s' =>∃i σ' H',Inv X pins σ' H' s' /\tn i s'.heap/\(∀b∈fp,H' b=none)/\W i n σ' H') ?_ m0 ⟨0,σ,H2,I2,st2,fun b hb=>(f2 b hb).1,w0⟩;rintro n s3 ⟨i,σ3,H3,I3,st3,fr3,w3⟩;rcases turn i n σ3 H3 w3 with⟨stop,qn⟩|⟨go,N,hN,step⟩
 ·refine dG hp (thn (T.done X rfl rfl rfl hc i pins s3 σ3 H3 X.xe I3 (stat fr3) st3 stop) fun r s4 ⟨hr,I4⟩=>?_);subst hr;exact wpAny_execs_nil ⟨σ3,H3,I4,qn⟩
 ·refine dG hp (thn (T.item X rfl rfl rfl hc i pins s3 σ3 H3 X.xe I3 (stat fr3) st3 go) fun r s4 ⟨u,hr,h4⟩=>?_);subst hr;refine dG hp (thn h4 fun _ s5 ⟨x,H5,I5,r5,y5,st5,fr5⟩=>?_);have I5' :=I5.pinned (stat fr5) (T.obj _ _ st5);refine dG hp (thn (hg _ s5 σ3 H5 x u _ I5' r5 (step x H5 y5)) fun _ s6 ⟨σ6,H6,I6,q6⟩=>?_);refine dG hp (thn (hb _ s6 σ6 H6 _ I6 q6) fun f s7 q7=>?_);have again:∀{σ7:St} {H7:Hp},Inv X (pins ++ qKv fp s5.heap) σ7 H7 s7->N σ7 H7->∃m,m<n/\∃i σ' H',Inv X pins σ' H' s7/\tn i s7.heap/\(∀b∈fp,H' b=none)/\W i m σ' H' :=fun {σ7 H7} I7 n7=>by
   obtain⟨m',hm,w7⟩:=hN σ7 H7 n7;refine⟨m',hm,i+1,σ7,H7,I7.unpinned,T.keep _ _ _ st5 fun b hb o e=>(I7.pin (b,o) (bE _ (bE _ (qVn hb e)))).1,fun b hb=>?_,w7⟩;obtain⟨o,e,d⟩:=T.obj _ _ st5 b hb;exact(I7.pin (b,o) (bE _ (bE _ (qVn hb e)))).2.1
  cases f with
  |next=>obtain⟨σ7,H7,I7,n7⟩:=q7;exact again I7 n7
  |cont=>obtain⟨σ7,H7,I7,n7⟩:=q7;exact again I7 n7
  |brk=>obtain⟨σ7,H7,I7,q7⟩:=q7;exact⟨σ7,H7,I7.unpinned,q7⟩
  |ret v=>obtain⟨x7,σ7,H7,I7,r7,q7⟩:=q7;exact⟨x7,σ7,H7,I7.unpinned,r7,q7⟩
end
noncomputable abbrev R2:=V->V->Hp->VK->Prop
noncomputable def OpR(X:Cx)(f:Value->Value->Sem Value)(r:R2):Prop:=
 ∀(pins:List (aV×Obj)) (s:aY) (σ:St) (H:Hp) (x y:V) (v u:Value) (Q:VK),Inv X pins σ H s->RelV x v->RelV y u->r x y H Q->
  bJ (model X.prog X.w) X.A (f v u) (EP X pins σ Q) X.xe s
noncomputable def UnR(X:Cx)(f:Value->Sem Value)(r:V->Hp->VK->Prop):Prop:=
 ∀(pins:List (aV×Obj)) (s:aY) (σ:St) (H:Hp) (x:V) (v:Value) (Q:VK),Inv X pins σ H s->RelV x v->r x H Q->
  bJ (model X.prog X.w) X.A (f v) (EP X pins σ Q) X.xe s
noncomputable def j8(X:Cx)(f:Value)(r:List V->Hp->VK->Prop):Prop:=
 ∀(pins:List (aV×Obj)) (s:aY) (σ:St) (H:Hp) (xs:List V) (us:List Value) (Q:VK),Inv X pins σ H s->Vals xs us->r xs H Q->
  bJ (model X.prog X.w) X.A (call f us) (EP X pins σ Q) X.xe s
noncomputable def tOp(r:R2)(ta tb:TE):TE:=fun σ H Q=>ta σ H fun x H1=>tb σ H1 fun y H2=>r x y H2 Q
noncomputable def tUn(r:V->Hp->VK->Prop)(ta:TE):TE:=fun σ H Q=>ta σ H fun x H1=>r x H1 Q
noncomputable def rI(C:Int->Int->Prop)(g:Int->Int->V):R2:=fun x y H Q=>∃i j,x=.int i/\y=.int j/\C i j/\Q (g i j) H
noncomputable def rI0(g:Int->Int->V):R2:=fun x y H Q=>∃i j,x=.int i/\y=.int j/\Q (g i j) H
noncomputable def rU(g:Int->V):V->Hp->VK->Prop:=fun x H Q=>∃i,x=.int i/\Q (g i) H
section
variable{X:Cx}{a b c:Expr}{ta tb tc:TE}{pos:Pos}
theorem binT(ha:PE X a ta)(hb:PE X b tb){σ:St}{R:V->V->Hp->Prop}(I:Inv X pins σ H s)(h:ta σ H fun x H1=>tb σ H1 fun y H2=>R x y H2){f:Value->Value->Sem Value}(hf:∀v u s2 x y H2,Inv X pins σ H2 s2->RelV x v->RelV y u->R x y H2->bJ (model X.prog X.w) X.A (f v u) Q X.xe s2):
  bJ (model X.prog X.w) X.A (eval a X.env) (fun v s₁=>bJ (model X.prog X.w) X.A (eval b X.env) (fun u s₂=>bJ (model X.prog X.w) X.A (f v u) Q X.xe s₂) X.xe s₁) X.xe s:=by
 refine thn (ha pins s σ H _ I h) fun v s1 ⟨x,H1,I1,r1,q1⟩=>?_
 refine thn (hb pins s1 σ H1 _ I1 q1) fun u s2 ⟨y,H2,I2,r2,q2⟩=>?_
 exact hf v u s2 x y H2 I2 r1 r2 q2
theorem jWi{op:Operator}{r:R2}(ho:OpR X (binaryOp op) r)(ha:PE X a ta)(hb:PE X b tb):PE X (.BinOp a op b pos) (tOp r ta tb):=by
 intro pins s σ H Q I h;exact wpAny_BinOp (binT ha hb I h fun v u s2 x y H2 I2 rx ry q=>ho pins s2 σ H2 x y v u Q I2 rx ry q)
theorem jWg{op:UnaryOp}{r:V->Hp->VK->Prop}(ho:UnR X (unaryOp op) r)(ha:PE X a ta):PE X (.UnaryOp op a pos) (tUn r ta):=by
 intro pins s σ H Q I h;exact UnaryOp_ (thn (ha pins s σ H _ I h) fun v s1 ⟨x,H1,I1,r1,q1⟩=>ho pins s1 σ H1 x v Q I1 r1 q1)
theorem opI{f:Value->Value->Sem Value}{C:Int->Int->Prop}(rule:∀(i j:Int) (t u:Tok) (s:aY) (Q:Value->aY->Prop) (E:Value->aY->Prop),C i j->Q (.int (g i j) s.toks) {s with toks:=s.toks+1}->bJ (model X.prog X.w) X.A (f (.int i t) (.int j u)) Q E s):
  OpR X f (rI C fun i j=>.int (g i j)):=by
 intro pins s σ H x y v u Q I rx ry h;obtain⟨i,j,rfl,rfl,hc,q⟩:=h;obtain⟨t,rfl⟩:=rx;obtain⟨t',rfl⟩:=ry;exact rule i j t t' s _ _ hc ⟨.int (g i j),H,I.tok _,⟨_,rfl⟩,q⟩
theorem opI0{f:Value->Value->Sem Value}(rule:∀(i j:Int) (t u:Tok) (s:aY) (Q:Value->aY->Prop) (E:Value->aY->Prop),Q (.int (g i j) s.toks) {s with toks:=s.toks+1}->bJ (model X.prog X.w) X.A (f (.int i t) (.int j u)) Q E s):
  OpR X f (rI0 fun i j=>.int (g i j)):=by
 intro pins s σ H x y v u Q I rx ry h;obtain⟨i,j,rfl,rfl,q⟩:=h;obtain⟨t,rfl⟩:=rx;obtain⟨t',rfl⟩:=ry;exact rule i j t t' s _ _ ⟨.int (g i j),H,I.tok _,⟨_,rfl⟩,q⟩
theorem opB0{f:Value->Value->Sem Value}{g:Int->Int->Bool}(rule:∀(i j:Int) (t u:Tok) (s:aY) (Q:Value->aY->Prop) (E:Value->aY->Prop),Q (.bool (g i j)) s->bJ (model X.prog X.w) X.A (f (.int i t) (.int j u)) Q E s):
  OpR X f (rI0 fun i j=>.bl (g i j)):=by
 intro pins s σ H x y v u Q I rx ry h;obtain⟨i,j,rfl,rfl,q⟩:=h;obtain⟨t,rfl⟩:=rx;obtain⟨t',rfl⟩:=ry;exact rule i j t t' s _ _ ⟨.bl (g i j),H,I,rfl,q⟩
noncomputable def CPow(i j:Int):Prop:=0<=j/\j<=1000000/\i.natAbs<2 ^ 64
theorem jZ0:OpR X (binaryOp .Add) (rI0 fun i j=>.int (i+j)):=opI0 fun _ _ _ _ _ _ _ q=>add_int q
theorem jZv:OpR X (binaryOp .Sub) (rI0 fun i j=>.int (i - j)):=opI0 fun _ _ _ _ _ _ _ q=>sub_int q
theorem jZx:OpR X (binaryOp .Mod) (rI (fun _ j=>0<j) fun i j=>.int (i % j)):=opI fun i j _ _ _ _ _ hc q=>by
 have h1:(0:Int)<j:=hc;exact mod_int' (by omega) (by rw[Int.fmod_eq_emod_of_nonneg i (by omega)];exact q)
theorem jZw:OpR X (binaryOp .Pow) (rI CPow fun i j=>.int (i ^ j.toNat)):=opI fun _ _ _ _ _ _ _ hc q=>pow_int_small hc.1 hc.2.1 hc.2.2 q
theorem unI{f:Value->Sem Value}{g:Int->Int}(rule:∀(i:Int) (t:Tok) (s:aY) (Q:Value->aY->Prop) (E:Value->aY->Prop),Q (.int (g i) s.toks) {s with toks:=s.toks+1}->bJ (model X.prog X.w) X.A (f (.int i t)) Q E s):
  UnR X f (rU fun i=>.int (g i)):=by
 intro pins s σ H x v Q I rx h;obtain⟨i,rfl,q⟩:=h;obtain⟨t,rfl⟩:=rx;exact rule i t s _ _ ⟨.int (g i),H,I.tok _,⟨_,rfl⟩,q⟩
theorem jVt:UnR X (unaryOp .USub) (rU fun i=>.int (-i)):=unI fun _ _ _ _ _ q=>neg_int q
end
noncomputable def scal:V->V->Bool
 |.non,.non =>true|.non,.int _=>true|.int _,.non =>true|.non,.bl _=>true|.bl _,.non =>true|.non,.str _=>true|.str _,.non =>true
 |.int _,.int _=>true|.bl _,.bl _=>true|.str _,.str _=>true|.byt _,.byt _=>true
 |.int _,.str _=>true|.str _,.int _=>true|.bl _,.str _=>true|.str _,.bl _=>true
 |_,_=>false
noncomputable def rEq:R2:=fun x y H Q=>scal x y=true/\Q (.bl (decide (x=y))) H
noncomputable def rNe:R2:=fun x y H Q=>scal x y=true/\Q (.bl (!decide (x=y))) H
theorem vJk{i j:Int}:decide (V.int i=V.int j)=(i == j):=by
 rw[bH];simp
theorem vYn{i j:Bool}:decide (V.bl i=V.bl j)=(i == j):=by
 grind
theorem zQ4{i j:Str}:decide (V.str i=V.str j)=(i == j):=by
 rw[bH];simp
theorem zQ5{i j:Array UInt8}:decide (V.byt i=V.byt j)=(i.toList == j.toList):=by
 rw[bH];simp_all
section
variable{X:Cx}{a b c:Expr}{ta tb tc:TE}{pos:Pos}
theorem vH{σ:St}{Q:VK}{k k' :Bool}(I:Inv X pins σ H s)(q:Q (.bl k) H)(e:k=k'):EP X pins σ Q (.bool k') s:=by
 subst e;exact⟨.bl k,H,I,rfl,q⟩
theorem jQ4:OpR X (bI .Eq) rEq:=by
 intro pins s σ H x y v u Q I rx ry h;obtain⟨hs,q⟩:=h;cases x with
 | non=>
   cases rx;cases y with
   |non=>cases ry;exact PySem.EqNone.eq_none_none (vH I q (by simp))
   |bl j=>cases ry;exact PySem.EqNone.eq_none_bool (vH I q (by simp))
   |int j=>obtain⟨t',rfl⟩:=ry;exact PySem.EqNone.eq_none_int (vH I q (by simp))
   |str j=>obtain⟨t',rfl⟩:=ry;exact PySem.EqNone.eq_none_str (vH I q (by simp))
   |_=>exact absurd (show false=true from hs) bQ
 | bl i=>
   cases rx;cases y with
   |non=>cases ry;exact PySem.EqNone.eq_bool_none (vH I q (by simp))
   |bl j=>cases ry;exact eq_bool (vH I q vYn)
   |str j=>obtain⟨t',rfl⟩:=ry;exact PySem.EqMixed.eq_bool_str (vH I q (by simp))
   |_=>exact absurd (show false=true from hs) bQ
 | int i=>
   obtain⟨t,rfl⟩:=rx;cases y with
   |non=>cases ry;exact PySem.EqNone.eq_int_none (vH I q (by simp))
   |int j=>obtain⟨t',rfl⟩:=ry;exact eq_int (vH I q vJk)
   |str j=>obtain⟨t',rfl⟩:=ry;exact PySem.EqMixed.eq_int_str (vH I q (by simp))
   |_=>exact absurd (show false=true from hs) bQ
 | str i=>
   obtain⟨t,rfl⟩:=rx;cases y with
   |non=>cases ry;exact PySem.EqNone.eq_str_none (vH I q (by simp))
   |bl j=>cases ry;exact PySem.EqMixed.eq_str_bool (vH I q (by simp))
   |int j=>obtain⟨t',rfl⟩:=ry;exact PySem.EqMixed.eq_str_int (vH I q (by simp))
   |str j=>obtain⟨t',rfl⟩:=ry;exact eq_str (vH I q zQ4)
   |_=>exact absurd (show false=true from hs) bQ
 | byt i=>
   obtain⟨t,rfl⟩:=rx;cases y with
   |byt j=>obtain⟨t',rfl⟩:=ry;exact PySem.W.eq_bytes (vH I q zQ5)
   |_=>exact absurd (show false=true from hs) bQ
 |_=>cases y <;> exact absurd (show false=true from hs) bQ
theorem jQ3:OpR X (bI .NotEq) rNe:=by
 intro pins s σ H x y v u Q I rx ry h;obtain⟨hs,q⟩:=h;cases x with
 | non=>
   cases rx;cases y with
   |non=>cases ry;exact PySem.EqNone.ne_none_none (vH I q (by simp))
   |bl j=>cases ry;exact PySem.EqNone.ne_none_bool (vH I q (by simp))
   |int j=>obtain⟨t',rfl⟩:=ry;exact PySem.EqNone.ne_none_int (vH I q (by simp))
   |str j=>obtain⟨t',rfl⟩:=ry;exact PySem.EqNone.ne_none_str (vH I q (by simp))
   |_=>exact absurd (show false=true from hs) bQ
 | bl i=>
   cases rx;cases y with
   |non=>cases ry;exact PySem.EqNone.ne_bool_none (vH I q (by simp))
   |bl j=>cases ry;exact ne_bool (vH I q (congrArg not vYn))
   |str j=>obtain⟨t',rfl⟩:=ry;exact PySem.EqMixed.ne_bool_str (vH I q (by simp))
   |_=>exact absurd (show false=true from hs) bQ
 | int i=>
   obtain⟨t,rfl⟩:=rx;cases y with
   |non=>cases ry;exact PySem.EqNone.ne_int_none (vH I q (by simp))
   |int j=>obtain⟨t',rfl⟩:=ry;exact ne_int (vH I q (congrArg not vJk))
   |str j=>obtain⟨t',rfl⟩:=ry;exact PySem.EqMixed.ne_int_str (vH I q (by simp))
   |_=>exact absurd (show false=true from hs) bQ
 | str i=>
   obtain⟨t,rfl⟩:=rx;cases y with
   |non=>cases ry;exact PySem.EqNone.ne_str_none (vH I q (by simp))
   |bl j=>cases ry;exact PySem.EqMixed.ne_str_bool (vH I q (by simp))
   |int j=>obtain⟨t',rfl⟩:=ry;exact PySem.EqMixed.ne_str_int (vH I q (by simp))
   |str j=>obtain⟨t',rfl⟩:=ry;exact ne_str (vH I q (congrArg not zQ4))
   |_=>exact absurd (show false=true from hs) bQ
 | byt i=>
   obtain⟨t,rfl⟩:=rx;cases y with
   |byt j=>obtain⟨t',rfl⟩:=ry;exact PySem.W.ne_bytes (vH I q (congrArg not zQ5))
   |_=>exact absurd (show false=true from hs) bQ
 |_=>cases y <;> exact absurd (show false=true from hs) bQ
theorem jWo:OpR X (bI .Lt) (rI0 fun i j=>.bl (decide (i<j))):=opB0 fun _ _ _ _ _ _ _ q=>lt_int q
theorem vWc:OpR X (bI .LtE) (rI0 fun i j=>.bl (decide (i<=j))):=opB0 fun _ _ _ _ _ _ _ q=>le_int q
theorem jWp:OpR X (bI .Gt) (rI0 fun i j=>.bl (decide (j<i))):=opB0 fun _ _ _ _ _ _ _ q=>gt_int q
theorem OpR.or{f:Value->Value->Sem Value}{r:R2}(h:OpR X f r)(h' :OpR X f r'):OpR X f (fun x y H Q=>r x y H Q\/r' x y H Q):=by
 intro pins s σ H x y v u Q I rx ry q;rcases q with q|q
 ·exact h pins s σ H x y v u Q I rx ry q
 ·exact h' pins s σ H x y v u Q I rx ry q
theorem qVj(b:Expr)(h:op≠ .In :=by decide)(h2:op≠ .NotIn :=by decide):behindInMarks op b=false:=by
 have e1:(op == CmpOp.In)=false:=by cases op <;> first|rfl|exact absurd rfl h
 have e2:(op == CmpOp.NotIn)=false:=by cases op <;> first|rfl|exact absurd rfl h2
 cases b <;> simp[behindInMarks,e1,e2]
theorem zKi{r:R2}(ho:OpR X (bI op) r)(ha:PE X a ta)(hb:PE X b tb)(hm:behindInMarks op b=false):PE X (.Compare a [op] [b] pos) (tOp r ta tb):=by
 intro pins s σ H Q I h;exact wpAny_Compare1 (binT ha hb I h fun v u s2 x y H2 I2 rx ry q=>ho pins s2 σ H2 x y v u Q I2 rx ry q) hm
noncomputable def jQr(t:TE):TT:=fun σ H Q=>t σ H fun x H' =>∃k,x=.bl k/\Q k H'
theorem zYz{r:R2}(ho:OpR X (bI op) r)(ha:PE X a ta)(hb:PE X b tb)(hm:behindInMarks op b=false):PT X (.Compare a [op] [b] pos) (jQr (tOp r ta tb)):=by
 intro pins s σ H Q I h;refine wpAny_isTrue_Compare1 (thn (ha pins s σ H _ I h) fun v s1 ⟨x,H1,I1,r1,q1⟩=>thn (hb pins s1 σ H1 _ I1 q1) fun u s2 ⟨y,H2,I2,r2,q2⟩=>
  thn (ho pins s2 σ H2 x y v u _ I2 r1 r2 q2) fun c s3 ⟨z,H3,I3,r3,k,e,q3⟩=>?_) hm
 subst e;cases r3;exact cG ⟨H3,I3,q3⟩
noncomputable def vX7(r r' :R2)(ta tb tc:TE):TE:=fun σ H Q=>ta σ H fun x H1=>tb σ H1 fun y H2=>r x y H2 fun z H3=>∃k,z=.bl k/\
 (if k=true then tc σ H3 fun w' H4=>r' y w' H4 Q else Q (.bl false) H3)
theorem zW4{r:R2}(ho:OpR X (bI op) r)(ho' :OpR X (bI op') r')(ha:PE X a ta)(hb:PE X b tb)(hc:PE X c tc)(hm:lastMarks [op,op'] [b,c]=false:=by with_unfolding_all rfl):PE X (.Compare a [op,op'] [b,c] pos) (vX7 r r' ta tb tc):=by
 intro pins s σ H Q I h;refine Compare_chain (thn (ha pins s σ H _ I h) fun v s1 ⟨x,H1,I1,r1,q1⟩=>chain_link (thn (hb pins s1 σ H1 _ I1 q1) fun u s2 ⟨y,H2,I2,r2,q2⟩=>
  thn (ho pins s2 σ H2 x y v u _ I2 r1 r2 q2) fun d s3 ⟨z,H3,I3,r3,k,e,q3⟩=>?_)) hm
 subst e;cases r3;refine cG ?_
 cases k with
 |false=>exact ite_ff ⟨.bl false,H3,I3,rfl,q3⟩
 |true=>exact ite_tt (chain_last (thn (hc pins s3 σ H3 _ I3 q3) fun w' s4 ⟨z',H4,I4,r4,q4⟩=>ho' pins s4 σ H4 y z' u w' Q I4 r2 r4 q4))
theorem zWy{r:R2}(ho:OpR X (bI op) r)(ho' :OpR X (bI op') r')(ha:PE X a ta)(hb:PE X b tb)(hc:PE X c tc)(hm:lastMarks [op,op'] [b,c]=false:=by with_unfolding_all rfl):PT X (.Compare a [op,op'] [b,c] pos) (jQr (vX7 r r' ta tb tc)):=by
 intro pins s σ H Q I h;refine isTrue_chain (thn (ha pins s σ H _ I h) fun v s1 ⟨x,H1,I1,r1,q1⟩=>test_link (thn (hb pins s1 σ H1 _ I1 q1) fun u s2 ⟨y,H2,I2,r2,q2⟩=>
  thn (ho pins s2 σ H2 x y v u _ I2 r1 r2 q2) fun d s3 ⟨z,H3,I3,r3,k,e,q3⟩=>?_)) hm
 subst e;cases r3;refine cG ?_
 cases k with
 | false=>
   obtain⟨k',e',q'⟩:=q3;cases e';exact ite_ff ⟨H3,I3,q'⟩
 | true=>
   refine ite_tt (test_last (thn (hc pins s3 σ H3 _ I3 q3) fun w' s4 ⟨z',H4,I4,r4,q4⟩=>thn (ho' pins s4 σ H4 y z' u w' _ I4 r2 r4 q4) fun d' s5 ⟨z2,H5,I5,r5,k2,e2,q5⟩=>?_));subst e2;cases r5;exact cG ⟨H5,I5,q5⟩
theorem qK0:(aD:Nat)<2 ^ 63:=by decide
theorem vY8:OpR X (binaryOp .Add) (fun x y H Q=>∃i j,x=.str i/\y=.str j/\i.length+j.length<=aD/\Q (.str (i ++ j)) H):=by
 intro pins s σ H x y v u Q I rx ry h;obtain⟨i,j,rfl,rfl,hz,q⟩:=h;obtain⟨t,rfl⟩:=rx;obtain⟨t',rfl⟩:=ry;exact add_str (fun t' tk=>⟨.str (i ++ j),H,I.tok _,⟨_,rfl⟩,q⟩) hz
theorem yI{x:V}(r:Vals [x] us):∃u,us=[u]/\RelV x u:=by
 cases r with
 |cons r1 r2=>cases r2;exact⟨_,rfl,r1⟩
theorem jJ1{x:V}(r:Vals [x,y] us):∃u w',us=[u,w']/\RelV x u/\RelV y w' :=by
 cases r with
 | cons r1 r2=>
   cases r2 with
   |cons r3 r4=>cases r4;exact⟨_,_,rfl,r1,r3⟩
theorem zZi(hc:X.calm=true):j8 X (.builtin "max") (fun xs H Q=>∃i j,xs=[.int i,.int j]/\Q (.int (if j > i then j else i)) H):=by
 intro pins s σ H xs us Q I r h;obtain⟨i,j,rfl,q⟩:=h;obtain⟨u,w',rfl,⟨t,rfl⟩,⟨t',rfl⟩⟩:=jJ1 r;refine max_two_ints (I.ok.hd hc) fun h' tk k=>⟨_,H,I.kept k,?_,q⟩
 by_cases hj:j > i
 ·rw[if_pos hj,if_pos hj];exact⟨_,rfl⟩
 ·rw[if_neg hj,if_neg hj];exact⟨_,rfl⟩
theorem vJ1:j8 X (.type "str") (fun xs H Q=>∃i,xs=[.int i]/\i.natAbs.log2<1920/\Q (.str (toString i)) H):=by
 intro pins s σ H xs us Q I r h;obtain⟨i,rfl,hz,q⟩:=h;obtain⟨u,rfl,t,rfl⟩:=yI r;exact PySem.P.str_of_int hz ⟨.str _,H,I.tok _,⟨_,rfl⟩,q⟩
end
structure ObjM(h:Heap)(x dx C:aV)(mA:Str->Option Value):Prop where
 obj:h.get? x=some (cM C dx)
 ns:h.Ns1 dx mA
 ne:dx≠x
theorem zV1{mA:Str->Option Value}(n:h.Ns1 dx mA):∃od,h.get? dx=some od/\∀name,PySem.W.lookIn name od=some (mA name):=by
 obtain⟨o,es,ep,ho,hd,hk,_,hm⟩:=n;refine⟨o,ho,fun name=>?_⟩;have e:=hm name;unfold nsFind findBy at e;rw[←Array.find?_toList]at e;unfold PySem.W.lookIn;rw[hd];dsimp only;split
 ·grind
 ·rename_i q;rw[q]at e;have a:es.toList.any (·.refKey)=false:=by
   rw[List.any_eq_false];intro y hy;obtain⟨z,t,hkey⟩:=hk y (Array.mem_toList_iff.mp hy);simp[DictEntry.refKey,hkey]
  grind
theorem ObjM.look{x:aV}{mA:Str->Option Value}(I:ObjM h x dx C mA):∃od,PySem.W.InstAt h x (cM C dx) C (some od)/\∀name,PySem.W.lookIn name od=some (mA name):=
 let ⟨od,ho,hl⟩:=zV1 I.ns
 ⟨od,⟨I.obj,rfl,rfl,ho⟩,hl⟩
section
variable{prog:bZ}{w:bX}{A:cB}{E:Value->aY->Prop}{s:aY}{K:aQ}{x dx C f:aV}{mA:Str->Option Value}{name:Str}{v:Value}
theorem zK5{expr:Bool}(X:K.In s.heap)(I:ObjM s.heap x dx C mA)(hg:PySem.W.plainGet K C name=true)(hh:PySem.W.hasDictIn K C=true)(ha:cW K (.ref C) name=some none)(hv:mA name=some v)(hv' :PySem.W.handedIn v=true)(h:Q v {s with toks:=s.toks+1}):
  bJ (model prog w) A (getAttr (.ref x) name expr) Q E s:=by
 obtain⟨od,J,hl⟩:=I.look;exact PySem.W.get_value X J (PySem.W.plainGet_of hg).1 (PySem.W.findObj_own hh ha rfl (by rw[hl,hv])) hv' h
theorem zXw{Q:Value×List Value->aY->Prop}(X:K.In s.heap)(I:ObjM s.heap x dx C mA)(hg:PySem.W.plainGet K C name=true)(hf:cW K (.ref C) name=some (some (.ref f)))(ht:PySem.W.isFn K (.ref f)=true)(hv:mA name=none)(h:Q (.ref f,[.ref x]) s):
  bJ (model prog w) A (getMethod (.ref x) name pl) Q E s:=by
 obtain⟨od,J,hl⟩:=I.look;exact PySem.W.method_fn X J (PySem.W.plainGet_of hg).1 (PySem.W.plainGet_of hg).2 hf (beq_iff_eq.mp ht) (by show(PySem.W.lookIn name od).map (·.isSome)=some false;rw[hl,hv];rfl) h
theorem zYn{ns:List Str}{Q:Unit->aY->Prop}(X:K.In s.heap)(I:ObjM s.heap x dx C mA)(hs:cW K (.ref C) "__setattr__"=some (some (.builtin "object.__setattr__")))(hp:PySem.W.plainOver K C=true)(ht:PySem.W.takerIn K C name=some none)(hh:PySem.W.hasDictIn K C=true)(hw:PySem.Within mA ns)(hsz:ns.length<=aD)(h:∀h',ObjM h' x dx C (fun y=>if y=name then some v else mA y)->Heap.SameBut dx s.heap h' ->Q () {s with heap:=h',toks:=s.toks+2}):
  bJ (model prog w) A (setAttr (.ref x) name v) Q E s:=by
 obtain⟨od,J,hl⟩:=I.look;refine PySem.W.set_plain X J hs (PySem.W.osa_open (s:={s with toks:=s.toks+1}) (r:=none) X J hp ht fun b=>?_);obtain⟨cd,hc,hd'⟩:=PySem.W.any_some hh;have hx:s.heap.get? x=some ⟨.ref C,some dx,.plain,#[]⟩:=I.obj;refine aU (aT (aU (aU (wpAny_loadPart hx (aU (PySem.W.Looks.here (s:={s with toks:=s.toks+1}) (PySem.W.looks_clsIn X hc) ?_))))));rw[hd'];refine aT (a:=some dx) (aU (aT (aU ?_)));refine wpAny_nsSet1 (s:={s with toks:=s.toks+1}) I.ns fun h' hn2 hs2=>?_
 obtain⟨oD,esD,epD,hoD,hdD,hcD⟩:=hn2.count (PySem.Within.cons name v hw);refine aU (wpAny_lookBehind hoD (by rw[hdD];exact pastItsLine_dict (aG hcD (by rw[aZ];omega))) ?_);exact aT (h _ ⟨(hs2.2 _ (Ne.symm I.ne)).trans I.obj,hn2,I.ne⟩ hs2)
theorem zXi{R:Result->aY->Prop}{vs:List Value}(X:K.In s.heap)(hm:PySem.W.makesIn K C=true)(hi:cW K (.ref C) "__init__"=some (some (.ref f)))(hf:PySem.W.typeIn K (.ref f)=some (.type "function"))(h:codeAny (model prog w) (A.under (.builtin "type.__call__" ⟨.ref C::vs,kw⟩)) (.call (.ref f) ⟨.ref (s.heap.objs.size+1)::vs,kw⟩) (PySem.W.InitBack (s.heap.objs.size+1) R)
   {s with heap:=(s.heap.push cK).push (cM C s.heap.objs.size)}):
  codeAny (model prog w) A (.call (.ref C) ⟨vs,kw⟩) R s:=by
 obtain⟨hh,g,d,t,os⟩:=s;exact PySem.W.make_core (PySem.W.makes_of X hm) (PySem.W.looks_findIn X hi) (fun self=>PySem.W.bind_fn X self hf) (.inl rfl) h
end
noncomputable def putF(f:Str)(v:V):List (Str×V)->List (Str×V)
 |[]=> [(f,v)]
 |(g,x)::r=>if g=f then(g,v)::r else(g,x)::putF f v r
theorem qYt(f g:Str)(v:V):∀fs:List (Str×V),(putF f v fs).lookup g=if g=f then some v else fs.lookup g
 | []=>by
   show List.lookup g [(f,v)]=_;grind
 | (k,x)::r=>by
   have ih:=qYt f g v r;rw[show putF f v ((k,x)::r)=(if k=f then(k,v)::r else(k,x)::putF f v r) from rfl];grind
theorem qYe(f:Str)(v:V):∀fs:List (Str×V),f∈(putF f v fs).map (·.1)/\∀g,g∈fs.map (·.1)->g∈(putF f v fs).map (·.1)
 |[]=>⟨by simp[putF],fun g h=>by simp at h⟩
 | (k,x)::r=>by
   obtain⟨i1,i2⟩:=qYe f v r;rw[show putF f v ((k,x)::r)=(if k=f then(k,v)::r else(k,x)::putF f v r) from rfl];grind
theorem qYu(f:Str)(v:V):∀fs:List (Str×V),(putF f v fs).length <=fs.length+1
 |[]=>by simp[putF]
 | (k,x)::r=>by
   have ih:=qYu f v r;rw[show putF f v ((k,x)::r)=(if k=f then(k,v)::r else(k,x)::putF f v r) from rfl];by_cases hk:k=f
   ·rw[if_pos hk,aZ,aZ];omega
   ·rw[if_neg hk,aZ,aZ];omega
theorem RelO.some_of{v:V}{o:Option Value}(r:RelO (some v) o):∃u,o=some u/\RelV v u:=by
 cases o with
 |none=>exact(show False from r).elim
 |some u=>exact⟨u,rfl,r⟩
theorem RelO.none_of{o:Option Value}(r:RelO none o):o=none:=by
 cases o with
 |none=>rfl
 |some u=>exact(show False from r).elim
theorem zV8{v:V}{u:Value}(r:RelV v u):PySem.W.handedIn u=true:=by
 cases v with
 |non=>cases(show u=Value.none from r);rfl
 |bl b=>cases(show u=Value.bool b from r);rfl
 |int i=>obtain⟨t,e⟩:=(show∃t,u=Value.int i t from r);cases e;rfl
 |str x=>obtain⟨t,e⟩:=(show∃t,u=Value.str x t from r);cases e;rfl
 |byt b=>obtain⟨t,e⟩:=(show∃t,u=Value.bytes b t from r);cases e;rfl
 |flt b=>obtain⟨t,e⟩:=(show∃t,u=Value.float b t from r);cases e;rfl
 |ref a=>cases(show u=Value.ref a from r);rfl
 |ty n=>cases(show u=Value.type n from r);rfl
section
variable{P:bZ}{w:bX}{H H' :Hp}{h h' :Heap}{a C dx:aV}{fs fs' :List (Str×V)}
theorem vJg(hok:HOk P w H h)(e:H a=some (.ins C dx fs)):∃mA,ObjM h a dx C mA/\(∀f,RelO (fs.lookup f) (mA f))/\PySem.Within mA (fs.map (·.1))/\fs.length<=1000/\H dx=some (.own a):=by
 obtain⟨d,z,ne,ob,mA,n,r,q⟩:=(show zL P w H h a (.ins C dx fs) from hok a _ e)
 exact⟨mA,⟨ob,n,ne⟩,r,q,z,d⟩
end
structure Cls(K:aQ)(C:aV):Prop where
 pg:PySem.W.plainGet K C Str.empty=true
 hd:PySem.W.hasDictIn K C=true
 po:PySem.W.plainOver K C=true
 sa:cW K (.ref C) "__setattr__"=some (some (.builtin "object.__setattr__"))
theorem Cls.get(c:Cls K C)(f:Str):PySem.W.plainGet K C f=true:=c.pg
noncomputable def x8(K:aQ)(C:aV)(f:Str):Prop:=cW K (.ref C) f=some none
theorem x8.taker{f:Str}(n:x8 K C f):PySem.W.takerIn K C f=some none:=by
 unfold PySem.W.takerIn;rw[show cW K (.ref C) f=some none from n];rfl
structure Meth(K:aQ)(C:aV)(m:Str)(f:aV):Prop where
 at_:cW K (.ref C) m=some (some (.ref f))
 fn:PySem.W.isFn K (.ref f)=true
 kp:bO K (.ref f)=true
section
variable{X:Cx}{pins:List (aV×Obj)}{σ:St}{H:Hp}{s:aY}{a C dx:aV}{fs:List (Str×V)}{f:Str}{v:V}{A:cB}{E:Value->aY->Prop}
theorem vQz{b:Bool}(I:Inv X pins σ H s)(e:H a=some (.ins C dx fs))(c:Cls X.K C)(n:x8 X.K C f)(l:fs.lookup f=some v)(h:∀u s',Inv X pins σ H s' ->RelV v u->Q u s'):bJ (model X.prog X.w) A (getAttr (.ref a) f b) Q E s:=by
 obtain⟨mA,O,r,_,_,_⟩:=vJg I.hok e;obtain⟨u,hu,ru⟩:=RelO.some_of (v:=v) (o:=mA f) (by rw[←l];exact r f);exact zK5 I.kIn O (c.get f) c.hd n hu (zV8 ru) (h u _ (I.tok _) ru)
theorem vQy{m:Str}{g:aV}{Q:Value×List Value->aY->Prop}(I:Inv X pins σ H s)(e:H a=some (.ins C dx fs))(c:Cls X.K C)(k:Meth X.K C m g)(l:fs.lookup m=none)(h:Q (.ref g,[.ref a]) s):bJ (model X.prog X.w) A (getMethod (.ref a) m pl) Q E s:=by
 obtain⟨mA,O,r,_,_,_⟩:=vJg I.hok e;have hn:mA m=none:=RelO.none_of (by rw[←l];exact r m);exact zXw I.kIn O (c.get m) k.at_ k.fn hn h
theorem vQu{u:Value}{Q:Unit->aY->Prop}(I:Inv X pins σ H s)(e:H a=some (.ins C dx fs))(c:Cls X.K C)(n:x8 X.K C f)(hl:fs.length<1000)(ry:RelV y u)(h:∀s',Inv X pins σ (upd H a (.ins C dx (putF f y fs))) s' ->Q () s'):bJ (model X.prog X.w) A (setAttr (.ref a) f u) Q E s:=by
 obtain⟨mA,O,r,wi,_,ho⟩:=vJg I.hok e;have hz:(fs.map (·.1)).length <=aD:=by rw[aB,sizeLine_eq];omega
 refine zYn I.kIn O c.sa c.po n.taker c.hd wi hz fun h' O' sb=>h _ ?_
 have hd:∃o,h'.get? dx=some o:=let ⟨o,_,_,e',_⟩:=O'.ns;⟨o,e'⟩;refine I.write (x:=a) (e:=dx) (by rw[e];exact True.intro) (.inr ho) (fun b q hb z=>(sb.2 b hb).trans z) hd ?_
 refine⟨by rw[qH O.ne];exact ho,?_,O.ne,O'.obj,_,O'.ns,fun g=>?_,fun g hg=>?_⟩
 ·have:=qYu f y fs;omega
 ·show RelO ((putF f y fs).lookup g) (if g=f then some u else mA g);rw[qYt];by_cases q:g=f
  ·rw[if_pos q,if_pos q];exact ry
  ·rw[if_neg q,if_neg q];exact r g
 ·by_cases q:g=f
  ·rw[q];exact(qYe f y fs).1
  ·refine(qYe f y fs).2 g (wi g fun z=>hg ?_);show(if g=f then some u else mA g)=none;rw[if_neg q];exact z
theorem Inv.made(I:Inv X pins σ H s):Inv X pins σ (upd (upd H s.heap.objs.size (.own (s.heap.objs.size+1))) (s.heap.objs.size+1) (.ins C s.heap.objs.size []))
  {s with heap:=(s.heap.push cK).push (cM C s.heap.objs.size)}:=by
 have e1:(s.heap.push cK).get? s.heap.objs.size=some cK:=bW s.heap rfl;have e2:((s.heap.push cK).push (cM C s.heap.objs.size)).get? (s.heap.objs.size+1)=some (cM C s.heap.objs.size):=by
  have:=bW (s.heap.push cK) (o:=cM C s.heap.objs.size) rfl;rwa [dH]at this
 have e3:(s.heap.push cK).Ns s.heap.objs.size (fun _=>none):=⟨cK,#[],_,e1,rfl,(fun e he=>absurd he (by simp)),fun _=>rfl⟩
 have I1:=I.laid (a:=s.heap.objs.size) (o:=.own (s.heap.objs.size+1)) (h' :=s.heap.push cK) (t' :=s.toks) (fun b u q=>aK _ q) (aP _) ⟨_,e1⟩;refine I1.laid (a:=s.heap.objs.size+1) (o:=.ins C s.heap.objs.size []) (t' :=s.toks) (fun b u q=>aK _ q) (Nat.le_of_eq (dH _ _)) ?_
 have ne:s.heap.objs.size≠s.heap.objs.size+1:=bK (Nat.lt_succ_self _);refine⟨by rw[qH ne,upd_same],cJ _,ne,e2,fun _=>none,(Heap.Ns1.of_empty e3).at fun o q=>aK _ q,fun _=>True.intro,fun y hy=>absurd rfl hy⟩
theorem jQl{prog:bZ}{w:bX}{env:Env}{e:Expr}{f:Str}(hb:attributeBase e f env (eval e env)=eval e env)(h:bJ (model prog w) A (eval e env) (fun o s₁=>bJ (model prog w) A (getAttr o f true) Q E s₁) E s):bJ (model prog w) A (eval (.Attribute e f pos) env) Q E s:=
 Attribute_any_ h (by rw[arm_eval_Attribute,hb])
end
noncomputable def tFld(K:aQ)(ta:TE)(f:Str):TE:=fun σ H Q=>ta σ H fun x H1=>∃a C dx fs v,x=.ref a/\H1 a=some (.ins C dx fs)/\Cls K C/\x8 K C f/\fs.lookup f=some v/\Q v H1
noncomputable def sFld(K:aQ)(ta tv:TE)(f:Str):TS:=fun D σ H=>tv σ H fun y H1=>ta σ H1 fun x H2=>∃a C dx fs,x=.ref a/\H2 a=some (.ins C dx fs)/\Cls K C/\x8 K C f/\fs.length<1000/\
 D.nx σ (upd H2 a (.ins C dx (putF f y fs)))
noncomputable def InOp(X:Cx)(op:Operator)(rd:V->V->Hp->VK->Prop):Prop:=
 ∀(pins:List (aV×Obj)) (s:aY) (σ:St) (H:Hp) (x y:V) (u v:Value) (Q:VK),Inv X pins σ H s->RelV x u->RelV y v->rd x y H Q->bJ (model X.prog X.w) X.A (inplaceOp op u v) (EP X pins σ Q) X.xe s
noncomputable def zYr(K:aQ)(ta tv:TE)(rd:V->V->Hp->VK->Prop)(f:Str):TS:=fun D σ H=>ta σ H fun x H1=>∃a C dx fs v,x=.ref a/\H1 a=some (.ins C dx fs)/\Cls K C/\x8 K C f/\fs.lookup f=some v/\
 tv σ H1 fun y H2=>rd v y H2 fun z H3=>∃dx' fs',H3 a=some (.ins C dx' fs')/\fs'.length<1000/\D.nx σ (upd H3 a (.ins C dx' (putF f z fs')))
section
variable{X:Cx}{o e value:Expr}{f:Str}{pos pos' tpos:Pos}{ta tv:TE}
theorem jZt(he:PE X e ta)(hb:attributeBase e f X.env (eval e X.env)=eval e X.env):PE X (.Attribute e f pos) (tFld X.K ta f):=by
 intro pins s σ H Q I h;refine jQl hb (thn (he pins s σ H _ I h) fun u s1 ⟨x,H1,I1,rx,a,C,dx,fs,v,ex,ea,c,n,l,q⟩=>?_);subst ex;obtain rfl:u=Value.ref a:=rx;exact vQz I1 ea c n l fun u' s2 I2 ru=>⟨v,H1,I2,ru,q⟩
theorem jZg(ha:PE X o ta)(hv:PE X value tv)(hs:swapsWith value (some (.Attribute o f pos')) pos.line X.env=pure false):PS X (.Assign [.Attribute o f pos'] value pos) (sFld X.K ta tv f):=by
 intro pins s σ H D I h;refine plainObj_wpAny_Assign_Attribute (thn (hv pins s σ H _ I h) fun u s1 ⟨y,H1,I1,ry,q⟩=>thn (ha pins s1 σ H1 _ I1 q) fun ov s2 ⟨x,H2,I2,rx,a,C,dx,fs,ex,ea,c,n,l,q2⟩=>?_) hs;subst ex;obtain rfl:ov=Value.ref a:=rx;exact vQu I2 ea c n l ry fun s3 I3=>⟨σ,_,I3,q2⟩
theorem zVq{op:Operator}{rd:V->V->Hp->VK->Prop}(ha:PE X o ta)(hv:PE X value tv)(hop:InOp X op rd):PS X (.AugAssign (.Attribute o f tpos) op value pos) (zYr X.K ta tv rd f):=by
 intro pins s σ H D I h;refine wpAny_AugAssign_AttributeAny (thn (ha pins s σ H _ I h) fun ov s1 ⟨x,H1,I1,rx,a,C,dx,fs,v,ex,ea,c,n,l,q⟩=>?_);subst ex;obtain rfl:ov=Value.ref a:=rx;refine vQz I1 ea c n l fun u s2 I2 ru=>thn (hv pins s2 σ H1 _ I2 q) fun w3 s3 ⟨y,H2,I3,ry,q3⟩=>thn (hop pins s3 σ H2 v y u w3 _ I3 ru ry q3) fun w4 s4 ⟨z,H3,I4,rz,dx',fs',ea',l',q4⟩=>?_
 exact vQu I4 ea' c n l' rz fun s5 I5=>⟨σ,_,I5,q4⟩
end
structure Room(k:Nat)(A:cB):Prop where
 hd:A.handled=none
 dp:A.depth+3 * k+5<recursionLimit
 un:A.units+16 * k+200<cLine
 gd:A.guards=some []
theorem Room.mono(r:Room k A)(h:j<=k):Room j A:=⟨r.hd,by have:=r.dp;omega,by have:=r.un;omega,r.gd⟩
theorem Room.deeper(r:Room (k+1) A)(env:Env):Room k (A.deeper env):=
 ⟨r.hd,by have:=r.dp;show A.depth+1+3 * k+5<_;omega,by have:=r.un;show A.units+3+16 * k+200<_;omega,r.gd⟩
theorem vKa:(A.under (.builtin "type.__call__" ⟨.ref C::us,kw⟩)).depth =A.depth+1:=by
 first|rfl|simp[guardIds]
theorem vY9:(A.under (.builtin "type.__call__" ⟨.ref C::us,kw⟩)).units =A.units+1:=by
 first|rfl|simp[Code.frames]
theorem vXx:(A.under (.builtin "type.__call__" ⟨.ref C::us,kw⟩)).guards =A.guards:=by
 first|rfl|simp[guardIds]
theorem Room.make(r:Room (k+1) A)(C:aV)(us:List Value)(kw:List (Str×Value)):Room k (A.under (.builtin "type.__call__" ⟨.ref C::us,kw⟩)):=
 ⟨r.hd,by have:=r.dp;rw[vKa];omega,by have:=r.un;rw[vY9];omega,by rw[vXx];exact r.gd⟩
theorem Room.depth(r:Room k A):A.depth<recursionLimit:=by have:=r.dp;omega
theorem Room.units(r:Room k A):A.units+64<cLine:=by have:=r.un;omega
noncomputable def tNil:TA:=fun _ H Q=>Q [] H
noncomputable def vVi(ta:TE)(tr:TA):TA:=fun σ H Q=>ta σ H fun x H1=>tr σ H1 fun xs H2=>Q (x::xs) H2
section
variable{X:Cx}{e:Expr}{es:List Expr}{te:TE}{t:TA}{pos:Pos}
theorem qWe:PA X [] tNil:=fun _ _ _ _ H Q I h=>Calls.spliced_nil ⟨[],H,I,.nil,h⟩
theorem qVl(ha:PE X e te)(hr:PA X es t)(hs:aX (e::es) X.env=(false,eval e X.env)::aX es X.env:=by rfl):PA X (e::es) (vVi te t):=by
 intro pos pins s σ H Q I h;rw[hs];refine Calls.spliced_cons (thn (ha pins s σ H _ I h) fun u s1 ⟨x,H1,I1,r1,q1⟩=>?_);exact thn (hr pos pins s1 σ H1 _ I1 q1) fun us s2 ⟨xs,H2,I2,r2,q2⟩=>⟨x::xs,H2,I2,.cons r1 r2,q2⟩
noncomputable def tTup(t:TA):TE:=fun σ H Q=>t σ H fun xs H1=>xs.length<=aD/\∀p,H1 p=none->Q (.ref p) (upd H1 p (.tup xs))
noncomputable def tLst(t:TA):TE:=fun σ H Q=>t σ H fun xs H1=>xs.length<=aD/\∀p,H1 p=none->Q (.ref p) (upd H1 p (.lst xs))
theorem jZo{x1}(h:PA X es t):PE X (.Tuple es x1 pos) (tTup t):=by
 intro pins s σ H Q I hq;refine wpAny_Tuple_spliced (thn (h pos pins s σ H _ I hq) fun us s1 ⟨xs,H1,I1,r,z,q⟩=>⟨by rw[←r.length];exact z,?_⟩);have hf:H1 s1.heap.objs.size=none:=I1.hok.fresh (aP _);refine⟨.ref s1.heap.objs.size,upd H1 s1.heap.objs.size (.tup xs),I1.laid (t' :=s1.toks) (fun b u e=>aK _ e) (aP _) ?_,rfl,q _ hf⟩;exact⟨z,us,r,⟨_,bW _ rfl,rfl,_,rfl⟩⟩
theorem jZq(h:PA X es t):PE X (.List es pos) (tLst t):=by
 intro pins s σ H Q I hq;refine wpAny_List_spliced (thn (h pos pins s σ H _ I hq) fun us s1 ⟨xs,H1,I1,r,z,q⟩=>⟨by rw[←r.length];exact z,?_⟩);have hf:H1 s1.heap.objs.size=none:=I1.hok.fresh (aP _);refine⟨.ref s1.heap.objs.size,upd H1 s1.heap.objs.size (.lst xs),I1.laid (t' :=s1.toks) (fun b u e=>aK _ e) (aP _) ?_,rfl,q _ hf⟩;exact⟨z,us,0,r,bW _ rfl⟩
end
noncomputable abbrev Sp:=List V->Hp->VK->XK->Prop
noncomputable abbrev CXT:=List Env->Hp->aY->XK->Value->aY->Prop
structure Env0(P:bZ)(w:bX)(K:aQ)(mg:Str->Option Value)(base:Heap)(A:cB)(outer:List Env)(s:aY)(H:Hp):Prop where
 frames:A.frames=some outer
 mod:Mod K mg base
 bs:∀b o,base.get? b=some o->s.heap.get? b=some o/\H b=none
 bsz:base.objs.size<=s.heap.objs.size
 funs:s.heap.FunFrames base outer
 frf:∀b∈frs outer,H b=none
 hok:HOk P w H s.heap
 bare:AllBare s.gens
noncomputable def CE(outer:List Env)(P:bZ)(w:bX)(H:Hp)(s:aY)(Q:VK)(u:Value)(s' :aY):Prop:=
 ∃v H',s'.os=s.os/\AllBare s'.gens/\Un (frs outer) [] H H' s.heap s'.heap/\HOk P w H' s'.heap/\RelV v u/\Q v H'
noncomputable def CR(CX:CXT)(outer:List Env)(P:bZ)(w:bX)(H:Hp)(s:aY)(Q:VK)(E:XK)(r:Result)(s' :aY):Prop:=
 match r with
 |.ok (.ret u)=>CE outer P w H s Q u s'
 |.ok _=>False
 |.error e=>CX outer H s E e s'
structure FnOk(P:bZ)(w:bX)(K:aQ)(mg:Str->Option Value)(base:Heap)(CX:CXT)(k:Nat)(f:aV)(fd:aH)(ps:List Str)(sp:Sp):Prop where
 len:∀vs H Q E,sp vs H Q E->vs.length=ps.length
 run:∀(A:cB) (outer:List Env) (s:aY) (H:Hp) (args:Args) (us:List Value) (vs:List V) (Q:VK) (E:XK),Room k A->Env0 P w K mg base A outer s H->BindsTo s fd args (ps.zip us)->Vals vs us->sp vs H Q E->
  codeAny (model P w) A (.call (.ref f) args) (CR CX outer P w H s Q E) s
theorem FnOk.imp{P:bZ}{w:bX}{f:aV}{sp':Sp}(F:FnOk P w K mg base CX k f fd ps sp)(h:∀vs H Q E,sp' vs H Q E->sp vs H Q E):FnOk P w K mg base CX k f fd ps sp' :=
 ⟨fun vs H Q E q=>F.len vs H Q E (h _ _ _ _ q),fun A outer s H args us vs Q E hr he hb hv hs=>F.run A outer s H args us vs Q E hr he hb hv (h _ _ _ _ hs)⟩
theorem Env0.make{P:bZ}{w:bX}(e:Env0 P w K mg base A outer s H)(C:aV)(us:List Value)(kw:List (Str×Value)):
  Env0 P w K mg base (A.under (.builtin "type.__call__" ⟨.ref C::us,kw⟩)) outer s H:=⟨by first|exact e.frames|(simpa[Around.under,Code.envs,Code.isFrame,pushEnvs] using e.frames),e.mod,e.bs,e.bsz,e.funs,e.frf,e.hok,e.bare⟩
section
variable{X:Cx}{pins:List (aV×Obj)}{σ:St}{H:Hp}{s s' :aY}
theorem Inv.env0(I:Inv X pins σ H s):Env0 X.prog X.w X.K X.mg X.base X.A X.stack s H:=
 ⟨I.ok.frames,I.ok.mod,I.bs,aG I.ok.bsz I.sz,I.stack,I.stkFree,I.hok,I.bare⟩
theorem Inv.after{Q:VK}{u:Value}(I:Inv X pins σ H s)(h:CE X.stack X.prog X.w H s Q u s'):EP X pins σ Q u s' :=by
 obtain⟨v,H',os,bare,un,hok,r,q⟩:=h;obtain⟨hh,g,d,t,os'⟩:=s';obtain rfl:os' =s.os:=os;exact⟨v,H',I.call (h' :=hh) (g' :=g) (d' :=d) (t' :=t) (ch:=[]) un hok bare (fun b z=>absurd z (by simp)),r,q⟩
end
noncomputable def zZp(sp:Sp)(dvs:List V)(E:XK)(t:TA):TE:=fun σ H Q=>t σ H fun vs H1=>sp (vs ++ dvs) H1 Q E
noncomputable def zZo(C:aV)(m:Str)(sp:Sp)(dvs:List V)(E:XK)(ta:TE)(t:TA):TE:=fun σ H Q=>ta σ H fun x H1=>∃a dx fs,x=.ref a/\H1 a=some (.ins C dx fs)/\fs.lookup m=none/\
 t σ H1 fun vs H2=>sp (x::(vs ++ dvs)) H2 Q E
noncomputable def jQs(C:aV)(sp:Sp)(dvs:List V)(E:XK)(t:TA):TE:=fun σ H Q=>t σ H fun vs H1=>∀x dx,H1 x=none->H1 dx=none->dx≠x->
 sp (.ref x::(vs ++ dvs)) (upd (upd H1 dx (.own x)) x (.ins C dx [])) (fun v H2=>v=.non /\Q (.ref x) H2) E
noncomputable def j9(K:aQ)(fd:aH)(ps:List Str)(ds:List Value):Prop:=
 ∀(s:aY) (us:List Value),K.In s.heap->(us ++ ds).length =ps.length->BindsTo s fd ⟨us,[]⟩ (ps.zip (us ++ ds))
theorem j9.all(h:∀us:List Value,us.length=ps.length->bindArgs fd ⟨us,[]⟩=pure (ps.zip us)):j9 K fd ps []:=fun s us _ hl=>by
 rw[bU]at hl⊢;exact .of_eq (h us hl)
noncomputable def jD(CX:CXT)(X:Cx)(E:XK):Prop:=∀(pins:List (aV×Obj)) (σ:St) (H:Hp) (s:aY) (e:Value) (s' :aY),Inv X pins σ H s->CX X.stack H s E e s' ->X.xe e s'
section
variable{X:Cx}{CX:CXT}{k:Nat}{f C:aV}{fd:aH}{ps:List Str}{sp:Sp}{dvs:List V}{ds:List Value}{E:XK}{x m:Str}{p pos apos:Pos}{e o:Expr}{es:List Expr}{ta:TE}{t:TA}
theorem vZp{σ:St}{Q:VK}(F:FnOk X.prog X.w X.K X.mg X.base CX k f fd ps sp)(hr:Room k X.A)(hb:j9 X.K fd ps ds)(hd:Vals dvs ds)(hx:jD CX X E)(I:Inv X pins σ H s)(r:Vals vs us)(h:sp (vs ++ dvs) H Q E):bJ (model X.prog X.w) X.A (call (.ref f) us) (EP X pins σ Q) X.xe s:=by
 have r2:Vals (vs ++ dvs) (us ++ ds):=r.append hd;have hl:(us ++ ds).length =ps.length:=by rw[←r2.length];exact F.len _ _ _ _ h
 refine wpAny_call (codeAny_mono (F.run X.A X.stack s H ⟨us,[]⟩ (us ++ ds) (vs ++ dvs) Q E hr I.env0 (hb s us I.kIn hl) r2 h) fun r s' hq=>?_);cases r with
 |error e=>exact hx pins σ H s e s' I hq
 | ok fl=>
   cases fl with
   |ret u=>exact I.after hq
   |next=>exact False.elim hq
   |brk=>exact False.elim hq
   |cont=>exact False.elim hq
theorem zKj(F:FnOk X.prog X.w X.K X.mg X.base CX k f fd ps sp)(hr:Room k X.A)(hg:Gl X x)(hm:X.mg x=some (.ref f))(hk:bO X.K (.ref f)=true)(hb:j9 X.K fd ps ds)(hd:Vals dvs ds)(hx:jD CX X E)(ha:PA X (e::es) t)(hdb:(x == ("__debug__":Str))=false:=by decide)(he:aX (e::es) X.env=(false,eval e X.env)::aX es X.env:=by rfl)(hpl:(cZ pos (aX es X.env)).any (·.1)=false:=by rfl):
  PE X (.Call (.Name x p) (e::es) [] pos) (zZp sp dvs E t):=by
 intro pins s σ H Q I h;refine dF (qJk I hg hm ?_ hdb);refine PySem.W.callWith_K (h₀:=X.base) I.ok.mod.kin hk (thn (ha pos pins s σ H _ I h) fun us s1 ⟨vs,H1,I1,r,q⟩=>⟨I1.kIn,?_⟩) he hpl;exact vZp F hr hb hd hx I1 r q
theorem zKe(he:PE X o ta)(c:Cls X.K C)(hm:Meth X.K C m f)(F:FnOk X.prog X.w X.K X.mg X.base CX k f fd ps sp)(hr:Room k X.A)(hb:j9 X.K fd ps ds)(hd:Vals dvs ds)(hx:jD CX X E)(ha:PA X (e::es) t)(hst:aX (e::es) X.env=(false,eval e X.env)::aX es X.env:=by rfl)(hpl:(cZ pos (aX es X.env)).any (·.1)=false:=by rfl)(ht:eval (.Call (.Attribute o m apos) (e::es) [] pos) X.env=(do
   let ov ←eval o X.env;standAt apos.atName;let (f,first) ←holding [ov] (getMethod ov m pl);callWith pos f first (cZ pos (aX (e::es) X.env)) (backToKw pos (keywordEach [] X.env))):=by rfl):
  PE X (.Call (.Attribute o m apos) (e::es) [] pos) (zZo C m sp dvs E ta t):=by
 intro pins s σ H Q I h;refine PySem.W.methodCall_KW (pl:=pl) (thn (he pins s σ H _ I h) fun u s1 ⟨x,H1,I1,rx,a,dx,fs,ex,ea,l,q⟩=>?_) ht;subst ex;obtain rfl:u=Value.ref a:=rx;refine vQy I1 ea c hm l ?_
 refine PySem.W.callWith_K (first:=[.ref a]) (h₀:=X.base) I.ok.mod.kin hm.kp (thn (ha pos pins s1 σ H1 _ I1 q) fun us s2 ⟨vs,H2,I2,r,q2⟩=>⟨I2.kIn,?_⟩) hst hpl;exact vZp (us:=.ref a::us) (vs:=.ref a::vs) F hr hb hd hx I2 (.cons rfl r) q2
theorem zW3(he:PE X o ta)(c:Cls X.K C)(hm:Meth X.K C m f)(F:FnOk X.prog X.w X.K X.mg X.base CX k f fd ps sp)(hr:Room k X.A)(hb:j9 X.K fd ps ds)(hd:Vals dvs ds)(hx:jD CX X E)(ht:eval (.Call (.Attribute o m apos) [] [] pos) X.env=(do
   let ov ←eval o X.env;standAt apos.atName;let (f,first) ←holding [ov] (getMethod ov m pl);callWith pos f first (cZ pos (aX [] X.env)) (backToKw pos (keywordEach [] X.env))):=by rfl):
  PE X (.Call (.Attribute o m apos) [] [] pos) (zZo C m sp dvs E ta tNil):=by
 intro pins s σ H Q I h;refine PySem.W.methodCall_KW (pl:=pl) (thn (he pins s σ H _ I h) fun u s1 ⟨x,H1,I1,rx,a,dx,fs,ex,ea,l,q⟩=>?_) ht;subst ex;obtain rfl:u=Value.ref a:=rx;refine vQy I1 ea c hm l ?_
 exact PySem.W.callWith_K0 (first:=[.ref a]) I1.kIn hm.kp (vZp (us:=[.ref a]) (vs:=[.ref a]) F hr hb hd hx I1 (.cons rfl .nil) q)
structure Mk(K:aQ)(C f:aV):Prop where
 makes:PySem.W.makesIn K C=true
 init:cW K (.ref C) "__init__"=some (some (.ref f))
 fn:PySem.W.isFn K (.ref f)=true
 kp:bO K (.ref C)=true
theorem zWr{σ:St}{Q:VK}(M:Mk X.K C f)(F:FnOk X.prog X.w X.K X.mg X.base CX k f fd ps sp)(hr:Room (k+1) X.A)(hb:j9 X.K fd ps ds)(hd:Vals dvs ds)(hx:jD CX X E)(I:Inv X pins σ H s)(r:Vals vs us)(h:∀x dx,H x=none->H dx=none->dx≠x->sp (.ref x::(vs ++ dvs)) (upd (upd H dx (.own x)) x (.ins C dx [])) (fun v H2=>v=.non /\Q (.ref x) H2) E):
  bJ (model X.prog X.w) X.A (call (.ref C) us) (EP X pins σ Q) X.xe s:=by
 have hq:=h (s.heap.objs.size+1) s.heap.objs.size (I.hok.fresh (Nat.le_succ _)) (I.hok.fresh (aP _)) (bK (Nat.lt_succ_self _));have I2:=Inv.made (C:=C) I;have r2:Vals (V.ref (s.heap.objs.size+1)::(vs ++ dvs)) (Value.ref (s.heap.objs.size+1)::(us ++ ds)):=.cons rfl (r.append hd);have hl:(Value.ref (s.heap.objs.size+1)::us ++ ds).length =ps.length:=by
  have e:=r2.length;rw[F.len _ _ _ _ hq]at e;exact e.symm
 refine wpAny_call (zXi (f:=f) I.kIn M.makes M.init (beq_iff_eq.mp M.fn) (codeAny_mono (F.run _ X.stack _ _ ⟨Value.ref (s.heap.objs.size+1)::us,[]⟩ (Value.ref (s.heap.objs.size+1)::(us ++ ds)) _ _ E (hr.make C us [])
  (I2.env0.make C us []) (hb _ (Value.ref (s.heap.objs.size+1)::us) I2.kIn hl) r2 hq) fun r s' hq' =>?_))
 cases r with
 |error e=>exact hx pins σ _ _ e s' I2 hq'
 | ok fl=>
   cases fl with
   | ret u=>
     obtain⟨v,H',I3,rv,ev,q3⟩:=I2.after hq';subst ev;exact⟨rv,⟨V.ref (s.heap.objs.size+1),H',I3,rfl,q3⟩⟩
   |next=>exact False.elim hq'
   |brk=>exact False.elim hq'
   |cont=>exact False.elim hq'
theorem zKf(M:Mk X.K C f)(F:FnOk X.prog X.w X.K X.mg X.base CX k f fd ps sp)(hr:Room (k+1) X.A)(hg:Gl X x)(hm:X.mg x=some (.ref C))(hb:j9 X.K fd ps ds)(hd:Vals dvs ds)(hx:jD CX X E)(ha:PA X (e::es) t)(hdb:(x == ("__debug__":Str))=false:=by decide)(he:aX (e::es) X.env=(false,eval e X.env)::aX es X.env:=by rfl)(hpl:(cZ pos (aX es X.env)).any (·.1)=false:=by rfl):
  PE X (.Call (.Name x p) (e::es) [] pos) (jQs C sp dvs E t):=by
 intro pins s σ H Q I h;refine dF (qJk I hg hm ?_ hdb);refine PySem.W.callWith_K (h₀:=X.base) I.ok.mod.kin M.kp (thn (ha pos pins s σ H _ I h) fun us s1 ⟨vs,H1,I1,r,q⟩=>⟨I1.kIn,?_⟩) he hpl;exact zWr M F hr hb hd hx I1 r q
end
structure FnScope(N P:List Str)(sc:Scope):Prop where
 kind:sc.kind=.function
 co:sc.isCoroutine=false
 gen:sc.isGenerator=false
 nd:N.Nodup
 pre:N.take P.length=P
 par:∀x∈P,sc.names.lookup x=some .local \/sc.names.lookup x=some .cell
 nofree:∀y∈sc.names,y.2≠ .free
theorem vZj{x:Str}:∀{binds:List (Str×Value)} {m:Str->Option Value},(∀v,(x,v)∉binds)->bindL kindOf binds m x=m x
 |[],_,_=>rfl
 | (n,v)::r,m,h=>by
   unfold bindL;rw[vZj fun w hw=>h w (aI _ hw)];split
   ·grind
   ·rfl
theorem vZl{x:Str}:∀{binds:List (Str×Value)} {m:Str->Option Value},(∀v,(x,v)∉binds)->bindC kindOf binds m x=m x
 |[],_,_=>rfl
 | (n,v)::r,m,h=>by
   unfold bindC;rw[vZl fun w hw=>h w (aI _ hw)];split
   ·rfl
   ·grind
theorem vZk{x:Str}{v:Value}:∀{P:List Str} {vs:List Value} {i:Nat} {m:Str->Option Value},P.Nodup->P[i]?=some x->vs[i]?=some v->kindOf x=some .local ->
  bindL kindOf (P.zip vs) m x=some v
 |[],_,_,_,_,h,_,_=>by simp at h
 |_::_,[],_,_,_,_,h,_=>by simp at h
 | p::P,w::vs,0,m,nd,h1,h2,hk=>by
   simp at h1 h2;subst h1;subst h2;show bindL kindOf ((p,w)::P.zip vs) m p=_;unfold bindL;rw[vZj fun v hv=>(dB.mp nd).1 (List.of_mem_zip hv).1,if_pos hk];simp
 | p::P,w::vs,i + 1,m,nd,h1,h2,hk=>by
   unfold bindL;exact vZk (i:=i) (dB.mp nd).2 (by simpa using h1) (by simpa using h2) hk
theorem vZm{x:Str}{v:Value}:∀{P:List Str} {vs:List Value} {i:Nat} {m:Str->Option Value},P.Nodup->P[i]?=some x->vs[i]?=some v->kindOf x≠some .local ->
  bindC kindOf (P.zip vs) m x=some v
 |[],_,_,_,_,h,_,_=>by simp at h
 |_::_,[],_,_,_,_,h,_=>by simp at h
 | p::P,w::vs,0,m,nd,h1,h2,hk=>by
   simp at h1 h2;subst h1;subst h2;show bindC kindOf ((p,w)::P.zip vs) m p=_;unfold bindC;rw[vZl fun v hv=>(dB.mp nd).1 (List.of_mem_zip hv).1,if_neg hk];simp
 | p::P,w::vs,i + 1,m,nd,h1,h2,hk=>by
   unfold bindC;exact vZm (i:=i) (dB.mp nd).2 (by simpa using h1) (by simpa using h2) hk
noncomputable def start(N:List Str)(vs:List V):St:=vs.map some ++ List.replicate (N.length - vs.length) none
noncomputable def cxOf(CX:CXT)(P:bZ)(w:bX)(K:aQ)(mg:Str->Option Value)(base:Heap)(N:List Str)(qual:Str)(scope:Scope)(f:aV)(cd:Value)(A:cB)(outer:List Env)(s:aY)(H:Hp)(E:XK):Cx where
 prog:=P;w:=w;K:=K;mg:=mg;base:=base;A:=A.deeper (envOfC qual scope s.heap.objs.size f cd);N:=N;s₀:=s;H₀:=H;env:=envOfC qual scope s.heap.objs.size f cd;outer:=outer;stack:=envOfC qual scope s.heap.objs.size f cd::outer;ex:=[]
 calm:=true;fn:=fun _=>true
 pn:=[]
 xe:=fun e s' =>bJ (model P w) (A.deeper (envOfC qual scope s.heap.objs.size f cd)) (leaving (envOfC qual scope s.heap.objs.size f cd) e) (fun _ s'' =>CX outer H s E e s'') (fun e' s'' =>CX outer H s E e' s'') s'
theorem cell_has{sc:Scope}{x:Str}(h:sc.names.lookup x=some .cell):∃c,(cellsFrom n sc.names []).lookup x=some c:=by
 have q:=PySem.W.cellsFrom_some sc.names n [] (.inl h);exact Option.isSome_iff_exists.mp q
theorem zV4{P:bZ}{w:bX}{f:aV}{cd:Value}{s1:aY}{E:XK}(S:FnScope N ps scope)(hd:A.handled=none)(e0:Env0 P w K mg base A outer s H)(hl:vs.length=ps.length)(r:Vals vs us)(x:InCallC s s.heap.objs.size (bindL (envOfC qual scope s.heap.objs.size f cd).kindOf (ps.zip us) fun _=>none) (cellsFrom (s.heap.objs.size+1) scope.names []) (bindC (envOfC qual scope s.heap.objs.size f cd).kindOf (ps.zip us) fun _=>none) s1):
  Inv (cxOf CX P w K mg base N qual scope f cd A outer s H E) [] (start N vs) H s1:=by
 have hpl:ps.length<=N.length:=by have:=congrArg List.length S.pre;rw[cY]at this;omega
 obtain⟨h1,tk,rfl,hk⟩:=x.done;have noA:∀b:aV,b∉(cxOf CX P w K mg base N qual scope f cd A outer s H E).ex :=fun b z=>absurd (show b∈([]:List aV) from z) (by simp)
 refine⟨⟨e0.mod,S.kind,rfl,rfl,aP _,fun y z c h1 h2=>?_,fun y hy=>?_,fun y c _ h=>?_,fun _=>hd,Around.frames_deeper e0.frames,.inr ⟨rfl,rfl⟩,fun b z=>absurd z (noA b),e0.bs,e0.bsz,fun b _ _=>noA b,fun b z=>absurd z (noA b),e0.funs,e0.frf⟩,
  rfl,e0.bare,Un.kept hk,⟨_,x.toInCall.ns,fun i y v h1 h2 h3=>?_⟩,fun y c h=>⟨_,x.cell y c h⟩,e0.hok.fresh (aP _),fun y c h=>?_,fun p hp=>absurd (show p∈([]:List (aV×Obj)) from hp) (by simp),e0.hok.kept hk,?_⟩
 ·exact name_of_addr x.apart (cF h1) (cF h2)
 ·have hy:scope.names.lookup y=some .cell \/scope.names.lookup y=some .free :=hy;rcases hy with hy|hy
  ·exact cell_has hy
  ·exact absurd rfl (S.nofree _ (cF hy))
 ·exact Nat.le_of_lt (x.above y c (cF h))
 ·have hi:i<vs.length:=by
   unfold start at h2;grind
  have ha:vs[i]?=some v:=by
   unfold start at h2;grind
  obtain⟨u,hu,rv⟩:=r.get ha;have hp:ps[i]?=some y:=by
   rw[←S.pre,List.getElem?_take_of_lt (by omega)];exact h1
  have ndP:ps.Nodup:=by rw[←S.pre];exact S.nd.sublist (List.take_sublist _ _)
  refine⟨u,rv,?_⟩;rcases S.par y (List.mem_of_getElem? hp) with k|k
  ·exact .inl ⟨k,vZk ndP hp hu k⟩
  ·obtain⟨c,e⟩:=cell_has (n:=s.heap.objs.size + 1) k;refine .inr ⟨.inl k,c,e,?_⟩;have q:=x.cell y c e;rw[vZm ndP hp hu (by show scope.names.lookup y≠_;rw[k];decide)]at q;exact q
 ·exact e0.hok.fresh (Nat.le_of_lt (x.above y c (cF h)))
 ·unfold start;show _=N.length;grind
theorem jXa{P:bZ}{w:bX}{f:aV}{name:Str}{params:Arguments}{body:List Stmt}{dV kV doc pm cdv ct oc:Value}{an od:Option aV}{osl:Array (Option Value)}(lk:K.lookup f=some ⟨oc,od,.func (bA name qual params body scope dV kV doc pm an cdv ct),osl⟩)(hcd:PySem.W.codeIn K cdv qual=true)(S:FnScope N ps scope)(len:∀vs H Q E,sp vs H Q E->vs.length=ps.length)(hbody:∀(A:cB) (outer:List Env) (s:aY) (H:Hp) (vs:List V) (Q:VK) (E:XK),Room k (A.deeper (envOfC qual scope s.heap.objs.size f cdv))->sp vs H Q E->
   ∃t,PSs (cxOf CX P w K mg base N qual scope f cdv A outer s H E) body t/\t {nx:=fun _ H' =>Q .non H',rt:=Q} (start N vs) H):
  FnOk P w K mg base CX (k+1) f (bA name qual params body scope dV kV doc pm an cdv ct) ps sp:=by
 refine⟨len,fun A outer s H args us vs Q E hr e0 hb r hsp=>?_⟩;have hl:=len _ _ _ _ hsp;have KX:K.In s.heap:=e0.mod.kin.keeps fun b o e=>(e0.bs b o e).1
 have lim:s.heap.NoLimit:=e0.mod.nolimit.keeps fun b o e=>(e0.bs b o e).1
 have hkind:∀y∈ps.zip us,scope.names.lookup y.1=some .local \/(scope.names.lookup y.1=some .cell /\((cellsFrom (s.heap.objs.size+1) scope.names []).lookup y.1).isSome =true):=fun⟨n,v⟩ hy=>by
  rcases S.par n (List.of_mem_zip hy).1 with q|q
  ·exact .inl q
  ·exact .inr ⟨q,PySem.W.cellsFrom_some _ _ _ (.inl q)⟩
 refine codeAny_call_function hr.depth (KX _ _ lk) rfl S.co S.gen rfl (PySem.W.codeRec_of KX hcd) (hb _ _ _ _ ?_);refine wpAny_newFunctionEnv_cells S.kind hkind fun env he s1 x=>?_
 subst he;refine⟨lim.keeps x.toInCall.keep,codeAny_func ?_⟩;obtain⟨t,ht,hq⟩:=hbody A outer s H vs Q E (hr.deeper _) hsp;have I:Inv (cxOf CX P w K mg base N qual scope f cdv A outer s H E) [] (start N vs) H s1:=zV4 S hr.hd e0 hl r x;refine bR (ht [] s1 (start N vs) H _ I hq) (fun fl s' hs=>?_) fun e s' hs=>hs
 have fin:∀{σ' :St} {H' :Hp} {v:V} {u:Value},Inv (cxOf CX P w K mg base N qual scope f cdv A outer s H E) [] σ' H' s' ->RelV v u->Q v H' ->CE outer P w H s Q u s' :=
  fun {σ' H' v u} J rv q=>⟨v,H',J.os,J.bare,J.base,J.hok,rv,q⟩
 cases fl with
 | ret u=>
   obtain⟨v,σ',H',J,rv,q⟩:=hs;exact fin J rv q
 | next=>
   obtain⟨σ',H',J,q⟩:=hs;exact fin (v:=V.non) (u:=Value.none) J rfl q
 | brk=>
   obtain⟨_,_,_,q⟩:=hs;exact False.elim q
 | cont=>
   obtain⟨_,_,_,q⟩:=hs;exact False.elim q
section
variable{X:Cx}{x:Str}{p pos:Pos}{e:Expr}{es:List Expr}{t:TA}{id T:String}{r:List V->Hp->VK->Prop}
noncomputable def tCB(r:List V->Hp->VK->Prop)(t:TA):TE:=fun σ H Q=>t σ H fun vs H1=>r vs H1 Q
theorem vW5(hc:j8 X (.builtin id) r)(hg:Gl X x)(hm:X.mg x=none)(hv:dE x=some (.builtin id))(ha:PA X (e::es) t)(hn:x≠"__name__":=by decide)(hdb:(x == ("__debug__":Str))=false:=by decide)(he:aX (e::es) X.env=(false,eval e X.env)::aX es X.env:=by rfl)(hpl:(cZ pos (aX es X.env)).any (·.1)=false:=by rfl):PE X (.Call (.Name x p) (e::es) [] pos) (tCB r t):=by
 intro pins s σ H Q I h;refine dF (qK1 I hg hm hv ?_ hn hdb);exact PyProof.Rows.callWith_builtin1 (thn (ha pos pins s σ H _ I h) fun us s1 ⟨vs,H1,I1,r1,q1⟩=>hc pins s1 σ H1 vs us Q I1 r1 q1) he hpl
theorem qJs(hc:j8 X (.type T) r)(hg:Gl X x)(hm:X.mg x=none)(hv:dE x=some (.type T))(ha:PA X (e::es) t)(hn:x≠"__name__":=by decide)(hdb:(x == ("__debug__":Str))=false:=by decide)(he:aX (e::es) X.env=(false,eval e X.env)::aX es X.env:=by rfl)(hpl:(cZ pos (aX es X.env)).any (·.1)=false:=by rfl):PE X (.Call (.Name x p) (e::es) [] pos) (tCB r t):=by
 intro pins s σ H Q I h;refine dF (qK1 I hg hm hv ?_ hn hdb);exact dX (thn (ha pos pins s σ H _ I h) fun us s1 ⟨vs,H1,I1,r1,q1⟩=>hc pins s1 σ H1 vs us Q I1 r1 q1) he hpl
end
end L2
namespace HT
open PySem PyProof.Rows
variable{sl:aV}{vl vu:Value}{lo hi:Option Int}
section
variable{prog:bZ}{w:bX}{A:cB}{E:Value->aY->Prop}{s:aY}
noncomputable def sIx(n d:Nat):Option Int->Nat
 |none=>d
 |some v=>if v<0 then(v+(n:Int)).toNat else min v.toNat n
theorem jV4(n d:Nat)(hd:d<=n)(o:Option Int):sIx n d o<=n:=by
 cases o with
 |none=>exact hd
 | some v=>
   show(if v<0 then(v+(n:Int)).toNat else min v.toNat n)<=n;by_cases hv:v<0
   ·rw[if_pos hv];omega
   ·rw[if_neg hv];exact Nat.min_le_right _ _
theorem zQ8(v:Int)(n d:Nat):(if v<0 then max (v+(n:Int)) 0 else min v (n:Int))=((sIx n d (some v):Nat):Int):=by
 show(if v<0 then max (v+(n:Int)) 0 else min v (n:Int))=(((if v<0 then(v+(n:Int)).toNat else min v.toNat n):Nat):Int);by_cases hv:v<0
 ·simp only[if_pos hv];omega
 ·simp only[if_neg hv];omega
theorem vKp(lo hi:Option Int)(n:Nat):Builtin.Slice.sliceAdjust lo hi 1 (n:Int)=(((sIx n 0 lo:Nat):Int),((sIx n n hi:Nat):Int)):=by
 have h1:¬((1:Int)<0):=by omega
 unfold Builtin.Slice.sliceAdjust;simp only[h1,if_false];refine Prod.ext ?_ ?_
 ·cases lo with
  |none=>rfl
  |some v=>exact zQ8 v n 0
 ·cases hi with
  |none=>rfl
  |some v=>exact zQ8 v n n
theorem vY4(i j:Nat):Builtin.Slice.slicePlaces (i:Int) (j:Int) 1=j - i:=by
 unfold Builtin.Slice.slicePlaces;have h1:(1:Int) > 0:=by omega
 simp only[h1,if_true,Int.ediv_one];split <;> omega
theorem vQt{v:Value}{o:Option Int}{Q:Option Int->aY->Prop}(p:IsPart v o)(h:Q o s):bJ (model prog w) A (Builtin.Slice.slicePartIndex v) Q E s:=by
 cases p with
 |none=>exact slicePart_none h
 |int i t=>exact slicePart_int h
theorem qYk{n:Nat}{Q:Int×Int×Nat->aY->Prop}(hs:s.heap.IsSliceOf sl vl vu .none)(pl:IsPart vl lo)(pu:IsPart vu hi)(h:Q (((sIx n 0 lo:Nat):Int),1,sIx n n hi - sIx n 0 lo) s):bJ (model prog w) A (Builtin.Slice.sliceApplied (.ref sl) (pure (n:Int))) Q E s:=by
 obtain⟨os,hos,hcs,hds⟩:=id hs;unfold Builtin.Slice.sliceApplied Builtin.Slice.sliceFields;refine aU (aU (wpAny_field hos hds (x:=vl) rfl (aU (wpAny_field hos hds (x:=vu) rfl (aU (wpAny_field hos hds (x:=.none) rfl (aT ?_)))))));refine aU (slicePart_none ?_);show bJ _ _ (if((1:Int) == 0)=true then _ else _) _ _ s;rw[if_neg (by decide)];refine aU (vQt pl (aU (vQt pu (aU (aT ?_)))));show bJ _ _ (match Builtin.Slice.sliceAdjust lo hi 1 (n:Int) with|(lo,hi)=>pure (lo,(1:Int),Builtin.Slice.slicePlaces lo hi 1)) _ _ s;rw[vKp lo hi n];show bJ _ _ (pure (((sIx n 0 lo:Nat):Int),(1:Int),Builtin.Slice.slicePlaces ((sIx n 0 lo:Nat):Int) ((sIx n n hi:Nat):Int) 1)) _ _ s;rw[vY4];exact aT h
theorem zW1(xs:Array Value)(i k:Nat):((List.range k).filterMap fun(m:Nat)=>xs[((i:Int)+(m:Int) * 1).toNat]?).toArray =((xs.toList.drop i).take k).toArray :=by
 have e:(fun(m:Nat)=>xs[((i:Int)+(m:Int) * 1).toNat]?)=fun m=>xs[i+m]?:=by
  funext m;have:((i:Int)+(m:Int) * 1).toNat =i+m:=by omega
  rw[this]
 rw[e];have:=pick_run xs i k;rw[List.filterMap_map]at this;have e2:((fun x=>xs[x]?) ∘ fun x=>i+x)=fun m=>xs[i+m]?:=rfl
 rw[e2]at this;rw[this]
theorem qXw{t:aV}{items:Array Value}{Q:Value->aY->Prop}(ht:IsTup s.heap t items)(hs:s.heap.IsSliceOf sl vl vu .none)(pl:IsPart vl lo)(pu:IsPart vu hi)(hw:¬(sIx items.size 0 lo=0/\sIx items.size items.size hi=items.size))(h:Q (.ref s.heap.objs.size) {s with heap:=s.heap.push {cls:=.type "tuple",data:=.seq ((items.toList.drop (sIx items.size 0 lo)).take (sIx items.size items.size hi - sIx items.size 0 lo)).toArray }})(hsz:items.size<=aD):bJ (model prog w) A (getItem (.ref t) (.ref sl)) Q E s:=by
 have htake:sizeOk (.seq ((items.toList.drop (sIx items.size 0 lo)).take (sIx items.size items.size hi - sIx items.size 0 lo)).toArray):=by
  show((items.toList.drop (sIx items.size 0 lo)).take (sIx items.size items.size hi - sIx items.size 0 lo)).toArray.size<=aD;rw[aR,cY,bP,cU];omega
 have hj:sIx items.size items.size hi<=items.size:=jV4 _ _ (aP _) hi;obtain⟨os,hos,hcs,hds⟩:=id hs;have hTs:s.TypeIs (.ref sl) "slice":=⟨os,hos,hcs⟩
 unfold getItem;try with_reducible refine wpAny_holding ?_
 first|refine aU (aT ?_)|skip
 refine aU (wpAny_sequenceKey ht.typeIs (by decide) ?_)
 refine aU (wpAny_callSpecial?_slot (name:=Str.ofString "__getitem__") ht.typeIs PyProof.Rows.slot_tuple_getitem
  (wpAny_call_entry PyProof.Rows.slot_tuple_getitem ht.typeIs entry_tuple_getitem ?_ (args_tuple_getitem _ _)))
 show bJ _ _ (Builtin.Tuple.tupleItemsOf (.ref t) >>=_) _ _ s;refine aU (tupleItemsOf_ ht ?_);refine aU (wpAny_typeOf hTs ?_);rw[if_pos (by decide)];refine aU (qYk hs pl pu ?_);have hno:¬((((sIx items.size 0 lo:Nat):Int) == 0 && (1:Int) == 1 && (sIx items.size items.size hi - sIx items.size 0 lo) == items.size)=true):=by
  intro q;rw[aE,aE]at q;have q1:((sIx items.size 0 lo:Nat):Int)=0:=eq_of_beq q.1.1;have q2:sIx items.size items.size hi - sIx items.size 0 lo=items.size:=eq_of_beq q.2;exact hw ⟨by omega,by omega⟩
 show bJ _ _ (if(((sIx items.size 0 lo:Nat):Int) == 0 && (1:Int) == 1 && (sIx items.size items.size hi - sIx items.size 0 lo) == items.size)=true then _ else _) _ _ s;rw[if_neg hno,zW1]
 first
  |exact aU (m:=Builtin.Tuple.tupleExact _) (wpAny_newObj_type (aT ⟨_,rfl,aT h⟩) htake)
  |exact aU (m:=Builtin.Tuple.tupleExact _) (wpAny_newObj_type (aU (aT (aT ⟨_,rfl,aT h⟩))) htake)
  |exact aU (aU (m:=Builtin.Tuple.tupleExact _) (wpAny_newObj_type (aT (aT ⟨_,rfl,aT h⟩)) htake))
  |exact aU (aU (m:=Builtin.Tuple.tupleExact _) (wpAny_newObj_type (aT ⟨_,rfl,aT h⟩) htake))
end
end HT
namespace L2
open PySem PySem.Spec PyProof.Rows
variable{n j:Nat}{i:Int}{α:Type}{v u:Value}{A:cB}{s:aY}{y:V}
noncomputable abbrev TO:=St->Hp->(Option Int->Hp->Prop)->Prop
noncomputable def PO(X:Cx)(e:Option Expr)(t:TO):Prop:=
 ∀(pins:List (aV×Obj)) (s:aY) (σ:St) (H:Hp) (Q:Option Int->Hp->Prop),Inv X pins σ H s->t σ H Q->
  bJ (model X.prog X.w) X.A (evalPart e X.env) (fun u s' =>∃o H',Inv X pins σ H' s' /\IsPart u o/\Q o H') X.xe s
noncomputable def tNoPart:TO:=fun _ H Q=>Q none H
noncomputable def jJ6(t:TE):TO:=fun σ H Q=>t σ H fun x H1=>∃i,x=.int i/\Q (some i) H1
section
variable{X:Cx}{e:Expr}{te:TE}{lo hi:Option Expr}{tl th:TO}{pos p2:Pos}
theorem zKa:PO X none tNoPart:=by
 intro pins s σ H Q I h;exact aT ⟨none,H,I,.none,h⟩
theorem zY9(h:PE X e te):PO X (some e) (jJ6 te):=by
 intro pins s σ H Q I hw;refine thn (h pins s σ H _ I hw) fun u s1 ⟨x,H1,I1,r1,q1⟩=>?_
 obtain⟨i,rfl,q⟩:=q1;obtain⟨t,rfl⟩:=r1;exact⟨some i,H1,I1,.int i t,q⟩
noncomputable def SlR(X:Cx)(r:V->Option Int->Option Int->Hp->VK->Prop):Prop:=
 ∀(pins:List (aV×Obj)) (s:aY) (σ:St) (H:Hp) (x:V) (v vl vu:Value) (lo hi:Option Int) (sl:aV) (Q:VK),Inv X pins σ H s->RelV x v->s.heap.IsSliceOf sl vl vu .none ->IsPart vl lo->IsPart vu hi->r x lo hi H Q->
  ∃T id,typeLookup (.type T) "__getitem__"=pure (some (.builtin id))/\s.TypeIs v T/\bJ (model X.prog X.w) X.A (getItem v (.ref sl)) (EP X pins σ Q) X.xe s
noncomputable def tSl(r:V->Option Int->Option Int->Hp->VK->Prop)(te:TE)(tl th:TO):TE:=fun σ H Q=>te σ H fun x H1=>tl σ H1 fun l H2=>th σ H2 fun u H3=>r x l u H3 Q
theorem vQg{r:V->Option Int->Option Int->Hp->VK->Prop}(hr:SlR X r)(he:PE X e te)(hl:PO X lo tl)(hu:PO X hi th):PE X (.Subscript e (.Slice lo hi none p2) pos) (tSl r te tl th):=by
 intro pins s σ H Q I h;refine Subscript_ (thn (he pins s σ H _ I h) fun v s1 ⟨x,H1,I1,r1,q1⟩=>?_);refine wpAny_Slice (thn (hl pins s1 σ H1 _ I1 q1) fun vl s2 ⟨l,H2,I2,pl,q2⟩=>thn (hu pins s2 σ H2 _ I2 q2) fun vu s3 ⟨u,H3,I3,pu,q3⟩=>?_);rw[evalPart_none];refine aT ?_
 have I4:Inv X pins σ H3 {s3 with heap:=s3.heap.push {cls:=.type "slice",data:=.fields #[vl,vu,.none]}}:=I3.kept (t' :=s3.toks) fun b ob q=>aK _ q
 obtain⟨T,id,hT,ht,hg⟩:=hr pins {s3 with heap:=s3.heap.push {cls:=.type "slice",data:=.fields #[vl,vu,.none]}} σ H3 x v vl vu l u s3.heap.objs.size Q I4 r1 (Heap.IsSliceOf.new ..) pl pu q3;show bJ (model X.prog X.w) X.A (subscriptTail e (.Slice lo hi none p2) v (.ref s3.heap.objs.size)) (EP X pins σ Q) X.xe {s3 with heap:=s3.heap.push {cls:=.type "slice",data:=.fields #[vl,vu,.none]}};exact tail_any (ops:=[.ref s3.heap.objs.size,v]) ht hT hg (by with_unfolding_all rfl)
noncomputable def cutV(xs:List V)(lo hi:Option Int):List V:=(xs.drop (HT.sIx xs.length 0 lo)).take (HT.sIx xs.length xs.length hi - HT.sIx xs.length 0 lo)
theorem qYx(xs:List V)(lo hi:Option Int):(cutV xs lo hi).length <=xs.length:=by
 unfold cutV;rw[cY,bP];omega
noncomputable def rSlT(K:aQ):V->Option Int->Option Int->Hp->VK->Prop:=fun x lo hi H Q=>∃a xs,x=.ref a/\SqT K H a xs/\
 ¬(HT.sIx xs.length 0 lo=0/\HT.sIx xs.length xs.length hi=xs.length)/\∀p,H p=none->Q (.ref p) (upd H p (.tup (cutV xs lo hi)))
theorem jV1:SlR X (rSlT X.K):=by
 intro pins s σ H x v vl vu lo hi sl Q I rx hs pl pu h;obtain⟨a,xs,rfl,hx,hw,q⟩:=h;cases rx;obtain⟨its,r,ht,hz⟩:=I.tuple hx;have hlen:its.toArray.size=xs.length:=by rw[aR];exact r.length.symm
 refine⟨"tuple",_,PyProof.Rows.slot_tuple_getitem.lookup,ht.typeIs,?_⟩;refine HT.qXw ht hs pl pu (by rw[hlen];exact hw) ?_ (by rw[hlen];exact hz)
 rw[hlen];refine⟨.ref s.heap.objs.size,_,I.laid (t' :=s.toks) (o:=.tup (cutV xs lo hi)) (fun b ob q=>aK _ q) (aP _) ?_,rfl,q _ (I.hok.fresh (aP _))⟩;exact⟨aG (qYx xs lo hi) hz,_,(r.drop (HT.sIx xs.length 0 lo)).take (HT.sIx xs.length xs.length hi - HT.sIx xs.length 0 lo),IsTup.new _ _⟩
end
noncomputable def ixN(n:Nat)(i:Int):Option Nat:=if 0<=i then(if i<n then some i.toNat else none) else if -(n:Int)<=i then some (i+n).toNat else none
noncomputable def atI{α:Type}(xs:List α)(i:Int):Option α:=(ixN xs.length i).bind fun j=>xs[j]?
theorem zKy(h:ixN n i=some j):seqIndex? i n=some j/\j<n/\ -(n:Int)<=i/\i<n:=by
 unfold ixN at h;by_cases h0:0<=i
 ·rw [if_pos h0] at h;by_cases h1:i<n
  ·rw [if_pos h1] at h;have e:i.toNat=j:=Option.some.inj h;exact⟨by rw[seqIndex_of h0 h1,e],by omega,by omega,h1⟩
  ·rw[if_neg h1]at h;cases h
 ·rw [if_neg h0] at h;by_cases h1: -(n:Int)<=i
  ·rw [if_pos h1] at h;have e:(i+n).toNat =j:=Option.some.inj h;exact⟨by rw[seqIndex_neg (by omega) h1,e],by omega,h1,by omega⟩
  ·rw[if_neg h1]at h;cases h
theorem vJm{xs:List α}{v:α}(h:atI xs i=some v):∃j,seqIndex? i xs.length=some j/\xs[j]?=some v/\j<xs.length/\ -(xs.length:Int)<=i/\i<xs.length:=by
 unfold atI at h;cases e:ixN xs.length i with
 |none=>rw[e]at h;cases h
 | some j=>
   rw[e]at h;obtain⟨h1,h2,h3,h4⟩:=zKy e;exact⟨j,h1,h,h2,h3,h4⟩
theorem zVe{xs:List α}{v:α}(h:xs[j]?=some v):atI xs (j:Int)=some v:=by
 have hj:j<xs.length:=(aW.mp h).1;have e:ixN xs.length (j:Int)=some j:=by
  unfold ixN;rw[if_pos (by omega),if_pos (by omega)];simp
 unfold atI;rw[e];exact h
noncomputable def qXd(b:Expr):Prop:=∀o i,subscripted b false o i=operate [o,i] (getItem o i)
noncomputable def IxR(X:Cx)(r:R2):Prop:=
 ∀(value slice:Expr) (pins:List (aV×Obj)) (s:aY) (σ:St) (H:Hp) (x y:V) (v u:Value) (Q:VK),Inv X pins σ H s->RelV x v->RelV y u->r x y H Q->
  subscripted slice false v u=operate [v,u] (getItem v u)->bJ (model X.prog X.w) X.A (subscriptTail value slice v u) (EP X pins σ Q) X.xe s
noncomputable def MtR(X:Cx)(id:String)(r:V->List V->Hp->VK->Prop):Prop:=
 ∀(pins:List (aV×Obj)) (s:aY) (σ:St) (H:Hp) (x:V) (xs:List V) (v:Value) (us:List Value) (Q:VK),Inv X pins σ H s->RelV x v->Vals xs us->r x xs H Q->
  bJ (model X.prog X.w) X.A (call (.builtin id) (v::us)) (EP X pins σ Q) X.xe s
section
variable{X:Cx}{a b:Expr}{ta tb:TE}{pos:Pos}
theorem IxR.or{r r' :R2}(h:IxR X r)(h' :IxR X r'):IxR X (fun x y H Q=>r x y H Q\/r' x y H Q):=by
 intro value slice pins s σ H x y v u Q I rx ry q hs;rcases q with q|q
 ·exact h value slice pins s σ H x y v u Q I rx ry q hs
 ·exact h' value slice pins s σ H x y v u Q I rx ry q hs
theorem jQ0{r:R2}(hr:IxR X r)(ha:PE X a ta)(hb:PE X b tb)(hs:qXd b):PE X (.Subscript a b pos) (tOp r ta tb):=by
 intro pins s σ H Q I h;exact Subscript_ (binT ha hb I h fun v u s2 x y H2 I2 rx ry q=>hr a b pins s2 σ H2 x y v u Q I2 rx ry q (hs _ _))
noncomputable def rIxL(K:aQ):R2:=fun x y H Q=>∃p xs i v,x=.ref p/\y=.int i/\SqL K H p xs/\atI xs i=some v/\Q v H
noncomputable def rIxT(K:aQ):R2:=fun x y H Q=>∃p xs i v,x=.ref p/\y=.int i/\SqT K H p xs/\atI xs i=some v/\Q v H
noncomputable def rIxS:R2:=fun x y H Q=>∃z i c,x=.str z/\y=.int i/\z.length<=aD/\atI z.cps.toList i=some c/\Q (.str ⟨#[c]⟩) H
theorem zKw:IxR X (rIxL X.K):=by
 intro value slice pins s σ H x y v u Q I rx ry h hs;obtain⟨p,xs,i,z,rfl,rfl,hq,he,q⟩:=h;cases rx;obtain⟨t,rfl⟩:=ry;obtain⟨its,r,pl,hz⟩:=I.list hq;obtain⟨j,h1,h2,h3,h4,h5⟩:=vJm he;obtain⟨w,ew,rw'⟩:=r.get h2;have hl:=r.length;have hn:=qK0;have fin:EP X pins σ Q w s:=⟨z,H,I,rw',q⟩
 by_cases h0:0<=i
 ·have hj:i.toNat=j:=by
   rw[seqIndex_of h0 h5]at h1;exact Option.some.inj h1
  exact item_listR pl.isList h0 (by omega) (by rw[hj];simpa using ew) fin hs
 ·have hj:(i+(its.toArray.size:Int)).toNat =j:=by
   rw[seqIndex_neg (by omega) h4]at h1;rw[aR,←hl];exact Option.some.inj h1
  exact subscriptTail_builtinR (x:=w) pl.isList.typeIs slot_list_getitem.lookup
   (wpAny_getItem_list_neg (Q:=fun r s' =>r=w/\EP X pins σ Q r s') pl.isList (by omega) (by rw[aR] <;> omega) (by omega) (by rw[hj];simpa using ew) ⟨rfl,fin⟩) hs
theorem jJe:IxR X (rIxT X.K):=by
 intro value slice pins s σ H x y v u Q I rx ry h hs;obtain⟨p,xs,i,z,rfl,rfl,hq,he,q⟩:=h;cases rx;obtain⟨t,rfl⟩:=ry;obtain⟨its,r,pl,hz⟩:=I.tuple hq;obtain⟨j,h1,h2,h3,h4,h5⟩:=vJm he;obtain⟨w,ew,rw'⟩:=r.get h2;have hl:=r.length;have hn:=qK0;have fin:EP X pins σ Q w s:=⟨z,H,I,rw',q⟩
 exact subscriptTail_builtinR (x:=w) pl.typeIs slot_tuple_getitem.lookup
  (getItem_tuple (j:=j) (Q:=fun r s' =>r=w/\EP X pins σ Q r s') pl (by omega) (by omega) (by rw[aR,←hl];exact h1) (by simpa using ew) ⟨rfl,fin⟩) hs
theorem jJf:IxR X rIxS:=by
 intro value slice pins s σ H x y v u Q I rx ry h hs;obtain⟨z,i,c,rfl,rfl,hz,he,q⟩:=h;obtain⟨t,rfl⟩:=rx;obtain⟨t',rfl⟩:=ry;obtain⟨j,h1,h2,h3,h4,h5⟩:=vJm he;have hl:z.cps.toList.length=z.length:=by simp[Str.length]
 rw[hl]at h1 h4 h5;have hn:=qK0;exact tail_any (dD s z t) slot_str_getitem.lookup (getItem_str (c:=c) (by
  have e1:decide (i < -(2 ^ 63:Int))=false:=decide_eq_false (by omega);have e2:decide (i≥2 ^ 63)=false:=decide_eq_false (by omega);rw[e1,e2,Bool.or_false]) (by rw[h1];simpa using h2) ⟨.str ⟨#[c]⟩,H,I.tok _,⟨_,rfl⟩,q⟩) hs
noncomputable def rIx(K:aQ):R2:=fun x y H Q=>rIxL K x y H Q\/rIxT K x y H Q\/rIxS x y H Q
theorem jJg:IxR X (rIx X.K):=zKw.or (jJe.or jJf)
theorem vJs(lo hi:Option Int)(n:Nat):(sliceBounds lo hi none n).1=((HT.sIx n 0 lo:Nat):Int)/\(sliceBounds lo hi none n).2.1=((HT.sIx n n hi:Nat):Int)/\(sliceBounds lo hi none n).2.2=1:=by
 refine⟨?_,?_,rfl⟩
 ·cases lo with
  |none=>simp[sliceBounds,HT.sIx]
  | some i=>
    simp only[sliceBounds,HT.sIx,Option.getD_none,if_true];grind
 ·cases hi with
  |none=>simp[sliceBounds,HT.sIx]
  | some i=>
    simp only[sliceBounds,HT.sIx,Option.getD_none,if_true];grind
theorem vVa(its:List Value)(lo hi:Option Int):slicePick its.toArray lo hi none=((its.drop (HT.sIx its.length 0 lo)).take (HT.sIx its.length its.length hi - HT.sIx its.length 0 lo)).toArray :=by
 obtain⟨h1,h2,h3⟩:=vJs lo hi its.toArray.size;unfold slicePick;rw[h1,h2,h3];simp only[sliceRange_one,pick_run] <;> rfl
noncomputable def rSlL(K:aQ):V->Option Int->Option Int->Hp->VK->Prop:=fun x lo hi H Q=>∃a xs,x=.ref a/\SqL K H a xs/\∀p,H p=none->Q (.ref p) (upd H p (.lst (cutV xs lo hi)))
theorem zYm:SlR X (rSlL X.K):=by
 intro pins s σ H x v vl vu lo hi sl Q I rx hs pl pu h;obtain⟨a,xs,rfl,hx,q⟩:=h;cases rx;obtain⟨its,r,ht,hz⟩:=I.list hx;have hlen:=r.length;refine⟨"list",_,slot_list_getitem.lookup,ht.isList.typeIs,?_⟩;refine wpAny_getItem_list_slice ht.isList hs pl pu .none (by simp) ?_ (by rw[aR] <;> omega)
 rw[vVa,←hlen];refine⟨.ref s.heap.objs.size,_,I.laid (t' :=s.toks) (o:=.lst (cutV xs lo hi)) (fun b ob q=>aK _ q) (aP _) ?_,rfl,q _ (I.hok.fresh (aP _))⟩;exact⟨aG (qYx xs lo hi) hz,_,0,(r.drop (HT.sIx xs.length 0 lo)).take (HT.sIx xs.length xs.length hi - HT.sIx xs.length 0 lo),bW _ rfl⟩
noncomputable def qJ3:V->Bool
 |.non =>true
 |.bl _=>true
 |.int _=>true
 |.str _=>true
 |_=>false
noncomputable def eqV:V->V->Bool
 |.non,.non =>true
 |.bl a,.bl b=>a == b
 |.bl a,.int b=>(if a then 1 else 0) == b
 |.int a,.bl b=>a == (if b then 1 else 0)
 |.int a,.int b=>a == b
 |.str a,.str b=>a == b
 |_,_=>false
theorem jJq{x:V}(ry:RelV y u)(rx:RelV x v)(fy:qJ3 y=true)(fx:qJ3 x=true):dI A s u v (eqV y x):=by
 cases y with
 | non=>
   cases ry;cases x with
   |non=>cases rx;exact SeqAt.EqAt.same _
   |bl b=>cases rx;exact SeqAt.EqAt.none_bool b
   |int b=>obtain⟨t,rfl⟩:=rx;exact SeqAt.EqAt.none_int b t
   |str b=>obtain⟨t,rfl⟩:=rx;exact SeqAt.EqAt.none_str b t
   |_=>exact absurd (show false=true from fx) bQ
 | bl a=>
   cases ry;cases x with
   |non=>cases rx;exact SeqAt.EqAt.bool_none a
   |bl b=>cases rx;exact SeqAt.EqAt.bool_bool a b
   |int b=>obtain⟨t,rfl⟩:=rx;exact SeqAt.EqAt.bool_int a b t
   |str b=>obtain⟨t,rfl⟩:=rx;exact SeqAt.EqAt.bool_str a b t
   |_=>exact absurd (show false=true from fx) bQ
 | int a=>
   obtain⟨t',rfl⟩:=ry;cases x with
   |non=>cases rx;exact SeqAt.EqAt.int_none a t'
   |bl b=>cases rx;exact SeqAt.EqAt.int_bool a t' b
   |int b=>obtain⟨t,rfl⟩:=rx;exact SeqAt.EqAt.int_int a t' b t
   |str b=>obtain⟨t,rfl⟩:=rx;exact SeqAt.EqAt.int_str a t' b t
   |_=>exact absurd (show false=true from fx) bQ
 | str a=>
   obtain⟨t',rfl⟩:=ry;cases x with
   |non=>cases rx;exact SeqAt.EqAt.str_none a t'
   |bl b=>cases rx;exact SeqAt.EqAt.str_bool a t' b
   |int b=>obtain⟨t,rfl⟩:=rx;exact SeqAt.EqAt.str_int a t' b t
   |str b=>obtain⟨t,rfl⟩:=rx;exact SeqAt.EqAt.str_str a t' b t
   |_=>exact absurd (show false=true from fx) bQ
 |_=>exact absurd (show false=true from fy) bQ
noncomputable def eqU(x:V)(u:Value):Bool:=match u with
 |.none =>eqV .non x
 |.bool b=>eqV (.bl b) x
 |.int i _=>eqV (.int i) x
 |.str z _=>eqV (.str z) x
 |_=>false
theorem zJ6{x:V}(r:RelV y u)(f:qJ3 y=true):eqU x u=eqV y x:=by
 cases y with
 |non=>cases r;rfl
 |bl b=>cases r;rfl
 |int i=>obtain⟨t,rfl⟩:=r;rfl
 |str z=>obtain⟨t,rfl⟩:=r;rfl
 |_=>exact absurd (show false=true from f) bQ
theorem qXc{x:V}:∀{xs:List V} {us:List Value},Vals xs us->xs.all qJ3=true->us.any (eqU x)=xs.any fun y=>eqV y x
 |_,_,.nil,_=>rfl
 | y::xs,u::us, .cons r t,f=>by
   rw[dQ,aE]at f;rw[List.any_cons,List.any_cons,zJ6 r f.1,qXc t f.2]
theorem qZu{x:V}(rx:RelV x v)(fx:qJ3 x=true):∀{xs:List V} {us:List Value},Vals xs us->xs.all qJ3=true->∀u∈us,dI A s u v (eqU x u)
 |_,_,.nil,_=>fun u hu=>by cases hu
 | y::xs,u::us, .cons r t,f=>fun u' hu=>by
   rw[dQ,aE]at f;rcases aC.mp hu with rfl|hu
   ·rw[zJ6 r f.1];exact jJq r rx f.1 fx
   ·exact qZu rx fx t f.2 u' hu
noncomputable def inV(x:V)(xs:List V):Bool:=xs.any fun y=>eqV y x
noncomputable def rIn(K:aQ)(neg:Bool):R2:=fun x y H Q=>∃p xs,y=.ref p/\(SqL K H p xs\/SqT K H p xs)/\qJ3 x=true/\xs.all qJ3=true/\Q (.bl (if neg then !inV x xs else inV x xs)) H
theorem zVw:OpR X (bI .In) (rIn X.K false):=by
 intro pins s σ H x y v u Q I rx ry h;obtain⟨p,xs,rfl,hq,fx,fs,q⟩:=h;cases ry;rcases hq with hq|hq
 ·obtain⟨its,r,pl,hz⟩:=I.list hq;refine SeqAt.in_listAt (eqU x) pl.isList (fun w hw=>qZu rx fx r fs w (by simpa using hw)) ⟨.bl _,H,I,rfl,?_⟩;rw[show its.toArray.any (eqU x)=its.any (eqU x) by simp,qXc r fs];exact q
 ·obtain⟨its,r,pl,hz⟩:=I.tuple hq;refine SeqAt.in_tupleAt (eqU x) pl (fun w hw=>qZu rx fx r fs w (by simpa using hw)) ⟨.bl _,H,I,rfl,?_⟩;rw[show its.toArray.any (eqU x)=its.any (eqU x) by simp,qXc r fs];exact q
theorem vJv:OpR X (bI .NotIn) (rIn X.K true):=by
 intro pins s σ H x y v u Q I rx ry h;obtain⟨p,xs,rfl,hq,fx,fs,q⟩:=h;cases ry;rcases hq with hq|hq
 ·obtain⟨its,r,pl,hz⟩:=I.list hq;refine SeqAt.notIn_listAt (eqU x) pl.isList (fun w hw=>qZu rx fx r fs w (by simpa using hw)) ⟨.bl _,H,I,rfl,?_⟩;rw[show its.toArray.any (eqU x)=its.any (eqU x) by simp,qXc r fs];exact q
 ·obtain⟨its,r,pl,hz⟩:=I.tuple hq;refine SeqAt.notIn_tupleAt (eqU x) pl (fun w hw=>qZu rx fx r fs w (by simpa using hw)) ⟨.bl _,H,I,rfl,?_⟩;rw[show its.toArray.any (eqU x)=its.any (eqU x) by simp,qXc r fs];exact q
theorem vJ4:j8 X (.builtin "len") (fun xs H Q=>∃p ys,xs=[.ref p]/\(SqL X.K H p ys\/SqT X.K H p ys)/\Q (.int ys.length) H):=by
 intro pins s σ H xs us Q I r h;obtain⟨p,ys,rfl,hq,q⟩:=h;obtain⟨u,rfl,rx⟩:=yI r;cases rx;have hn:=qK0;rcases hq with hq|hq
 ·obtain⟨its,r',pl,hz⟩:=I.list hq;have hlen:=r'.length;exact Calls.call_len_list pl.isList (by simp only[aR] <;> omega) ⟨.int ys.length,H,I.tok _,⟨s.toks+1,by rw[aR,hlen]⟩,q⟩
 ·obtain⟨its,r',pl,hz⟩:=I.tuple hq;have hlen:=r'.length;exact len_tuple pl (by simp only[aR] <;> omega) ⟨.int ys.length,H,I.tok _,⟨s.toks+1,by rw[aR,hlen]⟩,q⟩
theorem vJ3:j8 X (.builtin "len") (fun xs H Q=>∃z,xs=[.str z]/\z.length<=aD/\Q (.int z.length) H):=by
 intro pins s σ H xs us Q I r h;obtain⟨z,rfl,hz,q⟩:=h;obtain⟨u,rfl,t,rfl⟩:=yI r;have hn:=qK0;exact len_str (by omega) ⟨.int z.length,H,I.tok _,⟨_,rfl⟩,q⟩
theorem j8.or{f:Value}{r r' :List V->Hp->VK->Prop}(h:j8 X f r)(h' :j8 X f r'):j8 X f (fun xs H Q=>r xs H Q\/r' xs H Q):=by
 intro pins s σ H xs us Q I rs q;rcases q with q|q
 ·exact h pins s σ H xs us Q I rs q
 ·exact h' pins s σ H xs us Q I rs q
theorem vJ2:j8 X (.type "list") (fun xs H Q=>∃p ys,xs=[.ref p]/\(SqL X.K H p ys\/SqT X.K H p ys)/\∀l,H l=none->Q (.ref l) (upd H l (.lst ys))):=by
 intro pins s σ H xs us Q I r h;obtain⟨p,ys,rfl,hq,q⟩:=h;obtain⟨u,rfl,rx⟩:=yI r;cases rx
 have fin:∀(its:List Value),Vals ys its->ys.length<=aD->∀(h' :Heap) (c' :Nat),(∀b o',s.heap.get? b=some o' ->h'.get? b=some o')->
   h'.get? s.heap.objs.size=some {cls:=.type "list",dict:=none,data:=.seq its.toArray c',slots:=#[]}->EP X pins σ Q (.ref s.heap.objs.size) {s with heap:=h' }:=fun its r' hz h' c' kp e=>
  ⟨.ref s.heap.objs.size,_,I.laid (t' :=s.toks) kp (aP _) (show zL X.prog X.w _ h' _ (.lst ys) from⟨hz,its,c',r',e⟩),rfl,q _ (I.hok.fresh (aP _))⟩
 rcases hq with hq|hq
 ·obtain⟨its,r',pl,hz⟩:=I.list hq;have hlen:=r'.length;obtain⟨o,ho,hc,n,hd⟩:=pl.isList;exact call_list_seq p (.inl rfl) ho hc hd (fun h' c' kp e=>fin its r' hz h' c' kp e) (by simp only[aR] <;> omega)
 ·obtain⟨its,r',pl,hz⟩:=I.tuple hq;have hlen:=r'.length;obtain⟨o,ho,hc,n,hd⟩:=pl;exact call_list_seq p (.inr rfl) ho hc hd (fun h' c' kp e=>fin its r' hz h' c' kp e) (by simp only[aR] <;> omega)
theorem vVh:j8 X (.type "tuple") (fun xs H Q=>∃p ys,xs=[.ref p]/\((SqL X.K H p ys/\∀l,H l=none->Q (.ref l) (upd H l (.tup ys)))\/(SqT X.K H p ys/\Q (.ref p) H))):=by
 intro pins s σ H xs us Q I r h;obtain⟨p,ys,rfl,h⟩:=h;obtain⟨u,rfl,rx⟩:=yI r;cases rx;rcases h with⟨hq,q⟩|⟨hq,q⟩
 ·obtain⟨its,r',pl,hz⟩:=I.list hq;have hlen:=r'.length;refine call_tuple_list pl.isList (fun h' kp=>?_) (by simp only[aR] <;> omega);have I1:Inv X pins σ H {s with heap:=h' }:=I.kept (t' :=s.toks) kp;have I2:Inv X pins σ (upd H h'.objs.size (.tup ys)) {s with heap:=h'.push {cls:=.type "tuple",data:=.seq its.toArray}}:=
   I1.laid (t' :=s.toks) (fun b o e=>aK _ e) (aP _) (show zL X.prog X.w _ _ _ (.tup ys) from⟨hz,its,r',IsTup.new _ _⟩)
  exact⟨.ref h'.objs.size,_,I2,rfl,q _ (I1.hok.fresh (aP _))⟩
 ·obtain⟨its,r',pl,hz⟩:=I.tuple hq;exact call_tuple_same pl ⟨.ref p,H,I,rfl,q⟩
noncomputable def tyV(K:aQ)(T:String)(x:V)(H:Hp):Prop:=match x with
 |.str _=>T="str"
 |.int _=>T="int"
 | .ref p=>(T="list"/\∃xs,SqL K H p xs)\/(T="tuple"/\∃o,K.lookup p=some o/\o.cls= .type "tuple"/\o.dict=none)\/
   (T="dict"/\((∃kvs,H p=some (.dK kvs))\/∃kvs,H p=some (.dT kvs)))\/(T="set"/\∃S n,H p=some (.set S n))
 |_=>False
theorem zZ8{pins:List (aV×Obj)}{σ:St}{H:Hp}{T:String}{x:V}(I:Inv X pins σ H s)(r:RelV x v)(ty:tyV X.K T x H):
  s.TypeIs v T/\∀a,v=.ref a->∃ob,s.heap.get? a=some ob/\ob.dict=none:=by
 cases x with
 | str z=>
   obtain⟨t,rfl⟩:=r;cases(show T="str" from ty);exact⟨dD s z t,fun _ e=>nomatch e⟩
 | int i=>
   obtain⟨t,rfl⟩:=r;cases(show T="int" from ty);exact⟨typeIs_int s i t,fun _ e=>nomatch e⟩
 | ref p=>
   cases r;rcases ty with⟨rfl,xs,hq⟩|⟨rfl,o,hk,hc,hd⟩|⟨rfl,hk⟩|⟨rfl,S,n,hk⟩
   ·obtain⟨its,_,pl,_⟩:=I.list hq;refine⟨pl.isList.typeIs,fun a e=>?_⟩;cases e;obtain⟨o,n,e,c,hd,_⟩:=pl;exact⟨o,e,hd⟩
   ·refine⟨⟨o,I.kIn p o hk,hc⟩,fun a e=>?_⟩;cases e;exact⟨o,I.kIn _ o hk,hd⟩
   ·have z:∃o,s.heap.get? p=some o/\o.ExactDict:=by
     rcases hk with⟨kvs,hk⟩|⟨kvs,hk⟩
     ·obtain⟨_,_,_,_,o,_,_,e,ex,_⟩:=I.hok p _ hk;exact⟨o,e,ex⟩
     ·obtain⟨_,_,_,_,o,_,_,e,ex,_⟩:=I.hok p _ hk;exact⟨o,e,ex⟩
    obtain⟨o,e,ex⟩:=z;refine⟨⟨o,e,ex.1⟩,fun a e2=>?_⟩;cases e2;exact⟨o,e,ex.2.1⟩
   ·obtain⟨o,_,_,_,e,ex,_⟩:=I.hok p _ hk;refine⟨⟨o,e,ex.1⟩,fun a e2=>?_⟩;cases e2;exact⟨o,e,ex.2.1⟩
 |_=>exact False.elim ty
noncomputable def tBM0(K:aQ)(T:String)(r:V->List V->Hp->VK->Prop)(to:TE):TE:=fun σ H Q=>to σ H fun x H1=>tyV K T x H1/\r x [] H1 Q
noncomputable def tBM(K:aQ)(T:String)(r:V->List V->Hp->VK->Prop)(to:TE)(t:TA):TE:=fun σ H Q=>to σ H fun x H1=>tyV K T x H1/\t σ H1 fun xs H2=>r x xs H2 Q
variable{o e:Expr}{es:List Expr}{to:TE}{t:TA}{name:Str}{apos cpos:Pos}{T id:String}{r:V->List V->Hp->VK->Prop}
theorem zJn(pa:PlainAttrs T)(slot:Slot T name id)(hty:typeOf (.builtin id)=pure (.type "method_descriptor"))(hm:MtR X id r)(ho:PE X o to)(hbase:attributeBase o name X.env (eval o X.env)=eval o X.env:=by rfl)(hline:(apos.endLine == cpos.line)=true:=by rfl):PE X (.Call (.Attribute o name apos) [] [] cpos) (tBM0 X.K T r to):=by
 intro pins s σ H Q I h;refine wpAny_Call_method0_late hbase hline (thn (ho pins s σ H _ I h) fun v s1 ⟨x,H1,I1,r1,ty,q1⟩=>?_);obtain⟨h1,h2⟩:=zZ8 I1 r1 ty;exact⟨T,id,pa,slot,hty,h1,h2,Calls.callWith_builtin rfl (PySem.evalArgs_none (hm pins s1 σ H1 x [] v [] Q I1 r1 .nil q1))⟩
theorem zZv(pa:PlainAttrs T)(slot:Slot T name id)(hty:typeOf (.builtin id)=pure (.type "method_descriptor"))(hm:MtR X id r)(ho:PE X o to)(ha:PA X (e::es) t)(hbase:attributeBase o name X.env (eval o X.env)=eval o X.env:=by rfl)(hfew:((cZ cpos (aX (e::es) X.env)).all (fun x=>!x.1) && (backToKw cpos (keywordEach [] X.env)).all (fun x=>x.1.isSome)
   && decide ((e::es).length+([]:List Keyword).length+(if([]:List Keyword).isEmpty then 0 else 1)<30))=true:=by rfl)(hline:(apos.endLine == cpos.line)=true:=by rfl)(hs:aX (e::es) X.env=(false,eval e X.env)::aX es X.env:=by rfl)(hplain:(cZ cpos (aX es X.env)).any (·.1)=false:=by rfl):
  PE X (.Call (.Attribute o name apos) (e::es) [] cpos) (tBM X.K T r to t):=by
 intro pins s σ H Q I h;refine wpAny_Call_method_late hbase hfew hline rfl (thn (ho pins s σ H _ I h) fun v s1 ⟨x,H1,I1,r1,ty,q1⟩=>?_);obtain⟨h1,h2⟩:=zZ8 I1 r1 ty;refine⟨T,id,pa,slot,hty,h1,h2,?_⟩;have hA:=ha cpos pins s1 σ H1 _ I1 q1;rw[hs]at hA⊢;refine Calls.callWith_builtin (by show(false || (cZ cpos (aX es X.env)).any (·.1))=false;rw[hplain] <;> rfl) (Calls.evalArgs_plain ?_);exact thn hA fun us s2 ⟨vs,H2,I2,r2,q2⟩=>hm pins s2 σ H2 x vs v us Q I2 r1 r2 q2
end
noncomputable def MtM(X:Cx)(id:String)(r:V->List V->Hp->VK->Prop):Prop:=
 ∀(pins:List (aV×Obj)) (s:aY) (σ:St) (H:Hp) (x:V) (xs:List V) (v:Value) (us:List Value) (Q:VK),Inv X pins σ H s->RelV x v->Vals xs us->r x xs H Q->
  bJ (model X.prog X.w) X.A (call (.builtin id) (v::us)) (EP X pins σ Q) X.xe s
theorem Vals.one:∀{x:V} {us:List Value},Vals [x] us->∃u,us=[u]/\RelV x u
 |_,_,.cons r .nil =>⟨_,rfl,r⟩
theorem Vals.zero:∀{us:List Value},Vals [] us->us=[]
 |_,.nil =>rfl
theorem Vals.dropLast{xs:List V}{us:List Value}(h:Vals xs us):Vals xs.dropLast us.dropLast:=by
 induction h with
 |nil=>exact .nil
 | cons r t ih=>
   cases t with
   |nil=>exact .nil
   |cons q t' =>exact .cons r ih
theorem vKc(l:List α):l.eraseIdx (l.length - 1)=l.dropLast:=by
 induction l with
 |nil=>rfl
 | cons a r ih=>
   cases r with
   |nil=>rfl
   | cons b r=>
     have e:(a::b::r).length - 1=((b::r).length - 1)+1:=by
      have h1:(a::b::r).length =r.length+2:=rfl;have h2:(b::r).length =r.length+1:=rfl;omega
     rw[e,List.eraseIdx_cons_succ,ih];all_goals rfl
section
variable{X:Cx}{pins:List (aV×Obj)}{σ:St}{H:Hp}{s:aY}{l b:aV}{xs ys zs:List V}
theorem Inv.lset{its its' :List Value}{f:Array Value->Array Value}{t' :Nat}(I:Inv X pins σ H s)(hH:H l=some (.lst xs))(e:s.heap.get? l=some {cls:=.type "list",data:=.seq its.toArray n})(hf:f its.toArray=its'.toArray)(hv:Vals ys its')(hz:ys.length<=aD):
  Inv X pins σ (upd H l (.lst ys)) {s with heap:=s.heap.update l (Obj.mapSeq f),toks:=t' }:=by
 have q:=PySem.IsL.update e f;rw[hf]at q;refine I.write (x:=l) (e:=l) (by rw[hH];exact trivial) (.inl rfl) (fun b' u hb hu=>(Heap.get?_update_other s.heap (Obj.mapSeq f) (Ne.symm hb)).trans hu) ⟨_,q⟩ ?_
 exact⟨hz,its',_,hv,q⟩
theorem Inv.fresh(I:Inv X pins σ H s):H s.heap.objs.size=none:=I.hok.fresh (aP _)
theorem Inv.lstM(I:Inv X pins σ H s)(hH:H l=some (.lst xs)):xs.length<=aD/\∃(its:List Value) (n:Nat),Vals xs its/\xs.length=its.length/\s.heap.get? l=some {cls:=.type "list",data:=.seq its.toArray n}:=by
 obtain⟨z,its,n,r,e⟩:=I.hok l _ hH;exact⟨z,its,n,r,r.length,e⟩
end
section
variable{X:Cx}
noncomputable def rAppend:V->List V->Hp->VK->Prop:=fun x vs H Q=>∃l xs y,x=.ref l/\vs=[y]/\H l=some (.lst xs)/\xs.length<aD/\Q .non (upd H l (.lst (xs ++ [y])))
theorem vV9:MtM X "list.append" rAppend:=by
 intro pins s σ H x vs v us Q I rx rv h;obtain⟨l,xs,y,rfl,rfl,hH,hz,q⟩:=h;cases rx;obtain⟨u,rfl,ru⟩:=rv.one;obtain⟨z,its,n,r,hl,e⟩:=I.lstM hH;refine call_meets F.slot_list_append ⟨_,e,rfl⟩ F.entry_list_append (F.args_list_append_2 _ _) (PySem.list_append l its.toArray n u (by rw[aR];omega)) ⟨e,?_⟩;refine⟨.non,_,I.lset (its' :=its ++ [u]) hH e (by simp) (r.append (.cons ru .nil)) ?_,rfl,q⟩;rw[aJ,dC];omega
noncomputable def rPop:V->List V->Hp->VK->Prop:=fun x vs H Q=>∃l xs y,x=.ref l/\vs=[]/\H l=some (.lst xs)/\xs[xs.length - 1]?=some y/\Q y (upd H l (.lst xs.dropLast))
theorem jZ6:MtM X "list.pop" rPop:=by
 intro pins s σ H x vs v us Q I rx rv h;obtain⟨l,xs,y,rfl,rfl,hH,hy,q⟩:=h;cases rx;have hus:=rv.zero;subst hus;obtain⟨z,its,n,r,hl,e⟩:=I.lstM hH;obtain⟨u,hu,ru⟩:=r.get hy;have hy' :its.toArray[its.toArray.size - 1]?=some u:=by
  show its.toArray[its.length - 1]?=some u;rw[←Array.getElem?_toList,←hl];exact hu
 refine call_meets F.slot_list_pop ⟨_,e,rfl⟩ F.entry_list_pop (F.args_list_pop_1 _) (MeetsSeq.list_pop_last l its.toArray n u hy' (by rw[aR];omega)) ⟨e,?_⟩;refine⟨y,_,I.lset (its' :=its.dropLast) hH e ?_ r.dropLast ?_,ru,q⟩
 ·show its.toArray.eraseIdxIfInBounds (its.toArray.size - 1)=its.dropLast.toArray;rw[aR,List.eraseIdxIfInBounds_toArray,vKc]
 ·rw [List.length_dropLast];omega
end
end L2
namespace Att
open PySem PySem.W PySem.Calls PyProof.Rows
variable{P:Params}{h:Heap}{l:OpenLaw}{n:Nat}
theorem qY2:∀(ns:List Int) (vs:List Value),WellAll P h vs (ns.map WData.int)->IntsAre vs ns:=by
 intro ns;induction ns with
 | nil=>
   intro vs w;cases w;exact .nil
 | cons n ns ih=>
   intro vs w;cases w with
   | cons a b=>
     cases a;exact .cons _ _ (ih _ b)
theorem zVn(hn:l.most=some n){args:List WData}{vals:List Value}(hpre:l.row.toRowW.claim.pre args=true)(hwl:WellAll P h vals args):
  ∃a vs ns,vals=[Value.ref a]/\args=[WData.list (ns.map WData.int)]/\h.get? a=some {cls:=.type "list",data:=.seq vs.toArray}/\IntsAre vs ns/\ns.length<=n:=by
 have hsh:WShape.hasAll [] args [.list .int]=true:=(pre_splitW hpre).1;have hc:l.pre.holds [] {args:=args}=true:=(pre_splitW hpre).2;obtain⟨d,r,rfl,h1,h2⟩:=hasAllW_cons hsh;obtain rfl:=hasAllW_nil h2;obtain⟨xs,rfl,h3⟩:=hasW_list h1;obtain⟨ns,rfl⟩:=items_int h3;have hlen:ns.length<=n:=by
  unfold OpenLaw.pre at hc;have h4:(WTm.not (.lt (.lit (.int (n:Int))) (.len (.arg 0)))).holds [] {args:=[.list (ns.map .int)]}=true:=by
   have h4:=(holds_andW hc).1;rw[hn]at h4;exact h4
  have h5:=condW_of h4 (w_not (w_lt w_lit (w_len_list (w_arg rfl))));rw[aB]at h5;refine Nat.le_of_not_lt fun q=>?_
  have q' :(n:Int)<((ns.length:Nat):Int):=by omega
  first
   |(rw[decide_eq_true q']at h5;exact absurd h5 (by decide))
   |(simp at h5;omega)
 cases hwl with
 | cons w1 w2=>
   cases w2;cases w1 with
   |list ho hall=>exact⟨_,_,ns,rfl,rfl,ho,qY2 ns _ hall,hlen⟩
theorem zVs(l:OpenLaw)(args:List WData):l.row.toRowW.claim.post args (.bool true) args=true:=
 postW_of (r:=l.row.toRowW) (X:=(true == true))
  (show WShape.has [] (.bool true) .bool =true by first|rfl|decide|simp[WShape.has,WShape.arms,WShape.armsAll])
  (show(WTm.eq .res (.lit (.bool true))).value [] {args:=args,res:=some (.bool true),after:=args}=some (.bool (true == true)) from w_eq_bool (w_res rfl) w_lit) rfl
theorem vX4{q:bZ}{loose:List Str}{XP:(Str->Option Value)->Heap->Prop}{YP:bX->Heap->Prop}{d:DefRec}(hn:l.most=some n)(hdf:d.params.defaults=[])(call:∀(w:bX) (s₀ s₁:aY) (mg mb:Str->Option Value) (fa:aV) (o:Obj) (pm cd doc:Value) (a:aV) (vs:List Value) (ns:List Int),
   Ground q loose [] XP w s₀ mg mb s₁.heap->YP w s₁.heap->
   s₁.heap.get? fa=some o->o.data=.func (docDef d.name d.params d.body d.scope pm cd doc)->s₁.heap.CodeRec cd d.name->mg d.name=some (.ref fa)->
   s₁.heap.get? a=some {cls:=.type "list",data:=.seq vs.toArray}->IntsAre vs ns->ns.length<=n->s₁.gens=#[]->
   codeAny (model l.prog w) callerA (.call (.ref fa) ⟨[.ref a],[]⟩) (fun r s' =>r=.ok (.ret (.bool true))/\OldK s₁.heap s'.heap/\s'.os=s₁.os/\AllBare s'.gens) s₁):
  WalkO q loose XP YP l.row.toRowW d [] (fun f vs=>PySem.call f vs):=by
 intro w s₀ s₁ mg mb G Y fa o pm cd doc dV kV ho hd hcd hD hmg hg args vals as hpre hlay hrd hwl hlo
 obtain rfl:dV=.none :=Dflts.none hD hdf
 obtain rfl:kV=.none :=Dflts.noKw hD
 obtain⟨a,vs,ns,rfl,rfl,hobj,hints,hlen⟩:=zVn hn hpre hwl
 refine enter_call (codeAny_mono (call w s₀ s₁ mg mb fa o pm cd doc a vs ns G Y ho (fd_plain hd) hcd hmg hobj hints hlen hg) fun r s' hq=>?_)
 obtain⟨rfl,h2,h3,h4⟩:=hq
 exact⟨.inl ⟨.bool true,.bool true,[],rfl,fun _=>rfl,.bool true,zVs l _,fun _=>⟨List.Pairwise.nil,fun _ hm=>(nomatch hm)⟩⟩,h2,h3,h4⟩
end Att
namespace L2
open PySem PySem.Spec PyProof.Rows
variable{P:bZ}{K:aQ}{mg:Str->Option Value}{k n t':Nat}{a f p C:aV}{fd:aH}{qual:Str}{ps:List Str}{oc doc pm cdv ct:Value}{od an:Option aV}{osl:Array (Option Value)}{A:cB}{pos:Pos}{H H1 H2:Hp}{h:Heap}{s:aY}{pins:List (aV×Obj)}{σ:St}{fp ch:List aV}
theorem vVy:∀{vs:List Value} {ns:List Int},IntsAre vs ns->Vals (ns.map V.int) vs
 |_,_,.nil =>.nil
 |_,_,.cons n t h=>.cons ⟨t,rfl⟩ (vVy h)
noncomputable def Only(H:Hp):Prop:=∀b,H b=none\/∃o xs,H b=some (.frz o (.lst xs))
theorem zXn{w:bX}{mb:Str->Option Value}{CX:CXT}{fa:aV}{x:Str}{sp:Sp}{s₁:aY}{vs:List Value}{ns:List Int}(KX:K.In s₁.heap)(hns:s₁.heap.Ns cX mg)(hb:s₁.heap.Ns builtinsNs mb)(hbb:∀x:Str,x≠"__name__"->mb x=dE x)(hlim:s₁.heap.NoLimit)(hg:s₁.gens=#[])(ha:s₁.heap.get? a=some {cls:=.type "list",data:=.seq vs.toArray})(hi:IntsAre vs ns)(hl:ns.length<=aD)(hr:Room k callerA)(F:∀base:Heap,K.In base->base.Ns cX mg->FnOk P w K mg base CX k fa fd [x] sp)(hbind:∀(s:aY) (u:Value),BindsTo s fd ⟨[u],[]⟩ [(x,u)])(hsp:∀H:Hp,Only H->SqL K H a (ns.map V.int)->sp [.ref a] H (fun v _=>v=.bl true) fun _ _ _=>False)(hCX:∀H e s',CX [] H s₁ (fun _ _ _=>False) e s' ->False):
  codeAny (model P w) callerA (.call (.ref fa) ⟨[.ref a],[]⟩) (fun r s' =>r=.ok (.ret (.bool true))/\OldK s₁.heap s'.heap/\s'.os=s₁.os/\AllBare s'.gens) s₁:=by
 have rv:=vVy hi;have lenV:=hi.length
 have core:∀H:Hp,Only H->SqL K H a (ns.map V.int)->HOk P w H s₁.heap->(∀b,H b≠none->b=a)->(H a≠none->K.lookup a=none)->
   codeAny (model P w) callerA (.call (.ref fa) ⟨[.ref a],[]⟩) (fun r s' =>r=.ok (.ret (.bool true))/\OldK s₁.heap s'.heap/\s'.os=s₁.os/\AllBare s'.gens) s₁:=by
  intro H hO hS hok hA hK;have base_of:∀{b:aV} {o:Obj},s₁.heap.get? b=some o->H b=none->(hidT s₁.heap H).get? b=some o:=fun e n=>zXu e n
  have noA:∀{b:aV} {o:Obj} {es:Array DictEntry} {ep:Nat},s₁.heap.get? b=some o->o.data=.dict es ep->H b=none:=fun {b o es ep} e d=>by
   cases q:H b with
   |none=>rfl
   | some u=>
     have e' :b=a:=hA b (by rw[q];simp);subst e';rw[ha]at e;cases e;have d' :Data.seq vs.toArray _=Data.dict es ep:=d;cases d'
  have nsK:∀{b:aV} {m:Str->Option Value},s₁.heap.Ns b m->(hidT s₁.heap H).Ns b m:=fun {b m} ⟨o,es,ep,e,d,r⟩=>⟨o,es,ep,base_of e (noA e d),d,r⟩
  have hKb:K.In (hidT s₁.heap H):=fun b o e=>base_of (KX b o e) (by
   cases q:H b with
   |none=>rfl
   | some u=>
     have e' :b=a:=hA b (by rw[q];simp);subst e';rw[hK (by rw[q];simp)]at e;cases e)
  have hM:Mod K mg (hidT s₁.heap H):=⟨hKb,nsK hns,⟨mb,nsK hb,hbb⟩,let ⟨mc,h1,h2⟩:=hlim;⟨mc,nsK h1,h2⟩⟩
  have e0:Env0 P w K mg (hidT s₁.heap H) callerA [] s₁ H:=⟨rfl,hM,fun b o e=>zKl e,Nat.le_of_eq (zV7 _ _),trivial,fun b hb=>absurd (show b∈([]:List aV) from hb) (by simp),hok,.of_eq hg⟩
  refine codeAny_mono ((F _ hKb (nsK hns)).run callerA [] s₁ H ⟨[.ref a],[]⟩ [.ref a] [.ref a] _ _ hr e0 (hbind s₁ (.ref a)) (.cons rfl .nil) (hsp H hO hS)) fun r s' h=>?_
  cases r with
  |error e=>exact(hCX H e s' h).elim
  | ok fl=>
    cases fl with
    |next=>exact False.elim h
    |brk=>exact False.elim h
    |cont=>exact False.elim h
    | ret u=>
      obtain⟨v,H',os,bare,un,hok',r',q⟩:=h;have q' :v=.bl true:=q;subst q';obtain rfl:u=Value.bool true:=r';refine⟨rfl,OldK.of_keep fun b o e=>?_,os,bare⟩;cases q:H b with
      |none=>exact un.keep b o e q (by intro z;exact absurd (show b∈([]:List aV) from z) (by simp)) (by simp)
      | some u=>
        rcases hO b with z|⟨ob,xs,z⟩
        ·rw[q]at z;cases z
        ·have z2:=un.frzs b ob _ z;obtain⟨e1,_⟩:=hok b _ z;obtain⟨e2,_⟩:=hok' b _ z2;rw[e]at e1;cases e1;exact e2
 cases hk:K.lookup a with
 | some o=>
   have e:=KX a o hk;rw[ha]at e;cases e;refine core (fun _=>none) (fun _=>.inl rfl) (.inr ⟨_,vs.toArray,_,hk,rfl,rfl,rfl,by rw[aR,lenV];exact hl,by simpa using rv⟩) (fun b u z=>by have z' :(none:Option HO)=some u:=z;cases z') (fun b z=>absurd rfl z) fun z=>absurd rfl z
 | none=>
   refine core (fun b=>if b=a then some (.frz {cls:=.type "list",data:=.seq vs.toArray} (.lst (ns.map V.int))) else none) (fun b=>?_) (.inl (.inr ⟨{cls:=.type "list",data:=.seq vs.toArray},if_pos rfl⟩)) (fun b u z=>?_) (fun b z=>?_) fun _=>hk
   ·by_cases hb:b=a
    ·exact .inr ⟨_,_,if_pos hb⟩
    ·exact .inl (if_neg hb)
   ·by_cases hb:b=a
    ·have z' :=(if_pos hb).symm.trans z;cases z';subst hb;exact⟨ha,by rw[aB];exact hl,vs,_,rv,ha⟩
    ·have z' :=(if_neg hb).symm.trans z;cases z'
   ·by_cases hb:b=a
    ·exact hb
    ·exact absurd (if_neg hb) z
theorem zYb{l:PySem.W.OpenLaw}{q:bZ}{loose:List Str}{XP:(Str->Option Value)->Heap->Prop}{YP:bX->Heap->Prop}{d:DefRec}{K:Params->aQ}{CX:bX->CXT}{sp:bX->Sp}{x:Str}(hn:l.most=some n)(hn2:n<=aD)(hdf:d.params.defaults=[])(hr:Room k callerA)(hY:∀(w:bX) (h:Heap),YP w h->(K w.params).In h)(F:∀(w:bX) (mg:Str->Option Value) (fa:aV) (h:Heap),(K w.params).In h->h.Ns cX mg->mg d.name=some (.ref fa)->
   ∃fd:aH,(∀(s:aY) (u:Value),BindsTo s fd ⟨[u],[]⟩ [(x,u)])/\
    ∀base:Heap,(K w.params).In base->base.Ns cX mg->FnOk l.prog w (K w.params) mg base (CX w) k fa fd [x] (sp w))(hsp:∀(w:bX) (H:Hp) (a:aV) (ns:List Int),ns.length<=n->Only H->SqL (K w.params) H a (ns.map V.int)->sp w [.ref a] H (fun v _=>v=.bl true) fun _ _ _=>False)(hCX:∀(w:bX) (H:Hp) (s:aY) (e:Value) (s' :aY),CX w [] H s (fun _ _ _=>False) e s' ->False):
  PySem.W.WalkO q loose XP YP l.row.toRowW d [] (fun f vs=>PySem.call f vs):=by
 refine Att.vX4 hn hdf fun w s₀ s₁ mg mb fa o pm cd doc a vs ns G Y ho hd hcd hmg hobj hints hlen hg=>?_
 have KX:=hY w _ Y;obtain⟨fd,hb,hF⟩:=F w mg fa _ KX G.T.g hmg;exact zXn KX G.T.g G.T.b G.T.builtins G.T.nolimit hg hobj hints (aG hlen hn2) hr hF hb (fun H hO hS=>hsp w H a ns hlen hO hS) fun H e s' =>hCX w H s₁ e s'
noncomputable abbrev E0:XK:=fun _ _ _=>False
structure Fun(K:aQ)(x qual:Str)(st:Stmt)(f:aV)(fd:aH):Prop where
 ex:∃(oc:Value) (od:Option aV) (kV doc pm:Value) (an:Option aV) (cdv ct:Value) (osl:Array (Option Value)),
  fd=bA x qual (jF st) (z6 st) (qW st) .none kV doc pm an cdv ct/\K.lookup f=some ⟨oc,od,.func fd,osl⟩/\PySem.W.codeIn K cdv qual=true
 kp:bO K (.ref f)=true
section
variable{P:bZ}{w:bX}{K:aQ}{mg:Str->Option Value}{base:Heap}
theorem Fun.binds{x:Str}{st:Stmt}(F:Fun K x qual st f fd)(h:∀(kV doc pm:Value) (an:Option aV) (cdv ct:Value) (us:List Value),us.length=ps.length->bindArgs (bA x qual (jF st) (z6 st) (qW st) .none kV doc pm an cdv ct) ⟨us,[]⟩=pure (ps.zip us)):j9 K fd ps []:=by
 obtain⟨oc,od,kV,doc,pm,an,cdv,ct,osl,rfl,lk,hcd⟩:=F.ex;exact .all (h kV doc pm an cdv ct)
theorem vZ1{x:Str}{st:Stmt}{kV:Value}(l:K.lookup f=some ⟨oc,od,.func (bA x qual (jF st) (z6 st) (qW st) .none kV doc pm an cdv ct),osl⟩)(c:PySem.W.codeIn K cdv qual=true)(k:bO K (.ref f)=true):Fun K x qual st f (bA x qual (jF st) (z6 st) (qW st) .none kV doc pm an cdv ct):=⟨⟨oc,od,kV,doc,pm,an,cdv,ct,osl,rfl,l,c⟩,k⟩
end
theorem vKz(hr:Room k A):A.units+1<cLine:=Nat.lt_of_le_of_lt (Nat.add_le_add_left (by decide:1<=64) _) hr.units
theorem zVl(h:n<=1000):n<aD:=Nat.lt_of_le_of_lt h (by decide)
section
variable{X:Cx}
theorem pv(i:Nat){x:Str}(hN:X.N[i]?=some x:=by rfl)(hv:Vis X.env.scope x:=by first|exact Or.inl rfl|exact Or.inr (Or.inl rfl)|exact Or.inr (Or.inr rfl))(hd:(x == ("__debug__":Str))=false:=by decide)(hcd:(x == ("__classdict__":Str))=false:=by decide):PE X (.Name x pos) (tVar i):=jZn hN hv hd hcd
end
noncomputable def Same(H H' :Hp):Prop:=∀b o,H b=some o->H' b=some o
theorem Same.refl(H:Hp):Same H H:=fun _ _ h=>h
theorem Same.trans(a:Same H H1)(b:Same H1 H2):Same H H2:=fun c o h=>b c o (a c o h)
structure FnAt(K:aQ)(mg:Str->Option Value)(x:Str)(st:Stmt)(ps:List Str)(f:aV)(fd:aH):Prop where
 F:Fun K x x st f fd
 b:j9 K fd ps []
 m:mg x=some (.ref f)
theorem Same.upd{o:HO}(h:H p=Option.none):Same H (upd H p o):=fun b u e=>by
 rw[qH (vU e h)];exact e
theorem Same.tup{H':Hp}{xs:List V}(e:Same H H')(h:SqT K H a xs):SqT K H' a xs:=by
 rcases h with(h|⟨o,h⟩)|h
 ·exact .inl (.inl (e _ _ h))
 ·exact .inl (.inr ⟨o,e _ _ h⟩)
 ·exact .inr h
theorem jVw:(2:Nat)<=aD:=by decide
noncomputable def Sm(x:Int):Prop:=x.natAbs<2 ^ 2000
theorem Sm.bits{x:Int}(h:Sm x):Builtin.Int.intBits x<=2000:=intBits_le h
theorem Sm.mul{x y:Int}(h:Sm x)(k:Sm y):IntMulOk x y:=mulOk_of_bits h.bits k.bits (by decide)
theorem zK8{x:Str}{st:Stmt}{kV:Value}(X:K.In h)(G:h.Ns cX mg)(a:PySem.W.nsIn K cX x=some (some (.ref f)))(l:K.lookup f=some ⟨oc,od,.func (bA x x (jF st) (z6 st) (qW st) .none kV doc pm an cdv ct),osl⟩)(c:PySem.W.codeIn K cdv x=true)(k:bO K (.ref f)=true)(b:∀(kV doc pm:Value) (an:Option aV) (cdv ct:Value) (us:List Value),us.length=ps.length->bindArgs (bA x x (jF st) (z6 st) (qW st) .none kV doc pm an cdv ct) ⟨us,[]⟩=pure (ps.zip us)):
  FnAt K mg x st ps f (bA x x (jF st) (z6 st) (qW st) .none kV doc pm an cdv ct):=
 ⟨vZ1 l c k,(vZ1 l c k).binds b,PySem.W.mg_of X G a⟩
section
variable{X:Cx}
theorem zKk:OpR X (binaryOp .Mult) (rI IntMulOk fun i j=>.int (i * j)):=opI fun _ _ _ _ _ _ _ hc q=>mul_int q hc
noncomputable def vK4(_ j:Int):Prop:=0<j/\j.natAbs.log2<9000
theorem zXa:OpR X (binaryOp .FloorDiv) (rI vK4 fun i j=>.int (i / j)):=opI fun i j _ _ _ _ _ hc q=>by
 have h0:(0:Int)<j:=hc.1;refine floordiv_int (by omega) ?_ (.inl (PyProof.noPylong_of_log2 hc.2))
 rw[Int.fdiv_eq_ediv_of_nonneg _ (Int.le_of_lt h0)];exact q
end
noncomputable def cCx(X:Cx)(scope:Scope)(cl:List (Str×aV))(C:aV)(Nc:List Str)(s:aY)(H:Hp)(fp:List aV):Cx where
 prog:=X.prog;w:=X.w;K:=X.K;mg:=X.mg;base:=X.base;A:=X.A;N:=Nc;s₀:=s;H₀:=H;env:=compEnvC scope cl C X.env;outer:=X.stack;stack:=X.stack;ex:=fp;fn:=fun _=>false
 calm:=X.calm;pn:=[]
 xe:=fun _ _=>False
noncomputable def PTs(X:Cx)(ifs:List Expr)(t:TT):Prop:=
 ∀(pins:List (aV×Obj)) (s:aY) (σ:St) (H:Hp) (Q:Bool->Hp->Prop),Inv X pins σ H s->t σ H Q->
  bJ (model X.prog X.w) X.A (forIn ifs true fun c r=>if r=true then do let ok ←isTrue c X.env (eval c X.env);pure (ForInStep.yield ok) else pure (ForInStep.yield r)) (TP X pins σ Q) X.xe s
noncomputable def tTrue:TT:=fun _ H Q=>Q true H
theorem zYy{X:Cx}:PTs X [] tTrue:=fun _ _ _ H _ I h=>wpAny_tests_nil ⟨H,I,h⟩
theorem vKk{prog:bZ}{w:bX}{R:Result->aY->Prop}{elt target iter:Expr}{ifs:List Expr}{scope:Scope}{it acc:Value}{env:Env}(I:Nat->aY->Prop)(turn:∀n s,I n s->bJ (model prog w) A (pyNext it) (fun r s₁=>match r with
   |none=>R (.ok .next) s₁
   | some v=>bJ (model prog w) A (letOwnedTupleGo target it v) (fun _ s₂=>bJ (model prog w) A (assign target env v) (fun _ s₃=>
     bJ (model prog w) A (forIn ifs true fun c r=>if r=true then do let ok ←isTrue c env (eval c env);pure (ForInStep.yield ok) else pure (ForInStep.yield r)) (fun ok s₄=>
      if ok=true then bJ (model prog w) A (eval elt env) (fun x s₅=>
       bJ (model prog w) A (call (.builtin "list.append") [acc,x]) (fun _ s₆=>∃m,m<n/\I m s₆) (fun _ _=>False) s₅) (fun _ _=>False) s₄
      else∃m,m<n/\I m s₄) (fun _ _=>False) s₃) (fun _ _=>False) s₂) (fun _ _=>False) s₁) (fun _ _=>False) s)(n:Nat)(h:I n s):
  codeAny (model prog w) A (.compLoop (.ListComp elt [⟨target,iter,ifs,0⟩] scope pos) 0 it acc env) R s:=by
 refine codeAny_loop rfl I (fun n s hI=>?_) n h;refine wpAny_noted ?_
 refine aU (wpAny_standAt (aU (bR (turn n s hI) (fun r s₁ h₁=>?_) fun _ _ h' =>h'.elim)));cases r with
 |none=>exact aT h₁
 | some v=>
   refine aU (bR h₁ (fun _ s₂ h₂=>aU (bR h₂ (fun _ s₃ h₃=>aU (bR h₃ (fun ok s₄ h₄=>?_) fun _ _ h' =>h'.elim)) fun _ _ h' =>h'.elim)) fun _ _ h' =>h'.elim);cases ok with
   |false=>exact aT ⟨rfl,h₄⟩
   | true=>
     exact aU (aU (bR h₄ (fun x s₅ h₅=>aU (bR h₅ (fun _ s₆ h₆=>aT (aT ⟨rfl,h₆⟩)) fun _ _ h' =>h'.elim)) fun _ _ h' =>h'.elim))
noncomputable def jVr(J:It)(g:TG)(tt:TT)(te:TE)(σ0:St)(Q:VK)(D:aV)(H1:Hp):Prop:=
 ∃W:Nat->Nat->St->List V->Hp->Prop,(∃m,W 0 m σ0 [] H1)/\∀i m σ2 ys H2,W i m σ2 ys H2->H2 D=some (.lst ys)/\ys.length<aD/\
  ((J.stop i H2/\Q (.ref D) H2)\/(J.go i H2/\∀x H3,J.yld i H2 x H3->g x σ2 H3 fun σ4 H4=>tt σ4 H4 fun b H5=>
    if b=true then te σ4 H5 fun v H6=>H6 D=some (.lst ys)/\∃m',m'<m/\W (i+1) m' σ4 (ys ++ [v]) (upd H6 D (.lst (ys ++ [v])))
    else∃m',m'<m/\W (i+1) m' σ4 ys H5))
noncomputable def tComp(wi:TI)(g:TG)(tt:TT)(te:TE)(σc:St->St):TE:=fun σ H Q=>wi σ H fun J H1=>∀D,H1 D=none->jVr J g tt te (σc σ) Q D (upd H1 D (.lst []))
structure Caps(X:Cx)(scope:Scope)(cl:List (Str×aV))(Nc:List Str)(σc:St->St):Prop where
 clos:closureFor scope X.env=pure cl
 kind:scope.kind=.function
 nocell:∀y∈scope.names,y.2≠ .cell
 names:∀y∈scope.names,y.2=.local ->scope.names.lookup y.1=some .local
 cells:∀x c,cl.lookup x=some c->X.env.cells.lookup x=some c
 has:∀x,((relabel scope X.env).names.lookup x=some .cell \/(relabel scope X.env).names.lookup x=some .free)->∃c,cl.lookup x=some c
 len:∀σ,(σc σ).length =Nc.length
 cap:∀σ (i:Nat) x v,Nc[i]?=some x->(σc σ)[i]?=some (some v)->Vis (relabel scope X.env) x->
  ((relabel scope X.env).names.lookup x=some .cell \/(relabel scope X.env).names.lookup x=some .free)/\
  (X.env.kindOf x=some .cell \/X.env.kindOf x=some .free)/\∃j:Nat,X.N[j]?=some x/\σ[j]?=some (some v)/\Vis X.env.scope x
section
variable{X:Cx}{tg iter elt:Expr}{ifs:List Expr}{scope:Scope}{cl:List (Str×aV)}{Nc:List Str}{σc:St->St}{pos:Pos}{wi:TI}{g:TG}{tt:TT}{te:TE}
theorem zWb(I:Inv X pins σ H s)(c:Caps X scope cl Nc σc)(hC:s.heap.objs.size<=C)(hf:∀b∈fp,FpOk X pins H b)(hlt:∀b∈fp,b<s.heap.objs.size):
  (cCx X scope cl C Nc s H fp).Ok where
 mod:=I.ok.mod;kind:=c.kind;glob:=I.ok.glob;blt:=I.ok.blt;above:=hC;inj:=fun x y a h1 h2=>I.ok.inj x y a (c.cells x a h1) (c.cells y a h2)
 has:=c.has;cab:=fun _ _ h _=>absurd (show false=true from h) bQ
 hd:=I.ok.hd;frames:=I.ok.frames;stk:=.inl rfl;exf:=fun b hb=>⟨fun z=>absurd (aN (hlt b hb) hC) (by
    have z' :b=C:=z;rw[z'];exact cE _),fun x a h z=>(hf b hb).2.2.2.2.1 x a (c.cells x a h) z⟩
 bs:=I.bs;bsz:=aG I.ok.bsz I.sz;noex:=fun b o e hb=>by
  rcases(hf b hb).2.2.2.1 with z|z
  ·exact I.ok.noex b o e z
  ·exact absurd (aN (aL e) (aG I.ok.bsz z)) (cE _)
 exfs:=fun b hb z=>by
  rcases aC.mp (I.stkSub b z) with q|q
  ·exact(hf b hb).2.1 q
  ·exact(hf b hb).2.2.1 q
 funs:=I.stack;frf:=I.stkFree
theorem jQj{h' :Heap}{m:Str->Option Value}(I:Inv X pins σ H s)(c:Caps X scope cl Nc σc)(hC:s.heap.objs.size<=C)(hf:∀b∈fp,FpOk X pins H b)(hlt:∀b∈fp,b<s.heap.objs.size)(hk:∀b o,s.heap.get? b=some o->h'.get? b=some o)(hn:h'.Ns C m):
  Inv (cCx X scope cl C Nc s H fp) [] (σc σ) H {s with heap:=h',toks:=t' }:=by
 refine⟨zWb I c hC hf hlt,rfl,I.bare,Un.kept hk,⟨m,hn,fun i x v e1 e2 e3=>?_⟩,fun x a h=>?_,I.hok.fresh hC,fun x a h=>I.freeC x a (c.cells x a h),fun p hp=>absurd (show p∈([]:List (aV×Obj)) from hp) (by simp),I.hok.kept hk,c.len σ⟩
 ·obtain⟨k1,k2,j,n1,n2,n3⟩:=c.cap σ i x v e1 e2 e3;obtain⟨m0,_,hl⟩:=I.loc;obtain⟨u,ru,lk⟩:=hl j x v n1 n2 n3;refine⟨u,ru,.inr ⟨k1,?_⟩⟩;rcases lk with⟨z,_⟩|⟨_,a,ha,hcell⟩
  ·rcases k2 with k2|k2 <;> rw[k2]at z <;> cases z
  ·obtain⟨a',ha'⟩:=c.has x k1;have e:=c.cells x a' ha';rw[ha]at e;cases e;obtain⟨o,ho,hd⟩:=hcell;exact⟨a,ha',⟨o,hk _ _ ho,hd⟩⟩
 ·obtain⟨v,o,ho,hd⟩:=I.cell x a (c.cells x a h);exact⟨v,o,hk _ _ ho,hd⟩
theorem vKl{Q:VK}{J:It}{it:aV}{tn:Nat->Heap->Prop}{RR:Value->aV->Result->aY->Prop}{E:Value->aY->Prop}(hc:X.calm=true)(c:Caps X scope cl Nc σc)(hg:∀C s H fp,PG (cCx X scope cl C Nc s H fp) tg g)(ht:∀C s H fp,PTs (cCx X scope cl C Nc s H fp) ifs tt)(he:∀C s H fp,PE (cCx X scope cl C Nc s H fp) elt te)(I:Inv X pins σ H s)(T:Turn X.prog X.w X.K tg J fp it tn)(st:tn 0 s.heap)(hf:∀b∈fp,FpOk X pins H b)(h:∀D,H D=none->jVr J g tt te (σc σ) Q D (upd H D (.lst [])))(hRR:∀D C H' s' m,Inv X pins σ H' s' ->H' C=none->s.heap.objs.size<=C->s'.heap.Ns C m->Q (.ref D) H' ->RR (.ref D) C (.ok .next) s'):
  bJ (model X.prog X.w) X.A (newList []) (fun acc s₃=>bJ (model X.prog X.w) X.A (newFunctionEnv scope X.env.globals cl [] X.env.qual none .none (some X.env)) (fun cenv s₄=>
   codeAny (model X.prog X.w) X.A (.compStart (.ListComp elt [⟨tg,iter,ifs,0⟩] scope pos) 0 (.ref it) acc {cenv with scope:=relabel scope X.env}) (RR acc cenv.locals) s₄) E s₃) E s:=by
 have fit:∀b∈fp,b<s.heap.objs.size:=fun b hb=>by
  obtain⟨o,e,_⟩:=T.obj _ _ st b hb;exact aL e
 obtain⟨W,⟨m0,w0⟩,turn⟩:=h s.heap.objs.size (I.hok.fresh (aP _));refine wpAny_newObj_type (wpAny_newFunctionEnv c.nocell (by intro y hy;simp at hy) (fun h₁ hns₁ hsb₁=>?_) c.kind);dsimp only at hns₁ hsb₁⊢;have I1:Inv X pins σ (upd H s.heap.objs.size (.lst [])) {s with heap:=s.heap.push {cls:=.type "list",dict:=none,data:=.seq ([]:List Value).toArray }}:=
  I.laid (t' :=s.toks) (fun b u e=>aK _ e) (aP _) ⟨cJ _,[],0,.nil,bW _ rfl⟩
 generalize hH2:s.heap.push {cls:=.type "list",dict:=none,data:=.seq ([]:List Value).toArray }=G at hns₁ hsb₁ I1⊢;have hG:G.objs.size=s.heap.objs.size+1:=by rw[←hH2,dH]
 have old:∀b o,G.get? b=some o->h₁.get? b=some o:=fun b o e=>hsb₁.extBut b o (bK (aL e)) (aK _ e)
 have hf1:∀b∈fp,FpOk X pins (upd H s.heap.objs.size (.lst [])) b:=fun b hb=>
  ⟨by rw[qH (bK (fit b hb))];exact(hf b hb).1,(hf b hb).2⟩
 have hlt1:∀b∈fp,b<G.objs.size:=fun b hb=>aN (fit b hb) (by rw[hG];exact Nat.le_succ _)
 have I2:=jQj (C:=G.objs.size) (t' :=s.toks+([]:List (Str×Value)).length) I1 c (aP _) hf1 hlt1 old hns₁;have st1:tn 0 h₁:=T.keep _ _ _ st fun b hb o e=>old b o (by rw[←hH2];exact aK _ e)
 have fpB:∀{H' :Hp},(∀b∈fp,H' b=none)->∀b∈fp,FpOk (cCx X scope cl G.objs.size Nc {s with heap:=G} (upd H s.heap.objs.size (.lst [])) fp) [] H' b:=fun {H'} hn b hb=>by
  have ok:=zWb (C:=G.objs.size) I1 c (aP _) hf1 hlt1;obtain⟨e1,e2⟩:=ok.exf b hb;exact⟨hn b hb,e1,ok.exfs b hb,.inl hb,e2,fun p hp=>absurd (show p∈([]:List (aV×Obj)) from hp) (by simp)⟩
 have loop:∀s₃:aY,s₃={s with heap:=h₁,toks:=s.toks+([]:List (Str×Value)).length }->
   codeAny (model X.prog X.w) X.A (.compLoop (.ListComp elt [⟨tg,iter,ifs,0⟩] scope pos) 0 (.ref it) (.ref s.heap.objs.size) (compEnvC scope cl G.objs.size X.env))
    (RR (.ref s.heap.objs.size) G.objs.size) s₃:=by
  rintro s₃ rfl
  refine vKk (fun n s' =>∃i σ' ys H',Inv (cCx X scope cl G.objs.size Nc {s with heap:=G} (upd H s.heap.objs.size (.lst [])) fp) [] σ' H' s' /\tn i s'.heap/\(∀b∈fp,H' b=none)/\W i n σ' ys H') ?_ m0
   ⟨0,σc σ,[],_,I2,st1,fun b hb=>(hf1 b hb).1,w0⟩
  rintro n s5 ⟨i,σ5,ys,H5,I5,st5,fr5,w5⟩;obtain⟨hD,hsz,alt⟩:=turn i n σ5 ys H5 w5;rcases alt with⟨stop,q⟩|⟨go,step⟩
  ·refine thn (T.done (cCx X scope cl G.objs.size Nc {s with heap:=G} (upd H s.heap.objs.size (.lst [])) fp) rfl rfl rfl hc i [] s5 σ5 H5 _ I5 (fpB fr5) st5 stop) fun r s6 ⟨hr,I6⟩=>?_
   subst hr;obtain⟨m6,n6,_⟩:=I6.loc;have I7:Inv X pins σ H5 s6:=I1.call' I6.os I6.base I6.hok I6.bare fun b hb=>⟨(hf1 b hb).2.2.2.1,(hf1 b hb).2.1,(hf1 b hb).2.2.2.2.1,(hf1 b hb).2.2.2.2.2⟩
   exact hRR _ _ H5 s6 m6 I7 I6.free (by rw[hG];exact Nat.le_succ _) n6 q
  ·refine thn (T.item (cCx X scope cl G.objs.size Nc {s with heap:=G} (upd H s.heap.objs.size (.lst [])) fp) rfl rfl rfl hc i [] s5 σ5 H5 _ I5 (fpB fr5) st5 go) fun r s6 ⟨u,hr,h6⟩=>?_
   subst hr;refine thn h6 fun _ s7 ⟨x,H7,I7,r7,y7,st7,fr7⟩=>?_
   have I7' :=I7.pinned (fpB fr7) (T.obj _ _ st7);refine thn (hg _ _ _ _ _ s7 σ5 H7 x u _ I7' r7 (step x H7 y7)) fun _ s8 ⟨σ8,H8,I8,q8⟩=>?_
   refine thn (ht _ _ _ _ _ s8 σ8 H8 _ I8 q8) fun ok s9 ⟨H9,I9,q9⟩=>?_
   have again:∀{σ' :St} {H' :Hp} {s' :aY} {ys' :List V} {m' :Nat},Inv (cCx X scope cl G.objs.size Nc {s with heap:=G} (upd H s.heap.objs.size (.lst [])) fp) ([] ++ qKv fp s7.heap) σ' H' s' ->m'<n->W (i+1) m' σ' ys' H' ->
     ∃m,m<n/\∃i σ' ys H',Inv (cCx X scope cl G.objs.size Nc {s with heap:=G} (upd H s.heap.objs.size (.lst [])) fp) [] σ' H' s' /\tn i s'.heap/\(∀b∈fp,H' b=none)/\W i m σ' ys H' :=fun {σ' H' s' ys' m'} J7 hm hw=>by
    refine⟨m',hm,i+1,σ',ys',H',J7.unpinned,T.keep _ _ _ st7 fun b hb o e=>(J7.pin (b,o) (bE _ (bE _ (qVn hb e)))).1,fun b hb=>?_,hw⟩;obtain⟨o,e,d⟩:=T.obj _ _ st7 b hb;exact(J7.pin (b,o) (bE _ (bE _ (qVn hb e)))).2.1
   cases ok with
   | false=>
     rw[if_neg bQ]at q9⊢;obtain⟨m',hm,hw⟩:=q9;exact again I9 hm hw
   | true=>
     rw[if_pos rfl]at q9⊢;refine thn (he _ _ _ _ _ s9 σ8 H9 _ I9 q9) fun v s10 ⟨y,H10,I10,r10,hD10,m',hm,hw⟩=>?_
     refine thn (vV9 _ s10 σ8 H10 (.ref s.heap.objs.size) [y] (.ref s.heap.objs.size) [v] (fun _ H' =>H' =upd H10 s.heap.objs.size (.lst (ys ++ [y]))) I10 rfl (.cons r10 .nil) ⟨_,ys,y,rfl,rfl,hD10,hsz,rfl⟩) fun _ s11 ⟨z,H11,I11,_,e11⟩=>?_
     subst e11;exact again I11 hm hw
 exact codeAny_compStart_list (loop _ rfl) (T.self _ 0 _ _ _ st1 (loop _ rfl))
theorem zKh(hc:X.calm=true)(c:Caps X scope cl Nc σc)(hi:PI X tg iter wi)(hg:∀C s H fp,PG (cCx X scope cl C Nc s H fp) tg g)(ht:∀C s H fp,PTs (cCx X scope cl C Nc s H fp) ifs tt)(he:∀C s H fp,PE (cCx X scope cl C Nc s H fp) elt te)(hs:∀x,foldedSetIterable iter X.env x=pure x:=by intro _;rfl):PE X (.ListComp elt [⟨tg,iter,ifs,0⟩] scope pos) (tComp wi g tt te σc):=by
 intro pins s σ H Q I h;rw[eval_ListComp];refine wpAny_comprehension_free (use:=none) rfl hs c.clos c.kind c.names (thn (hi pins s σ H _ I h) fun v s1 h1=>thn h1 fun itv s2 h2=>?_);obtain⟨it,fp,tn,J,H2,rfl,I2,T,st2,f2,W⟩:=h2;refine vKl (Q:=Q) hc c hg ht he I2 T st2 f2 W ?_
 intro D C H' s' m I' hC hCs hn q;refine⟨m,hn,fun h' sb=>⟨.ref D,H',?_,rfl,q⟩⟩;have nl:C≠X.env.locals:=Nat.ne_of_gt (aN I2.lt hCs);refine I'.turned (t' :=s'.toks) (it:=C) (fun b o hb e=>sb.extBut b o hb e) hC nl (.inr (aG I2.sz hCs)) (fun x a e z=>?_) (fun p hp z=>?_)
 ·obtain⟨v,q⟩:=I2.cell x a e;exact absurd (aN q.lt hCs) (by rw[z];exact cE _)
 ·exact absurd (aN (aL (I2.pin p hp).1) hCs) (by rw[z];exact cE _)
theorem jXg(hk:scope.kind=.function)(hfree:∀x∈scope.names,x.2≠ .free)(hcell:∀x∈scope.names,x.2≠ .cell)(hnames:∀y∈scope.names,y.2=.local ->scope.names.lookup y.1=some .local):
  Caps X scope [] Nc (fun _=>List.replicate Nc.length none) where
 clos:=closureFor_none hfree;kind:=hk;nocell:=hcell;names:=hnames;cells:=fun x c e=>by cases e
 has:=fun x h=>by
  have hm:(relabel scope X.env).names =scope.names:=by
   unfold relabel;refine map_eq_self fun y hy=>?_
   obtain⟨n,k⟩:=y;have:(k == NameKind.free)=false:=by simpa using hfree _ hy
   simp[this]
  rw[hm]at h;rcases h with h|h
  ·exact absurd rfl (hcell _ (cF h))
  ·exact absurd rfl (hfree _ (cF h))
 len:=fun _=>by simp
 cap:=fun σ i x v _ e _=>by
  rw[List.getElem?_replicate]at e;split at e <;> cases e
end
section
variable{X:Cx}{pins:List (aV×Obj)}{σ:St}{H:Hp}{s:aY}{h' :Heap}
theorem Inv.turnedLaid{o:HO}(I:Inv X pins σ H s)(k:∀b u,b∉ch->s.heap.get? b=some u->h'.get? b=some u)(hf:∀b∈ch,FpOk X pins H b)(hp:s.heap.objs.size<=p)(new:zL X.prog X.w (upd H p o) h' p o):Inv X pins σ (upd H p o) {s with heap:=h',toks:=t' }:=by
 have hn:=I.hok.fresh hp;have nch:∀b u,H b=some u->b∉ch:=fun b u e z=>by rw[(hf b z).1]at e;cases e
 refine I.call (g' :=s.gens) (d' :=s.drawn) (ch:=ch) ⟨fun b u e _ _ hc=>k b u hc e,fun b u e _ _ hc=>⟨u.slots,k b u hc e⟩,fun b u e n _=>?_,fun b u e hc=>⟨u,k b u hc e⟩,fun b xs e=>?_,fun b u xs e=>?_,fun b ps e=>?_⟩ (fun b u e=>?_) I.bare
  fun b hb=>⟨(hf b hb).2.2.2.1,(hf b hb).2.1,(hf b hb).2.2.2.2.1,(hf b hb).2.2.2.2.2⟩
 ·rw [qH (bK (aN (aL e) hp))];exact n
 ·rw [qH (vU e hn)];exact e
 ·rw [qH (vU e hn)];exact e
 ·exact⟨#[],by rw[qH (vU e hn),e];simp⟩
 ·by_cases hb:b=p
  ·subst hb;rw[upd_same]at e;cases e;exact new
  ·rw [qH hb] at e;refine(I.hok b u e).stay (fun c v hc q=>k c v ?_ q) (fun c q=>by rw[qH (vU q hn)];exact q) fun c xs q=>by rw[qH (vU q hn)];exact q
   rcases hc with z|z
   ·rw [z];exact nch b u e
   ·exact nch c _ z
theorem Inv.turnedAll(I:Inv X pins σ H s)(k:∀b u,b∉ch->s.heap.get? b=some u->h'.get? b=some u)(hf:∀b∈ch,FpOk X pins H b):Inv X pins σ H {s with heap:=h',toks:=t' }:=by
 have nch:∀b u,H b=some u->b∉ch:=fun b u e z=>by rw[(hf b z).1]at e;cases e
 refine I.call (g' :=s.gens) (d' :=s.drawn) (ch:=ch) ⟨fun b u e _ _ hc=>k b u hc e,fun b u e _ _ hc=>⟨u.slots,k b u hc e⟩,fun b u e n _=>n,fun b u e hc=>⟨u,k b u hc e⟩,fun b xs e=>e,fun b u xs e=>e,fun b ps e=>⟨#[],by rw[e];simp⟩⟩ (fun b u e=>?_) I.bare
  fun b hb=>⟨(hf b hb).2.2.2.1,(hf b hb).2.1,(hf b hb).2.2.2.2.1,(hf b hb).2.2.2.2.2⟩
 refine(I.hok b u e).stay (fun c v hc q=>k c v ?_ q) (fun c q=>q) fun c xs q=>q
 rcases hc with z|z
 ·rw [z];exact nch b u e
 ·exact nch c _ z
end
theorem zL.there{w:bX}{o:HO}(x:zL P w H h a o):∃ob,h.get? a=some ob:=by
 cases o with
 |lst xs=>obtain⟨_,_,_,_,e⟩:=x;exact⟨_,e⟩
 |tup xs=>obtain⟨_,_,_,_,e,_⟩:=x;exact⟨_,e⟩
 |dK kvs=>obtain⟨_,_,_,_,o,_,_,e,_⟩:=x;exact⟨_,e⟩
 |dT kvs=>obtain⟨_,_,_,_,o,_,_,e,_⟩:=x;exact⟨_,e⟩
 |set S n=>obtain⟨o,_,_,_,e,_⟩:=x;exact⟨_,e⟩
 |ins C dx fs=>obtain⟨_,_,_,e,_⟩:=x;exact⟨_,e⟩
 |own y=>exact x
 |xd fs=>obtain⟨_,⟨_,_,_,e,_⟩,_⟩:=x;exact⟨_,e⟩
 |rng lo hi=>obtain⟨_,_,_,e⟩:=x;exact⟨_,e⟩
 |frz ob u=>obtain⟨e,_⟩:=x;exact⟨_,e⟩
 |tbl ps=>exact⟨_,(show h.get? a=some _ from x)⟩
 |tab l c q=>obtain⟨_,e,_⟩:=x;exact⟨_,e⟩
 |met f y=>exact⟨_,(show h.get? a=some _ from x)⟩
 |ext φ=>obtain⟨_,e,_⟩:=x;exact e
theorem HOk.there{w:bX}{o:HO}(x:HOk P w H h)(e:H a=some o):∃ob,h.get? a=some ob:=(x a o e).there
theorem HOk.untracked{w:bX}(x:HOk P w H h)(e:h.get? a=none):H a=none:=by
 cases q:H a with
 |none=>rfl
 | some u=>
   obtain⟨ob,z⟩:=x.there q;grind
noncomputable abbrev Cx.marked(X:Cx)(ea:aV):Cx:={X with A:=X.A.mark (some (.ref ea)),calm:=false,xe:=fun _ _=>False}
section
variable{X:Cx}{pins:List (aV×Obj)}{σ:St}{H:Hp}{s:aY}{ea:aV}
theorem Inv.marked(I:Inv X pins σ H s)(ea:aV):Inv (X.marked ea) pins σ H s:=
 ⟨⟨I.ok.mod,I.ok.kind,I.ok.glob,I.ok.blt,I.ok.above,I.ok.inj,I.ok.has,I.ok.cab,fun h=>absurd (show false=true from h) bQ,I.ok.frames,I.ok.stk,I.ok.exf,I.ok.bs,I.ok.bsz,I.ok.noex,I.ok.exfs,I.ok.funs,I.ok.frf⟩,
   I.os,I.bare,I.base,I.loc,I.cell,I.free,I.freeC,I.pin,I.hok,I.len⟩
theorem Inv.unmarked(I:Inv (X.marked ea) pins σ H s)(hd:X.calm=true->X.A.handled=none):Inv X pins σ H s:=
 ⟨⟨I.ok.mod,I.ok.kind,I.ok.glob,I.ok.blt,I.ok.above,I.ok.inj,I.ok.has,I.ok.cab,hd,I.ok.frames,I.ok.stk,I.ok.exf,I.ok.bs,I.ok.bsz,I.ok.noex,I.ok.exfs,I.ok.funs,I.ok.frf⟩,
   I.os,I.bare,I.base,I.loc,I.cell,I.free,I.freeC,I.pin,I.hok,I.len⟩
theorem Inv.adopt{o:HO}(I:Inv X pins σ H s)(hn:H p=none)(h0:X.s₀.heap.get? p=none)(hL:p≠X.env.locals)(hc:∀x c,X.env.cells.lookup x=some c->c≠p)(hp:∀q∈X.pn ++ pins,q.1≠p)(new:zL X.prog X.w (upd H p o) s.heap p o):Inv X pins σ (upd H p o) s:=by
 refine⟨I.ok,I.os,I.bare,⟨I.base.keep,I.base.slot,fun b u e n hx=>?_,I.base.there,fun b xs e=>?_,fun b u xs e=>?_,fun b ps e=>?_⟩,I.loc,I.cell,?_,fun x c e=>?_,fun q hq=>?_,fun b u e=>?_,I.len⟩
 ·rw [qH (fun z=>by rw [z,h0] at e;cases e)];exact I.base.free b u e n hx
 ·have z:=I.base.tups b xs e;rw[qH (vU z hn)];exact z
 ·have z:=I.base.frzs b u xs e;rw[qH (vU z hn)];exact z
 ·obtain⟨more,z⟩:=I.base.tbls b ps e;exact⟨more,by rw[qH (vU z hn)];exact z⟩
 ·rw [qH hL.symm];exact I.free
 ·rw [qH (hc x c e)];exact I.freeC x c e
 ·obtain⟨a1,a2,a3⟩:=I.pin q hq;exact⟨a1,by rw[qH (hp q hq)];exact a2,a3⟩
 ·by_cases hb:b=p
  ·subst hb;rw[upd_same]at e;cases e;exact new
  ·rw [qH hb] at e;exact(I.hok b u e).stay (fun c v _ q=>q) (fun c q=>by rw[qH (vU q hn)];exact q) fun c xs q=>by rw[qH (vU q hn)];exact q
theorem vXk{s1 s' :aY}{cls a0:Value}{B h5:Heap}(I1:Inv X pins σ H1 s1)(os:s'.os=s1.os)(bare:AllBare s'.gens)(un:Un (frs X.stack) [] H1 H2 s1.heap s'.heap)(hok:HOk X.prog X.w H2 s'.heap)(fl:Heap.FlyingW B X.stack ea cls a0 h5)(cov:∀b o,s'.heap.get? b=some o->b∉frs X.stack->(H2 b≠none\/s1.heap.get? b≠none)->B.get? b=some o)(sm:s'.heap.UpToSlots h5):Inv X pins σ H2 {s' with heap:=h5}:=by
 have nx:∀b,b∉([]:List aV):=fun b=>by simp
 have k5:∀b o,s'.heap.get? b=some o->b∉frs X.stack->(H2 b≠none\/s1.heap.get? b≠none)->h5.get? b=some o:=fun b o e n1 n2=>fl.1 b o (cov b o e n1 n2)
 have slt:∀b o,s1.heap.get? b=some o->b∈frs X.stack->∃sl,h5.get? b=some {o with slots:=sl}:=fun b o e hb=>by
  obtain⟨_,o',ho',hd⟩:=I1.stack.mem hb;rw[e]at ho';cases ho';obtain⟨sl,e1⟩:=un.slot b o e (I1.stkFree b hb) hb (nx b);obtain⟨sl',e2⟩:=sm b _ e1 hd;exact⟨sl',e2⟩
 have fr2:∀b u,H2 b=some u->b∉frs X.stack:=fun b u e hb=>by
  obtain⟨_,o',ho',hd⟩:=I1.stack.mem hb;rw[un.free b o' ho' (I1.stkFree b hb) (nx b)]at e;cases e
 refine I1.call' (s' :={s' with heap:=h5}) (ch:=[]) os ⟨fun b o e n hb _=>?_,fun b o e n hb _=>slt b o e hb,un.free,fun b o e hx=>?_,un.tups,un.frzs,un.tbls⟩ (fun b u e=>?_) bare fun b hb=>absurd hb (nx b)
 ·exact k5 b o (un.keep b o e n hb (nx b)) hb (.inr (by rw[e];simp))
 ·by_cases hb:b∈frs X.stack
  ·obtain⟨sl,z⟩:=slt b o e hb;exact⟨_,z⟩
  ·obtain⟨o',e1⟩:=un.there b o e hx;exact⟨o',k5 b o' e1 hb (.inr (by rw[e];simp))⟩
 ·refine(hok b u e).stay (fun c v hc q=>?_) (fun _ q=>q) fun _ _ q=>q
  rcases hc with z|z
  ·subst z;exact k5 c v q (fr2 c u e) (.inl (by rw[e];simp))
  ·exact k5 c v q (fr2 c _ z) (.inl (by rw[z];simp))
end
section
variable{X:Cx}
noncomputable def rLeS:R2:=fun x y H Q=>∃i j,x=.str i/\y=.str j/\Q (.bl (!decide (j.cps.toList<i.cps.toList))) H
theorem jY:OpR X (bI .LtE) rLeS:=by
 intro pins s σ H x y v u Q I rx ry h;obtain⟨i,j,rfl,rfl,q⟩:=h;obtain⟨t,rfl⟩:=rx;obtain⟨t',rfl⟩:=ry;exact PySem.P.le_str (vH I q rfl)
end
end L2
namespace SG
open PySem PySem.Spec PyProof.Rows L2
variable{prog:bZ}{h:Heap}{a:aV}{Q:Value->aY->Prop}
theorem zXp{w:bX}{k:L2.Key}{v:Value}(h:(zU prog w).is k v=true):v.scannable=true:=by
 rcases zX h with⟨i,t,rfl,rfl⟩|⟨x,t,rfl,rfl⟩ <;> rfl
instance decMem(k:L2.Key)(l:List L2.Key):Decidable (k∈l):=by
 letI:BEq L2.Key:=instBEqOfDecidableEq;exact inferInstance
noncomputable def fmK(val:Nat->L2.Key):Nat->List L2.Key
 | 0=> []
 |i+1=>if val i∈fmK val i then fmK val i else fmK val i ++ [val i]
theorem zQy(val:Nat->L2.Key):∀i,(fmK val i).length <=i
 | 0=>aP _
 | i + 1=>by
   have:=zQy val i;unfold fmK;grind
theorem jJo(val:Nat->L2.Key)(i:Nat)(j:L2.Key):(decide (j∈fmK val i) || decide (j=val i))=decide (j∈fmK val (i+1)):=by
 rw[←Bool.decide_or];refine decide_eq_decide.mpr ?_
 show _↔j∈(if val i∈fmK val i then fmK val i else fmK val i ++ [val i]);grind
theorem zXz(val:Nat->L2.Key)(i:Nat):(if decide (val i∈fmK val i)=true then(fmK val i).length else(fmK val i).length+1)=(fmK val (i+1)).length :=by
 show _=(if val i∈fmK val i then fmK val i else fmK val i ++ [val i]).length;grind
theorem jXf{w:bX}{S S' :L2.Key->Bool}{n n' :Nat}(g:h.SetOf (zU prog w) a S n)(e:∀k,S k=S' k)(en:n=n'):h.SetOf (zU prog w) a S' n' :=by
 cases en;cases(funext e:S=S');exact g
noncomputable abbrev SetK(prog:bZ)(w:bX)(a:aV)(l:List L2.Key)(h:Heap):Prop:=h.SetOf (zU prog w) a (fun j=>decide (j∈l)) l.length
theorem SetK.at{w:bX}{l:List L2.Key}{h':Heap}(g:SetK prog w a l h)(k:∀o,h.get? a=some o->h'.get? a=some o):SetK prog w a l h' :=by
 obtain⟨o,es,ep,t,e,r⟩:=g;exact⟨o,es,ep,t,k _ e,r⟩
section
variable{prog:bZ}{w:bX}{A:cB}{R:Result->aY->Prop}{I:aV}{fp wr:List aV}{G:Array GenState->Array GenState->Prop}{n:Nat}{P:Nat->Value->Prop}{St:Nat->aY->Prop}
theorem jVe(W:WalksS prog w A.in1 I fp wr G n P St)(S:aV)(off:S∉fp)(val:Nat->L2.Key)(hv:∀i v,P i v->yM (val i) v=true)(few:n+1<scanBound):
  ∀(k i:Nat) (s:aY),n - i=k->i<=n->St i s->SetK prog w S (fmK val i) s.heap->
   (∀s',Moved (S::wr) G s s' ->SetK prog w S (fmK val n) s'.heap->R (.ok (.ret .none)) s')->
   codeAny (model prog w) A (.builtin "set.update.loop" ⟨[.ref S,.ref I],[]⟩) R s:=by
 have ow:S∉wr:=fun z=>off (W.sub _ z)
 have up:∀b∈wr,b∈S::wr:=fun b z=>aI _ z
 intro k
 induction k with
 | zero=>
   intro i s hk hi st g hR
   obtain rfl:i=n:=by omega
   refine codeAny_builtin F.entry_set_update_loop ?_
   refine aU (m:=pyNext (.ref I)) (W.done s _ _ st fun s' m=>?_)
   exact aT (hR s' (m.mono up) (g.at fun o e=>m.heap S _ ow e))
 | succ k ih=>
   intro i s hk hi st g hR
   have lt:i<n:=by omega
   refine codeAny_builtin F.entry_set_update_loop ?_
   refine aU (m:=pyNext (.ref I)) (W.item i s _ _ lt st fun v s' p st' m=>?_)
   have hk:(zU prog w).is (val i) v=true:=hv i v p
   have g' :=g.at (h' :=s'.heap) fun o e=>m.heap S _ ow e
   refine aU (m:=holding [v] (setAdd S v)) (wpAny_holding ?_)
   refine wpAny_holding (aU ((zU prog w).pyHash (k:=val i) hk ?_))
   refine wpAny_setAddHashed_of (knd:=zU prog w) (s:={s' with toks:=s'.toks+1}) hk (zXp hk) g' (by have:=zQy val i;omega) fun h2 sb g2=>?_
   have g3:SetK prog w S (fmK val (i+1)) h2:=jXf g2 (fun j=>jJo val i j) (zXz val i)
   refine aT ⟨plainId_quiet F.plain_set_update_loop _,ih (i+1) _ (by omega) lt (W.frame _ s' _ _ st' (Nat.le_succ _) fun b hb o e=>?_) g3 fun s2 m2 g4=>?_⟩
   ·rw[sb.2 b fun z=>off (by rw[←z];exact hb)];exact e
   ·refine hR s2 (Moved.trans W.gtrans ((m.mono up).then_heap (Nat.le_succ _) fun b o hb e=>?_) m2) g4
    rw[sb.2 b fun z=>hb (by rw[z];exact aM)];exact e
end
section
variable{prog:bZ}{w:bX}{A:cB}{E:Value->aY->Prop}{s:aY}
noncomputable abbrev newS(w:bX):Obj:={cls:=.type "set",dict:=none,data:=.set #[] 0 (.fresh 0 0 (!w.params.followText "set-order"))}
theorem newG(a:Value)(h:Q (.ref s.heap.objs.size) {s with heap:=s.heap.push (newS w)}):
  codeAny (model prog w) A (.call (.builtin "set.__new__") ⟨[.type "set",a],[]⟩) (wants Q E) s:=by
 refine codeAny_of_tree ?_
 refine aU (wpAny_of_eq (PySem.F.newCall_set_1 a) (aT ⟨plainId_quiet PySem.F.plain_set_new _,codeAny_builtin PySem.F.entry_set_new ?_⟩));unfold Builtin.«set.__new__» Builtin.Frozenset.newClass;have hsub:=sub_set_self;wp_walk;refine wpAny_askSetting (aT ?_);exact aU (wpAny_alloc (aT (aT h)))
theorem zXd(w:bX)(s:aY):(s.heap.push (newS w)).get? s.heap.objs.size=some (newS w):=bW _ rfl
noncomputable abbrev vK(xs:List L2.Key)(i:Nat):L2.Key:=xs.getD i (.inl 0)
noncomputable def zVg(vs:List Value)(xs:List L2.Key):Prop:=∀(i:Nat) (v:Value),vs[i]?=some v->yM (vK xs i) v=true
theorem zJt(prog:bZ)(w:bX)(e:h.get? a=some (newS w)):SetK prog w a [] h:=
 ⟨newS w,#[],0,_,e,⟨rfl,rfl,rfl⟩,rfl,fun e he=>by simp at he,fun k=>by simp,by decide,by rfl,rfl⟩
set_option maxHeartbeats 3200000 in
theorem zZh{l:aV}{its:Array Value}{xs:List L2.Key}(hh:A.handled=none)(b:Bool)(hl:cond b (s.heap.IsList l its) (s.heap.IsTuple l its))(hi:zVg its.toList xs)(few:its.size+1<scanBound)(h:∀(h' :Heap) (tk:Nat),SetK prog w s.heap.objs.size (fmK (vK xs) its.size) h' ->(∀b o,b<s.heap.objs.size->s.heap.get? b=some o->h'.get? b=some o)->Q (.ref s.heap.objs.size) {s with heap:=h',toks:=tk}):
  bJ (model prog w) A (call (.type "set") [.ref l]) Q E s:=by
 obtain⟨c,tl,hmro⟩:=cD.mro;have hmade:=cD.made;have hsub:=cD.sub;refine wpAny_call (codeAny_of_tree ?_);show bJ _ _ (callAny (.type "set") _) _ _ _;refine aT ⟨Code.quiet_builtin _ (by decide +kernel),codeAny_builtin PySem.F.entry_type_call ?_⟩;rw[Around.under_plain (weight_type_call_type "set" [.ref l] []) rfl];have h1:=cD.notType;have h2:=cD.canCreate;have hct:=PySem.F.typeCall_set_1 (.ref l);repeat (any_goals (first|assumption|wp_step))
 refine codeAny_mono (newG (.ref l) (E:=E) (Q:=fun u z=>u=.ref s.heap.objs.size/\z={s with heap:=s.heap.push (newS w)}) ⟨rfl,rfl⟩) fun r z hr=>?_
 cases r with
 |error e=>exact hr
 | ok fl=>
   cases fl with
   | ret u=>
     obtain⟨rfl,rfl⟩:=hr;have hS:=zXd w s;have hT:Shared.TypeIs {s with heap:=s.heap.push (newS w)} (.ref s.heap.objs.size) "set":=⟨_,hS,rfl⟩
     have hli:=cD.init.lookup;have hbi:=cD.init.bind (.ref s.heap.objs.size);repeat (any_goals (first|assumption|wp_step))
     refine codeAny_mono (codeAny_call_builtin (R:=wants (fun r z=>r=.none /\∃h' tk,z={s with heap:=h',toks:=tk}/\SetK prog w s.heap.objs.size (fmK (vK xs) its.size) h' /\∀b o,b<s.heap.objs.size->s.heap.get? b=some o->h'.get? b=some o) E)
      cD.init.plain PySem.F.entry_set_init (check_set_init_1 hT ?_)) fun r2 z2 hr2=>?_
     ·cases b
      all_goals
       obtain⟨ol,hol,hcl,nl,hdl⟩:=hl;obtain⟨ocls,odict,odata,oslots⟩:=ol;simp only at hcl hdl;subst hcl;subst hdl;have hol' :=aK (newS w) hol;have h3:=PySem.F.sub_list_set;have h4:=PySem.F.sub_list_frozenset;have h5:=PySem.F.sub_tuple_set;have h6:=PySem.F.sub_tuple_frozenset;have hne:(Value.type "list" == Value.type "dict")=false:=by decide
       have hnt:(Value.type "tuple" == Value.type "dict")=false:=by decide
       have lS:l<s.heap.objs.size:=aL hol;have lI:l≠(s.heap.push (newS w)).objs.size:=by rw[dH];exact bK (Nat.lt_succ_of_lt lS)
       have off:s.heap.objs.size∉ [(s.heap.push (newS w)).objs.size,l]:=by
        rw[dH];intro z;rcases aC.mp z with z|z
        ·exact absurd z (bK (Nat.lt_succ_self _))
        ·exact absurd (bG.mp z) (Nat.ne_of_gt lS)
       unfold Builtin.«set.__init__» noKeywords Builtin.Frozenset.updateFrom;generalize hPI:pyIter=PI;wp_walk;subst hPI
       first
        | have hl1:(s.heap.push (newS w)).IsList l its:=⟨_,hol',rfl,nl,rfl⟩
          refine wpAny_pyIter_list hl1 (aU (wpAny_runValue ?_))
          refine jVe ((Walks.list (show A.in1.in1.in1.handled=none by simp[hh]) _ l lI its).toS) s.heap.objs.size off (vK xs) (fun i v q=>hi i v (by rw[Array.getElem?_toList];exact q)) few (its.size - 0) 0 _ (by omega) (cJ _)
           ⟨⟨_,bW _ rfl,rfl,rfl⟩,hl1.push _⟩ (zJt prog w (aK _ hS)) fun z m g=>?_
        | have hl1:(s.heap.push (newS w)).IsTuple l its:=⟨_,hol',rfl,nl,rfl⟩
          refine wpAny_pyIter_tuple hl1 (aU (wpAny_runValue ?_))
          refine jVe ((Walks.tuple (show A.in1.in1.in1.handled=none by simp[hh]) _ l lI its).toS) s.heap.objs.size off (vK xs) (fun i v q=>hi i v (by rw[Array.getElem?_toList];exact q)) few (its.size - 0) 0 _ (by omega) (cJ _)
           ⟨⟨_,bW _ rfl,rfl,rfl⟩,hl1.push _⟩ (zJt prog w (aK _ hS)) fun z m g=>?_
       obtain⟨h',g',d',tk',os'⟩:=z;obtain rfl:g' =s.gens:=m.gens;obtain rfl:d' =s.drawn:=m.drawn;obtain rfl:os' =s.os:=m.os;refine aT ?_
       show bJ _ _ (ret Value.none) _ _ _;refine aT ⟨rfl,h',tk',rfl,g,fun b o hb e=>m.heap b o (fun z=>?_) (aK _ (aK _ e))⟩;rcases aC.mp z with z|z
       ·exact absurd z (bK hb)
       ·have z:=bG.mp z;rw[dH]at z;exact absurd z (bK (Nat.lt_succ_of_lt hb))
     ·cases r2 with
      |error e=>exact hr2
      | ok f2=>
        cases f2 with
        | ret r=>
          obtain⟨rfl,h',tk,rfl,g,k⟩:=hr2;repeat (any_goals (first|assumption|wp_step))
          exact h _ _ g k
        |_=>exact hr2.elim
   |_=>exact hr.elim
end
end SG
namespace L2
open PySem PySem.Spec PyProof.Rows
variable{P:bZ}{H:Hp}{Q:Value->aY->Prop}
section
variable{κ:Type}[DecidableEq κ]
noncomputable def valV(kvs:List (κ×V))(k:κ):Option V:=(kvs.find? fun kv=>decide (kv.1=k)).map (·.2)
theorem qK6{p:κ×V}{r:List (κ×V)}{k:κ}(e:p.1=k):valV (p::r) k=some p.2:=by simp[valV,List.find?_cons,e]
theorem qK7{p:κ×V}{r:List (κ×V)}{k:κ}(e:¬p.1=k):valV (p::r) k=valV r k:=by simp[valV,List.find?_cons,e]
theorem RelO.isSome_eq{o:Option V}{u:Option Value}(r:RelO o u):o.isSome=u.isSome:=by
 cases o with
 | none=>cases u with
   |none=>rfl
   |some _=>exact(show False from r).elim
 | some _=>cases u with
   |none=>exact(show False from r).elim
   |some _=>rfl
theorem KV.val{kvs:List (κ×V)}{vs:List (κ×Value)}(r:KV kvs vs)(k:κ):RelO (valV kvs k) (valueAt vs k):=by
 unfold KV at r;induction r with
 |nil=>exact True.intro
 | @cons p q ps qs h t ih=>
   obtain⟨h1,h2⟩:=h;by_cases e:p.1=k
   ·have e' :q.1=k:=h1.symm.trans e;have b:valueAt (q::qs) k=some q.2:=by simp[valueAt,List.find?_cons,e']
    rw[qK6 e,b];exact h2
   ·have e' :¬q.1=k:=fun z=>e (h1.trans z)
    have b:valueAt (q::qs) k=valueAt qs k:=by simp[valueAt,List.find?_cons,e']
    rw[qK7 e,b];exact ih
theorem KV.length{kvs:List (κ×V)}{vs:List (κ×Value)}(r:KV kvs vs):kvs.length=vs.length:=Paired.length r
end
theorem vWh{w:bX}{k:Key}{u:Value}(r:RelV (kV k) u):(zU P w).is k u=true:=by
 cases k with
 |inl i=>obtain⟨t,e⟩:=(show∃t,u=Value.int i t from r);subst e;exact vXw P w i t
 |inr x=>obtain⟨t,e⟩:=(show∃t,u=Value.str x t from r);subst e;exact vXv P w x t
theorem vZc{w:bX}:∀{ks:List Key} {us:List Value},Vals (ks.map kV) us->ItemsAre (zU P w) ks us
 |[],_,r=>by rw[List.map_nil]at r;cases r;exact .nil
 | k::ks,_,r=>by
   cases r with
   |cons h t=>exact .cons (vWh h) (vZc t)
noncomputable abbrev KT(H:Hp):List (List Key×V)->List (List Key×aV×Value)->Prop:=Paired fun p q=>p.1=q.1/\H q.2.1=some (.tup (p.1.map kV))/\RelV p.2 q.2.2
theorem KT.val{kvs:List (List Key×V)}{xs:List (List Key×aV×Value)}(r:KT H kvs xs)(k:List Key):RelO (valV kvs k) ((atKey xs k).map (·.2)):=by
 induction r with
 |nil=>exact True.intro
 | @cons p q ps qs h t ih=>
   obtain⟨h1,_,h2⟩:=h;by_cases e:p.1=k
   ·have e' :q.1=k:=h1.symm.trans e;have b:atKey (q::qs) k=some q.2:=by simp[atKey,e']
    rw[qK6 e,b];exact h2
   ·have e' :¬q.1=k:=fun z=>e (h1.trans z)
    have b:atKey (q::qs) k=atKey qs k:=by simp[atKey,e']
    rw[qK7 e,b];exact ih
section
variable{P:bZ}{w:bX}{H:Hp}{h:Heap}{a:aV}
theorem jQx{u:HO}(ok:HOk P w H h)(e:Rd H a u):zL P w H h a u:=e.ok ok
theorem vWk{kvs:List (Key×V)}(ok:HOk P w H h)(e:Rd H a (.dK kvs)):kvs.length<=aD/\(a == sysModules)=false/\∃vs,KV kvs vs/\h.DictOf (zU P w) a vs:=
 show zL P w H h a (.dK kvs) from jQx ok e
theorem vZy{ks:List Key}(ok:HOk P w H h)(e:H a=some (.tup (ks.map kV))):(tupleKind (zU P w)).is h ks a:=by
 obtain⟨_,its,r,o,h1,h2,n,h3⟩:=(show zL P w H h a (.tup (ks.map kV)) from ok a _ e)
 exact⟨o,its.toArray,n,h1,h2,h3,by simpa using vZc r⟩
theorem vK1{kvs:List (List Key×V)}(ok:HOk P w H h)(e:Rd H a (.dT kvs)):kvs.length<=aD/\(a == sysModules)=false/\
  ∃xs,KT H kvs xs/\h.DictOfH (tupleKind (zU P w)) a xs:=by
 obtain⟨z,y,xs,r,o,es,ep,h1,h2,h3,h4,h5⟩:=(show zL P w H h a (.dT kvs) from jQx ok e)
 refine⟨z,y,xs,r,o,es,ep,h1,h2,h3,h4,fun x hx=>?_,h5⟩;have all:∀{l:List (List Key×V)} {m:List (List Key×aV×Value)},KT H l m->∀x∈m,(tupleKind (zU P w)).is h x.1 x.2.1:=by
  intro l m q;induction q with
  |nil=>intro x hx;exact nomatch hx
  | @cons p q ps qs hq t ih=>
    intro x hx;rcases aC.mp hx with e|hx
    ·subst e;exact vZy ok (by rw[←hq.1];exact hq.2.1)
    ·exact ih x hx
 exact all r x hx
end
noncomputable def DGet(H:Hp)(a:aV)(y:V)(r:Option V):Prop:=
 (∃kvs k,Rd H a (.dK kvs)/\y=kV k/\r=valV kvs k)\/∃kvs k b,Rd H a (.dT kvs)/\y=.ref b/\H b=some (.tup (k.map kV))/\r=valV kvs k
section
variable{X:Cx}{pins:List (aV×Obj)}{σ:St}{H:Hp}{s:aY}{a:aV}{y v:V}{u r:Value}{o:Option V}{A:cB}{E:Value->aY->Prop}
theorem zZg(hu:A.units+1<cLine)(I:Inv X pins σ H s)(g:DGet H a y (some v))(ry:RelV y u)(h:∀w' s',Inv X pins σ H s' ->RelV v w' ->Q w' s'):
  bJ (model X.prog X.w) A (getItem (.ref a) u) Q E s:=by
 rcases g with⟨kvs,k,e,ey,l⟩|⟨kvs,k,b,e,ey,eb,l⟩
 ·subst ey;obtain⟨z,hd,vs,rel,dd⟩:=vWk I.hok e;obtain⟨w',hw,rw'⟩:=RelO.some_of (v:=v) (o:=valueAt vs k) (by rw[l];exact rel.val k);exact wpAny_getItem_of (vWh ry) dd.mapOf hw (h w' _ (I.tok _) rw')
 ·subst ey;cases(show u=Value.ref b from ry);obtain⟨z,hd,xs,rel,dd⟩:=vK1 I.hok e;obtain⟨w',hw,rw'⟩:=RelO.some_of (v:=v) (o:=(atKey xs k).map (·.2)) (by rw[l];exact rel.val k);obtain⟨p,hp,hp2⟩:=bY.mp hw;refine wpAny_getItem_heap (tupleKind_room_in1 hu) (vZy I.hok eb) dd hp ?_
  rw[hp2];exact h w' _ (I.tok _) rw'
theorem d_in(hu:A.units+1<cLine)(I:Inv X pins σ H s)(g:DGet H a y o)(ry:RelV y u)(h:∀s',Inv X pins σ H s' ->Q (.bool o.isSome) s'):
  bJ (model X.prog X.w) A (bI .In u (.ref a)) Q E s:=by
 rcases g with⟨kvs,k,e,ey,l⟩|⟨kvs,k,b,e,ey,eb,l⟩
 ·subst ey;obtain⟨z,hd,vs,rel,dd⟩:=vWk I.hok e;refine wpAny_in_of (vWh ry) hd dd.mapOf ?_
  rw[←(rel.val k).isSome_eq,←l];exact h _ (I.tok _)
 ·subst ey;cases(show u=Value.ref b from ry);obtain⟨z,hd,xs,rel,dd⟩:=vK1 I.hok e;refine wpAny_in_heap (tupleKind_room_in1 hu) (vZy I.hok eb) hd dd ?_
  have q:=(rel.val k).isSome_eq;rw[Option.isSome_map]at q;rw[←q,←l];exact h _ (I.tok _)
theorem jQh(hu:A.units+1<cLine)(I:Inv X pins σ H s)(g:DGet H a y o)(ry:RelV y u)(h:∀s',Inv X pins σ H s' ->Q (.bool (!o.isSome)) s'):
  bJ (model X.prog X.w) A (bI .NotIn u (.ref a)) Q E s:=by
 rcases g with⟨kvs,k,e,ey,l⟩|⟨kvs,k,b,e,ey,eb,l⟩
 ·subst ey;obtain⟨z,hd,vs,rel,dd⟩:=vWk I.hok e;refine wpAny_notIn_of (vWh ry) hd dd.mapOf ?_
  rw[←(rel.val k).isSome_eq,←l];exact h _ (I.tok _)
 ·subst ey;cases(show u=Value.ref b from ry);obtain⟨z,hd,xs,rel,dd⟩:=vK1 I.hok e;refine wpAny_notIn_heap (tupleKind_room_in1 hu) (vZy I.hok eb) hd dd ?_
  have q:=(rel.val k).isSome_eq;rw[Option.isSome_map]at q;rw[←q,←l];exact h _ (I.tok _)
end
section
variable{X:Cx}{pins:List (aV×Obj)}{σ:St}{H:Hp}{s:aY}{a:aV}{kvs:List (Key×V)}{k:Key}{u:Value}{A:cB}{E:Value->aY->Prop}
theorem jXc(I:Inv X pins σ H s)(e:Rd H a (.dK kvs))(h:∀t s',Inv X pins σ H s' ->Q (.int kvs.length t) s'):bJ (model X.prog X.w) A (call (.builtin "len") [.ref a]) Q E s:=by
 obtain⟨z,hd,vs,rel,dd⟩:=vWk I.hok e;refine call_len_dict hd dd (by rw[←rel.length];rw[sizeLine_eq]at z;omega) ?_
 rw[←rel.length];exact h _ _ (I.tok _)
end
theorem vX0{X:Cx}{pins:List (aV×Obj)}{σ:St}{s:aY}{a:aV}{y:V}{o:Option V}(I:Inv X pins σ H s)(g:DGet H a y o):s.TypeIs (.ref a) "dict":=by
 rcases g with⟨kvs,k,e,_,_⟩|⟨kvs,k,b,e,_,_,_⟩
 ·obtain⟨_,_,vs,_,dd⟩:=vWk I.hok e;exact dd.typeIs
 ·obtain⟨_,_,xs,_,dd⟩:=vK1 I.hok e;exact dd.typeIs
structure M1(X:Cx)(o:Expr)(m:Str)(apos:Pos)(e:Expr)(cpos:Pos):Prop where
 base:attributeBase o m X.env (eval o X.env)=eval o X.env
 few:((cZ cpos (aX [e] X.env)).all (fun x=>!x.1) && (backToKw cpos (keywordEach [] X.env)).all (fun x=>x.1.isSome)
  && decide (([e]:List Expr).length+([]:List Keyword).length+(if([]:List Keyword).isEmpty then 0 else 1)<30))=true
 line:(apos.endLine == cpos.line)=true
 trees:cZ cpos (aX [e] X.env)=[(false,eval e X.env)]
end L2
namespace L2
open PySem PySem.Spec PySem.W PyProof.Rows
variable{pos:Pos}{vs:List Expr}{ts:List TE}
section
variable{X:Cx}
noncomputable def tFmt(te:TE):TE:=fun σ H Q=>te σ H fun x H1=>(∃y:Str,x=.str y/\y.length<=aD/\Q (.str y) H1)\/∃a:Int,x=.int a/\a.natAbs.log2<1920/\Q (.str (toString a)) H1
theorem jZs{v:Expr}{te:TE}(he:PE X v te):PE X (.FormattedValue v (-1) none pos) (tFmt te):=by
 intro pins s σ H Q I h;refine FormattedValue_plain (thn (he pins s σ H _ I h) fun u s1 ⟨x,H1,I1,rx,hq⟩=>?_);rcases hq with⟨y,rfl,hy,q⟩|⟨a,rfl,ha,q⟩
 ·obtain⟨t,rfl⟩:=rx;exact formatField_str (fun t' tk=>⟨.str y,H1,I1.tok tk,⟨t',rfl⟩,q⟩) hy
 ·obtain⟨t,rfl⟩:=rx;exact formatField_int_small ha ⟨.str (toString a),H1,I1.tok _,⟨_,rfl⟩,q⟩
noncomputable def vKr:List TE->Str->TE
 |[],out=>fun _ H Q=>out.length<=aD/\Q (.str out) H
 |t::r,out=>fun σ H Q=>t σ H fun x H1=>∃y:Str,x=.str y/\(out ++ y).length <=aD/\vKr r (out ++ y) σ H1 Q
inductive PJs(X:Cx):List Expr->List TE->Prop
 |nil:PJs X [] []
 |cons {v:Expr} {t:TE} {vs:List Expr} {ts:List TE} (h:PE X v t) (r:PJs X vs ts):PJs X (v::vs) (t::ts)
theorem vKb(j:PJs X vs ts):∀{out:Str} {pins:List (aV×Obj)} {s:aY} {σ:St} {H:Hp} {Q:VK},Inv X pins σ H s->vKr ts out σ H Q->bJ (model X.prog X.w) X.A (joinParts out (evalEach vs X.env)) (EP X pins σ Q) X.xe s:=by
 induction j with
 | nil=>
   intro out pins s σ H Q I h;exact joinParts_nil ⟨.str out,H,I.tok _,⟨_,rfl⟩,h.2⟩ h.1
 | cons hv _ ih=>
   intro out pins s σ H Q I h;refine joinParts_cons (thn (hv pins s σ H _ I h) fun u s1 ⟨x,H1,I1,rx,y,ex,hy,q⟩=>?_);subst ex;obtain⟨t,rfl⟩:=rx;exact⟨hy,ih I1 q⟩
theorem zKg{v1 v2:Expr}(j:PJs X (v1::v2::vs) ts):PE X (.JoinedStr (v1::v2::vs) pos) (vKr ts Str.empty):=by
 intro pins s σ H Q I h;exact JoinedStr_many (vKb j I h)
theorem jZy(hu:X.A.units+1<cLine):OpR X (bI .In) (fun x y H Q=>∃a o,y=.ref a/\DGet H a x o/\Q (.bl o.isSome) H):=by
 intro pins s σ H x y u v Q I ru rv h;obtain⟨a,o,rfl,g,q⟩:=h;cases(show v=Value.ref a from rv);exact d_in hu I g ru fun s' I' =>⟨.bl _,H,I',rfl,q⟩
theorem zVv(hu:X.A.units+1<cLine):OpR X (bI .NotIn) (fun x y H Q=>∃a o,y=.ref a/\DGet H a x o/\Q (.bl (!o.isSome)) H):=by
 intro pins s σ H x y u v Q I ru rv h;obtain⟨a,o,rfl,g,q⟩:=h;cases(show v=Value.ref a from rv);exact jQh hu I g ru fun s' I' =>⟨.bl _,H,I',rfl,q⟩
end
end L2
namespace L2
open PySem PySem.Spec PyProof.Rows
variable{pos:Pos}{a:aV}{M:Model}
noncomputable def Ite(K:aQ)(a:aV):It:=
 ⟨fun i H=>∃xs x,SqL K H a xs/\xs[i]?=some x,
  fun i H v H' =>∃p,v=.ref p/\H p=none/\∀xs x,SqL K H a xs->xs[i]?=some x->H' =upd H p (.tup [.int (i:Int),x]),
  fun i H=>∃xs,SqL K H a xs/\xs.length<=i⟩
theorem zVi{P:bZ}{w:bX}{K:aQ}{elts:List Expr}{kk:Nat}(a e it:aV)(hne:e≠it):
  Turn P w K (.Tuple elts kk pos) (Ite K a) [e,it] e (fun i h=>(∃old,IsEnum h e it (i:Int) old)/\h.IsListIter it a i) where
 mem:=by simp
 obj:=fun i h st c hc=>by
  obtain⟨⟨old,he⟩,⟨o2,e2,c2,d2⟩⟩:=st;have hc' :c=e\/c=it:=by simpa using hc
  rcases hc' with rfl|rfl
  ·exact⟨_,he,fun v q=>by have q' :Data.fields _=Data.cell v:=q;cases q'⟩
  ·exact⟨_,e2,fun v q=>by rw[d2]at q;cases q⟩
 keep:=fun i h h' st k=>by
  obtain⟨⟨old,he⟩,h2⟩:=st;exact⟨⟨old,k e (by simp) _ he⟩,h2.at fun o e' =>k it (by simp) o e'⟩
 item:=by
  intro X hP hw hK hc i pins s σ H E I hf st hg;subst hP hw hK;obtain⟨xs,x,hq,hx⟩:=hg;obtain⟨its,rv,p1,hz1⟩:=I.list hq;obtain⟨u,hu,ru⟩:=rv.get hx;obtain⟨⟨old,he⟩,hit⟩:=st;refine wpAny_pyNext_enum_item he hit p1.isList (x:=u) (by simpa using hu) hne fun h' a1 a2 a3 a4 hk=>?_
  refine⟨_,rfl,wpAny_letOwnedTupleGo_enum a1 fun h'' hz'' sb=>?_⟩;have nz:s.heap.objs.size≠e:=Nat.ne_of_gt (aL he);have hk2:∀c o,c∉ [e,it]->s.heap.get? c=some o->h''.get? c=some o:=fun c o hc e' =>by
   simp only[aC,bS,or_false,not_or]at hc;exact sb.extBut c o hc.1 (hk c o hc.1 hc.2 e')
  refine⟨.ref s.heap.objs.size,upd H s.heap.objs.size (.tup [.int (i:Int),x]),I.turnedLaid (t' :=s.toks+1) hk2 hf (aP _) ⟨jVw,[.int (i:Int) s.toks,u],.cons ⟨_,rfl⟩ (.cons ru .nil),⟨_,sb.extBut _ _ nz a3,rfl,_,rfl⟩⟩,rfl,
   ⟨_,rfl,I.hok.fresh (aP _),fun xs' x' e1 e3=>?_⟩,⟨⟨_,hz''⟩,a2.extBut sb.extBut hne.symm⟩,fun c hc=>?_⟩
  ·rw [I.list_inj e1 hq,hx] at e3;cases e3;rfl
  ·obtain⟨o,e',_⟩:∃o,s.heap.get? c=some o/\True:=by
    have hc' :c=e\/c=it:=by simpa using hc
    obtain⟨o2,e2,_⟩:=hit;rcases hc' with rfl|rfl
    ·exact⟨_,he,trivial⟩
    ·exact⟨_,e2,trivial⟩
   rw[qH (bK (aL e'))];exact(hf c hc).1
 done:=by
  intro X hP hw hK hc i pins s σ H E I hf st hg;subst hP hw hK;obtain⟨xs,hq,hend⟩:=hg;obtain⟨its,rv,p1,hz1⟩:=I.list hq;obtain⟨⟨old,he⟩,hit⟩:=st;have l1:=rv.length;refine wpAny_pyNext_enum_end (I.ok.hd hc) he hit p1.isList (by simp;omega) fun h' hk=>⟨rfl,I.turnedAll (t' :=s.toks) (ch:=[e,it]) (fun c o hc e' =>?_) hf⟩
  simp only[aC,bS,or_false,not_or]at hc;exact hk c o hc.2 e'
 self:=fun _ _ _ _ _ st h=>let ⟨_,he⟩:=st.1;wpAny_pyIter_enum he h
section
variable{X:Cx}{elts:List Expr}{kk:Nat}{tpos:Pos}
noncomputable def jW8(K:aQ)(ta:TA):TI:=fun σ H R=>ta σ H fun vs H1=>∃a,vs=[.ref a]/\(∃xs,SqL K H1 a xs)/\R (Ite K a) H1
theorem zKb{e1:Expr}{ta:TA}{p:Pos}(hg:Gl X "enumerate")(hm:X.mg "enumerate"=none)(ha:PA X [e1] ta)(hs:aX [e1] X.env=[(false,eval e1 X.env)]:=by rfl)(hs2:aX [] X.env=[]:=by rfl):PI X (.Tuple elts kk tpos) (.Call (.Name "enumerate" p) [e1] [] pos) (jW8 X.K ta):=by
 intro pins s σ H R I h;refine Call_ (qK1 I hg hm Boot.«enumerate» (dX (thn (ha pos pins s σ H _ I h) fun us s1 ⟨vs,H1,I1,r1,q1⟩=>?_) (by rw[hs,hs2]) (by rw[hs2];rfl)));obtain⟨a,e,⟨xs,hx⟩,q⟩:=q1;subst e;obtain⟨u,rfl,r⟩:=yI r1;cases(show u=Value.ref a from r);obtain⟨its,rv,p1,hz1⟩:=I1.list hx;refine call_enumerate_list p1.isList fun h' he hit hsz hk=>?_
 refine wpAny_pyIter_enum he ?_
 refine⟨s1.heap.objs.size+1,[s1.heap.objs.size+1,s1.heap.objs.size],_,_,H1,rfl,I1.kept (t' :=s1.toks) hk,zVi a _ _ (Nat.succ_ne_self _),⟨⟨_,he⟩,hit⟩,fun c hc=>?_,q⟩;have hc' :s1.heap.objs.size<=c:=by
  simp only[aC,bS,or_false]at hc;rcases hc with e|e <;> rw[e] <;> first|exact aP _|exact cI _ _
 exact I1.fpOk hc' (I1.hok.fresh hc')
end
noncomputable def dxO(o:Obj):Option aV×Option Value:=(o.dict,match o.data with|.fields vs=>vs[2]? |_=>none)
noncomputable def DkH(h h' :Heap):Prop:=∀b o,h.get? b=some o->∃o',h'.get? b=some o' /\dxO o' =dxO o
theorem DkH.refl(h:Heap):DkH h h:=fun _ o e=>⟨o,e,rfl⟩
theorem DkH.trans{h1 h2 h3:Heap}(x:DkH h1 h2)(y:DkH h2 h3):DkH h1 h3:=fun b o e=>by
 obtain⟨o1,e1,d1⟩:=x b o e;obtain⟨o2,e2,d2⟩:=y b o1 e1;grind
theorem DkH.push(h:Heap)(o:Obj):DkH h (h.push o):=fun _ u e=>⟨u,aK _ e,rfl⟩
noncomputable def TmF(f:Obj->Obj):Prop:=∀o:Obj,dxO (f o)=dxO o/\(o.isFreed=false->(f o).isFreed =false)
theorem DkH.update{h:Heap}{f:Obj->Obj}(hf:TmF f):DkH h (h.update a f):=fun b o e=>by
 by_cases hb:a=b
 ·subst hb;exact⟨f o,Heap.get?_update_self f e ((hf o).2 (Heap.get?_some_iff.mp e).2),(hf o).1⟩
 ·exact⟨o,(Heap.get?_update_other h f hb).trans e,rfl⟩
inductive Tm{α:Type}:Sem α->Prop
 |pure (a:α):Tm (.pure a)
 |raise (e:Value):Tm (.raise e)
 |unsupported (w:String):Tm (.unsupported w)
 |load {a:aV} {p:Option Value} {k:Obj->Sem α} (h:∀o,Tm (k o)):Tm (.load a p k)
 |update {a:aV} {p:Option Value} {f:Obj->Obj} {k:Unit->Sem α} (hf:TmF f) (h:Tm (k ())):Tm (.update a p f k)
 |alloc {o:Obj} {k:aV->Sem α} (h:∀a,Tm (k a)):Tm (.alloc o k)
 |ask {k:Setting->Sem α} (h:∀a,Tm (k a)):Tm (.ask k)
 |rule {t:String} {k:Unit->Sem α} (h:Tm (k ())):Tm (.rule t k)
 |stack {k:List (Code×Pos)->Sem α} (h:∀l,Tm (k l)):Tm (.stack k)
section
variable{α β:Type}
theorem Tm.bind{m:Sem α}{f:α->Sem β}(h:Tm m)(k:∀a,Tm (f a)):Tm (m.bind f):=by
 induction h with
 |pure a=>exact k a
 |raise e=>exact .raise e
 |unsupported w=>exact .unsupported w
 |load _ ih=>exact .load ih
 |update hf _ ih=>exact .update hf ih
 |alloc _ ih=>exact .alloc ih
 |ask _ ih=>exact .ask ih
 |rule _ ih=>exact .rule ih
 |stack _ ih=>exact .stack ih
theorem Tm.bind'{m:Sem α}{f:α->Sem β}(h:Tm m)(k:∀a,Tm (f a)):Tm (m >>=f):=h.bind k
theorem Tm.wp{Γ:PySem.Ctx}{m:Sem α}(h:Tm m):∀{Q:α->Pos->aY->Prop} {E:Value->Pos->aY->Prop} {p:Pos} {s:aY},Sem.wp M Γ m Q E p s->
  Sem.wp M Γ m (fun a p' s' =>Q a p' s' /\DkH s.heap s'.heap) (fun e p' s' =>E e p' s' /\DkH s.heap s'.heap) p s:=by
 induction h with
 |pure a=>intro Q E p s w;rw[Sem.wp_pure]at w⊢;exact⟨w,.refl _⟩
 |raise e=>intro Q E p s w;rw[Sem.wp_raise]at w⊢;exact⟨w,.refl _⟩
 |unsupported w=>intro Q E p s w;rw[Sem.wp_unsupported]at w;exact w.elim
 | load _ ih=>
   intro Q E p s w;rw[Sem.wp_load]at w⊢;obtain⟨o,e,w⟩:=w;exact⟨o,e,ih o w⟩
 | update hf _ ih=>
   intro Q E p s w;rw[Sem.wp_update]at w⊢;exact⟨w.1,Sem.wp_mono M Γ _ (fun _ _ _ q=>⟨q.1,(DkH.update hf).trans q.2⟩) (fun _ _ _ q=>⟨q.1,(DkH.update hf).trans q.2⟩) _ _ (ih w.2)⟩
 | alloc _ ih=>
   intro Q E p s w;rw[Sem.wp_alloc]at w⊢;exact Sem.wp_mono M Γ _ (fun _ _ _ q=>⟨q.1,(DkH.push _ _).trans q.2⟩) (fun _ _ _ q=>⟨q.1,(DkH.push _ _).trans q.2⟩) _ _ (ih _ w)
 |ask _ ih=>intro Q E p s w;rw[Sem.wp_ask]at w⊢;exact ih _ w
 |rule _ ih=>intro Q E p s w;rw[Sem.wp_rule]at w⊢;exact ih w
 |stack _ ih=>intro Q E p s w;rw[Sem.wp_stack]at w⊢;exact ih _ w
theorem Tm.any{A:cB}{m:Sem α}{Q:α->aY->Prop}{E:Value->aY->Prop}{s:aY}(h:Tm m)(w:bJ M A m Q E s):
  bJ M A m (fun a s' =>Q a s' /\DkH s.heap s'.heap) (fun e s' =>E e s' /\DkH s.heap s'.heap) s:=fun Γ p hΓ=>h.wp (w Γ p hΓ)
end
theorem vYu{f:Array Value->Array Value}(hf:∀vs,(f vs)[2]?=vs[2]?):TmF (Obj.mapFields f):=fun o=>by
 obtain⟨c,d,dt,sl⟩:=o;cases dt <;> first|exact⟨rfl,fun h=>h⟩|exact⟨Prod.ext rfl (hf _),fun h=>h⟩
theorem vZ6(a:aV):Tm (load a):=.load fun o=>.pure o
theorem vVz{f:Obj->Obj}(h:TmF f):Tm (update a f):=.update h (.pure ())
theorem zWg(o:Obj):Tm (alloc o):=.alloc fun a=>.pure a
theorem vXp(v:Value):Tm (fieldsOf v):=by
 unfold fieldsOf;split
 ·refine .bind' (vZ6 _) fun o=>?_
  split <;> first|exact .pure _|exact .unsupported _
 ·exact .unsupported _
theorem qXe(v:Value)(i:Nat):Tm (field v i):=by
 refine .bind' (vXp v) fun vs=>?_
 split <;> first|exact .pure _|exact .unsupported _
theorem qZw(v:Value)(i:Nat)(x:Value)(hi:i≠2:=by decide):Tm (setField v i x):=by
 unfold setField;split
 ·unfold updateField;refine .bind' (vZ6 _) fun o=>?_
  split
  ·split
   ·exact vVz (vYu fun vs=>Array.getElem?_setIfInBounds_ne hi)
   ·exact .unsupported _
  ·exact .unsupported _
 ·exact .unsupported _
theorem qVr(e:Value)(f:Option aV):Tm (setFlight e f):=by
 refine .bind' (qXe _ _) fun tb=>?_
 split
 ·exact qZw _ _ _
 ·exact .pure _
theorem qJa:∀l:List Env,Tm (readyFrames l)
 |[]=>.pure _
 | env::outer=>by
   unfold readyFrames;split
   ·refine .bind' (vZ6 _) fun o=>?_
    split
    ·exact .pure _
    ·refine .bind' ?_ fun _=> .bind' ?_ fun _=> .bind' (vVz fun o=>⟨rfl,fun h=>?_⟩) fun _=>qJa outer
     ·unfold behindIsImport;split
      ·exact .pure _
      ·split
       ·exact .pure _
       ·exact .bind' (qXe _ _) fun _=>.pure _
     ·unfold keptBack;split
      ·split
       ·exact .pure _
       ·unfold underTheClaimsCaller;exact .bind' (.bind' (.stack fun _=>.pure _) fun _=>.pure _) fun _=>.pure _
      ·exact .pure _
     ·obtain⟨c,d,dt,sl⟩:=o;cases dt <;> first|rfl|exact h
   ·exact .unsupported _
theorem vYv(env:Env):Tm (PySem.frameOf env):=by
 refine .bind' (.bind' (.stack fun _=>.pure _) fun _=>.pure _) fun l=>.bind' ?_ fun o=>?_
 ·unfold frameObject;split
  ·exact .pure _
  ·exact .bind' (qJa _) fun _=>.pure _
 ·split <;> first|exact .pure _|exact .unsupported _
theorem vJr(t:String)(vs:List Value):Tm (newFields t vs):=by
 unfold newFields newObj;dsimp only;have k:Tm (newObjAsIs (.type t) (.fields vs.toArray)):=by
  exact .bind' (zWg _) fun _=>.pure _
 split
 ·exact .bind' (.unsupported _) fun _=>k
 ·exact k
theorem qXm(e:Value)(env:Env):Tm (noteFrame e env):=by
 unfold noteFrame;split
 ·refine .bind' (qXe _ _) fun head=>?_
  have rest:∀f,Tm (do setField e 1 (←EntryCells.newEntry head (←PySem.frameOf env) .none (rawInt f) .none (←entryPlaceOf f (head !=.none)))):=fun f=>by
   refine .bind' (vYv _) fun fr=>.bind' ?_ fun pl=>.bind' ?_ fun t=>qZw _ _ _
   ·unfold entryPlaceOf;refine .bind' (.stack fun _=>.pure _) fun acts=>?_
    split <;> exact .pure _
   ·unfold EntryCells.newEntry;exact vJr _ _
  split
  ·refine .bind' (qXe _ _) fun x=>?_
   split
   ·exact .pure _
   ·exact .bind' (qZw _ _ _) fun _=>rest _
  ·exact rest _
 ·exact .unsupported _
theorem vQs(env:Env)(e:Value):Tm (leaving env e):=.bind' (qXm _ _) fun _=>qVr _ _
end L2
namespace L2
open PySem PySem.Spec PySem.W PySem.Calls PyProof.Rows
variable{rest:List Value}{C fI:aV}{pos:Pos}{h:Heap}
noncomputable abbrev vErr:List Value:=[.type "ValueError",.type "Exception",.type "BaseException",.type "object"]
structure IniCls(K:Frag)(C fI:aV):Prop where
 ob:∃nm q N bs bm hdct sn sub ab col dd k0 k1 k2 k3 k5,K.lookup C=some (excClassObj nm q C N bs bm hdct sn sub ab col dd k0 k1 k2 k3 k5 "ValueError.__new__")/\tailIn K vErr bm=true
 ini:findIn K (.ref C) "__init__"=some (some (.ref fI))
 fn:typeIn K (.ref fI)=some (.type "function")
 sa:findIn K (.ref C) "__setattr__"=some (some (.builtin "object.__setattr__"))
 hd:hasDictIn K C=true
section
variable{prog:bZ}{w:bX}{A:cB}{E:Value->aY->Prop}{h:Heap}{g:Array GenState}{d:Drawn}{t:Nat}{os:OsState}{K:Frag}{C fI:aV}
theorem vVe{Q:Fin->aY->Prop}(X:K.In h)(k:IniCls K C fI)(hq:∀h' e,Heap.MadeExcOf h h' e (.ref C) rest->bJ (model prog w) A (call (.ref fI) (.ref e::rest)) (fun r s' =>r=.none /\Q (.done (.ret (.ref e))) s') E ⟨h',g,d,t,os⟩)(hrest:rest.length<=aD):
  bJ (model prog w) A (Builtin.«type.__call__» ⟨.ref C::rest,[]⟩) Q E ⟨h,g,d,t,os⟩:=by
 obtain⟨nm,q,N,bs,bm,hdct,sn,sub,ab,col,dd,k0,k1,k2,k3,k5,ho,ht⟩:=k.ob;have hC:=X _ _ ho;have T:=tail_of_in X ht;have F:=PySem.F.excBase_ValueError;repeat (first|with_reducible refine wpAny_loadPart_at hC ?_|with_reducible refine wpAny_madeBy_exc hC ?_|wp_step)
 refine codeAny_call_builtin_code (Code.quiet_builtin _ F.quiet) (wpAny_check_new_subT F T hC ?_);refine codeAny_exc_new_subT F T hC ?_ hrest;generalize hh1:(h.push {cls:=.type "tuple",data:=.seq rest.toArray}).push {cls:=.ref C,data:=.fields #[.ref h.objs.size,.none,.none,.none,.bool false,.none]}=h1;have keep:∀b o,h.get? b=some o->h1.get? b=some o:=fun b o e=>by rw[←hh1];exact aK _ (aK _ e)
 have hget:h1.get? (h.objs.size+1)=some {cls:=.ref C,data:=.fields #[.ref h.objs.size,.none,.none,.none,.bool false,.none]}:=by rw[←hh1];heap_get
 have htup:h1.get? h.objs.size=some {cls:=.type "tuple",data:=.seq rest.toArray}:=by rw[←hh1];exact aK _ (Heap.get?_push_at rfl rfl)
 have X1:K.In h1:=fun a o e=>keep a o (X a o e)
 have L3:=looks_findIn (M:=model prog w) X1 k.ini;have L4:=bind_fn (M:=model prog w) X1 (.ref (h.objs.size+1)) k.fn;have hcC:(Value.ref C::bm).contains (.ref C)=true:=by simp
 repeat (first|with_reducible refine wpAny_loadPart_at hget ?_|(with_reducible refine wpAny_isSubtype_exc (keep _ _ hC) ?_;rw[hcC])|wp_step)
 refine L3.at ?_
 refine wpAny_holding (aU (L4.at ?_));refine aU (bR (hq h1 (h.objs.size+1) ⟨keep,Heap.get?_none_of_le (Nat.le_succ _),h.objs.size,hget,Heap.get?_none_of_le (aP _),htup⟩) (fun r s' hr=>?_) fun _ _ x=>x);obtain⟨rfl,hQ⟩:=hr;wp_walk;exact hQ
theorem zXt{Q:Value->aY->Prop}(X:K.In h)(k:IniCls K C fI)(hq:∀h' e,Heap.MadeExcOf h h' e (.ref C) rest->bJ (model prog w) (A.under (.builtin "type.__call__" ⟨.ref C::rest,[]⟩)) (call (.ref fI) (.ref e::rest)) (fun r s' =>r=.none /\Q (.ref e) s') E ⟨h',g,d,t,os⟩)(hrest:rest.length<=aD):
  bJ (model prog w) A (call (.ref C) rest) Q E ⟨h,g,d,t,os⟩:=by
 obtain⟨nm,q,N,bs,bm,hdct,sn,sub,ab,col,dd,k0,k1,k2,k3,k5,ho,ht⟩:=k.ob;have hC:=X _ _ ho;have f1:=tc_lookup;have f2:=tc_bind (.ref C);refine wpAny_call (codeAny_of_tree ?_);repeat (any_goals (first|assumption|with_reducible refine wpAny_loadPart_at hC ?_|wp_step))
 refine⟨rfl,?_⟩;exact codeAny_call_builtin_at (Code.quiet_builtin _ (by decide +kernel)) entry_typeCall (wpAny_check_type_call_sub hC (vVe X k hq hrest))
end
noncomputable def ExcR(e:aV)(cls:Value)(t:aV)(dx:Option aV):Heap->Prop:=fun h=>∃o,h.get? e=some o/\o.cls=cls/\o.data=.fields #[.ref t,.none,.none,.none,.bool false,.none]/\o.dict=dx
theorem zV5{prog:bZ}{w:bX}{A:cB}{E:Value->aY->Prop}{s:aY}{env:Env}{K:Frag}{x:Str}{np cpos:Pos}{args:List Expr}{Q:Flow->aY->Prop}(k:IniCls K C fI)(hh:A.handled=none)(hplain:(cZ cpos (aX args env)).any (·.1)=false)(h:bJ (model prog w) A (eval (.Name x np) env) (fun f s₁=>f=.ref C/\bJ (model prog w) A (evalArgs (.ref C) true (cZ cpos (aX args env)) [])
   (fun a s₂=>a.kw=[]/\a.pos.length<=aD/\K.In s₂.heap/\
    ∀h' e,Heap.MadeExcOf s₂.heap h' e (.ref C) a.pos->bJ (model prog w) (A.under (.builtin "type.__call__" ⟨.ref C::a.pos,[]⟩)) (call (.ref fI) (.ref e::a.pos))
     (fun r s' =>r=.none /\K.In s'.heap/\(∃t dx,ExcR e (.ref C) t dx s'.heap)/\E (.ref e) s') E {s₂ with heap:=h' }) E s₁) E s):
  bJ (model prog w) A (exec (.Raise (some (.Call (.Name x np) args [] cpos)) none pos) env) Q E s:=by
 obtain⟨nm,q,N,bs,bm,hdct,sn,sub,ab,col,dd,k0,k1,k2,k3,k5,ho,ht⟩:=k.ob;have F:=PySem.F.excBase_ValueError;rw[arm_exec_Raise];refine aU (wpAny_standAt ?_);unfold raiseStmt;refine aU (aU (bR (wpAny_Call_ofName (Q:=fun v s₃=>K.In s₃.heap/\∃e t dx,v=.ref e/\ExcR e (.ref C) t dx s₃.heap/\E (.ref e) s₃) (bR h (fun f s₁ h₁=>?_) fun _ _ x=>x)) (fun v s₃ h₃=>aU (wpAny_standAt (aT ?_))) fun _ _ x=>x))
 ·obtain⟨rfl,h₁⟩:=h₁;unfold callWith;refine aU (wpAny_holding (bR h₁ (fun a s₂ h₂=>aU (wpAny_standAt ?_)) fun _ _ x=>x));obtain⟨apos,akw⟩:=a;obtain⟨hkw,hlen,X2,h₂⟩:=h₂;obtain rfl:akw=[]:=hkw;obtain⟨hp,g,d,tk,os⟩:=s₂;simp only[hplain];refine aU (wpAny_keeperOf_exc (X2 _ _ ho) ?_);refine aU (zXt X2 k (fun h' e hm=>bR (h₂ h' e hm) (fun r s' hr=>⟨hr.1,aU (wpAny_holding (wpAny_point (aT ?_)))⟩) fun _ _ x=>x) hlen);obtain⟨_,X3,⟨t,dx,hx⟩,hE⟩:=hr;exact⟨X3,e,t,dx,rfl,hx,hE⟩
 ·obtain⟨X3,e,t,dx,rfl,⟨o,he,hc,hd,_⟩,hE⟩:=h₃;have T:=tail_of_in X3 ht;have hC:=X3 _ _ ho;obtain⟨hp,g,d,tk,os⟩:=s₃;have hcB:(Value.ref C::bm).contains (.type "BaseException")=true:=by rw[List.contains_cons,T.hasType F.hasBase,Bool.or_true]
  obtain⟨oc,od,odt,osl⟩:=o;dsimp only at hc hd;subst hc hd;repeat (first|with_reducible refine wpAny_loadPart_at he ?_|with_reducible refine wpAny_loadPart_at hC ?_|(with_reducible refine wpAny_isSubtype_exc hC ?_;rw[hcB])|wp_step)
  exact wpAny_raiseNew_none hh hE
theorem vXt{l:List Value}(self:Value)(T:OwnTail h vErr l):refuseLoop self "__setattr__" l=pure ():=by
 induction T with
 |base=>exact PySem.F.store_ValueError.passes self
 |own _ _ _ _ ih=>rw[refuseLoop_ref];exact ih
section
variable{prog:bZ}{w:bX}{A:cB}{E:Value->aY->Prop}{s:aY}{K:Frag}{C fI x t:aV}{name:Str}{v:Value}
theorem zK1{Q:Unit->aY->Prop}(X:K.In s.heap)(k:IniCls K C fI)(hn:findIn K (.ref C) name=some none)(hx:ExcR x (.ref C) t none s.heap)(h:∀h',ExcR x (.ref C) t (some s.heap.objs.size) h' ->h'.Ns1 s.heap.objs.size (fun y=>if y=name then some v else none)->(∀b o,b≠x->s.heap.get? b=some o->h'.get? b=some o)->h'.objs.size=s.heap.objs.size+1->Q () {s with heap:=h',toks:=s.toks+2}):
  bJ (model prog w) A (setAttr (.ref x) name v) Q E s:=by
 obtain⟨nm,q,N,bs,bm,hdct,sn,sub,ab,col,dd,k0,k1,k2,k3,k5,ho,ht⟩:=k.ob;obtain⟨o,he,hc,hd,hdict⟩:=hx;obtain⟨oc,od,odt,osl⟩:=o;subst hc hd hdict;have SF:=PySem.F.store_object;have I:InstAt s.heap x _ C none:=⟨he,rfl,rfl,trivial⟩
 have T:=tail_of_in X ht;obtain⟨cd,hcl,hmro⟩:∃cd,clsIn K C=some cd/\cd.mro=.ref C::bm:=⟨_,by unfold clsIn;rw[ho],rfl⟩
 have hdd:cd.hasDict=true:=by
  obtain⟨cd',hcd,hdd⟩:=any_some k.hd;grind
 have hm:Looks (model prog w) s.heap (mroOf (.ref C)) (.ref C::bm):=hmro▸(looks_clsIn X hcl).andThen .now;have hobj:(Value.ref C::bm).contains (.type "object")=true:=by rw[List.contains_cons,T.hasType (show vErr.contains (.type "object")=true by decide),Bool.or_true]
 have sub' :Looks (model prog w) s.heap (isInstance (.ref x) (.type "object")) true:=I.type.andThen (looks_mroIn X (by unfold mroIn;rw[hcl,Option.bind_some,hmro];exact congrArg some hobj));refine set_plain X I k.sa ?_
 refine codeAny_call_builtin SF.slot.plain SF.entry (@check_slot (model prog w) _ _ {s with toks:=s.toks+1} "object.__setattr__" "object" "__setattr__" (.ref x) [.str name s.toks,v] [] _ SF.kind SF.split sub' (SF.args (.ref x) (.str name s.toks) v) ?_);rw[osa_eq,refuse_eq];refine aU (aU (I.type.here (s:={s with toks:=s.toks+1}) (aU (hm.here (s:={s with toks:=s.toks+1}) ?_))));rw[refuseLoop_ref,vXt _ T];refine aT (aU (I.type.here (s:={s with toks:=s.toks+1}) (aU ((looks_findIn X hn).here (s:={s with toks:=s.toks+1}) (aU (aT ?_))))));have hxs:x≠s.heap.objs.size:=bK (aL he);have hx₁:=aK (h:=s.heap) {cls:=.type "dict",data:=.dict #[]} he;refine aU (aT (aU ?_));refine aU (wpAny_loadPart he (aU ((looks_clsIn X hcl).here (s:={s with toks:=s.toks+1}) ?_)));rw[hdd];refine aU (wpAny_alloc' (aU (wpAny_update' hx₁ ?_)));generalize hh1:(s.heap.push {cls:=.type "dict",data:=.dict #[]}).update x (fun o=> {o with dict:=some s.heap.objs.size})=h1;have gd:h1.get? s.heap.objs.size=some {cls:=.type "dict",data:=.dict #[]}:=by rw[←hh1];exact(Heap.get?_update_ne _ _ _ _ hxs.symm).trans (Heap.get?_push_at rfl rfl)
 have gx:h1.get? x=some {cls:=.ref C,dict:=some s.heap.objs.size,data:=.fields #[.ref t,.none,.none,.none,.bool false,.none],slots:=osl}:=by rw[←hh1];exact Heap.get?_update_self _ hx₁ rfl
 have gb:∀b o,b≠x->s.heap.get? b=some o->h1.get? b=some o:=fun b o n e=>by rw[←hh1];exact(Heap.get?_update_ne _ _ _ _ n).trans (aK _ e)
 have nd:h1.Ns s.heap.objs.size (fun _=>none):=⟨_,#[],_,gd,rfl,fun e he=>absurd he (by simp),fun _=>rfl⟩
 have sz:h1.objs.size=s.heap.objs.size+1:=by rw[←hh1,Heap.size_update,dH]
 refine aT (a:=some s.heap.objs.size) (aU (aT (aU (wpAny_nsSet1 (s:={s with heap:=h1,toks:=s.toks+1}) (Heap.Ns1.of_empty nd) fun h2 hn2 hs2=>?_))));obtain⟨oD,esD,epD,hoD,hdD,hcD⟩:=hn2.count (Within.cons name v Within.nil);refine aU (wpAny_lookBehind hoD (by rw[hdD];exact pastItsLine_dict (aG hcD (by rw[aZ,List.length_nil,sizeLine_eq];omega))) ?_);refine aT (h h2 ⟨_,(hs2.2 x hxs).trans gx,rfl,rfl,rfl⟩ hn2 (fun b o n e=>(hs2.2 b (bK (aL e))).trans (gb b o n e)) (hs2.1.trans sz))
end
noncomputable def sXF(K:Frag)(C:aV)(ta tv:TE)(f:Str):TS:=fun D σ H=>tv σ H fun y H1=>ta σ H1 fun x H2=>∃e t,x=.ref e/\H2 e=some (.ext (ExcR e (.ref C) t none))/\findIn K (.ref C) f=some none/\
 ∀dx,H2 dx=none->D.nx σ (upd (upd H2 e (.ext (ExcR e (.ref C) t (some dx)))) dx (.xd [(f,y)]))
theorem vXh{P:bZ}{w:bX}{H:Hp}{e t:aV}{cls:Value}{dx:Option aV}(x:ExcR e cls t dx h):zL P w H h e (.ext (ExcR e cls t dx)):=by
 obtain⟨o,a,b,c,d⟩:=x;exact⟨⟨o,a,b,c,d⟩,⟨o,a⟩,fun h1 h2 ⟨o,a,b,c,d⟩ k=>⟨o,k o a,b,c,d⟩⟩
theorem zY1{X:Cx}{o value:Expr}{ta tv:TE}{f:Str}{pos':Pos}(k:IniCls X.K C fI)(ha:PE X o ta)(hv:PE X value tv)(hs:swapsWith value (some (.Attribute o f pos')) pos.line X.env=pure false):
  PS X (.Assign [.Attribute o f pos'] value pos) (sXF X.K C ta tv f):=by
 intro pins s σ H D I h;refine plainObj_wpAny_Assign_Attribute (thn (hv pins s σ H _ I h) fun u s1 ⟨y,H1,I1,ry,q⟩=>thn (ha pins s1 σ H1 _ I1 q) fun ov s2 ⟨x,H2,I2,rx,e,t,ex,he,hf,q2⟩=>?_) hs;subst ex;obtain rfl:ov=Value.ref e:=rx;obtain⟨φ,_,_⟩:=(show zL X.prog X.w H2 s2.heap e _ from I2.hok e _ he)
 refine zK1 I2.kIn k hf φ fun h' x1 n1 k1 sz=>?_
 have fr:H2 s2.heap.objs.size=none:=I2.hok.fresh (aP _);have ne:e≠s2.heap.objs.size:=vU he fr;refine⟨σ,_,?_,q2 _ fr⟩;have I3:=I2.write (x:=e) (e:=e) (o:=.ext (ExcR e (.ref C) t (some s2.heap.objs.size))) (h' :=h') (t' :=s2.toks+2) (by rw[he];exact True.intro) (.inl rfl) k1 (let ⟨o,a,_⟩:=x1;⟨o,a⟩) (vXh x1);have lt:∀b o,s2.heap.get? b=some o->s2.heap.objs.size≠b:=fun b o z=>Nat.ne_of_gt (aL z)
 refine I3.adopt (by rw[qH ne.symm];exact fr) ?_ ?_ (fun y c z=>?_) (fun p hp=>?_) ?_
 ·cases q:X.s₀.heap.get? s2.heap.objs.size with
  |none=>rfl
  | some o=>
    exact absurd (aN (aL q) I2.sz) (cE _)
 ·obtain⟨m,⟨o,_,_,z,_⟩,_⟩:=I2.loc;grind
 ·obtain⟨v,o,z,_⟩:=I2.cell y c z;grind
 ·exact(lt _ _ (I2.pin p hp).1).symm
 ·refine⟨_,n1,fun g=>?_⟩;by_cases z:g=f
  ·subst z;simp only[List.lookup,beq_self_eq_true];exact ry
  ·have z' :(g == f)=false:=by simpa using z
   rw[if_neg z];simp only[List.lookup,z'];exact True.intro
end L2
namespace L2
open PySem PySem.Spec PyProof.Rows
variable{P:bZ}{X:Cx}{H:Hp}{a b f C:aV}{K:aQ}{mg:Str->Option Value}{base:Heap}{N ps:List Str}{qual:Str}{scope:Scope}{cdv:Value}{A:cB}{outer:List Env}{s:aY}{E:XK}{fd:aH}{k:Nat}{sp:Sp}
noncomputable def CXd(P:bZ)(w:bX):CXT:=fun outer H s E e s' =>∃(ea:aV) (cls a0:Value) (H' :Hp) (B:Heap) (ox:Option aV),
 e=.ref ea/\s'.os=s.os/\AllBare s'.gens/\Un (frs outer) [] H H' s.heap s'.heap/\HOk P w H' s'.heap/\Heap.FlyingW B outer ea cls a0 s'.heap/\
 (∀b o,s'.heap.get? b=some o->b∉frs outer->(H' b≠none\/s.heap.get? b≠none)->B.get? b=some o)/\H' ea=none/\s.heap.get? ea=none/\(∃oe,s'.heap.get? ea=some oe/\dxO oe=(ox,some .none))/\E cls ox H'
theorem jWl{w:bX}:jD (CXd P w) X E0:=fun _ _ _ _ _ _ _ h=>by
 obtain⟨_,_,_,_,_,_,_,_,_,_,_,_,_,_,_,_,z⟩:=h;exact z.elim
noncomputable def but1(H:Hp)(a:aV):Hp:=fun b=>if b=a then none else H b
theorem qYh:but1 H a a=none:=if_pos rfl
theorem qKg(h:b≠a):but1 H a b=H b:=if_neg h
theorem vZi{o:HO}(h:but1 H a b=some o):b≠a/\H b=some o:=by
 by_cases z:b=a
 ·subst z;rw[qYh]at h;cases h
 ·exact⟨z,by rwa [qKg z]at h⟩
theorem vXy{w:bX}{pins:List (aV×Obj)}{σ:St}{H1:Hp}{s2:aY}{h' :Heap}{ea t:aV}{cls:Value}{ox:Option aV}(I:Inv (cxOf (CXd P w) P w K mg base N qual scope f cdv A outer s H E) pins σ H1 s2)(kp:∀b o,s2.heap.get? b=some o->h'.get? b=some o)(sea:s.heap.get? ea=none)(hL:ea≠s.heap.objs.size)(hx:ExcR ea cls t ox h')(ne:H1 ea=none\/∃φ,H1 ea=some (.ext φ))(he:E cls ox (but1 H1 ea)):
  (cxOf (CXd P w) P w K mg base N qual scope f cdv A outer s H E).xe (.ref ea) {s2 with heap:=h' }:=by
 obtain⟨oe,hoe,hcls,hdat,hdic⟩:=hx;have fr:(A.deeper (envOfC qual scope s.heap.objs.size f cdv)).frames =some (envOfC qual scope s.heap.objs.size f cdv::outer):=I.ok.frames;have hin:∀env∈(envOfC qual scope s.heap.objs.size f cdv::outer),∀b,env.frame=some b->b∈frs (envOfC qual scope s.heap.objs.size f cdv::outer):=fun env he b hb=>bN.mpr ⟨env,he,hb⟩
 have hfs:∀b,b∈frs (envOfC qual scope s.heap.objs.size f cdv::outer)->b=s.heap.objs.size\/b∈frs outer:=fun b hb=>by
  obtain⟨env,he,hf⟩:=bN.mp hb;rcases aC.mp he with rfl|he
  ·exact .inl (Option.some.inj hf).symm
  ·exact .inr (bN.mpr ⟨env,he,hf⟩)
 have old:∀b o,s.heap.get? b=some o->b≠s.heap.objs.size:=fun b o e=>bK (aL e)
 have nx:∀b,b∉([]:List aV):=fun b=>by simp
 have nfr:∀b,b∈frs (envOfC qual scope s.heap.objs.size f cdv::outer)->b≠ea:=fun b hb z=>by
  rcases hfs b hb with q|q
  ·exact hL (z.symm.trans q)
  ·obtain⟨_,o',ho',_⟩:=I.ok.funs.mem q;rw[z]at ho';have q2:s.heap.get? ea=some o' :=ho';rw[sea]at q2;cases q2
 have k2:∀b o,h'.get? b=some o->b∉frs (envOfC qual scope s.heap.objs.size f cdv::outer)->b≠ea->(PySem.W.hideAll h' (ea::frs (envOfC qual scope s.heap.objs.size f cdv::outer))).get? b=some o:=fun b o e n1 n2=>
  PySem.W.hideAll_get _ e fun z=>(aC.mp z).elim n2 n1
 have ff:h'.FunFrames (PySem.W.hideAll h' (ea::frs (envOfC qual scope s.heap.objs.size f cdv::outer))) (envOfC qual scope s.heap.objs.size f cdv::outer):=
  PySem.W.funFrames_hide (h:=h') (I.stack.of_keeps fun b o e hn=>⟨o,kp b o e,rfl⟩) fun env he b hb=>aI _ (hin env he b hb)
 show bJ _ _ (leaving _ _) _ _ _;refine bR ((vQs _ _).any (wpAny_leaving_firstW (s:={s2 with heap:=h' }) (base:=PySem.W.hideAll h' (ea::frs (envOfC qual scope s.heap.objs.size f cdv::outer))) (a0:=.ref t) fr ff rfl hoe (fun b o q=>PySem.W.of_hideAll _ q) ?_ hdat rfl rfl (E:=fun _ _=>False) (Q:=fun _ s' =>∃h'',s' ={s2 with heap:=h'' }/\Heap.LeftW (PySem.W.hideAll h' (ea::frs (envOfC qual scope s.heap.objs.size f cdv::outer))) (envOfC qual scope s.heap.objs.size f cdv::outer) ea oe.cls (.ref t) h' h'') fun h'' hL' =>⟨h'',rfl,hL'⟩)) (fun _ s' hq=>?_) fun _ _ z=>z.1.elim
 ·cases q:(PySem.W.hideAll h' (ea::frs (envOfC qual scope s.heap.objs.size f cdv::outer))).get? ea with
  |none=>rfl
  |some o=>rw[PySem.W.hideAll_none _ aM]at q;cases q
 obtain⟨⟨h'',rfl,b1,⟨_,_,b2⟩,b3,sm⟩,dk⟩:=hq;have hB:∀b o,s2.heap.get? b=some o->b∉frs outer->b≠s.heap.objs.size->b≠ea->h''.get? b=some o:=fun b o e n1 n2 n3=>b1 b o (k2 b o (kp b o e) (fun z=>(hfs b z).elim n2 n1) n3)
 have ksl:∀b o,s2.heap.get? b=some o->b∈frs outer->∃sl,h''.get? b=some {o with slots:=sl}:=fun b o e hb=>by
  obtain⟨_,o',ho',hd⟩:=I.funs.mem hb;rw[e]at ho';cases ho';exact sm b o (kp b o e) hd
 have trk:∀b u,H1 b=some u->b∉frs outer/\b≠s.heap.objs.size:=fun b u e=>by
  refine⟨fun z=>?_,fun z=>?_⟩
  ·have:=I.stkFree b (bN.mpr (by
    obtain⟨env,he,hf⟩:=bN.mp z;exact⟨env,aI _ he,hf⟩))
   rw[this]at e;cases e
  ·have z' :H1 s.heap.objs.size=none:=I.free;rw[z,z']at e;cases e
 have nea:∀b o,s.heap.get? b=some o->b≠ea:=fun b o e z=>by rw[z,sea]at e;cases e
 have keepE:∀{b:aV} {u:HO},H1 b=some u->(∀φ,u≠ .ext φ)->but1 H1 ea b=some u:=fun {b u} e hn=>by
  rw[qKg]
  ·exact e
  ·rintro rfl;rcases ne with z|⟨φ,z⟩ <;> rw[z]at e <;> cases e
   exact hn φ rfl
 obtain⟨oe',q1,q2⟩:=dk ea oe hoe;refine⟨ea,cls,.ref t,but1 H1 ea,PySem.W.hideAll h' (ea::frs (envOfC qual scope s.heap.objs.size f cdv::outer)),ox,rfl,I.os,I.bare,⟨fun b o e n hb _=>?_,fun b o e n hb _=>?_,fun b o e n hx=>?_,fun b o e hx=>?_,fun b xs e=>keepE (I.base.tups b xs e) fun _ z=>(nomatch z),fun b o u e=>keepE (I.base.frzs b o u e) fun _ z=>(nomatch z),fun b ps e=>?_⟩,
  fun b u e=>?_,⟨b1,PySem.W.hideAll_none _ aM,b2,hcls▸b3⟩,fun b o e nb hh=>?_,qYh,sea,⟨oe',q1,q2.trans (by unfold dxO;rw[hdic,hdat];rfl)⟩,he⟩
 ·exact hB b o (I.base.keep b o e n hb (nx b)) hb (old b o e) (nea b o e)
 ·obtain⟨sl,e1⟩:=I.base.slot b o e n hb (nx b);obtain⟨sl',e2⟩:=ksl b _ e1 hb;exact⟨sl',e2⟩
 ·rw[qKg (nea b o e)];exact I.base.free b o e n hx
 ·obtain⟨o',e1⟩:=I.base.there b o e hx;by_cases hb:b∈frs outer
  ·obtain⟨sl,e2⟩:=ksl b o' e1 hb;exact⟨_,e2⟩
  ·exact⟨o',hB b o' e1 hb (old b o e) (nea b o e)⟩
 ·obtain⟨more,z⟩:=I.base.tbls b ps e;exact⟨more,keepE z fun _ z=>(nomatch z)⟩
 ·obtain⟨n0,e⟩:=vZi e;refine(I.hok b u e).stay (fun c v hc q=>?_) (fun c q=>keepE q fun _ z=>(nomatch z)) fun c xs q=>keepE q fun _ z=>(nomatch z)
  rcases hc with z|z
  ·subst z;exact hB c v q (trk c u e).1 (trk c u e).2 n0
  ·refine hB c v q (trk c _ z).1 (trk c _ z).2 ?_
   rintro rfl;rcases ne with y|⟨φ,y⟩ <;> rw[y]at z <;> cases z
 ·have e2:(∃o2,s2.heap.get? b=some o2)/\b≠s.heap.objs.size/\b≠ea:=by
   rcases hh with z|z
   ·cases q:but1 H1 ea b with
    |none=>exact absurd q z
    | some u=>
      obtain⟨n0,q⟩:=vZi q;exact⟨I.hok.there q,(trk b u q).2,n0⟩
   ·cases q:s.heap.get? b with
    |none=>exact absurd q z
    |some o1=>exact⟨I.base.there b o1 q (nx b),old b o1 q,nea b o1 q⟩
  obtain⟨⟨o2,e2⟩,nL,n3⟩:=e2;have e3:=hB b o2 e2 nb nL n3;rw[e]at e3;cases e3;exact k2 b _ (kp b _ e2) (fun z=>(hfs b z).elim nL nb) n3
theorem xL{w:bX}:
  jD (CXd P w) (cxOf (CXd P w) P w K mg base N qual scope f cdv A outer s H E) E:=by
 intro pins σ H1 s1 e s' I hcx;obtain⟨ea,cls,a0,H2,B,ox,rfl,hos,bare,un,hok,fl,cov,hea,sea,⟨oe,hoe,hdic⟩,he⟩:=hcx;have fr:(A.deeper (envOfC qual scope s.heap.objs.size f cdv)).frames =some (envOfC qual scope s.heap.objs.size f cdv::outer):=I.ok.frames;have hfs:∀b,b∈frs (envOfC qual scope s.heap.objs.size f cdv::outer)->b=s.heap.objs.size\/b∈frs outer:=fun b hb=>by
  obtain⟨env,he,hf⟩:=bN.mp hb;rcases aC.mp he with rfl|he
  ·exact .inl (Option.some.inj hf).symm
  ·exact .inr (bN.mpr ⟨env,he,hf⟩)
 have hof:∀b,b∈frs outer->b∈frs (envOfC qual scope s.heap.objs.size f cdv::outer):=fun b hb=>by
  obtain⟨env,he,hf⟩:=bN.mp hb;exact bN.mpr ⟨env,aI _ he,hf⟩
 have old:∀b o,s.heap.get? b=some o->b≠s.heap.objs.size:=fun b o e=>bK (aL e)
 have nx:∀b,b∉([]:List aV):=fun b=>by simp
 have u1:Un (frs outer) [] H H1 s.heap s1.heap:=I.base;have u2:Un (frs (envOfC qual scope s.heap.objs.size f cdv::outer)) [] H1 H2 s1.heap s'.heap:=un;refine bR ((vQs _ _).any (wpAny_leaves_onW fr rfl fl (E:=fun _ _=>False) (Q:=fun _ t' =>∃h'',t' ={s' with heap:=h'' }/\Heap.FlyingW B outer ea cls a0 h'' /\s'.heap.UpToSlots h'') fun h'' fl2 sm=>⟨h'',rfl,fl2,sm⟩)) (fun _ t' hq=>?_) fun _ _ z=>z.1.elim
 obtain⟨⟨h'',rfl,fl2,sm⟩,dk⟩:=hq;obtain⟨oe',q1,q2⟩:=dk ea oe hoe;have k2:∀b o,s'.heap.get? b=some o->b∉frs (envOfC qual scope s.heap.objs.size f cdv::outer)->(H2 b≠none\/s1.heap.get? b≠none)->h''.get? b=some o:=fun b o e n1 n2=>fl2.1 b o (cov b o e n1 n2)
 have slt:∀b o,s1.heap.get? b=some o->b∈frs (envOfC qual scope s.heap.objs.size f cdv::outer)->∃sl,h''.get? b=some {o with slots:=sl}:=fun b o e hb=>by
  obtain⟨_,o',ho',hd⟩:=I.stack.mem hb;rw[e]at ho';cases ho';obtain⟨sl,e1⟩:=u2.slot b o e (I.stkFree b hb) hb (nx b);obtain⟨sl',e2⟩:=sm b _ e1 hd;grind
 have fr2:∀b u,H2 b=some u->b∉frs (envOfC qual scope s.heap.objs.size f cdv::outer):=fun b u e hb=>by
  obtain⟨_,o',ho',hd⟩:=I.stack.mem hb;rw[u2.free b o' ho' (I.stkFree b hb) (nx b)]at e;cases e
 have nof:∀b o,s.heap.get? b=some o->b∉frs outer->b∉frs (envOfC qual scope s.heap.objs.size f cdv::outer):=fun b o e n z=>(hfs b z).elim (old b o e) n
 have thr:∀b o,s.heap.get? b=some o->∃o',h''.get? b=some o' :=fun b o e=>by
  obtain⟨o1,e1⟩:=u1.there b o e (nx b);by_cases hb:b∈frs (envOfC qual scope s.heap.objs.size f cdv::outer)
  ·grind
  ·obtain⟨o2,e2⟩:=u2.there b o1 e1 (nx b);grind
 refine⟨ea,cls,a0,H2,B,ox,rfl,hos.trans I.os,bare,⟨fun b o e n hb _=>?_,fun b o e n hb _=>?_,fun b o e n _=>?_,fun b o e _=>thr b o e,fun b xs e=>u2.tups b xs (u1.tups b xs e),fun b o u e=>u2.frzs b o u (u1.frzs b o u e),fun b ps e=>?_⟩,fun b u e=>?_,fl2,fun b o e nb hh=>?_,hea,?_,⟨oe',q1,q2.trans hdic⟩,he⟩
 ·have e1:=u1.keep b o e n hb (nx b);have n1:=u1.free b o e n (nx b);have hb2:=nof b o e hb;exact k2 b o (u2.keep b o e1 n1 hb2 (nx b)) hb2 (.inr (by rw[e1];simp))
 ·obtain⟨sl,e1⟩:=u1.slot b o e n hb (nx b);grind
 ·obtain⟨o1,e1⟩:=u1.there b o e (nx b);exact u2.free b o1 e1 (u1.free b o e n (nx b)) (nx b)
 ·obtain⟨m1,e1⟩:=u1.tbls b ps e;obtain⟨m2,e2⟩:=u2.tbls b _ e1;grind
 ·refine(hok b u e).stay (fun c v hc q=>?_) (fun _ q=>q) fun _ _ q=>q
  grind
 ·have st:b∉frs (envOfC qual scope s.heap.objs.size f cdv::outer)/\(H2 b≠none\/s1.heap.get? b≠none)/\∃o2,s'.heap.get? b=some o2:=by
   rcases hh with z|z
   ·cases q:H2 b with
    |none=>grind
    |some u=>exact⟨fr2 b u q,.inl (by simp),hok.there q⟩
   ·cases q:s.heap.get? b with
    |none=>grind
    | some o1=>
      obtain⟨o3,e3⟩:=u1.there b o1 q (nx b);exact⟨nof b o1 q nb,.inr (by rw[e3];simp),u2.there b o3 e3 (nx b)⟩
  obtain⟨n1,n2,o2,e2⟩:=st;have e3:=k2 b o2 e2 n1 n2;rw[e]at e3;cases e3;exact cov b _ e2 n1 n2
 ·cases q:s.heap.get? ea with
  |none=>rfl
  | some o=>
    obtain⟨o',e1⟩:=u1.there ea o q (nx ea);grind
noncomputable def qKh(X:Cx)(C:aV)(R:aV->aV->Hp->Prop):Prop:=
 ∀(pins:List (aV×Obj)) (σ:St) (H:Hp) (s:aY) (ea t dx:aV),Inv X pins σ H s->H ea=some (.ext (ExcR ea (.ref C) t (some dx)))->X.s₀.heap.get? ea=none->R ea dx H->X.xe (.ref ea) s
theorem vYw{w:bX}:
  qKh (cxOf (CXd P w) P w K mg base N qual scope f cdv A outer s H E) C (fun ea dx H1=>E (.ref C) (some dx) (but1 H1 ea)):=by
 intro pins σ H1 s2 ea t dx I hx sea he;obtain⟨φ,_,_⟩:=(show zL P w H1 s2.heap ea _ from I.hok ea _ hx)
 refine vXy I (t:=t) (h' :=s2.heap) (fun _ _ e=>e) sea ?_ φ (.inr ⟨_,hx⟩) he;rintro rfl;have z:H1 s.heap.objs.size=none:=I.free;grind
theorem Fun.okD{w:bX}{x:Str}{st:Stmt}(F:Fun K x qual st f fd)(S:FnScope N ps (qW st))(len:∀vs H Q E,sp vs H Q E->vs.length=ps.length)(hbody:∀(cdv:Value) (A:cB) (outer:List Env) (s:aY) (H:Hp) (vs:List V) (Q:VK) (E:XK),Room k (A.deeper (envOfC qual (qW st) s.heap.objs.size f cdv))->sp vs H Q E->
   ∃t,PSs (cxOf (CXd P w) P w K mg base N qual (qW st) f cdv A outer s H E) (z6 st) t/\t {nx:=fun _ H' =>Q .non H',rt:=Q} (start N vs) H):FnOk P w K mg base (CXd P w) (k+1) f fd ps sp:=by
 obtain⟨oc,od,kV,doc,pm,an,cdv,ct,osl,rfl,lk,hcd⟩:=F.ex;exact jXa lk hcd S len fun A outer s H vs Q E hr hsp=>hbody cdv A outer s H vs Q E hr hsp
noncomputable def zYg(C:aV)(sp:Sp)(te:TE)(R:aV->aV->Hp->Prop):TS:=fun _ σ H=>te σ H fun v H1=>([v]:List V).length =1/\∀ea t,H1 ea=none->
 sp (.ref ea:: [v]) (upd H1 ea (.ext (ExcR ea (.ref C) t none))) (fun r H2=>r=.non /\∃dx,H2 ea=some (.ext (ExcR ea (.ref C) t (some dx)))/\R ea dx H2) E0
theorem zVp{fI:aV}{x:Str}{e:Expr}{te:TE}{R:aV->aV->Hp->Prop}{np cpos pos:Pos}(c:IniCls X.K C fI)(F:FnOk X.prog X.w X.K X.mg X.base (CXd X.prog X.w) k fI fd ps sp)(hr:Room (k+1) X.A)(hb:j9 X.K fd ps [])(hg:Gl X x)(hm:X.mg x=some (.ref C))(hcalm:X.calm=true)(hex:X.ex=[])(he:PE X e te)(ht:qKh X C R)(hs:aX [e] X.env=[(false,eval e X.env)]:=by rfl)(hdb:(x == ("__debug__":Str))=false:=by decide):
  PS X (.Raise (some (.Call (.Name x np) [e] [] cpos)) none pos) (zYg C sp te R):=by
 intro pins s σ H D I h;refine zV5 c (I.ok.hd hcalm) (by rw[hs];rfl) (qJk I hg hm ⟨rfl,?_⟩ hdb);have hA:PA X [e] (vVi te tNil):=qVl he qWe hs;have h1:=hA cpos pins s σ H (fun vs H1=>vs.length=1/\∀ea t,H1 ea=none->sp (.ref ea::vs) (upd H1 ea (.ext (ExcR ea (.ref C) t none))) (fun r H2=>r=.non /\∃dx,H2 ea=some (.ext (ExcR ea (.ref C) t (some dx)))/\R ea dx H2) E0) I h;rw[hs]at h1⊢;refine Calls.evalArgs_plain (bR h1 (fun us s2 h2=>?_) fun _ _ y=>y);obtain⟨ws,H1,I1,rv,hl1,q1⟩:=h2;obtain⟨v,rfl⟩:∃v,ws=[v]:=by
  cases ws with
  |nil=>cases hl1
  |cons v r=>grind
 obtain⟨u,rfl,ru⟩:=yI rv;refine⟨rfl,by show 1<=aD;decide,I1.kIn,fun h' ea hm' =>?_⟩;obtain⟨t,hea,_,_⟩:=hm'.there;have hn:H1 ea=none:=I1.hok.untracked hm'.new;have I2:Inv X pins σ H1 {s2 with heap:=h' }:=I1.kept hm'.keeps;have ne1:∀b o,s2.heap.get? b=some o->b≠ea:=fun b o e z=>by rw[z,hm'.new]at e;cases e
 have sea:X.s₀.heap.get? ea=none:=by
  cases q:X.s₀.heap.get? ea with
  |none=>rfl
  | some o=>
    obtain⟨o',z⟩:=I1.base.there ea o q (by rw[hex];simp);grind
 have I3:Inv X pins σ (upd H1 ea (.ext (ExcR ea (.ref C) t none))) {s2 with heap:=h' }:=by
  refine I2.adopt hn sea ?_ (fun y cc e=>?_) (fun p hp=>?_) (vXh ⟨_,hea,rfl,rfl,rfl⟩)
  ·obtain⟨m,⟨o,_,_,z,_⟩,_⟩:=I1.loc;grind
  ·obtain⟨v,o,z,_⟩:=I1.cell y cc e;grind
  ·exact ne1 _ _ (I1.pin p hp).1
 have hsp:=q1 ea t hn;have r2:Vals [V.ref ea,v] [Value.ref ea,u]:=.cons rfl rv;have hl:([Value.ref ea,u] ++ []).length =ps.length:=by rw[bU,←r2.length];exact F.len _ _ _ _ hsp
 have hbd:=hb {s2 with heap:=h' } [.ref ea,u] I3.kIn hl;refine wpAny_call (codeAny_mono (F.run _ X.stack _ _ ⟨[.ref ea,u],[]⟩ [.ref ea,u] _ _ _ (hr.make C [u] []) (I3.env0.make C [u] []) hbd r2 hsp) fun r s' hq=>?_);cases r with
 |error e=>exact(jWl pins σ _ _ e s' I3 hq:_)
 | ok fl=>
   cases fl with
   | ret u' =>
     obtain⟨v',H',I4,rv',ev,dx,hx,hR⟩:=I3.after hq;subst ev;obtain⟨φ,_,_⟩:=(show zL X.prog X.w H' s'.heap ea _ from I4.hok ea _ hx)
     exact⟨rv',I4.kIn,⟨t,_,φ⟩,ht pins σ H' s' ea t dx I4 hx sea hR⟩
   |next=>exact False.elim hq
   |brk=>exact False.elim hq
   |cont=>exact False.elim hq
noncomputable def ExcD(p:aV)(cls:Value)(ox:Option aV):Heap->Prop:=fun h=>∃o,h.get? p=some o/\o.cls=cls/\dxO o=(ox,some .none)/\∃vs,o.data=.fields vs
end L2
namespace DX
open PySem L2 PyProof.Rows
variable{H H' F':Hp}{v:V}{vs us:List V}{i j C n:Nat}{c:Nat->aV}{Z B' W' Y' B W:Fp}{α β:Type}{π ls:List Nat}{env env' args:Ev}{σ σ' τ:L2.St}{y:Option HO}{io:Bool}{Q:VK}{E:XK}{X:Cx}{e:Expr}{h:Hn}{op:Operator}{t':TT}{r':R2}{op':CmpOp}{N ps:List Str}{g:SG}{it:SI}{pos:Pos}{P:bZ}{mg:Str->Option Value}{base:Heap}{qual:Str}{fd:aH}{as:List Am}{pl:Sem Bool}{q:Nat×List Str×List O}{CX:CXT}{fI:aV}
inductive Kd where
 |lst|tup|dct (ks:List Key)|dcT (ks:List (List Key))|obj (C:Nat) (fs:List Str)|exc (C:Nat) (fs:List Str)
inductive D where
 |non|int (i:Int)|str (s:Str)|bl (b:Bool)|fn (j:Nat)|nd (k:Kd) (ds:List D)
inductive O where
 |fz (d:D)|ow (k:Kd) (os:List O)
noncomputable abbrev D.tup(ds:List D):D:=.nd .tup ds
noncomputable abbrev Fp:=aV->Nat
noncomputable def one(p:aV):Fp:=fun a=>if a=p then 1 else 0
theorem wV{p:aV}:one p p=1:=if_pos rfl
theorem xW{p a:aV}(h:a≠p):one p a=0:=if_neg h
noncomputable def hide(T:Fp)(H:Hp):Hp:=fun a=>if T a=0 then H a else none
theorem zG{T:Fp}{a:aV}(h:T a=0):hide T H a=H a:=if_pos h
theorem qW9{T:Fp}{a:aV}(h:T a≠0):hide T H a=none:=if_neg h
theorem yG{T:Fp}{a:aV}{o:HO}(h:hide T H a=some o):T a=0/\H a=some o:=by
 by_cases z:T a=0
 ·rw[zG z]at h;exact⟨z,h⟩
 ·rw[qW9 z]at h;cases h
theorem hide_sub{T:Fp}:Same (hide T H) H:=fun _ _ h=>(yG h).2
theorem zY{T T' :Fp}(h:∀a o,T a=0->H a=some o->T' a=0/\H' a=some o):Same (hide T H) (hide T' H'):=fun a o e=>by
 obtain⟨z,q⟩:=yG e;obtain⟨z',q'⟩:=h a o z q;rw[zG z'];exact q'
theorem jK{T T' :Fp}(h:∀a,T a=0->T' a=0):Same (hide T H) (hide T' H):=zY fun a _ z q=>⟨h a z,q⟩
theorem zT{T T' :Fp}(h:∀a,T a=0↔T' a=0):hide T H=hide T' H:=by
 funext a;by_cases z:T a=0
 ·rw[zG z,zG ((h a).mp z)]
 ·rw[qW9 z,qW9 fun z' =>z ((h a).mpr z')]
theorem vQl{T:Fp}{p:aV}{o:HO}(h:T p≠0):hide T (upd H p o)=hide T H:=by
 funext a;by_cases z:T a=0
 ·rw[zG z,zG z,qH fun q=>h (by rw[←q];exact z)]
 ·rw[qW9 z,qW9 z]
noncomputable def Hb:HO->Prop
 |.tup _=>False
 |.frz _ _=>False
 |.tbl _=>False
 |.tab _ _ _=>False
 |.xd _=>False
 |_=>True
theorem yS{K:aQ}{a:aV}{xs:List V}(e:Same H H')(h:SqL K H a xs):SqL K H' a xs:=by
 rcases h with(h|⟨o,h⟩)|h
 ·exact .inl (.inl (e _ _ h))
 ·exact .inl (.inr ⟨o,e _ _ h⟩)
 ·exact .inr h
noncomputable def XdAt(F:Hp)(fs:List Str)(vs:List V):Option aV->Prop
 |none=>fs=[]
 |some dx=>F dx=some (.xd (fs.zip vs))
theorem zYt{F:Hp}(e:Same F F'){p:aV}{u:HO}(h:Rd F p u):Rd F' p u:=h.elim (fun x=>.inl (e _ _ x)) fun⟨o,x⟩=>.inr ⟨o,e _ _ x⟩
noncomputable def NdAt(K:aQ)(c:Nat->aV)(F:Hp)(p:aV):Kd->List V->Prop
 |.lst,vs=>SqL K F p vs
 |.tup,vs=>SqT K F p vs
 |.dct ks,vs=>ks.length=vs.length/\ks.Nodup/\Rd F p (.dK (ks.zip vs))
 |.dcT ks,vs=>ks.length=vs.length/\ks.Nodup/\F p=some (.dT (ks.zip vs))
 |.obj C fs,vs=>fs.length=vs.length/\∃dx,F p=some (.ins (c C) dx (fs.zip vs))
 |.exc C fs,vs=>fs.length=vs.length/\∃ox,F p=some (.ext (ExcD p (.ref (c C)) ox))/\XdAt F fs vs ox
noncomputable def OwAt(c:Nat->aV)(H:Hp)(p:aV):Kd->List V->Prop
 |.lst,vs=>H p=some (.lst vs)
 |.tup,_=>False
 |.dct ks,vs=>ks.length=vs.length/\ks.Nodup/\H p=some (.dK (ks.zip vs))
 |.dcT ks,vs=>ks.length=vs.length/\ks.Nodup/\H p=some (.dT (ks.zip vs))
 |.obj C fs,vs=>fs.length=vs.length/\∃dx,H p=some (.ins (c C) dx (fs.zip vs))
 |.exc _ _,_=>False
section
variable{K:aQ}{c:Nat->aV}{F F' H H' :Hp}{p:aV}{k:Kd}{vs:List V}
theorem NdAt.same(e:Same F F')(h:NdAt K c F p k vs):NdAt K c F' p k vs:=by
 cases k with
 |lst=>exact yS e h
 |tup=>exact e.tup h
 |dct ks=>exact⟨h.1,h.2.1,zYt e h.2.2⟩
 |dcT ks=>exact⟨h.1,h.2.1,e _ _ h.2.2⟩
 |obj C fs=>obtain⟨a,dx,b⟩:=h;exact⟨a,dx,e _ _ b⟩
 | exc C fs=>
   obtain⟨a,ox,b,d⟩:=h;refine⟨a,ox,e _ _ b,?_⟩;cases ox with
   |none=>exact d
   |some dx=>exact e _ _ d
theorem OwAt.nd(h:OwAt c H p k vs)(e:F p=H p):NdAt K c F p k vs:=by
 cases k with
 |lst=>exact SqL.of (e.trans h)
 |tup=>exact h.elim
 |dct ks=>exact⟨h.1,h.2.1,.inl (e.trans h.2.2)⟩
 |dcT ks=>exact⟨h.1,h.2.1,e.trans h.2.2⟩
 |obj C fs=>obtain⟨a,dx,b⟩:=h;exact⟨a,dx,e.trans b⟩
 |exc C fs=>exact h.elim
theorem OwAt.eq(h:OwAt c H p k vs)(e:H' p=H p):OwAt c H' p k vs:=by
 cases k with
 |lst=>exact e.trans h
 |tup=>exact h.elim
 |dct ks=>exact⟨h.1,h.2.1,e.trans h.2.2⟩
 |dcT ks=>exact⟨h.1,h.2.1,e.trans h.2.2⟩
 |obj C fs=>obtain⟨a,dx,b⟩:=h;exact⟨a,dx,e.trans b⟩
 |exc C fs=>exact h.elim
theorem OwAt.hb(h:OwAt c H p k vs):∃o,H p=some o/\Hb o:=by
 cases k with
 |lst=>exact⟨_,h,trivial⟩
 |tup=>exact h.elim
 |dct ks=>exact⟨_,h.2.2,trivial⟩
 |dcT ks=>exact⟨_,h.2.2,trivial⟩
 |obj C fs=>obtain⟨a,dx,b⟩:=h;exact⟨_,b,trivial⟩
 |exc C fs=>exact h.elim
end
inductive DAt(K:aQ)(c:Nat->aV)(F:Hp):V->D->Prop
 |non:DAt K c F .non .non
 |int (i:Int):DAt K c F (.int i) (.int i)
 |str (s:Str):DAt K c F (.str s) (.str s)
 |bl (b:Bool):DAt K c F (.bl b) (.bl b)
 |fn (j:Nat):DAt K c F (.ref (c j)) (.fn j)
 |nd {p:aV} {k:Kd} {vs:List V} {ds:List D} (h:NdAt K c F p k vs) (len:vs.length=ds.length) (r:∀(i:Nat) (v:V) (d:D),vs[i]?=some v->ds[i]?=some d->DAt K c F v d):DAt K c F (.ref p) (.nd k ds)
structure DsAt(K:aQ)(c:Nat->aV)(F:Hp)(vs:List V)(ds:List D):Prop where
 len:vs.length=ds.length
 r:∀(i:Nat) (v:V) (d:D),vs[i]?=some v->ds[i]?=some d->DAt K c F v d
section
variable{K:aQ}{c:Nat->aV}{F F' :Hp}
theorem DAt.un{k:Kd}{ds:List D}(h:DAt K c F v (.nd k ds)):∃p vs,v=.ref p/\NdAt K c F p k vs/\DsAt K c F vs ds:=by
 cases h with
 |nd h l r=>exact⟨_,_,rfl,h,l,r⟩
theorem DAt.of{p:aV}{k:Kd}{ds:List D}(h:NdAt K c F p k vs)(r:DsAt K c F vs ds):DAt K c F (.ref p) (.nd k ds):=.nd h r.len r.r
theorem DAt.same(e:Same F F'){d:D}(h:DAt K c F v d):DAt K c F' v d:=by
 induction h with
 |non=>exact .non
 |int i=>exact .int i
 |str i=>exact .str i
 |bl i=>exact .bl i
 |fn i=>exact .fn i
 |nd h l r ih=>exact .nd (h.same e) l ih
theorem DsAt.same(e:Same F F'){ds:List D}(h:DsAt K c F vs ds):DsAt K c F' vs ds:=⟨h.len,fun i v d a b=>(h.r i v d a b).same e⟩
theorem DsAt.nil:DsAt K c F [] []:=⟨rfl,fun i v d h _=>by simp at h⟩
theorem DsAt.cons{d:D}{ds:List D}(h:DAt K c F v d)(k:DsAt K c F vs ds):DsAt K c F (v::vs) (d::ds):=by
 refine⟨by rw[aZ,aZ,k.len],fun i u x a b=>?_⟩;cases i with
 |zero=>grind
 |succ i=>exact k.r i u x (by simpa using a) (by simpa using b)
theorem DsAt.un{d:D}{ds:List D}(h:DsAt K c F vs (d::ds)):∃v r,vs=v::r/\DAt K c F v d/\DsAt K c F r ds:=by
 cases vs with
 |nil=>cases h.len
 |cons v r=>exact⟨v,r,rfl,h.r 0 v d rfl rfl,Nat.succ.inj h.len,fun i u x a b=>h.r (i+1) u x (by simpa using a) (by simpa using b)⟩
theorem DsAt.un0(h:DsAt K c F vs []):vs=[]:=dY h.len
theorem DsAt.get{ds:List D}{d:D}(h:DsAt K c F vs ds)(e:ds[i]?=some d):∃v,vs[i]?=some v/\DAt K c F v d:=by
 have hi:i<vs.length:=by rw[h.len];exact(aW.mp e).1
 exact⟨vs[i],aF hi,h.r i _ d (aF hi) e⟩
theorem DsAt.append{ws:List V}{ds es:List D}(h:DsAt K c F vs ds)(k:DsAt K c F ws es):DsAt K c F (vs ++ ws) (ds ++ es):=by
 refine⟨by rw[aJ,aJ,h.len,k.len],fun i v d a b=>?_⟩;by_cases hi:i<vs.length
 ·rw [List.getElem?_append_left hi] at a;rw[List.getElem?_append_left (by rw[←h.len];exact hi)]at b;exact h.r i v d a b
 ·rw [cL (by omega)] at a;rw[cL (by rw[←h.len];omega),←h.len]at b;exact k.r _ v d a b
theorem DsAt.take{ds:List D}(n:Nat)(h:DsAt K c F vs ds):DsAt K c F (vs.take n) (ds.take n):=by
 refine⟨by rw[cY,cY,h.len],fun i v d a b=>?_⟩;rw[List.getElem?_take]at a b;split at a
 ·rename_i z;rw[if_pos z]at b;exact h.r i v d a b
 ·cases a
theorem DsAt.drop{ds:List D}(n:Nat)(h:DsAt K c F vs ds):DsAt K c F (vs.drop n) (ds.drop n):=by
 refine⟨by rw[bP,bP,h.len],fun i v d a b=>?_⟩;rw[List.getElem?_drop]at a b;exact h.r _ v d a b
end
noncomputable def isT:Kd->Bool
 |.tup =>true
 |_=>false
theorem qKd{k:Kd}(h:isT k=true):k=.tup :=by
 cases k <;> first|rfl|cases h
noncomputable def oneK(k:Kd)(p:aV):Fp:=cond (isT k) (fun _=>0) (one p)
theorem qX1{k:Kd}{p:aV}(h:isT k=false):oneK k p=one p:=by unfold oneK;rw[h];rfl
theorem jZ1{p:aV}:oneK .tup p=fun _=>0:=rfl
noncomputable def TwAt(c:Nat->aV)(F H:Hp)(p:aV):Kd->List V->Prop
 |.tup,vs=>F p=some (.tup vs)
 |k,vs=>OwAt c H p k vs
theorem OwAt.nt{p:aV}{k:Kd}(h:OwAt c H p k vs):isT k=false:=by
 cases k <;> first|rfl|exact h.elim
theorem TwAt.ow{F:Hp}{p:aV}{k:Kd}(h:isT k=false):TwAt c F H p k vs↔OwAt c H p k vs:=by
 cases k <;> first|exact Iff.rfl|cases h
theorem TwAt.keep{F:Hp}{p:aV}{k:Kd}(t:∀p vs,F p=some (.tup vs)->F' p=some (.tup vs))(q:isT k=false->H' p=H p)(h:TwAt c F H p k vs):TwAt c F' H' p k vs:=by
 cases hk:isT k with
 |true=>cases qKd hk;exact t _ _ h
 |false=>rw[TwAt.ow hk]at h⊢;exact h.eq (q hk)
theorem TwAt.nd{K:aQ}{F:Hp}{p:aV}{k:Kd}(sm:Same F F')(q:isT k=false->F' p=H p)(h:TwAt c F H p k vs):NdAt K c F' p k vs:=by
 cases hk:isT k with
 |true=>cases qKd hk;exact .inl (.inl (sm _ _ h))
 |false=>rw[TwAt.ow hk]at h;exact h.nd (q hk)
mutual
def OAt(K:aQ)(c:Nat->aV)(F H:Hp):O->V->Fp->Prop
 |.fz d,v,Z=>DAt K c F v d/\∀a,Z a=0
 |.ow k os,v,Z=>∃p vs Z',v=.ref p/\TwAt c F H p k vs/\OsAt K c F H os vs Z' /\∀a,Z a=oneK k p a+Z' a
def OsAt(K:aQ)(c:Nat->aV)(F H:Hp):List O->List V->Fp->Prop
 |[],vs,Z=>vs=[]/\∀a,Z a=0
 |o::os,vs,Z=>∃v r Z1 Z2,vs=v::r/\OAt K c F H o v Z1/\OsAt K c F H os r Z2/\∀a,Z a=Z1 a+Z2 a
end
mutual
def fzO:O->D
 |.fz d=>d
 |.ow k os=>.nd k (fzOs os)
def fzOs:List O->List D
 |[]=> []
 |o::os=>fzO o::fzOs os
end
theorem vQm:∀os:List O,fzOs os=os.map fzO
 |[]=>by simp[fzOs]
 |o::os=>by rw[fzOs,bD,vQm os]
section
variable{K:aQ}{c:Nat->aV}{F F' H H' :Hp}{v:V}{vs:List V}{Z Z' :Fp}{d:D}{k:Kd}{os:List O}{o:O}
theorem OAt.fz:OAt K c F H (.fz d) v Z↔DAt K c F v d/\∀a,Z a=0:=by rw[OAt]
theorem OAt.ow0:OAt K c F H (.ow k os) v Z↔∃p vs Z',v=.ref p/\TwAt c F H p k vs/\OsAt K c F H os vs Z' /\∀a,Z a=oneK k p a+Z' a:=by rw[OAt]
theorem OAt.ow(hk:isT k=false):OAt K c F H (.ow k os) v Z↔∃p vs Z',v=.ref p/\OwAt c H p k vs/\OsAt K c F H os vs Z' /\∀a,Z a=one p a+Z' a:=by
 rw[OAt.ow0];constructor
 ·rintro⟨p,vs,Z',a,b,r,z⟩;rw[qX1 hk]at z;exact⟨p,vs,Z',a,(TwAt.ow hk).mp b,r,z⟩
 ·rintro⟨p,vs,Z',a,b,r,z⟩;refine⟨p,vs,Z',a,(TwAt.ow hk).mpr b,r,?_⟩;rw[qX1 hk];exact z
theorem OsAt.nil:OsAt K c F H [] vs Z↔vs=[]/\∀a,Z a=0:=by rw[OsAt]
theorem OsAt.cons:OsAt K c F H (o::os) vs Z↔∃v r Z1 Z2,vs=v::r/\OAt K c F H o v Z1/\OsAt K c F H os r Z2/\∀a,Z a=Z1 a+Z2 a:=by rw[OsAt]
mutual
theorem OAt.keepM(e:∀v d,DAt K c F v d->DAt K c F' v d)(t:∀p vs,F p=some (.tup vs)->F' p=some (.tup vs)):∀{o:O} {v:V} {Z:Fp},(∀a,Z a≠0->H' a=H a)->OAt K c F H o v Z->OAt K c F' H' o v Z
 | .fz d,v,Z,_,h=>by
   rw[OAt.fz]at h⊢;exact⟨e _ _ h.1,h.2⟩
 | .ow k os,v,Z,q,h=>by
   rw[OAt.ow0]at h⊢;obtain⟨p,vs,Z',a,b,c,d⟩:=h;exact⟨p,vs,Z',a,b.keep t fun hk=>q p (by rw[d,qX1 hk,wV];omega),OsAt.keepM e t (fun a z=>q a (by rw[d];omega)) c,d⟩
theorem OsAt.keepM(e:∀v d,DAt K c F v d->DAt K c F' v d)(t:∀p vs,F p=some (.tup vs)->F' p=some (.tup vs)):∀{os:List O} {vs:List V} {Z:Fp},(∀a,Z a≠0->H' a=H a)->OsAt K c F H os vs Z->OsAt K c F' H' os vs Z
 |[],vs,Z,_,h=>by rw[OsAt.nil]at h⊢;exact h
 | o::os,vs,Z,q,h=>by
   rw[OsAt.cons]at h⊢;obtain⟨v,r,Z1,Z2,a,b,c,d⟩:=h;exact⟨v,r,Z1,Z2,a,OAt.keepM e t (fun a z=>q a (by rw[d];omega)) b,OsAt.keepM e t (fun a z=>q a (by rw[d];omega)) c,d⟩
end
theorem OAt.keep(e:Same F F'){o:O}(q:∀a,Z a≠0->H' a=H a)(h:OAt K c F H o v Z):OAt K c F' H' o v Z:=OAt.keepM (fun _ _ h=>h.same e) (fun _ _ z=>e _ _ z) q h
theorem OsAt.keep(e:Same F F'){os:List O}(q:∀a,Z a≠0->H' a=H a)(h:OsAt K c F H os vs Z):OsAt K c F' H' os vs Z:=OsAt.keepM (fun _ _ h=>h.same e) (fun _ _ z=>e _ _ z) q h
mutual
theorem OAt.dat(e:Same F F'):∀{o:O} {v:V} {Z:Fp},(∀a,Z a≠0->F' a=H a)->OAt K c F H o v Z->DAt K c F' v (fzO o)
 | .fz d,v,Z,_,h=>by
   rw[OAt.fz]at h;rw[fzO];exact h.1.same e
 | .ow k os,v,Z,q,h=>by
   rw[OAt.ow0]at h;obtain⟨p,vs,Z',rfl,b,c,d⟩:=h;rw[fzO];exact .of (b.nd e fun hk=>q p (by rw[d,qX1 hk,wV];omega)) (OsAt.dat e (fun a z=>q a (by rw[d];omega)) c)
theorem OsAt.dat(e:Same F F'):∀{os:List O} {vs:List V} {Z:Fp},(∀a,Z a≠0->F' a=H a)->OsAt K c F H os vs Z->DsAt K c F' vs (fzOs os)
 |[],vs,Z,_,h=>by rw[OsAt.nil]at h;rw[h.1,fzOs];exact .nil
 | o::os,vs,Z,q,h=>by
   rw[OsAt.cons]at h;obtain⟨v,r,Z1,Z2,rfl,b,c,d⟩:=h;rw[fzOs];exact .cons (OAt.dat e (fun a z=>q a (by rw[d];omega)) b) (OsAt.dat e (fun a z=>q a (by rw[d];omega)) c)
end
mutual
theorem OAt.hb:∀{o:O} {v:V} {Z:Fp} {a:aV},OAt K c F H o v Z->Z a≠0->∃u,H a=some u/\Hb u
 |.fz d,v,Z,a,h,q=>by rw[OAt.fz]at h;exact absurd (h.2 a) q
 | .ow k os,v,Z,a,h,q=>by
   rw[OAt.ow0]at h;obtain⟨p,vs,Z',rfl,b,c,d⟩:=h;cases hk:isT k with
   |true=>cases qKd hk;exact OsAt.hb c (by rw[d,jZ1]at q;dsimp only at q;omega)
   | false=>
     rw[qX1 hk]at d;by_cases z:a=p
     ·subst z;exact((TwAt.ow hk).mp b).hb
     ·exact OsAt.hb c (by rw[d,xW z]at q;omega)
theorem OsAt.hb:∀{os:List O} {vs:List V} {Z:Fp} {a:aV},OsAt K c F H os vs Z->Z a≠0->∃u,H a=some u/\Hb u
 |[],vs,Z,a,h,q=>by rw[OsAt.nil]at h;exact absurd (h.2 a) q
 | o::os,vs,Z,a,h,q=>by
   rw[OsAt.cons]at h;obtain⟨v,r,Z1,Z2,rfl,b,c,d⟩:=h;by_cases z:Z1 a=0
   ·exact OsAt.hb c (by rw[d]at q;omega)
   ·exact OAt.hb b z
end
theorem OAt.cast(h:OAt K c F H o v Z)(e:∀a,Z' a=Z a):OAt K c F H o v Z' :=by rw[show Z' =Z from funext e];exact h
theorem OsAt.length:∀{os:List O} {vs:List V} {Z:Fp},OsAt K c F H os vs Z->vs.length=os.length
 |[],vs,Z,h=>by rw[OsAt.nil]at h;rw[h.1];rfl
 | o::os,vs,Z,h=>by
   obtain⟨v,r,Z1,Z2,rfl,b,c,d⟩:=h;rw[aZ,aZ,c.length]
theorem OsAt.fzs:∀{ds:List D} {vs:List V} {Z:Fp},OsAt K c F H (ds.map .fz) vs Z↔DsAt K c F vs ds/\∀a,Z a=0
 | [],vs,Z=>by
   rw[List.map_nil,OsAt.nil];exact⟨fun h=>⟨by rw[h.1];exact .nil,h.2⟩,fun h=>⟨h.1.un0,h.2⟩⟩
 | d::ds,vs,Z=>by
   rw[bD,OsAt.cons];constructor
   ·rintro⟨v,r,Z1,Z2,rfl,b,c,d⟩;rw[OAt.fz]at b;rw[OsAt.fzs]at c;exact⟨.cons b.1 c.1,fun a=>by rw[d,b.2,c.2]⟩
   ·rintro⟨h,z⟩;obtain⟨v,r,rfl,b,c⟩:=h.un;exact⟨v,r,fun _=>0,fun _=>0,rfl,OAt.fz.mpr ⟨b,fun _=>rfl⟩,OsAt.fzs.mpr ⟨c,fun _=>rfl⟩,fun a=>z a⟩
theorem OsAt.focus:∀{os:List O} {vs:List V} {Z:Fp} {j:Nat} {o:O},OsAt K c F H os vs Z->os[j]?=some o->∃(v:V) (Z1 R:Fp),vs[j]?=some v/\OAt K c F H o v Z1/\(∀a,Z a=Z1 a+R a)/\
  ∀F' H' o' v' Z1',Same F F' ->(∀a,R a≠0->H' a=H a)->OAt K c F' H' o' v' Z1' ->OsAt K c F' H' (os.set j o') (vs.set j v') (fun a=>Z1' a+R a)
 |[],vs,Z,j,o,h,e=>by simp at e
 | o1::os,vs,Z,0,o,h,e=>by
   rw[OsAt.cons]at h;obtain⟨v,r,Z1,Z2,rfl,b,c,d⟩:=h;cases e;refine⟨v,Z1,Z2,rfl,b,d,fun F' H' o' v' Z1' sm k q=>?_⟩;rw[List.set_cons_zero,List.set_cons_zero,OsAt.cons];exact⟨v',r,Z1',Z2,rfl,q,c.keep sm k,fun _=>rfl⟩
 | o1::os,vs,Z,j + 1,o,h,e=>by
   rw[OsAt.cons]at h;obtain⟨v,r,Z1,Z2,rfl,b,c,d⟩:=h;obtain⟨w,Y,R,h1,h2,h3,h4⟩:=OsAt.focus (j:=j) c (by simpa using e);refine⟨w,Y,fun a=>Z1 a+R a,by simpa using h1,h2,fun a=>by rw[d,h3];(try dsimp only at *);omega,fun F' H' o' v' Z1' sm k q=>?_⟩;rw[List.set_cons_succ,List.set_cons_succ,OsAt.cons];exact⟨v,r.set j v',Z1,_,rfl,b.keep sm fun a z=>k a (by(try dsimp only at *);omega),h4 F' H' o' v' Z1' sm (fun a z=>k a (by(try dsimp only at *);omega)) q,fun a=>by(try dsimp only at *);omega⟩
theorem OsAt.append:∀{os:List O} {vs:List V} {Z:Fp} {os' :List O} {vs' :List V} {Z' :Fp},OsAt K c F H os vs Z->OsAt K c F H os' vs' Z' ->OsAt K c F H (os ++ os') (vs ++ vs') (fun a=>Z a+Z' a)
 | [],vs,Z,os',vs',Z',h,k=>by
   rw[OsAt.nil]at h;simp_all
 | o::os,vs,Z,os',vs',Z',h,k=>by
   obtain⟨v,r,Z1,Z2,rfl,b,c,d⟩:=h;rw[aA,aA,OsAt.cons];exact⟨v,r ++ vs',Z1,_,rfl,b,c.append k,fun a=>by rw[d];(try dsimp only at *);omega⟩
theorem OsAt.one:OsAt K c F H [o] [v] Z↔OAt K c F H o v Z:=by
 constructor
 ·rintro⟨v',r,Z1,Z2,e,b,c,d⟩;cases e;exact b.cast fun a=>by rw[d,c.2];omega
 ·intro h;exact⟨v,[],Z,fun _=>0,rfl,h,OsAt.nil.mpr ⟨rfl,fun _=>rfl⟩,fun a=>by(try dsimp only at *);omega⟩
theorem OsAt.erase:∀{os:List O} {vs:List V} {Z:Fp} {j:Nat} {o:O},OsAt K c F H os vs Z->os[j]?=some o->∃(v:V) (Z1 R:Fp),vs[j]?=some v/\OAt K c F H o v Z1/\(∀a,Z a=Z1 a+R a)/\OsAt K c F H (os.eraseIdx j) (vs.eraseIdx j) R
 |[],vs,Z,j,o,h,e=>by simp at e
 | o1::os,vs,Z,0,o,h,e=>by
   rw[OsAt.cons]at h;obtain⟨v,r,Z1,Z2,rfl,b,c,d⟩:=h;cases e;exact⟨v,Z1,Z2,rfl,b,d,c⟩
 | o1::os,vs,Z,j + 1,o,h,e=>by
   rw[OsAt.cons]at h;obtain⟨v,r,Z1,Z2,rfl,b,c,d⟩:=h;obtain⟨w,Y,R,h1,h2,h3,h4⟩:=OsAt.erase (j:=j) c (by simpa using e);refine⟨w,Y,fun a=>Z1 a+R a,by simpa using h1,h2,fun a=>by rw[d,h3];(try dsimp only at *);omega,?_⟩;rw[List.eraseIdx_cons_succ,List.eraseIdx_cons_succ,OsAt.cons];exact⟨v,_,Z1,R,rfl,b,h4,fun _=>rfl⟩
end
noncomputable def getP:O->List Nat->Option O
 |o,[]=>some o
 | .ow _ os,j::π=>match os[j]? with
   |some o=>getP o π
   |none=>none
 |.fz _,_::_=>none
noncomputable def setP:O->List Nat->O->O
 |_,[],x=>x
 | .ow k os,j::π,x=> .ow k (match os[j]? with
   |some o=>os.set j (setP o π x)
   |none=>os)
 |.fz d,_::_,_=>.fz d
noncomputable def kids:HO->List V
 |.lst vs=>vs
 |.tup vs=>vs
 |.dK ws=>ws.map (·.2)
 |.dT ws=>ws.map (·.2)
 |.ins _ _ fs=>fs.map (·.2)
 |_=> []
noncomputable def walk(H:Hp):V->List Nat->Option V
 |v,[]=>some v
 | .ref p,j::π=>match H p with
   | some o=>match(kids o)[j]? with
     |some v=>walk H v π
     |none=>none
   |none=>none
 |_,_::_=>none
theorem qZr:∀{ks:List α} {vs:List β},ks.length=vs.length->(ks.zip vs).map (·.2)=vs
 |[],[],_=>rfl
 |k::ks,v::vs,h=>by rw[dP,bD,qZr (Nat.succ.inj h)]
 |[],_::_,h=>by cases h
 |_::_,[],h=>by cases h
theorem OwAt.kids{p:aV}{k:Kd}(h:OwAt c H p k vs):∃o,H p=some o/\kids o=vs:=by
 cases k with
 |lst=>exact⟨_,h,rfl⟩
 |tup=>exact h.elim
 |dct ks=>exact⟨_,h.2.2,qZr h.1⟩
 |dcT ks=>exact⟨_,h.2.2,qZr h.1⟩
 |obj C fs=>obtain⟨a,dx,b⟩:=h;exact⟨_,b,qZr a⟩
 |exc C fs=>exact h.elim
theorem TwAt.kids{F:Hp}{p:aV}{k:Kd}(sfh:Same F H)(h:TwAt c F H p k vs):∃o,H p=some o/\kids o=vs:=by
 cases hk:isT k with
 |true=>cases qKd hk;exact⟨_,sfh _ _ h,rfl⟩
 |false=>exact((TwAt.ow hk).mp h).kids
theorem yT{l:List α}{x:α}(h:l[j]?=some x):l.set j x=l:=by
 apply List.ext_getElem?;grind
theorem qX4{p:aV}{o:HO}(h:H p=some o)(e:(kids o)[j]?=some v):walk H (.ref p) (j::π)=walk H v π:=by
 simp only[walk,h,e]
section
variable{K:aQ}{c:Nat->aV}{F F' H H' :Hp}
theorem OAt.focus(sfh:Same F H):∀{π:List Nat} {o o1:O} {v:V} {Z:Fp},OAt K c F H o v Z->getP o π=some o1->∃(v1:V) (Z1 R:Fp),walk H v π=some v1/\OAt K c F H o1 v1 Z1/\(∀a,Z a=Z1 a+R a)/\
  ∀F' H' o1' Z1',Same F F' ->(∀a,R a≠0->H' a=H a)->OAt K c F' H' o1' v1 Z1' ->OAt K c F' H' (setP o π o1') v (fun a=>Z1' a+R a)
 | [],o,o1,v,Z,h,e=>by
   cases e;refine⟨v,Z,fun _=>0,by cases v <;> rfl,h,fun a=>rfl,fun F' H' o1' Z1' sm k q=>?_⟩;simp only[setP];exact q.cast fun _=>rfl
 |j::π,.fz d,o1,v,Z,h,e=>by cases e
 | j::π, .ow k os,o1,v,Z,h,e=>by
   simp only[getP]at e;cases e0:os[j]? with
   |none=>rw[e0]at e;cases e
   | some o=>
     rw[e0]at e;rw[OAt.ow0]at h;obtain⟨p,vs,Z',rfl,b,cc,d⟩:=h;obtain⟨w,Y,R,h1,h2,h3,h4⟩:=cc.focus e0;obtain⟨v1,Z1,R1,g1,g2,g3,g4⟩:=OAt.focus sfh h2 e;obtain⟨ho,k1,k2⟩:=b.kids sfh;refine⟨v1,Z1,fun a=>oneK k p a+R a+R1 a,by rw[qX4 k1 (by rw[k2];exact h1)];exact g1,g2,fun a=>by rw[d,h3,g3];(try dsimp only at *);omega,fun F' H' o1' Z1' sm kk q=>?_⟩;have q2:=g4 F' H' o1' Z1' sm (fun a z=>kk a (by(try dsimp only at *);omega)) q;have q3:=h4 F' H' _ w _ sm (fun a z=>kk a (by(try dsimp only at *);omega)) q2;rw[yT h1]at q3;simp only[setP,e0];rw[OAt.ow0];exact⟨p,vs,_,rfl,b.keep (fun _ _ z=>sm _ _ z) fun hk=>kk p (by dsimp only;rw[qX1 hk,wV];omega),q3,fun a=>by(try dsimp only at *);omega⟩
end
inductive Slot where
 |un|s (io:Bool) (o:O)
noncomputable abbrev Ev:=List Slot
noncomputable def jH(K:aQ)(c:Nat->aV)(F H:Hp):Slot->Option V->Fp->Prop
 |.un,_,Z=>∀a,Z a=0
 |.s _ o,some v,Z=>OAt K c F H o v Z
 |.s _ _,none,_=>False
noncomputable def lamQ:Str:="next_out.<locals>.<lambda>"
noncomputable def TabF(c:Nat->aV)(F:Hp):Prop:=c 77≠0->F (c 77)=some (.tab (c 78) (c 79) lamQ)
theorem TabF.same{F:Hp}(h:TabF c F)(e:Same F F'):TabF c F' :=fun z=>e _ _ (h z)
noncomputable def SlAt(K:aQ)(c:Nat->aV)(F H:Hp):Ev->L2.St->Fp->Prop
 |[],σ,Z=>(σ=[]/\TabF c F)/\∀a,Z a=0
 |s::env,σ,Z=>∃x r Z1 Z2,σ=x::r/\jH K c F H s x Z1/\SlAt K c F H env r Z2/\∀a,Z a=Z1 a+Z2 a
section
variable{K:aQ}{c:Nat->aV}{F F' H H' :Hp}
theorem jH.keepM(e:∀v d,DAt K c F v d->DAt K c F' v d)(t:∀p vs,F p=some (.tup vs)->F' p=some (.tup vs)){s:Slot}{x:Option V}(q:∀a,Z a≠0->H' a=H a)(h:jH K c F H s x Z):jH K c F' H' s x Z:=by
 cases s with
 |un=>exact h
 | s io o=>
   cases x with
   |none=>exact h.elim
   |some v=>exact OAt.keepM e t q h
theorem jH.keep(e:Same F F'){s:Slot}{x:Option V}(q:∀a,Z a≠0->H' a=H a)(h:jH K c F H s x Z):jH K c F' H' s x Z:=h.keepM (fun _ _ h=>h.same e) (fun _ _ z=>e _ _ z) q
theorem SlAt.cast{Z':Fp}(h:SlAt K c F H env σ Z)(e:∀a,Z' a=Z a):SlAt K c F H env σ Z' :=by rw[show Z' =Z from funext e];exact h
theorem jH.hb{s:Slot}{x:Option V}{a:aV}(h:jH K c F H s x Z)(q:Z a≠0):∃u,H a=some u/\Hb u:=by
 cases s with
 |un=>exact absurd (h a) q
 | s io o=>
   cases x with
   |none=>exact h.elim
   |some v=>exact OAt.hb h q
theorem SlAt.keepM(e:∀v d,DAt K c F v d->DAt K c F' v d)(tp:∀p vs,F p=some (.tup vs)->F' p=some (.tup vs))(t:TabF c F->TabF c F'):∀{env:Ev} {σ:L2.St} {Z:Fp},(∀a,Z a≠0->H' a=H a)->SlAt K c F H env σ Z->SlAt K c F' H' env σ Z
 |[],_,_,_,h=>⟨⟨h.1.1,t h.1.2⟩,h.2⟩
 | s::env,σ,Z,q,h=>by
   obtain⟨x,r,Z1,Z2,a,b,cc,d⟩:=h;exact⟨x,r,Z1,Z2,a,b.keepM e tp fun a z=>q a (by rw[d];omega),cc.keepM e tp t fun a z=>q a (by rw[d];omega),d⟩
theorem SlAt.keep(e:Same F F')(q:∀a,Z a≠0->H' a=H a)(h:SlAt K c F H env σ Z):SlAt K c F' H' env σ Z:=h.keepM (fun _ _ h=>h.same e) (fun _ _ z=>e _ _ z) (fun t=>t.same e) q
theorem SlAt.hb:∀{env:Ev} {σ:L2.St} {Z:Fp} {a:aV},SlAt K c F H env σ Z->Z a≠0->∃u,H a=some u/\Hb u
 |[],_,_,a,h,q=>absurd (h.2 a) q
 | s::env,σ,Z,a,h,q=>by
   obtain⟨x,r,Z1,Z2,_,b,cc,d⟩:=h;by_cases z:Z1 a=0
   ·exact SlAt.hb cc (by rw[d]at q;omega)
   ·exact b.hb z
theorem SlAt.tab:∀{env:Ev} {σ:L2.St} {Z:Fp},SlAt K c F H env σ Z->TabF c F
 |[],_,_,h=>h.1.2
 | _::_,_,_,h=>by
   obtain⟨_,_,_,_,_,_,cc,_⟩:=h;exact cc.tab
theorem SlAt.len:∀{env:Ev} {σ:L2.St} {Z:Fp},SlAt K c F H env σ Z->env.length=σ.length
 |[],_,_,h=>by rw[h.1.1];rfl
 | s::env,σ,Z,h=>by
   obtain⟨x,r,Z1,Z2,rfl,b,cc,d⟩:=h;rw[aZ,aZ,cc.len]
theorem SlAt.focus:∀{env:Ev} {σ:L2.St} {Z:Fp} {i:Nat} {s:Slot},SlAt K c F H env σ Z->env[i]?=some s->∃(x:Option V) (Z1 R:Fp),σ[i]?=some x/\jH K c F H s x Z1/\(∀a,Z a=Z1 a+R a)/\
  ∀(F' H' :Hp) (s' :Slot) (x' :Option V) (Z1' Y:Fp),Same F F' ->(∀a,R a≠0->H' a=H a)->jH K c F' H' s' x' Z1' ->(∀a,Y a=Z1' a+R a)->SlAt K c F' H' (env.set i s') (σ.set i x') Y
 |[],_,_,i,s,h,e=>by simp at e
 | s1::env,σ,Z,0,s,h,e=>by
   obtain⟨x,r,Z1,Z2,rfl,b,cc,d⟩:=h;cases e;exact⟨x,Z1,Z2,rfl,b,d,fun F' H' s' x' Z1' Y sm k q y=>⟨x',r,Z1',Z2,rfl,q,cc.keep sm k,y⟩⟩
 | s1::env,σ,Z,i + 1,s,h,e=>by
   obtain⟨x,r,Z1,Z2,rfl,b,cc,d⟩:=h;obtain⟨y,Y,R,h1,h2,h3,h4⟩:=SlAt.focus (i:=i) cc (by simpa using e);refine⟨y,Y,fun a=>Z1 a+R a,by simpa using h1,h2,fun a=>by rw[d,h3];dsimp only;omega,fun F' H' s' x' Z1' Y' sm k q y' =>?_⟩;dsimp only at k y';exact⟨x,r.set i x',Z1,fun a=>Z1' a+R a,rfl,b.keep sm fun a z=>k a (by omega),h4 F' H' s' x' Z1' _ sm (fun a z=>k a (by omega)) q (fun _=>rfl),fun a=>by rw[y'];dsimp only;omega⟩
end
noncomputable abbrev hd2(B W:Fp):Fp:=fun a=>B a+W a
structure Cf(K:aQ)(c:Nat->aV)(env:Ev)(σ:L2.St)(H:Hp)(B W:Fp):Prop where
 at_:SlAt K c (hide (hd2 B W) H) H env σ W
 nd:∀a,B a+W a<=1
 hb:∀a,B a≠0->∃o,H a=some o/\Hb o
noncomputable def pinF(f:Str):Bool:= !(decide (f="place") || decide (f="slots") || decide (f="terms") || decide (f="top") || decide (f="bottom"))
def Pin(x y:Option HO):Prop:=match x with
 |some (.ins C dx fs)=>∃fs',y=some (.ins C dx fs')/\∀(j:Nat) f v,pinF f=true->fs[j]?=some (f,v)->fs'[j]?=some (f,v)
 |_=>True
theorem Pin.refl{x:Option HO}:Pin x x:=by
 unfold Pin;grind
theorem Pin.of{x:Option HO}(h:y=x):Pin x y:=by subst h;exact .refl
theorem Pin.trans{x z:Option HO}(a:Pin x y)(b:Pin y z):Pin x z:=by
 unfold Pin at a⊢;split
 ·obtain⟨fs1,rfl,h1⟩:=a;obtain⟨fs2,rfl,h2⟩:=b;grind
 ·trivial
theorem Pin.none:Pin none y:=trivial
structure Step(env:Ev)(σ:L2.St)(H:Hp)(B W:Fp)(env' :Ev)(σ' :L2.St)(H' :Hp)(V:Fp):Prop where
 same:Same (hide (hd2 B W) H) (hide (hd2 B V) H')
 by_:∀a,B a≠0->H' a=H a
 new:∀a,V a≠0->W a≠0\/H a=none
 dom:∀a,H' a=none->H a=none
 pin:∀a,W a≠0->V a≠0->Pin (H a) (H' a)
 io:∀(i:Nat) (o:O),env'[i]?=some (.s true o)->(∃o0,env[i]?=some (.s true o0))/\σ'[i]?=σ[i]?
 len:env'.length=env.length
section
variable{K:aQ}{c:Nat->aV}{env env' env2:Ev}{σ σ' σ2:L2.St}{H H' H2:Hp}{B W Y Y2 Z:Fp}
theorem Step.refl:Step env σ H B W env σ H W:=⟨Same.refl _,fun _ _=>rfl,fun _ h=>.inl h,fun _ h=>h,fun _ _ _=>.refl,fun _ o h=>⟨⟨o,h⟩,rfl⟩,rfl⟩
theorem Step.trans(a:Step env σ H B W env' σ' H' Y)(b:Step env' σ' H' B Y env2 σ2 H2 Y2):Step env σ H B W env2 σ2 H2 Y2:=by
 refine⟨a.same.trans b.same,fun z h=>(b.by_ z h).trans (a.by_ z h),fun z h=>?_,fun z h=>a.dom z (b.dom z h),fun z h1 h2=>?_,fun i o h=>?_,b.len.trans a.len⟩
 ·rcases b.new z h with q | q
  ·exact a.new z q
  ·exact .inr (a.dom z q)
 ·rcases b.new z h2 with q | q
  ·exact(a.pin z h1 q).trans (b.pin z q h2)
  ·rw[a.dom z q];exact .none
 ·obtain⟨⟨o1,h1⟩,e1⟩:=b.io i o h;obtain⟨q,e2⟩:=a.io i o1 h1;exact⟨q,e1.trans e2⟩
theorem Step.lift(b:Step env σ H B' W env' σ' H' Y)(h1:∀a,B' a=B a+Z a)(h2:∀a,W' a=W a+Z a)(h3:∀a,Y' a=Y a+Z a):Step env σ H B W' env' σ' H' Y' :=by
 refine⟨?_,fun a h=>b.by_ a (by rw[h1];omega),fun a h=>?_,b.dom,fun a p q=>?_,b.io,b.len⟩
 ·have e1:hide (hd2 B W') H=hide (hd2 B' W) H:=zT fun a=>by dsimp only [hd2];rw [h1,h2];omega
  have e2:hide (hd2 B Y') H' =hide (hd2 B' Y) H' :=zT fun a=>by dsimp only[hd2];rw[h1,h3];omega
  rw[e1,e2];exact b.same
 ·by_cases z:Y a=0
  ·exact .inl (by rw[h3]at h;rw[h2];omega)
  ·rcases b.new a z with q | q
   ·exact .inl (by rw[h2];omega)
   ·exact .inr q
 ·by_cases z:Z a=0
  ·exact b.pin a (by rw[h2]at p;omega) (by rw[h3]at q;omega)
  ·exact .of (b.by_ a (by rw[h1];omega))
theorem Step.cast(b:Step env σ H B W env' σ' H' Y)(h1:∀a,B' a=B a)(h2:∀a,W' a=W a)(h3:∀a,Y' a=Y a):Step env σ H B' W' env' σ' H' Y' :=by
 rw[show B' =B from funext h1,show W' =W from funext h2,show Y' =Y from funext h3];exact b
theorem Cf.cast(b:Cf K c env σ H B W)(h1:∀a,B' a=B a)(h2:∀a,W' a=W a):Cf K c env σ H B' W' :=by
 rw[show B' =B from funext h1,show W' =W from funext h2];exact b
theorem Cf.hbs(h:Cf K c env σ H B W){a:aV}(q:B a+W a≠0):∃o,H a=some o/\Hb o:=by
 by_cases z:B a=0
 ·exact h.at_.hb (by omega)
 ·exact h.hb a z
theorem Cf.fresh(h:Cf K c env σ H B W){a:aV}(q:H a=none):B a=0/\W a=0:=by
 have:B a+W a=0:=by
  by_cases z:B a+W a=0
  ·exact z
  ·obtain⟨o,e,_⟩:=h.hbs z;rw[q]at e;cases e
 omega
theorem Cf.grow(h:Cf K c env σ H B W)(e:Same H H'):Cf K c env σ H' B W:=by
 have st:∀a,B a+W a≠0->H' a=H a:=fun a z=>by obtain⟨o,q,_⟩:=h.hbs z;rw[q,e a o q]
 exact⟨h.at_.keep (zY fun a o z q=>⟨z,e a o q⟩) fun a z=>st a (by omega),h.nd,fun a z=>by rw[st a (by omega)];exact h.hb a z⟩
theorem Step.grow(h:Cf K c env σ H B W)(e:Same H H'):Step env σ H B W env σ H' W:=by
 have st:∀a,B a+W a≠0->H' a=H a:=fun a z=>by obtain⟨o,q,_⟩:=h.hbs z;rw[q,e a o q]
 refine⟨zY fun a o z q=>⟨z,e a o q⟩,fun a z=>st a (by omega),fun _ z=>.inl z,fun a z=>?_,fun a z _=>.of (st a (by omega)),fun _ o h=>⟨⟨o,h⟩,rfl⟩,rfl⟩;cases q:H a with
 |none=>rfl
 |some o=>rw[e a o q]at z;cases z
theorem Cf.focus(h:Cf K c env σ H B W){s:Slot}(e:env[i]?=some s):∃(x:Option V) (Z1 R:Fp),σ[i]?=some x/\jH K c (hide (hd2 B W) H) H s x Z1/\(∀a,W a=Z1 a+R a)/\
  ∀(H' :Hp) (B' W' :Fp) (s' :Slot) (x' :Option V) (Z1' :Fp),Same (hide (hd2 B W) H) (hide (hd2 B' W') H')->(∀a,W' a=Z1' a+R a)->(∀a,R a≠0->H' a=H a)->jH K c (hide (hd2 B' W') H') H' s' x' Z1' ->
   (∀a,B' a+W' a<=1)->(∀a,B' a≠0->∃o,H' a=some o/\Hb o)->Cf K c (env.set i s') (σ.set i x') H' B' W' :=by
 obtain⟨x,Z1,R,h1,h2,h3,h4⟩:=h.at_.focus e;exact⟨x,Z1,R,h1,h2,h3,fun H' B' W' s' x' Z1' sm hw k q nd hb=>⟨h4 _ H' s' x' Z1' W' sm k q hw,nd,hb⟩⟩
end
noncomputable def getE(env:Ev)(i:Nat)(π:List Nat):Option O:=match env[i]? with
 |some (.s _ o)=>getP o π
 |_=>none
noncomputable def setE(env:Ev)(i:Nat)(π:List Nat)(x:O):Ev:=match env[i]? with
 |some (.s io o)=>env.set i (.s io (setP o π x))
 |_=>env
noncomputable def vO(H:Hp)(σ:L2.St)(i:Nat)(π:List Nat):Option V:=match σ[i]? with
 |some (some v)=>walk H v π
 |_=>none
section
variable{K:aQ}{c:Nat->aV}{env env' env2:Ev}{σ σ' σ2:L2.St}{H H' H2:Hp}{B W Y Y2 Z:Fp}{i:Nat}{π:List Nat}{o1:O}
theorem qY9{x:O}{o:O}(h:(setE env i π x)[j]?=some (.s true o)):∃o0,env[j]?=some (.s true o0):=by
 unfold setE at h;grind
theorem qXh{x:O}:(setE env i π x).length =env.length:=by
 unfold setE;grind
theorem Cf.place(h:Cf K c env σ H B W)(e:getE env i π=some o1):∃(v1:V) (Z1 R:Fp),vO H σ i π=some v1/\OAt K c (hide (hd2 B W) H) H o1 v1 Z1/\(∀a,W a=Z1 a+R a)/\
  ∀(H' :Hp) (B' W' :Fp) (o1' :O) (Z1' :Fp),Same (hide (hd2 B W) H) (hide (hd2 B' W') H')->(∀a,W' a=Z1' a+R a)->(∀a,R a≠0->H' a=H a)->OAt K c (hide (hd2 B' W') H') H' o1' v1 Z1' ->
   (∀a,B' a+W' a<=1)->(∀a,B' a≠0->∃o,H' a=some o/\Hb o)->Cf K c (setE env i π o1') σ H' B' W' :=by
 unfold getE at e;split at e
 ·rename_i io o e0;obtain⟨x,Z0,R0,h1,h2,h3,h4⟩:=h.focus e0;cases x with
  |none=>exact h2.elim
  | some v=>
    obtain⟨v1,Z1,R1,g1,g2,g3,g4⟩:=OAt.focus hide_sub h2 e;refine⟨v1,Z1,fun a=>R1 a+R0 a,by unfold vO;rw[h1];exact g1,g2,fun a=>by rw[h3,g3];dsimp only;omega,fun H' B' W' o1' Z1' sm hw k q nd hb=>?_⟩;dsimp only at hw k;have q2:=g4 _ H' o1' Z1' sm (fun a z=>k a (by omega)) q;have q3:=h4 H' B' W' (.s io (setP o π o1')) (some v) _ sm (fun a=>by rw[hw];(try dsimp only);omega) (fun a z=>k a (by omega)) q2 nd hb;rw[yT h1]at q3;unfold setE;rw[e0];exact q3
 ·cases e
theorem Cf.freeze(h:Cf K c env σ H B W)(e:getE env i π=some o1):∃v1 W',vO H σ i π=some v1/\Cf K c (setE env i π (.fz (fzO o1))) σ H B W' /\DAt K c (hide (hd2 B W') H) v1 (fzO o1)/\Step env σ H B W (setE env i π (.fz (fzO o1))) σ H W' :=by
 obtain⟨v1,Z1,R,h1,h2,h3,h4⟩:=h.place e;have sm:Same (hide (hd2 B W) H) (hide (hd2 B R) H):=jK fun a z=>by dsimp only[hd2]at *;rw[h3]at z;omega
 have hd:DAt K c (hide (hd2 B R) H) v1 (fzO o1):=h2.dat sm fun a z=>zG (by have:=h.nd a;rw[h3]at this;dsimp only[hd2];omega)
 refine⟨v1,R,h1,h4 H B R _ (fun _=>0) sm (fun a=>by(try dsimp only);omega) (fun _ _=>rfl) (OAt.fz.mpr ⟨hd,fun _=>rfl⟩) (fun a=>by have:=h.nd a;rw[h3]at this;omega) h.hb,hd,?_⟩;exact⟨sm,fun _ _=>rfl,fun a z=>.inl (by rw[h3];omega),fun _ z=>z,fun _ _ _=>.refl,fun j o q=>⟨qY9 q,rfl⟩,qXh⟩
theorem Cf.view(h:Cf K c env σ H B W)(e:getE env i π=some o1):∃v1,vO H σ i π=some v1/\DAt K c H v1 (fzO o1):=by
 obtain⟨v1,Z1,R,h1,h2,h3,h4⟩:=h.place e;exact⟨v1,h1,h2.dat hide_sub fun _ _=>rfl⟩
theorem Cf.put{u:V}{o:O}(h:Cf K c env σ H B' W)(hB:∀a,B' a=B a+Z a)(ho:OAt K c (hide (hd2 B' W) H) H o u Z)(hi:i<env.length):∃W',Cf K c (env.set i (.s io o)) (σ.set i (some u)) H B W' /\Same (hide (hd2 B' W) H) (hide (hd2 B W') H)/\∀a,W' a≠0->Z a+W a≠0:=by
 obtain⟨x,Z1,R,h1,h2,h3,h4⟩:=h.focus (aF hi);have sm:Same (hide (hd2 B' W) H) (hide (hd2 B fun a=>Z a+R a) H):=jK fun a z=>by dsimp only[hd2]at *;rw[h3,hB]at z;omega
 refine⟨fun a=>Z a+R a,h4 H B _ (.s io o) (some u) Z sm (fun _=>rfl) (fun _ _=>rfl) (ho.keep sm fun _ _=>rfl) (fun a=>?_) (fun a z=>h.hb a (by rw[hB];omega)),sm,fun a z=>?_⟩
 ·have:=h.nd a;rw[h3,hB]at this;(try dsimp only);omega
 ·dsimp only at z;rw[h3];omega
end
inductive Res(α:Type) where
 |ok (a:α)|er (C:Nat) (fs:List (Str×D))|no
noncomputable def Res.bind{α β:Type}(x:Res α)(f:α->Res β):Res β:=match x with
 |.ok a=>f a
 |.er C fs=>.er C fs
 |.no =>.no
noncomputable def Res.wp{α:Type}(x:Res α)(Q:α->Prop)(E:Nat->List (Str×D)->Prop):Prop:=match x with
 |.ok a=>Q a
 |.er C fs=>E C fs
 |.no =>False
noncomputable def opt{α:Type}:Option α->Res α
 |some a=>.ok a
 |none=>.no
theorem qK{f:α->Res β}{Q:β->Prop}{E:Nat->List (Str×D)->Prop}:∀{x:Res α},(x.bind f).wp Q E↔x.wp (fun a=>(f a).wp Q E) E
 |.ok _=>Iff.rfl
 |.er _ _=>Iff.rfl
 |.no =>Iff.rfl
theorem wp_mono{Q Q' :α->Prop}{E E' :Nat->List (Str×D)->Prop}(hQ:∀a,Q a->Q' a)(hE:∀C fs,E C fs->E' C fs):∀{x:Res α},x.wp Q E->x.wp Q' E'
 |.ok a,h=>hQ a h
 |.er C fs,h=>hE C fs h
 |.no,h=>h.elim
theorem qG{f:α->Res β}{Q:β->Prop}{E:Nat->List (Str×D)->Prop}:∀{x:Option α},((opt x).bind f).wp Q E->∃a,x=some a/\(f a).wp Q E
 |some a,h=>⟨a,rfl,h⟩
 |none,h=>h.elim
theorem vM{b:Bool}{x:Res α}{Q:α->Prop}{E:Nat->List (Str×D)->Prop}(h:(cond b x .no).wp Q E):b=true/\x.wp Q E:=by
 cases b with
 |true=>grind
 |false=>exact h.elim
structure StepX(H:Hp)(B W:Fp)(H' :Hp)(Y:Fp):Prop where
 same:Same (hide (hd2 B W) H) (hide (hd2 B Y) H')
 by_:∀a,B a≠0->H' a=H a
 dom:∀a,H' a=none->H a=none
noncomputable def ErAt(K:aQ)(c:Nat->aV)(F H:Hp)(fs:List (Str×D)):Option aV->Prop
 |none=>fs=[]
 |some dx=>∃ws:List (Str×V),H dx=some (.xd ws)/\ws.map (·.1)=fs.map (·.1)/\DsAt K c F (ws.map (·.2)) (fs.map (·.2))
noncomputable def erP(K:aQ)(c:Nat->aV)(E:XK)(H:Hp)(B W:Fp):Nat->List (Str×D)->Prop:=fun C fs=>∀H' Y ox,StepX H B W H' Y->ErAt K c (hide (hd2 B Y) H') H' fs ox->E (.ref (c C)) ox H'
section
variable{K:aQ}{c:Nat->aV}{E:XK}{env env' :Ev}{σ σ' :L2.St}{H H' H2:Hp}{B W Y Y2 Z:Fp}{C:Nat}{fs:List (Str×D)}
theorem Step.x(a:Step env σ H B W env' σ' H' Y)(b:StepX H' B Y H2 Y2):StepX H B W H2 Y2:=⟨a.same.trans b.same,fun z h=>(b.by_ z h).trans (a.by_ z h),fun z h=>a.dom z (b.dom z h)⟩
theorem erP.back(a:Step env σ H B W env' σ' H' Y)(h:erP K c E H B W C fs):erP K c E H' B Y C fs:=fun H2 Y2 ox sx er=>h H2 Y2 ox (a.x sx) er
end
structure Got(K:aQ)(c:Nat->aV)(env:Ev)(σ:L2.St)(H:Hp)(B W:Fp)(env' :Ev)(H' :Hp)(W' Z:Fp)(o:O)(u:V):Prop where
 st:Step env σ H B W env' σ H' (hd2 W' Z)
 cf:Cf K c env' σ H' (hd2 B Z) W'
 at_:OAt K c (hide (hd2 (hd2 B Z) W') H') H' o u Z
structure GotD(K:aQ)(c:Nat->aV)(env:Ev)(σ:L2.St)(H:Hp)(B W:Fp)(env' :Ev)(H' :Hp)(W' :Fp)(x:D)(u:V):Prop where
 st:Step env σ H B W env' σ H' W'
 cf:Cf K c env' σ H' B W'
 at_:DAt K c (hide (hd2 B W') H') u x
noncomputable abbrev SE:=Ev->Res (O×Ev)
noncomputable abbrev SV:=Ev->Res (D×Ev)
def tE(K:aQ)(c:Nat->aV)(E:XK)(s:SE):TE:=fun σ H Q=>∃env B W,Cf K c env σ H B W/\(s env).wp (fun r=>∀u H' W' Z,Got K c env σ H B W r.2 H' W' Z r.1 u->Q u H') (erP K c E H B W)
noncomputable def tV(K:aQ)(c:Nat->aV)(E:XK)(s:SV):TE:=fun σ H Q=>∃env B W,Cf K c env σ H B W/\(s env).wp (fun r=>∀u H' W',GotD K c env σ H B W r.2 H' W' r.1 u->Q u H') (erP K c E H B W)
structure ED(X:Cx)(c:Nat->aV)(E:XK)(e:Expr)(s:SE):Prop where
 h:PE X e (tE X.K c E s)
structure EV(X:Cx)(c:Nat->aV)(E:XK)(e:Expr)(s:SV):Prop where
 h:PE X e (tV X.K c E s)
theorem PE.imp{t t' :TE}(h:PE X e t)(k:∀σ H Q,t' σ H Q->t σ H Q):PE X e t' :=fun pins s σ H Q I q=>h pins s σ H Q I (k σ H Q q)
section
variable{K:aQ}{c:Nat->aV}{E:XK}{env env' env2:Ev}{σ σ' :L2.St}{H H' H2:Hp}{B W W' W2 Y Y2 Z:Fp}{o:O}{u:V}{x:D}
theorem Got.fz(g:Got K c env σ H B W env' H' W' Z o u):GotD K c env σ H B W env' H' W' (fzO o) u:=by
 have sm:Same (hide (hd2 (hd2 B Z) W') H') (hide (hd2 B W') H'):=jK fun a z=>by dsimp only[hd2]at *;omega
 have sm2:Same (hide (hd2 B (hd2 W' Z)) H') (hide (hd2 B W') H'):=jK fun a z=>by dsimp only[hd2]at *;omega
 refine⟨⟨g.st.same.trans sm2,g.st.by_,fun a h=>g.st.new a (by dsimp only[hd2];omega),g.st.dom,fun a h1 h2=>g.st.pin a h1 (by dsimp only[hd2];omega),g.st.io,g.st.len⟩,
  ⟨g.cf.at_.keep sm fun _ _=>rfl,fun a=>by have:=g.cf.nd a;dsimp only[hd2]at this;omega,fun a h=>g.cf.hb a (by dsimp only[hd2];omega)⟩,g.at_.dat sm fun a h=>zG ?_⟩
 have:=g.cf.nd a;dsimp only[hd2]at *;omega
theorem GotD.own(g:GotD K c env σ H B W env' H' W' x u):Got K c env σ H B W env' H' W' (fun _=>0) (.fz x) u:=by
 refine⟨g.st.cast (fun _=>rfl) (fun _=>rfl) fun _=>rfl,g.cf.cast (fun _=>rfl) fun _=>rfl,OAt.fz.mpr ⟨?_,fun _=>rfl⟩⟩;exact g.at_
end
section
variable{X:Cx}{c:Nat->aV}{E:XK}{e:Expr}
noncomputable def fzS(s:SE):SV:=fun env=>(s env).bind fun r=>.ok (fzO r.1,r.2)
noncomputable def owS(s:SV):SE:=fun env=>(s env).bind fun r=>.ok (.fz r.1,r.2)
theorem ev_e{s:SE}(h:ED X c E e s):EV X c E e (fzS s):=by
 refine⟨PE.imp h.h fun σ H Q=>?_⟩;rintro⟨env,B,W,cf,w⟩;exact⟨env,B,W,cf,wp_mono (fun r q u H' W' Z g=>q u H' W' g.fz) (fun _ _ q=>q) (qK.mp w)⟩
theorem ed_v{s:SV}(h:EV X c E e s):ED X c E e (owS s):=by
 refine⟨PE.imp h.h fun σ H Q=>?_⟩;rintro⟨env,B,W,cf,w⟩;exact⟨env,B,W,cf,wp_mono (fun r q u H' W' g=>q u H' W' _ g.own) (fun _ _ q=>q) (qK.mp w)⟩
end
inductive Hn where
 |d (x:D)|p (i:Nat) (π:List Nat)
noncomputable abbrev SP:=Ev->Option Hn
def HnAt(K:aQ)(c:Nat->aV)(F:Hp)(σ:L2.St)(H:Hp)(u:V):Hn->Prop
 |.d x=>DAt K c F u x
 |.p i π=>vO H σ i π=some u
noncomputable def tP(K:aQ)(c:Nat->aV)(s:SP):TE:=fun σ H Q=>∃env B W h,Cf K c env σ H B W/\s env=some h/\∀u,HnAt K c (hide (hd2 B W) H) σ H u h->Q u H
structure EP(X:Cx)(c:Nat->aV)(e:Expr)(s:SP):Prop where
 h:PE X e (tP X.K c s)
noncomputable def hnO(o:O)(i:Nat)(π:List Nat):Hn:=match o with
 |.fz d=>.d d
 |.ow _ _=>.p i π
noncomputable def hnV(env:Ev):Hn->Res (D×Ev)
 |.d x=>.ok (x,env)
 |.p i π=>(opt (getE env i π)).bind fun o=>.ok (fzO o,setE env i π (.fz (fzO o)))
noncomputable def pV(s:SP):SV:=fun env=>(opt (s env)).bind (hnV env)
theorem vYi{K:aQ}{u:V}{Q:D×Ev->Prop}{EE:Nat->List (Str×D)->Prop}(cf:Cf K c env σ H B W)(hu:HnAt K c (hide (hd2 B W) H) σ H u h)(w:(hnV env h).wp Q EE):
  ∃x env' W',GotD K c env σ H B W env' H W' x u/\Q (x,env'):=by
 cases h with
 |d x=>exact⟨x,env,W,⟨.refl,cf,hu⟩,w⟩
 | p i π=>
   obtain⟨o,e1,w1⟩:=qG w;obtain⟨v1,W',h1,h2,h3,h4⟩:=cf.freeze e1;have:vO H σ i π=some u:=hu;rw[this]at h1;cases h1;exact⟨_,_,W',⟨h4,h2,h3⟩,w1⟩
theorem ev_p{s:SP}(h:EP X c e s):EV X c E e (pV s):=by
 refine⟨PE.imp h.h fun σ H Q=>?_⟩;rintro⟨env,B,W,cf,w⟩;obtain⟨h1,e0,w1⟩:=qG w;refine⟨env,B,W,h1,cf,e0,fun u hu=>?_⟩;obtain⟨x,env',W',g,q⟩:=vYi cf hu w1;grind
noncomputable def rsv(env:Ev):Hn->Option D
 |.d x=>some x
 | .p i π=>match getE env i π with
   |some o=>some (fzO o)
   |none=>none
theorem jC{K:aQ}{u:V}{x:D}(cf:Cf K c env σ H B W)(hu:HnAt K c (hide (hd2 B W) H) σ H u h)(e:rsv env h=some x):DAt K c H u x:=by
 cases h with
 |d y=>cases e;exact DAt.same hide_sub hu
 | p i π=>
   simp only[rsv]at e;cases e0:getE env i π with
   |none=>grind
   | some o=>
     rw[e0]at e;cases e;obtain⟨v1,h1,h2⟩:=cf.view e0;have:vO H σ i π=some u:=hu;grind
inductive Vw(K:aQ)(c:Nat->aV)(F H:Hp):V->D->Prop
 |d {u:V} {x:D} (h:DAt K c F u x):Vw K c F H u x
 |nd {p:aV} {k:Kd} {vs:List V} {ds:List D} (h:NdAt K c H p k vs) (r:DsAt K c F vs ds):Vw K c F H (.ref p) (.nd k ds)
section
variable{K:aQ}{c:Nat->aV}{F F' H H' :Hp}{u:V}{x:D}
theorem Vw.un{k:Kd}{ds:List D}(s:Same F H)(h:Vw K c F H u (.nd k ds)):∃p vs,u=.ref p/\NdAt K c H p k vs/\DsAt K c F vs ds:=by
 generalize e:D.nd k ds=y at h;cases h with
 | d h=>
   subst e;obtain⟨p,vs,a,b,cc⟩:=h.un;exact⟨p,vs,a,b.same s,cc⟩
 |nd h r=>cases e;exact⟨_,_,rfl,h,r⟩
theorem Vw.same(s:Same F F')(h:Vw K c F H u x):Vw K c F' H u x:=by
 cases h with
 |d h=>exact .d (h.same s)
 |nd h r=>exact .nd h (r.same s)
end
noncomputable def jW1:O->O
 |.fz d=>.fz d
 |.ow k os=>.ow k (os.map fun o=>.fz (fzO o))
noncomputable def rsvB(env:Ev):Hn->Res (D×Ev)
 |.d x=>.ok (x,env)
 |.p i π=>(opt (getE env i π)).bind fun o=>.ok (fzO o,setE env i π (jW1 o))
theorem zQd{K:aQ}{u:V}{Q:D×Ev->Prop}{EE:Nat->List (Str×D)->Prop}(cf:Cf K c env σ H B W)(hu:HnAt K c (hide (hd2 B W) H) σ H u h)(w:(rsvB env h).wp Q EE):
  ∃x env' W',Step env σ H B W env' σ H W' /\Cf K c env' σ H B W' /\Vw K c (hide (hd2 B W') H) H u x/\Q (x,env'):=by
 cases h with
 |d x=>exact⟨x,env,W,.refl,cf,.d hu,w⟩
 | p i π=>
   obtain⟨o,e1,w1⟩:=qG w;obtain⟨v1,Z1,R,h1,h2,h3,h4⟩:=cf.place e1;have:vO H σ i π=some u:=hu;rw[this]at h1;cases h1;cases o with
   | fz d=>
     rw[OAt.fz]at h2;have q:=h4 H B W (.fz d) Z1 (Same.refl _) h3 (fun _ _=>rfl) (OAt.fz.mpr h2) cf.nd cf.hb;exact⟨d,_,W,⟨Same.refl _,fun _ _=>rfl,fun _ z=>.inl z,fun _ z=>z,fun _ _ _=>.refl,fun j o z=>⟨qY9 z,rfl⟩,qXh⟩,q,.d h2.1,w1⟩
   | ow k os=>
     rw[OAt.ow0]at h2;obtain⟨p,vs,Z',rfl,b,cc,d⟩:=h2;have lo:∀a,Z' a≠0->B a+(oneK k p a+R a)=0:=fun a z=>by have:=cf.nd a;rw[h3,d]at this;omega
     have sm:Same (hide (hd2 B W) H) (hide (hd2 B fun a=>oneK k p a+R a) H):=jK fun a z=>by dsimp only[hd2]at *;rw[h3,d]at z;omega
     have kd:DsAt K c (hide (hd2 B fun a=>oneK k p a+R a) H) vs (fzOs os):=cc.dat sm fun a z=>zG (lo a z)
     have q:=h4 H B (fun a=>oneK k p a+R a) (.ow k (os.map fun o=>.fz (fzO o))) (oneK k p) sm (fun _=>rfl) (fun _ _=>rfl)
      (OAt.ow0.mpr ⟨p,vs,fun _=>0,rfl,b.keep (fun _ _ z=>sm _ _ z) (fun _=>rfl),by rw[show(os.map fun o=>O.fz (fzO o))=(fzOs os).map .fz by rw[vQm,cS];rfl,OsAt.fzs];exact⟨kd,fun _=>rfl⟩,fun _=>rfl⟩) (fun a=>by have:=cf.nd a;rw[h3,d]at this;(try dsimp only);omega) cf.hb
     refine⟨_,_,_,⟨sm,fun _ _=>rfl,fun a z=>.inl ?_,fun _ z=>z,fun _ _ _=>.refl,fun j o z=>⟨qY9 z,rfl⟩,qXh⟩,q,?_,w1⟩
     ·(try dsimp only at z);rw[h3,d];omega
     ·rw[fzO];exact .nd (b.nd hide_sub fun _=>rfl) kd
inductive Oe where
 |p (s:SP)|v (s:SV)
noncomputable def Oe.isP:Oe->Bool
 |.p _=>true
 |.v _=>false
noncomputable def Hn.st:Hn->Bool
 |.d _=>true
 |.p _ π=>π.isEmpty
noncomputable def oV:Oe->SV
 |.p s=>pV s
 |.v s=>s
noncomputable def evO:Oe->Ev->Res (Hn×Ev)
 |.p s,env=>(opt (s env)).bind fun h=>.ok (h,env)
 |.v s,env=>(s env).bind fun r=>.ok (.d r.1,r.2)
def tO(K:aQ)(c:Nat->aV)(E:XK):Oe->TE
 |.p s=>tP K c s
 |.v s=>tV K c E s
structure OD(X:Cx)(c:Nat->aV)(E:XK)(e:Expr)(o:Oe):Prop where
 h:PE X e (tO X.K c E o)
structure GotH(K:aQ)(c:Nat->aV)(env:Ev)(σ:L2.St)(H:Hp)(B W:Fp)(o:Oe)(env' :Ev)(H' :Hp)(W' :Fp)(h:Hn)(u:V):Prop where
 st:Step env σ H B W env' σ H' W'
 cf:Cf K c env' σ H' B W'
 at_:HnAt K c (hide (hd2 B W') H') σ H' u h
 pu:o.isP=true->H' =H/\W' =W/\env' =env
noncomputable def wH(K:aQ)(c:Nat->aV)(F:Hp)(σ:L2.St)(H:Hp):List V->List Hn->Prop
 |[],[]=>True
 |u::us,h::hs=>HnAt K c F σ H u h/\wH K c F σ H us hs
 |_,_=>False
section
variable{K:aQ}{c:Nat->aV}{E:XK}{env env' env2:Ev}{σ σ' :L2.St}{H H' H2:Hp}{B W W' W2 Y Y2 Z:Fp}{o:Oe}{h:Hn}{u:V}{x:D}{Q:VK}
theorem qQo{w:Hn×Ev->Prop}(cf:Cf K c env σ H B W)(hw:(evO o env).wp w (erP K c E H B W))(k:∀r,w r->∀u H' W',GotH K c env σ H B W o r.2 H' W' r.1 u->Q u H'):tO K c E o σ H Q:=by
 cases o with
 | p s=>
   obtain⟨h1,e0,w1⟩:=qG hw;exact⟨env,B,W,h1,cf,e0,fun u hu=>k _ w1 u H W ⟨.refl,cf,hu,fun _=>⟨rfl,rfl,rfl⟩⟩⟩
 |v s=>exact⟨env,B,W,cf,wp_mono (fun r q u H' W' g=>k _ q u H' W' ⟨g.st,g.cf,g.at_,fun z=>by cases z⟩) (fun _ _ q=>q) (qK.mp hw)⟩
theorem HnAt.step(a:HnAt K c (hide (hd2 B W) H) σ H u h)(g:Same (hide (hd2 B W) H) (hide (hd2 B W') H'))(hs:h.st=true):HnAt K c (hide (hd2 B W') H') σ H' u h:=by
 cases h with
 |d x=>exact DAt.same g a
 | p i π=>
   cases π with
   | nil=>
     have a' :vO H σ i []=some u:=a;show vO H' σ i []=some u;unfold vO at a' ⊢;cases e:σ[i]? with
     |none=>rw[e]at a';cases a'
     | some v=>
       rw[e]at a';cases v with
       |none=>cases a'
       |some v=>simpa[walk] using a'
   |cons j π=>cases hs
theorem GotH.next{o2:Oe}{h2:Hn}{u2:V}(a:GotH K c env σ H B W o env' H' W' h u)(b:GotH K c env' σ H' B W' o2 env2 H2 W2 h2 u2)(hs:(h.st || o2.isP)=true):HnAt K c (hide (hd2 B W2) H2) σ H2 u h:=by
 cases e:h.st with
 |true=>exact a.at_.step b.st.same e
 | false=>
   rw[e]at hs;obtain⟨e1,e2,_⟩:=b.pu (by simpa using hs);subst e1 e2;exact a.at_
end
section
variable{X:Cx}{c:Nat->aV}{E:XK}{e a b:Expr}{o oa ob:Oe}
theorem od_v{s:SV}(h:EV X c E e s):OD X c E e (.v s):=⟨h.h⟩
theorem od_e{s:SE}(h:ED X c E e s):OD X c E e (.v (fzS s)):=⟨(ev_e h).h⟩
theorem OD.val(h:OD X c E e o):EV X c E e (oV o):=by
 cases o with
 |p s=>exact ev_p ⟨h.h⟩
 |v s=>exact⟨h.h⟩
theorem OD.ow(h:OD X c E e o):ED X c E e (owS (oV o)):=ed_v h.val
end
noncomputable def oC(d:D):Oe:=.p fun _=>some (.d d)
noncomputable def qZb(i:Nat):SP:=fun env=>match env[i]? with
 |some (.s _ o)=>some (hnO o i [])
 |_=>none
noncomputable def oN(i:Nat):Oe:=.p (qZb i)
section
variable{X:Cx}{c:Nat->aV}{E:XK}{e:Expr}{pos:Pos}
theorem od_c{d:D}(h:PE X e (tC v))(k:∀F,DAt X.K c F v d):OD X c E e (oC d):=by
 refine⟨PE.imp h fun σ H Q=>?_⟩;rintro⟨env,B,W,h1,cf,e0,q⟩;cases e0;exact q v (k _)
theorem qX{i:Int}:OD X c E (.Constant (.int i) j pos) (oC (.int i)):=od_c jZr fun _=>.int i
theorem qZ{x:Str}:OD X c E (.Constant (.str x) j pos) (oC (.str x)):=od_c vYc fun _=>.str x
theorem qYo{x:Bool}:OD X c E (.Constant (.bool x) j pos) (oC (.bl x)):=od_c jWj fun _=>.bl x
theorem zJ4{K:aQ}{F:Hp}{o:O}{u:V}(h:OAt K c F H o u Z)(w:vO H σ i π=some u):HnAt K c F σ H u (hnO o i π):=by
 cases o with
 |fz d=>rw[OAt.fz]at h;exact h.1
 |ow k os=>exact w
theorem zKm(h:PE X e (tVar i)):OD X c E e (oN i):=by
 refine⟨PE.imp h fun σ H Q=>?_⟩;rintro⟨env,B,W,h1,cf,e0,q⟩;simp only[qZb]at e0;cases e1:env[i]? with
 |none=>grind
 | some s=>
   rw[e1]at e0;cases s with
   |un=>cases e0
   | s io o=>
     cases e0;obtain⟨x,Z1,R,h1,h2,h3,h4⟩:=cf.focus e1;cases x with
     |none=>exact h2.elim
     |some v=>exact⟨v,h1,q v (zJ4 h2 (by unfold vO;rw[h1];simp[walk]))⟩
end
noncomputable def PrS1(K:aQ)(c:Nat->aV)(r:V->Hp->VK->Prop)(f:D->Option D):Prop:=∀(u:V) (H:Hp) (x z:D) (Q:VK),DAt K c H u x->f x=some z->(∀v,(∀F,DAt K c F v z)->Q v H)->r u H Q
noncomputable def PrS2(K:aQ)(c:Nat->aV)(r:R2)(f:D->D->Option D):Prop:=∀(u w:V) (H:Hp) (x y z:D) (Q:VK),DAt K c H u x->DAt K c H w y->f x y=some z->(∀v,(∀F,DAt K c F v z)->Q v H)->r u w H Q
noncomputable def sp1(f:D->Option D)(a:SP):SP:=fun env=>(a env).bind fun h=>(rsv env h).bind fun x=>(f x).bind fun z=>some (.d z)
noncomputable def sv1(f:D->Option D)(a:Oe):SV:=fun env=>(evO a env).bind fun r=>(opt (rsv r.2 r.1)).bind fun x=>(opt (f x)).bind fun z=>.ok (z,r.2)
noncomputable def o1(f:D->Option D):Oe->Oe
 |.p s=>.p (sp1 f s)
 |a=>.v (sv1 f a)
noncomputable def sp2(f:D->D->Option D)(a b:SP):SP:=fun env=>(a env).bind fun h=>(b env).bind fun h' =>(rsv env h).bind fun x=>(rsv env h').bind fun y=>(f x y).bind fun z=>some (.d z)
noncomputable def sv2(f:D->D->Option D)(a b:Oe):SV:=fun env=>(evO a env).bind fun r=>(evO b r.2).bind fun r' =>cond (r.1.st || b.isP) ((opt (rsv r'.2 r.1)).bind fun x=>(opt (rsv r'.2 r'.1)).bind fun y=>(opt (f x y)).bind fun z=>.ok (z,r'.2)) .no
noncomputable def o2(f:D->D->Option D)(a b:Oe):Oe:=match a,b with
 |.p s,.p t=>.p (sp2 f s t)
 |a,b=>.v (sv2 f a b)
section
variable{X:Cx}{K:aQ}{c:Nat->aV}{E:XK}{e a b:Expr}{pos:Pos}{oa ob:Oe}
theorem bnd{x:Option α}{f:α->Option β}{b:β}(h:x.bind f=some b):∃a,x=some a/\f a=some b:=Option.bind_eq_some_iff.mp h
theorem zZr{r:V->Hp->VK->Prop}{f:D->Option D}(hp:PrS1 K c r f)(h:tO K c E (o1 f oa) σ H Q):tUn r (tO K c E oa) σ H Q:=by
 cases oa with
 | p s=>
   obtain⟨env,B,W,h1,cf,e0,q⟩:=h;obtain⟨ha,e1,e2⟩:=bnd e0;obtain⟨x,e3,e4⟩:=bnd e2;obtain⟨z,e5,e6⟩:=bnd e4;cases e6;exact⟨env,B,W,ha,cf,e1,fun u hu=>hp u H x z Q (jC cf hu e3) e5 fun v hv=>q v (hv _)⟩
 | v s=>
   obtain⟨env,B,W,cf,w⟩:=h;refine qQo (o:=.v s) cf (qK.mp w) fun r w1 u H' W' g=>?_
   obtain⟨x,e3,w2⟩:=qG w1;obtain⟨z,e5,w3⟩:=qG w2;exact hp u H' x z Q (jC g.cf g.at_ e3) e5 fun v hv=>w3 v H' W' ⟨g.st,g.cf,hv _⟩
theorem zJd{r:R2}{f:D->D->Option D}(hp:PrS2 K c r f)(h:tV K c E (sv2 f oa ob) σ H Q):tOp r (tO K c E oa) (tO K c E ob) σ H Q:=by
 obtain⟨env,B,W,cf,w⟩:=h;refine qQo cf (qK.mp w) fun r1 w1 u H1 W1 g1=>?_
 refine qQo g1.cf (wp_mono (fun _ q=>q) (fun C fs he=>he.back g1.st) (qK.mp w1)) fun r2 w2 v H2 W2 g2=>?_
 obtain⟨hs,w3⟩:=vM w2;obtain⟨x,e3,w4⟩:=qG w3;obtain⟨y,e4,w5⟩:=qG w4;obtain⟨z,e5,w6⟩:=qG w5;exact hp u v H2 x y z Q (jC g2.cf (g1.next g2 hs) e3) (jC g2.cf g2.at_ e4) e5 fun v hv=>w6 v H2 W2 ⟨g1.st.trans g2.st,g2.cf,hv _⟩
theorem zZq{r:R2}{f:D->D->Option D}(hp:PrS2 K c r f)(h:tO K c E (o2 f oa ob) σ H Q):tOp r (tO K c E oa) (tO K c E ob) σ H Q:=by
 cases oa with
 |v s=>exact zJd hp h
 | p s=>
   cases ob with
   |v t=>exact zJd hp h
   | p t=>
     obtain⟨env,B,W,h1,cf,e0,q⟩:=h;obtain⟨ha,e1,e2⟩:=bnd e0;obtain⟨hb,e3,e4⟩:=bnd e2;obtain⟨x,e5,e6⟩:=bnd e4;obtain⟨y,e7,e8⟩:=bnd e6;obtain⟨z,e9,e10⟩:=bnd e8;cases e10;exact⟨env,B,W,ha,cf,e1,fun u hu=>⟨env,B,W,hb,cf,e3,fun w hw=>hp u w H x y z Q (jC cf hu e5) (jC cf hw e7) e9 fun v hv=>q v (hv _)⟩⟩
theorem jWq{op:UnaryOp}{r:V->Hp->VK->Prop}{f:D->Option D}(ho:UnR X (unaryOp op) r)(hp:PrS1 X.K c r f)(ha:OD X c E a oa):OD X c E (.UnaryOp op a pos) (o1 f oa):=
 ⟨PE.imp (jWg ho ha.h) fun _ _ _ h=>zZr hp h⟩
theorem qKk{r:R2}{f:D->D->Option D}(ho:OpR X (binaryOp op) r)(hp:PrS2 X.K c r f)(ha:OD X c E a oa)(hb:OD X c E b ob):OD X c E (.BinOp a op b pos) (o2 f oa ob):=
 ⟨PE.imp (jWi ho ha.h hb.h) fun _ _ _ h=>zZq hp h⟩
theorem qKw{op:CmpOp}{r:R2}{f:D->D->Option D}(ho:OpR X (bI op) r)(hp:PrS2 X.K c r f)(ha:OD X c E a oa)(hb:OD X c E b ob)(hm:behindInMarks op b=false):OD X c E (.Compare a [op] [b] pos) (o2 f oa ob):=
 ⟨PE.imp (zKi ho ha.h hb.h hm) fun _ _ _ h=>zZq hp h⟩
end
noncomputable abbrev ST:=Ev->Res (Bool×Ev)
noncomputable def tT(K:aQ)(c:Nat->aV)(E:XK)(s:ST):TT:=fun σ H Q=>∃env B W,Cf K c env σ H B W/\(s env).wp (fun r=>∀H' W',Step env σ H B W r.2 σ H' W' ->Cf K c r.2 σ H' B W' ->Q r.1 H') (erP K c E H B W)
structure TD(X:Cx)(c:Nat->aV)(E:XK)(e:Expr)(s:ST):Prop where
 h:PT X e (tT X.K c E s)
structure WD(X:Cx)(c:Nat->aV)(E:XK)(e:Expr)(s:ST):Prop where
 h:PW X e (tT X.K c E s)
theorem PT.imp{t:TT}(h:PT X e t)(k:∀σ H Q,t' σ H Q->t σ H Q):PT X e t' :=fun pins s σ H Q I q=>h pins s σ H Q I (k σ H Q q)
theorem PW.imp{t:TT}(h:PW X e t)(k:∀σ H Q,t' σ H Q->t σ H Q):PW X e t' :=fun wh pins s σ H Q I q=>h wh pins s σ H Q I (k σ H Q q)
noncomputable def blOf:D->Option Bool
 |.bl b=>some b
 |_=>none
theorem zVc{K:aQ}{F:Hp}{u:V}{x:D}{b:Bool}(h:DAt K c F u x)(e:blOf x=some b):u=.bl b:=by
 cases h <;> cases e
 rfl
noncomputable def asB(o:Oe):ST:=fun env=>(oV o env).bind fun r=>(opt (blOf r.1)).bind fun b=>.ok (b,r.2)
theorem vX6{K:aQ}{o:Oe}(h:tV K c E (oV o) σ H Q):tO K c E o σ H Q:=by
 cases o with
 |v s=>exact h
 | p s=>
   obtain⟨env,B,W,cf,w⟩:=h;obtain⟨h1,e0,w1⟩:=qG w;refine⟨env,B,W,h1,cf,e0,fun u hu=>?_⟩;obtain⟨x,env',W',g,q⟩:=vYi cf hu w1;grind
theorem vJ8{K:aQ}{o:Oe}{Q:Bool->Hp->Prop}(h:tT K c E (asB o) σ H Q):tO K c E o σ H fun x H1=>∃k,x=.bl k/\Q k H1:=by
 obtain⟨env,B,W,cf,w⟩:=h;refine vX6 ⟨env,B,W,cf,wp_mono (fun r1 h1 u H1 W1 g=>?_) (fun _ _ he=>he) (qK.mp w)⟩;obtain⟨b,e1,h2⟩:=qG h1;exact⟨b,zVc g.at_ e1,h2 H1 W1 g.st g.cf⟩
section
variable{X:Cx}{c:Nat->aV}{E:XK}{e a b d:Expr}{rest:List Expr}{pos:Pos}{sa sb:ST}{oa ob oc:Oe}{o:Oe}
theorem xJ(h:OD X c E e o)(he:∀whole,isTrue e X.env whole=(do let v ←whole;standAt e.pos;holding [v] (truthy v)):=by intro _;rfl):TD X c E e (asB o):=
 ⟨PT.imp (jZb h.h he) fun _ _ _ h=>vJ8 h⟩
theorem qWa{op:CmpOp}{r:R2}{f:D->D->Option D}(ho:OpR X (bI op) r)(hp:PrS2 X.K c r f)(ha:OD X c E a oa)(hb:OD X c E b ob)(hm:behindInMarks op b=false):TD X c E (.Compare a [op] [b] pos) (asB (o2 f oa ob)):=
 ⟨PT.imp (zYz ho ha.h hb.h hm) fun _ _ _ h=>zZq hp (vJ8 h)⟩
noncomputable def oCh(f f' :D->D->Option D)(oa ob oc:Oe):Oe:=.v fun env=>(evO oa env).bind fun r=>(evO ob r.2).bind fun r' =>cond (r.1.st || ob.isP) ((opt (rsv r'.2 r.1)).bind fun x=>(opt (rsv r'.2 r'.1)).bind fun y=>(opt (f x y)).bind fun z=>(opt (blOf z)).bind fun k=>cond k
 ((evO oc r'.2).bind fun r3=>cond (r'.1.st || oc.isP) ((opt (rsv r3.2 r'.1)).bind fun y=>(opt (rsv r3.2 r3.1)).bind fun w=>(opt (f' y w)).bind fun z=>.ok (z,r3.2)) .no) (.ok (.bl false,r'.2))) .no
theorem zJc{K:aQ}{r:R2}{f f' :D->D->Option D}(hp:PrS2 K c r f)(hp' :PrS2 K c r' f')(h:tO K c E (oCh f f' oa ob oc) σ H Q):vX7 r r' (tO K c E oa) (tO K c E ob) (tO K c E oc) σ H Q:=by
 obtain⟨env,B,W,cf,w⟩:=h;refine qQo cf (qK.mp w) fun r1 w1 u H1 W1 g1=>?_
 refine qQo g1.cf (wp_mono (fun _ q=>q) (fun C fs he=>he.back g1.st) (qK.mp w1)) fun r2 w2 v H2 W2 g2=>?_
 obtain⟨hs,w3⟩:=vM w2;obtain⟨x,e3,w4⟩:=qG w3;obtain⟨y,e4,w5⟩:=qG w4;obtain⟨z,e5,w6⟩:=qG w5;obtain⟨k,e6,w7⟩:=qG w6;refine hp u v H2 x y z _ (jC g2.cf (g1.next g2 hs) e3) (jC g2.cf g2.at_ e4) e5 fun t ht=>⟨k,zVc (ht H2) e6,?_⟩
 have st:=g1.st.trans g2.st;cases k with
 |false=>exact w7 _ H2 W2 ⟨st,g2.cf,.bl false⟩
 | true=>
   refine qQo g2.cf (wp_mono (fun _ q=>q) (fun C fs he=>he.back st) (qK.mp w7)) fun r3 w8 t H3 W3 g3=>?_
   obtain⟨hs',w9⟩:=vM w8;obtain⟨y',e7,w10⟩:=qG w9;obtain⟨w',e8,w11⟩:=qG w10;obtain⟨z',e9,w12⟩:=qG w11;exact hp' v t H3 y' w' z' Q (jC g3.cf (g2.next g3 hs') e7) (jC g3.cf g3.at_ e8) e9 fun v hv=>w12 v H3 W3 ⟨st.trans g3.st,g3.cf,hv _⟩
theorem vQh{op:CmpOp}{r:R2}{f f' :D->D->Option D}(ho:OpR X (bI op) r)(hp:PrS2 X.K c r f)(ho' :OpR X (bI op') r')(hp' :PrS2 X.K c r' f')(ha:OD X c E a oa)(hb:OD X c E b ob)(hc:OD X c E d oc)(hm:lastMarks [op,op'] [b,d]=false:=by with_unfolding_all rfl):OD X c E (.Compare a [op,op'] [b,d] pos) (oCh f f' oa ob oc):=
 ⟨PE.imp (zW4 ho ho' ha.h hb.h hc.h hm) fun _ _ _ h=>zJc hp hp' h⟩
theorem qXf{op:CmpOp}{r:R2}{f f' :D->D->Option D}(ho:OpR X (bI op) r)(hp:PrS2 X.K c r f)(ho' :OpR X (bI op') r')(hp' :PrS2 X.K c r' f')(ha:OD X c E a oa)(hb:OD X c E b ob)(hc:OD X c E d oc)(hm:lastMarks [op,op'] [b,d]=false:=by with_unfolding_all rfl):TD X c E (.Compare a [op,op'] [b,d] pos) (asB (oCh f f' oa ob oc)):=
 ⟨PT.imp (zWy ho ho' ha.h hb.h hc.h hm) fun _ _ _ h=>zJc hp hp' (vJ8 h)⟩
noncomputable def bAnd(s t:ST):ST:=fun env=>(s env).bind fun r=>cond r.1 (t r.2) (.ok (false,r.2))
noncomputable def bOr(s t:ST):ST:=fun env=>(s env).bind fun r=>cond r.1 (.ok (true,r.2)) (t r.2)
noncomputable def bNot(s:ST):ST:=fun env=>(s env).bind fun r=>.ok (!r.1,r.2)
theorem td_w(h:WD X c E e sa):TD X c E e sa:=⟨PW.pt h.h⟩
theorem vZ5(h:TD X c E a sa):WD X c E (.BoolOp .And [a] pos) sa:=⟨zYx h.h⟩
theorem qKs(h:TD X c E a sa):WD X c E (.BoolOp .Or [a] pos) sa:=⟨jV9 h.h⟩
theorem vK8{K:aQ}{s:ST}{Q:Bool->Hp->Prop}(st:Step env σ H B W env' σ' H' W')(cf:Cf K c env' σ' H' B W')(h:(s env').wp (fun r=>∀H2 W2,Step env σ H B W r.2 σ' H2 W2->Cf K c r.2 σ' H2 B W2->Q r.1 H2) (erP K c E H B W)):tT K c E s σ' H' Q:=
 ⟨env',B,W',cf,wp_mono (fun r q H2 W2 st2 cf2=>q H2 W2 (st.trans st2) cf2) (fun C fs he=>he.back st) h⟩
theorem vZo(ha:TD X c E a sa)(hb:WD X c E (.BoolOp .And (b::rest) pos) sb):WD X c E (.BoolOp .And (a::b::rest) pos) (bAnd sa sb):=by
 refine⟨PW.imp (jZa ha.h hb.h) fun σ H Q=>?_⟩;rintro⟨env,B,W,cf,w⟩;refine⟨env,B,W,cf,wp_mono (fun r1 h1 H1 W1 st1 cf1=>?_) (fun _ _ he=>he) (qK.mp w)⟩;obtain⟨k,e1⟩:=r1;cases k with
 |false=>exact h1 H1 W1 st1 cf1
 |true=>exact vK8 st1 cf1 h1
theorem vJ6(ha:TD X c E a sa)(hb:WD X c E (.BoolOp .Or (b::rest) pos) sb):WD X c E (.BoolOp .Or (a::b::rest) pos) (bOr sa sb):=by
 refine⟨PW.imp (jWd ha.h hb.h) fun σ H Q=>?_⟩;rintro⟨env,B,W,cf,w⟩;refine⟨env,B,W,cf,wp_mono (fun r1 h1 H1 W1 st1 cf1=>?_) (fun _ _ he=>he) (qK.mp w)⟩;obtain⟨k,e1⟩:=r1;cases k with
 |true=>exact h1 H1 W1 st1 cf1
 |false=>exact vK8 st1 cf1 h1
theorem qZk(ha:TD X c E a sa):TD X c E (.UnaryOp .Not a pos) (bNot sa):=by
 refine⟨PT.imp (jZc ha.h) fun σ H Q=>?_⟩;rintro⟨env,B,W,cf,w⟩;exact⟨env,B,W,cf,wp_mono (fun r1 h1=>h1) (fun _ _ he=>he) (qK.mp w)⟩
end
section
variable{X:Cx}{c:Nat->aV}{E:XK}{e a b d:Expr}{rest:List Expr}{pos:Pos}{sa sb:ST}{oa ob oc:Oe}{o:Oe}
noncomputable def oAnd(s t:Oe):Oe:=.v fun env=>(asB s env).bind fun r=>cond r.1 (oV t r.2) (.ok (.bl false,r.2))
noncomputable def oOr(s t:Oe):Oe:=.v fun env=>(asB s env).bind fun r=>cond r.1 (.ok (.bl true,r.2)) (oV t r.2)
theorem qW6{K:aQ}{s:SV}(st:Step env σ H B W env' σ H' W')(cf:Cf K c env' σ H' B W')(h:(s env').wp (fun r=>∀u H2 W2,GotD K c env σ H B W r.2 H2 W2 r.1 u->Q u H2) (erP K c E H B W)):tV K c E s σ H' Q:=
 ⟨env',B,W',cf,wp_mono (fun r q u H2 W2 g=>q u H2 W2 ⟨st.trans g.st,g.cf,g.at_⟩) (fun C fs he=>he.back st) h⟩
theorem vZt{op}(h:OD X c E a o):OD X c E (.BoolOp op [a] pos) o:=⟨jZp h.h⟩
theorem vZu(ha:OD X c E a oa)(hb:OD X c E (.BoolOp .And (b::rest) pos) ob):OD X c E (.BoolOp .And (a::b::rest) pos) (oAnd oa ob):=by
 refine⟨PE.imp (jZu ha.h hb.h) fun σ H Q=>?_⟩;rintro⟨env,B,W,cf,w⟩;refine vJ8 (Q:=fun k H1=>if k=true then tO X.K c E ob σ H1 Q else Q (.bl false) H1) ⟨env,B,W,cf,wp_mono (fun r1 h1 H1 W1 st1 cf1=>?_) (fun _ _ he=>he) (qK.mp w)⟩;obtain⟨k,e1⟩:=r1;cases k with
 |false=>exact h1 _ H1 W1 ⟨st1,cf1,.bl false⟩
 |true=>exact vX6 (qW6 st1 cf1 h1)
theorem jWr(ha:OD X c E a oa)(hb:OD X c E (.BoolOp .Or (b::rest) pos) ob):OD X c E (.BoolOp .Or (a::b::rest) pos) (oOr oa ob):=by
 refine⟨PE.imp (jWh ha.h hb.h) fun σ H Q=>?_⟩;rintro⟨env,B,W,cf,w⟩;refine vJ8 (Q:=fun k H1=>if k=true then Q (.bl true) H1 else tO X.K c E ob σ H1 Q) ⟨env,B,W,cf,wp_mono (fun r1 h1 H1 W1 st1 cf1=>?_) (fun _ _ he=>he) (qK.mp w)⟩;obtain⟨k,e1⟩:=r1;cases k with
 |true=>exact h1 _ H1 W1 ⟨st1,cf1,.bl true⟩
 |false=>exact vX6 (qW6 st1 cf1 h1)
theorem Got.back{K:aQ}{env2:Ev}{H2:Hp}{W2:Fp}{o:O}{u:V}(st:Step env σ H B W env' σ H' W')(g:Got K c env' σ H' B W' env2 H2 W2 Z o u):Got K c env σ H B W env2 H2 W2 Z o u:=⟨st.trans g.st,g.cf,g.at_⟩
end
noncomputable def fidx(f:Str):List Str->Option Nat
 |[]=>none
 |g::r=>if f=g then some 0 else(fidx f r).map (· + 1)
theorem qVo{f:Str}:∀{fs:List Str} {vs:List V} {j:Nat} {v:V},fidx f fs=some j->vs[j]?=some v->(fs.zip vs).lookup f=some v
 |[],vs,j,v,h,e=>by cases h
 |g::r,[],j,v,h,e=>by simp at e
 | g::r,w::vs,j,v,h,e=>by
   rw[dP];simp only[fidx]at h;by_cases q:f=g
   ·rw [if_pos q] at h;cases h;cases e;rw[List.lookup,show(f == g)=true by rw[q];exact beq_self_eq_true _]
   ·rw [if_neg q] at h;obtain⟨i,h1,rfl⟩:=bY.mp h;rw[List.lookup,show(f == g)=false from beq_eq_false_iff_ne.mpr q];exact qVo h1 (by simpa using e)
noncomputable def kidx{κ:Type}[DecidableEq κ](k:κ):List κ->Option Nat
 |[]=>none
 |g::r=>if g=k then some 0 else(kidx k r).map (· + 1)
theorem qK5{k:Key}:∀{ks:List Key} {vs:List V},ks.length=vs.length->valV (ks.zip vs) k=(kidx k ks).bind fun j=>vs[j]?
 |[],[],_=>rfl
 | g::r,w::vs,h=>by
   rw[dP];simp only[kidx];by_cases q:g=k
   ·rw[if_pos q,qK6 q];rfl
   ·rw [if_neg q,qK7 q,qK5 (Nat.succ.inj h)];cases kidx k r with
    |none=>rfl
    |some i=>rfl
 |[],_::_,h=>by cases h
 |_::_,[],h=>by cases h
theorem zQl{κ:Type}[DecidableEq κ]{k:κ}:∀{ks:List κ} {j:Nat},kidx k ks=some j->j<ks.length/\ks[j]?=some k
 |[],j,h=>by cases h
 | g::r,j,h=>by
   simp only[kidx]at h;by_cases q:g=k
   ·rw[if_pos q]at h;cases h;exact⟨Nat.succ_pos _,by rw[q];rfl⟩
   ·rw [if_neg q] at h;obtain⟨i,h1,rfl⟩:=bY.mp h;obtain⟨h2,h3⟩:=zQl h1;exact⟨Nat.succ_lt_succ h2,by simpa using h3⟩
theorem vVv:∀{π:List Nat} {v u w:V} {j:Nat},walk H v π=some u->walk H u [j]=some w->walk H v (π ++ [j])=some w
 | [],v,u,w,j,h,k=>by
   have:v=u:=by cases v <;> simpa[walk] using h
   rw[this];exact k
 | i::π,v,u,w,j,h,k=>by
   cases v with
   | ref p=>
     rw[aA];simp only[walk]at h⊢;cases e:H p with
     |none=>rw[e]at h;cases h
     | some o=>
       rw[e]at h;dsimp only at h⊢;cases e2:(kids o)[i]? with
       |none=>rw[e2]at h;cases h
       | some v=>
         rw[e2]at h;exact vVv h k
   |_=>cases h
theorem vYr{u w:V}(h:vO H σ i π=some u)(k:walk H u [j]=some w):vO H σ i (π ++ [j])=some w:=by
 unfold vO at h⊢;cases e:σ[i]? with
 |none=>rw[e]at h;cases h
 | some x=>
   rw[e]at h;cases x with
   |none=>cases h
   |some v=>exact vVv h k
theorem zJ0{K:aQ}{F:Hp}{k:Kd}{os:List O}{o:O}{p:aV}(sfh:Same F H)(w:vO H σ i π=some (.ref p))(b:TwAt c F H p k vs)(r:OsAt K c F H os vs Z)(e:os[j]?=some o):
  ∃v,vs[j]?=some v/\HnAt K c F σ H v (hnO o i (π ++ [j])):=by
 obtain⟨v,Z1,R,h1,h2,h3,h4⟩:=r.focus e;obtain⟨ho,k1,k2⟩:=b.kids sfh;refine⟨v,h1,zJ4 h2 (vYr w ?_)⟩;rw[qX4 k1 (by rw[k2];exact h1)];simp[walk]
noncomputable def fldD(cs:List Nat)(f:Str):D->Option D
 |.nd (.obj C fs) ds=>cond (cs.contains C) ((fidx f fs).bind fun j=>ds[j]?) none
 |_=>none
noncomputable def jVm(env:Ev)(cs:List Nat)(f:Str):Hn->Option Hn
 |.d x=>(fldD cs f x).map .d
 | .p i π=>match getE env i π with
   |some (.ow (.obj C fs) os)=>cond (cs.contains C) ((fidx f fs).bind fun j=>(os[j]?).bind fun o=>some (hnO o i (π ++ [j]))) none
   |_=>none
noncomputable def oFld(cs:List Nat)(f:Str):Oe->Oe
 |.p s=>.p fun env=>(s env).bind (jVm env cs f)
 |.v s=>.v fun env=>(s env).bind fun r=>(opt (fldD cs f r.1)).bind fun x=>.ok (x,r.2)
noncomputable def qZe(K:aQ)(c:Nat->aV)(cs:List Nat)(f:Str):Prop:=∀C∈cs,Cls K (c C)/\x8 K (c C) f
theorem zM{b:Bool}{x:Option α}{y:α}(h:cond b x none=some y):b=true/\x=some y:=by
 cases b with
 |true=>exact⟨rfl,h⟩
 |false=>cases h
theorem qKe{cs:List Nat}(h:cs.contains C=true):C∈cs:=List.contains_iff_mem.mp h
section
variable{X:Cx}{K:aQ}{c:Nat->aV}{E:XK}{e a b:Expr}{pos:Pos}{o oa ob:Oe}{f:Str}{cs:List Nat}
theorem zQz{F:Hp}{u:V}{x y:D}(ok:qZe K c cs f)(h:DAt K c F u x)(e:fldD cs f x=some y):∃a C dx fs v,u=.ref a/\F a=some (.ins C dx fs)/\Cls K C/\x8 K C f/\fs.lookup f=some v/\DAt K c F v y:=by
 unfold fldD at e;split at e
 ·rename_i C fs ds;obtain⟨q1,q2⟩:=zM e;obtain⟨j,e1,e2⟩:=bnd q2;obtain⟨p,vs,rfl,⟨h1,dx,h2⟩,h3⟩:=h.un;obtain⟨v,g1,g2⟩:=h3.get e2;obtain⟨k1,k2⟩:=ok C (qKe q1);exact⟨p,_,dx,_,v,rfl,h2,k1,k2,qVo e1 g1,g2⟩
 ·cases e
theorem xX(ok:qZe X.K c cs f)(h:OD X c E e o)(hb:attributeBase e f X.env (eval e X.env)=eval e X.env:=by rfl):OD X c E (.Attribute e f pos) (oFld cs f o):=by
 refine⟨PE.imp (jZt h.h hb) fun σ H Q q=>?_⟩;cases o with
 | p s=>
   obtain⟨env,B,W,h1,cf,e0,q⟩:=q;obtain⟨h0,e1,e2⟩:=bnd e0;refine⟨env,B,W,h0,cf,e1,fun u hu=>?_⟩;cases h0 with
   | d x=>
     obtain⟨y,e3,rfl⟩:=bY.mp e2;obtain⟨a,C,dx,fs,v,rfl,r1,r2,r3,r4,r5⟩:=zQz ok hu e3;exact⟨a,C,dx,fs,v,rfl,hide_sub _ _ r1,r2,r3,r4,q v r5⟩
   | p i π=>
     have hu' :vO H σ i π=some u:=hu;simp only[jVm]at e2;cases e3:getE env i π with
     |none=>rw[e3]at e2;cases e2
     | some o1=>
       rw[e3]at e2;cases o1 with
       |fz d=>cases e2
       | ow k os=>
         cases k with
         | obj C fs=>
           obtain⟨q1,q2⟩:=zM e2;obtain⟨j,e4,e5⟩:=bnd q2;obtain⟨o2,e6,e7⟩:=bnd e5;cases e7;obtain⟨v1,Z1,R,w1,w2,w3,w4⟩:=cf.place e3;rw[hu']at w1;cases w1;rw[OAt.ow0]at w2;obtain⟨p,vs,Z',rfl,b,cc,d⟩:=w2;obtain⟨v,g1,g2⟩:=zJ0 hide_sub hu' b cc e6;obtain⟨b1,dx,b2⟩:=b;obtain⟨k1,k2⟩:=ok C (qKe q1);exact⟨p,_,dx,_,v,rfl,b2,k1,k2,qVo e4 g1,q v g2⟩
         |_=>cases e2
 | v s=>
   obtain⟨env,B,W,cf,w⟩:=q;refine⟨env,B,W,cf,wp_mono (fun r w1 u H1 W1 g=>?_) (fun _ _ he=>he) (qK.mp w)⟩;obtain⟨y,e3,w2⟩:=qG w1;obtain⟨a,C,dx,fs,v,rfl,r1,r2,r3,r4,r5⟩:=zQz ok g.at_ e3;exact⟨a,C,dx,fs,v,rfl,hide_sub _ _ r1,r2,r3,r4,w2 v H1 W1 ⟨g.st,g.cf,r5⟩⟩
end
noncomputable def vKx:D->Option Key
 |.int i=>some (.inl i)
 |.str x=>some (.inr x)
 |_=>none
theorem vQk{K:aQ}{F:Hp}{u:V}{x:D}{k:Key}(h:DAt K c F u x)(e:vKx x=some k):u=kV k:=by
 cases h <;> cases e <;> rfl
noncomputable def qZd:D->Option Int
 |.int i=>some i
 |_=>none
theorem jL{K:aQ}{F:Hp}{u:V}{x:D}{i:Int}(h:DAt K c F u x)(e:qZd x=some i):u=.int i:=by
 cases h <;> cases e <;> rfl
noncomputable def vVj:D->Option Str
 |.str i=>some i
 |_=>none
theorem qVb{K:aQ}{F:Hp}{u:V}{x:D}{i:Str}(h:DAt K c F u x)(e:vVj x=some i):u=.str i:=by
 cases h <;> cases e <;> rfl
noncomputable def idxK(n:Nat)(y:D):Kd->Option Nat
 |.lst =>(qZd y).bind fun i=>ixN n i
 |.tup =>(qZd y).bind fun i=>ixN n i
 |.dct ks=>(vKx y).bind fun k=>kidx k ks
 |_=>none
noncomputable def ixD(x y:D):Option D:=match x with
 |.nd k ds=>(idxK ds.length y k).bind fun j=>ds[j]?
 |.str z=>(qZd y).bind fun i=>(atI z.cps.toList i).bind fun ch=>cond (decide (z.length<=aD)) (some (.str ⟨#[ch]⟩)) none
 |_=>none
noncomputable def hnIx(env:Ev)(y:D):Hn->Option Hn
 |.d x=>(ixD x y).map .d
 | .p i π=>match getE env i π with
   |some (.ow k os)=>(idxK os.length y k).bind fun j=>(os[j]?).bind fun o=>some (hnO o i (π ++ [j]))
   |_=>none
noncomputable def oIx(a b:Oe):Oe:=match a,b with
 |.p s,.p t=>.p fun env=>(s env).bind fun h=>(t env).bind fun h' =>(rsv env h').bind fun y=>hnIx env y h
 |a,b=>.v fun env=>(evO a env).bind fun r=>(evO b r.2).bind fun r' =>cond r.1.st ((opt (rsv r'.2 r'.1)).bind fun y=>(opt (hnIx r'.2 y r.1)).bind fun h=>hnV r'.2 h) .no
noncomputable def rDGet:R2:=fun x y H Q=>∃a v,x=.ref a/\DGet H a y (some v)/\Q v H
theorem zKx(hu:X.A.units+1<cLine):IxR X rDGet:=by
 intro value slice pins s σ H x y v u Q I rx ry h hs;obtain⟨a,z,rfl,g,q⟩:=h;cases rx;exact tail_any (vX0 I g) PySem.F.slot_dict_getitem.lookup (zZg hu I g ry fun w' s3 I3 rw' =>⟨z,H,I3,rw',q⟩) hs
noncomputable def rIxA(K:aQ):R2:=fun x y H Q=>rIx K x y H Q\/rDGet x y H Q
theorem jJh(hu:X.A.units+1<cLine):IxR X (rIxA X.K):=jJg.or (zKx hu)
section
variable{X:Cx}{K:aQ}{c:Nat->aV}{E:XK}{e a b:Expr}{pos:Pos}{o oa ob:Oe}
theorem zWd{xs:List α}{i:Int}{v:α}(h:ixN xs.length i=some j)(e:xs[j]?=some v):atI xs i=some v:=by
 unfold atI;rw[h];exact e
theorem zJ7{a:aV}{kvs:List (Key×V)}{k:Key}(e:Rd H a (.dK kvs)):DGet H a (kV k) (valV kvs k):=.inl ⟨kvs,k,e,rfl,rfl⟩
theorem jVj{p:aV}{w:V}{k:Kd}{y:D}(h:NdAt K c H p k vs)(hn:vs.length=n)(hy:DAt K c H w y)(e:idxK n y k=some j)(ev:vs[j]?=some v)(q:Q v H):rIxA K (.ref p) w H Q:=by
 subst hn;cases k with
 | lst=>
   obtain⟨i,e1,e2⟩:=bnd e;exact .inl (.inl ⟨p,vs,i,v,rfl,jL hy e1,h,zWd e2 ev,q⟩)
 | tup=>
   obtain⟨i,e1,e2⟩:=bnd e;exact .inl (.inr (.inl ⟨p,vs,i,v,rfl,jL hy e1,h,zWd e2 ev,q⟩))
 | dct ks=>
   obtain⟨k,e1,e2⟩:=bnd e;refine .inr ⟨p,v,rfl,?_,q⟩;rw[vQk hy e1];have:=zJ7 (k:=k) h.2.2;rw[qK5 h.1,e2]at this;rw[←ev];exact this
 |_=>cases e
theorem jJi{F:Hp}{u w:V}{x y z:D}(s:Same F H)(h:DAt K c F u x)(hy:DAt K c H w y)(e:ixD x y=some z)(q:∀v,DAt K c F v z->Q v H):rIxA K u w H Q:=by
 unfold ixD at e;split at e
 ·obtain⟨j,e1,e2⟩:=bnd e;obtain⟨p,vs,rfl,h1,h2⟩:=h.un;obtain⟨v,g1,g2⟩:=h2.get e2;exact jVj (h1.same s) h2.len hy e1 g1 (q v g2)
 ·rename_i z';obtain⟨i,e1,e2⟩:=bnd e;obtain⟨ch,e3,e4⟩:=bnd e2;obtain⟨q1,q2⟩:=zM e4;cases q2;exact .inl (.inr (.inr ⟨z',i,ch,qVb h rfl,jL hy e1,of_decide_eq_true q1,e3,q _ (.str _)⟩))
 ·cases e
theorem zQt{h':Hn}{u w:V}{y:D}(cf:Cf K c env σ H B W)(hu:HnAt K c (hide (hd2 B W) H) σ H u h)(hy:DAt K c H w y)(e:hnIx env y h=some h')(q:∀v,HnAt K c (hide (hd2 B W) H) σ H v h' ->Q v H):rIxA K u w H Q:=by
 cases h with
 | d x=>
   obtain⟨z,e1,rfl⟩:=bY.mp e;exact jJi hide_sub hu hy e1 q
 | p i π=>
   have hu' :vO H σ i π=some u:=hu;simp only[hnIx]at e;cases e3:getE env i π with
   |none=>rw[e3]at e;cases e
   | some o1=>
     rw[e3]at e;cases o1 with
     |fz d=>cases e
     | ow k os=>
       obtain⟨j,e4,e5⟩:=bnd e;obtain⟨o2,e6,e7⟩:=bnd e5;cases e7;obtain⟨v1,Z1,R,w1,w2,w3,w4⟩:=cf.place e3;rw[hu']at w1;cases w1;rw[OAt.ow0]at w2;obtain⟨p,vs,Z',rfl,b,cc,d⟩:=w2;obtain⟨v,g1,g2⟩:=zJ0 hide_sub hu' b cc e6;exact jVj (b.nd hide_sub fun _=>rfl) cc.length hy e4 g1 (q v g2)
theorem vK9(h:tV K c E (fun env=>(evO oa env).bind fun r=>(evO ob r.2).bind fun r' =>cond r.1.st ((opt (rsv r'.2 r'.1)).bind fun y=>(opt (hnIx r'.2 y r.1)).bind fun h=>hnV r'.2 h) .no) σ H Q):tOp (rIxA K) (tO K c E oa) (tO K c E ob) σ H Q:=by
 obtain⟨env,B,W,cf,w⟩:=h;refine qQo cf (qK.mp w) fun r1 w1 u H1 W1 g1=>?_
 refine qQo g1.cf (wp_mono (fun _ q=>q) (fun C fs he=>he.back g1.st) (qK.mp w1)) fun r2 w2 v H2 W2 g2=>?_
 obtain⟨hs,w3⟩:=vM w2;obtain⟨y,e3,w4⟩:=qG w3;obtain⟨h',e4,w5⟩:=qG w4;refine zQt g2.cf (g1.next g2 (by rw[hs];rfl)) (jC g2.cf g2.at_ e3) e4 fun z hz=>?_
 obtain⟨x,env',W',g,q⟩:=vYi g2.cf hz w5;exact q z H2 W' ⟨(g1.st.trans g2.st).trans g.st,g.cf,g.at_⟩
theorem jWs(hu:X.A.units+1<cLine)(ha:OD X c E a oa)(hb:OD X c E b ob)(hs:qXd b:=by exact fun _ _=>rfl):OD X c E (.Subscript a b pos) (oIx oa ob):=by
 refine⟨PE.imp (jQ0 (jJh hu) ha.h hb.h hs) fun σ H Q h=>?_⟩;cases oa with
 |v s=>exact vK9 h
 | p s=>
   cases ob with
   |v t=>exact vK9 h
   | p t=>
     obtain⟨env,B,W,h1,cf,e0,q⟩:=h;obtain⟨h0,e1,e2⟩:=bnd e0;obtain⟨h2,e3,e4⟩:=bnd e2;obtain⟨y,e5,e6⟩:=bnd e4;exact⟨env,B,W,h0,cf,e1,fun u hu=>⟨env,B,W,h2,cf,e3,fun w hw=>zQt cf hu (jC cf hw e5) e6 q⟩⟩
end
noncomputable def evOs:List Oe->Ev->Res (List Hn×Ev)
 |[],env=>.ok ([],env)
 |o::os,env=>(evO o env).bind fun r=>cond (r.1.st || os.all Oe.isP) ((evOs os r.2).bind fun r' =>.ok (r.1::r'.1,r'.2)) .no
noncomputable def tOs(K:aQ)(c:Nat->aV)(E:XK):List Oe->TA
 |[]=>tNil
 |o::os=>vVi (tO K c E o) (tOs K c E os)
structure OsD(X:Cx)(c:Nat->aV)(E:XK)(es:List Expr)(os:List Oe):Prop where
 h:PA X es (tOs X.K c E os)
theorem qJ:OsD X c E [] []:=⟨qWe⟩
theorem qU{es:List Expr}{o:Oe}{os:List Oe}(ha:OD X c E e o)(hr:OsD X c E es os)(hs:aX (e::es) X.env=(false,eval e X.env)::aX es X.env:=by rfl):OsD X c E (e::es) (o::os):=⟨qVl ha.h hr.h hs⟩
structure GotHs(K:aQ)(c:Nat->aV)(env:Ev)(σ:L2.St)(H:Hp)(B W:Fp)(os:List Oe)(env' :Ev)(H' :Hp)(W' :Fp)(hs:List Hn)(us:List V):Prop where
 st:Step env σ H B W env' σ H' W'
 cf:Cf K c env' σ H' B W'
 at_:wH K c (hide (hd2 B W') H') σ H' us hs
 pu:os.all Oe.isP=true->H' =H/\W' =W/\env' =env
section
variable{K:aQ}{c:Nat->aV}{E:XK}
theorem qZl:∀{os:List Oe} {env:Ev} {σ:L2.St} {H:Hp} {B W:Fp} {Q:List V->Hp->Prop} {w:List Hn×Ev->Prop},Cf K c env σ H B W->(evOs os env).wp w (erP K c E H B W)->(∀r,w r->∀us H' W',GotHs K c env σ H B W os r.2 H' W' r.1 us->Q us H')->tOs K c E os σ H Q
 |[],env,σ,H,B,W,Q,w,cf,hw,k=>k _ hw [] H W ⟨.refl,cf,trivial,fun _=>⟨rfl,rfl,rfl⟩⟩
 | o::os,env,σ,H,B,W,Q,w,cf,hw,k=>by
   refine qQo cf (qK.mp hw) fun r w1 u H1 W1 g1=>?_
   obtain⟨hs,w2⟩:=vM w1;refine qZl g1.cf (wp_mono (fun _ q=>q) (fun C fs he=>he.back g1.st) (qK.mp w2)) fun r' w3 us H2 W2 g2=>?_
   refine k _ w3 (u::us) H2 W2 ⟨g1.st.trans g2.st,g2.cf,⟨?_,g2.at_⟩,fun z=>?_⟩
   ·cases e:r.1.st with
    |true=>exact g1.at_.step g2.st.same e
    | false=>
      rw[e]at hs;obtain⟨e1,e2,_⟩:=g2.pu (by simpa using hs);rw[e1,e2];exact g1.at_
   ·rw [dQ,aE] at z;obtain⟨a1,a2,a3⟩:=g1.pu z.1;obtain⟨b1,b2,b3⟩:=g2.pu z.2;grind
noncomputable def rsvs(env:Ev):List Hn->Option (List D)
 |[]=>some []
 |h::hs=>(rsv env h).bind fun x=>(rsvs env hs).bind fun xs=>some (x::xs)
theorem zQc(cf:Cf K c env σ H B W):∀{hs:List Hn} {us:List V} {xs:List D},wH K c (hide (hd2 B W) H) σ H us hs->rsvs env hs=some xs->DsAt K c H us xs
 |[],[],xs,_,e=>by cases e;exact .nil
 | h::hs,u::us,xs,a,e=>by
   obtain⟨x,e1,e2⟩:=bnd e;obtain⟨ys,e3,e4⟩:=bnd e2;cases e4;exact .cons (jC cf a.1 e1) (zQc cf a.2 e3)
 |[],_::_,_,a,_=>a.elim
 |_::_,[],_,a,_=>a.elim
noncomputable def vVk:List Hn->Ev->Res (List D×Ev)
 |[],env=>.ok ([],env)
 |h::hs,env=>(rsvB env h).bind fun r=>(vVk hs r.2).bind fun r' =>.ok (r.1::r'.1,r'.2)
noncomputable def Vws(K:aQ)(c:Nat->aV)(F H:Hp):List V->List D->Prop
 |[],[]=>True
 |u::us,x::xs=>Vw K c F H u x/\Vws K c F H us xs
 |_,_=>False
theorem HnAt.mono{F:Hp}{u:V}(a:HnAt K c F σ H u h)(s:Same F F'):HnAt K c F' σ H u h:=by
 cases h with
 |d x=>exact DAt.same s a
 |p i π=>exact a
theorem wH.mono{F:Hp}(s:Same F F'):∀{us:List V} {hs:List Hn},wH K c F σ H us hs->wH K c F' σ H us hs
 |[],[],_=>trivial
 |u::us,h::hs,a=>⟨a.1.mono s,wH.mono s a.2⟩
 |[],_::_,a=>a.elim
 |_::_,[],a=>a.elim
theorem vQc{EE:Nat->List (Str×D)->Prop}:∀{hs:List Hn} {us:List V} {env:Ev} {σ:L2.St} {H:Hp} {B W:Fp} {Q:List D×Ev->Prop},Cf K c env σ H B W->wH K c (hide (hd2 B W) H) σ H us hs->(vVk hs env).wp Q EE->
  ∃xs env' W',Step env σ H B W env' σ H W' /\Cf K c env' σ H B W' /\Vws K c (hide (hd2 B W') H) H us xs/\Q (xs,env')
 |[],[],env,σ,H,B,W,Q,cf,_,w=>⟨[],env,W,.refl,cf,trivial,w⟩
 | h::hs,u::us,env,σ,H,B,W,Q,cf,a,w=>by
   obtain⟨x,env1,W1,st1,cf1,v1,w1⟩:=zQd cf a.1 (qK.mp w);obtain⟨xs,env2,W2,st2,cf2,v2,w2⟩:=vQc cf1 (wH.mono st1.same a.2) (qK.mp w1);exact⟨x::xs,env2,W2,st1.trans st2,cf2,⟨v1.same st2.same,v2⟩,w2⟩
 |[],_::_,_,_,_,_,_,_,_,a,_=>a.elim
 |_::_,[],_,_,_,_,_,_,_,a,_=>a.elim
end
noncomputable def PrSN(K:aQ)(c:Nat->aV)(r:List V->Hp->VK->Prop)(f:List D->Option D):Prop:=∀(us:List V) (H:Hp) (xs:List D) (z:D) (Q:VK),DsAt K c H us xs->f xs=some z->(∀v,(∀F,DAt K c F v z)->Q v H)->r us H Q
noncomputable def svN(f:List D->Option D)(os:List Oe):SV:=fun env=>(evOs os env).bind fun r=>(opt (rsvs r.2 r.1)).bind fun xs=>(opt (f xs)).bind fun z=>.ok (z,r.2)
noncomputable def oL(f:List D->Option D)(os:List Oe):Oe:=match os with
 |[.p s]=>.p fun env=>(s env).bind fun h=>(rsv env h).bind fun x=>(f [x]).bind fun z=>some (.d z)
 |os=>.v (svN f os)
section
variable{X:Cx}{K:aQ}{c:Nat->aV}{E:XK}{e:Expr}{es:List Expr}{pos p:Pos}{x:Str}{id T:String}{r:List V->Hp->VK->Prop}{os:List Oe}
theorem jVx{f:List D->Option D}(hp:PrSN K c r f)(h:tV K c E (svN f os) σ H Q):tCB r (tOs K c E os) σ H Q:=by
 obtain⟨env,B,W,cf,w⟩:=h;refine qZl cf (qK.mp w) fun r1 w1 us H1 W1 g=>?_
 obtain⟨xs,e1,w2⟩:=qG w1;obtain⟨z,e2,w3⟩:=qG w2;exact hp us H1 xs z Q (zQc g.cf g.at_ e1) e2 fun v hv=>w3 v H1 W1 ⟨g.st,g.cf,hv _⟩
theorem zZn{f:List D->Option D}(hp:PrSN K c r f)(h:tO K c E (oL f os) σ H Q):tCB r (tOs K c E os) σ H Q:=by
 unfold oL at h;split at h
 ·obtain⟨env,B,W,h1,cf,e0,q⟩:=h;obtain⟨h0,e1,e2⟩:=bnd e0;obtain⟨x,e3,e4⟩:=bnd e2;obtain⟨z,e5,e6⟩:=bnd e4;cases e6;exact⟨env,B,W,h0,cf,e1,fun u hu=>hp [u] H [x] z Q (.cons (jC cf hu e3) .nil) e5 fun v hv=>q v (hv _)⟩
 ·exact jVx hp h
theorem vQi{f:List D->Option D}(hc:j8 X (.builtin id) r)(hp:PrSN X.K c r f)(hg:Gl X x)(hm:X.mg x=none)(hv:dE x=some (.builtin id))(ha:OsD X c E (e::es) os)(hn:x≠"__name__":=by decide)(hdb:(x == ("__debug__":Str))=false:=by decide)(he:aX (e::es) X.env=(false,eval e X.env)::aX es X.env:=by rfl)(hpl:(cZ pos (aX es X.env)).any (·.1)=false:=by rfl):OD X c E (.Call (.Name x p) (e::es) [] pos) (oL f os):=
 ⟨PE.imp (vW5 hc hg hm hv ha.h hn hdb he hpl) fun _ _ _ h=>zZn hp h⟩
theorem vV8{f:List D->Option D}(hc:j8 X (.type T) r)(hp:PrSN X.K c r f)(hg:Gl X x)(hm:X.mg x=none)(hv:dE x=some (.type T))(ha:OsD X c E (e::es) os)(hn:x≠"__name__":=by decide)(hdb:(x == ("__debug__":Str))=false:=by decide)(he:aX (e::es) X.env=(false,eval e X.env)::aX es X.env:=by rfl)(hpl:(cZ pos (aX es X.env)).any (·.1)=false:=by rfl):OD X c E (.Call (.Name x p) (e::es) [] pos) (oL f os):=
 ⟨PE.imp (qJs hc hg hm hv ha.h hn hdb he hpl) fun _ _ _ h=>zZn hp h⟩
end
section
variable{K:aQ}{c:Nat->aV}{E:XK}{env env' :Ev}{σ:L2.St}{H H' :Hp}{B W W' :Fp}{p:aV}{o:O}{k:Kd}
theorem Got.lay(cf:Cf K c env σ H B W)(hn:H p=none)(sm:Same H H'){ds:List D}(ha:OwAt c H' p k vs)(hd:DsAt K c (hide (hd2 (hd2 B W) (one p)) H') vs ds):Got K c env σ H B W env H' W (one p) (.ow k (ds.map .fz)) (.ref p):=by
 obtain⟨z1,z2⟩:=cf.fresh hn;have st:∀a,B a+W a≠0->H' a=H a:=fun a z=>by obtain⟨o,q,_⟩:=cf.hbs z;rw[q,sm a o q]
 have np:∀a o,H a=some o->a≠p:=fun a o q z=>by rw[z,hn]at q;cases q
 have s1:Same (hide (hd2 B W) H) (hide (hd2 (hd2 B (one p)) W) H'):=zY fun a o z q=>⟨by have:=xW (np a o q);dsimp only[hd2]at *;omega,sm a o q⟩
 have s2:hide (hd2 B (hd2 W (one p))) H' =hide (hd2 (hd2 B (one p)) W) H' :=zT fun a=>by dsimp only[hd2];omega
 have s3:hide (hd2 (hd2 B W) (one p)) H' =hide (hd2 (hd2 B (one p)) W) H' :=zT fun a=>by dsimp only[hd2];omega
 refine⟨⟨by rw[s2];exact s1,fun a z=>st a (by omega),fun a z=>?_,fun a z=>?_,fun a z1 _=>.of (st a (by omega)),fun _ o h=>⟨⟨o,h⟩,rfl⟩,rfl⟩,⟨cf.at_.keep s1 fun a z=>st a (by omega),fun a=>?_,fun a z=>?_⟩,(OAt.ow ha.nt).mpr ⟨p,vs,fun _=>0,rfl,ha,OsAt.fzs.mpr ⟨by rw[←s3];exact hd,fun _=>rfl⟩,fun _=>rfl⟩⟩
 ·by_cases q:a=p
  ·exact .inr (by rw[q];exact hn)
  ·exact .inl (by have:=xW q;dsimp only[hd2]at z;omega)
 ·cases q:H a with
  |none=>rfl
  |some o=>rw[sm a o q]at z;cases z
 ·have:=cf.nd a;by_cases q:a=p
  ·subst q;rw[show hd2 B (one a) a=B a+one a a from rfl,wV];omega
  ·rw[show hd2 B (one p) a=B a+one p a from rfl,xW q];omega
 ·by_cases q:a=p
  ·subst q;exact ha.hb
  ·rw [show hd2 B (one p) a=B a + one p a from rfl,xW q] at z;obtain⟨o,h1,h2⟩:=cf.hb a (by omega);exact⟨o,sm a o h1,h2⟩
theorem vXd(cf:Cf K c env σ H B W)(hn:H p=none)(sm:Same H H'):Same (hide (hd2 B W) H) (hide (hd2 (hd2 B W) (one p)) H'):=zY fun a o z q=>⟨by
 have np:a≠p:=fun z=>by rw[z,hn]at q;cases q
 have:=xW np;dsimp only[hd2]at *;omega,sm a o q⟩
end
noncomputable def PrF(K:aQ)(c:Nat->aV)(r:List V->Hp->VK->Prop)(f:List D->Option (List D)):Prop:=∀(us:List V) (H:Hp) (T:Fp) (xs ds:List D) (Q:VK),(∀a,T a≠0->∃o,H a=some o/\Hb o)->Vws K c (hide T H) H us xs->f xs=some ds->
 (∀p ws H',H p=none->Same H H' ->H' p=some (.lst ws)->DsAt K c (hide (hd2 T (one p)) H') ws ds->Q (.ref p) H')->r us H Q
noncomputable def PrA(K:aQ)(c:Nat->aV)(r:List V->Hp->VK->Prop)(f:List D->Option D):Prop:=∀(us:List V) (H:Hp) (T:Fp) (xs:List D) (z:D) (Q:VK),(∀a,T a≠0->∃o,H a=some o/\Hb o)->Vws K c (hide T H) H us xs->f xs=some z->
 (∀v H',Same H H' ->DAt K c (hide T H') v z->Q v H')->r us H Q
noncomputable def eF(f:List D->Option (List D))(os:List Oe):SE:=fun env=>(evOs os env).bind fun r=>(vVk r.1 r.2).bind fun q=>(opt (f q.1)).bind fun ds=>.ok (.ow .lst (ds.map .fz),q.2)
noncomputable def svA(f:List D->Option D)(os:List Oe):SV:=fun env=>(evOs os env).bind fun r=>(vVk r.1 r.2).bind fun q=>(opt (f q.1)).bind fun z=>.ok (z,q.2)
section
variable{X:Cx}{K:aQ}{c:Nat->aV}{E:XK}{e:Expr}{es:List Expr}{pos p:Pos}{x:Str}{id T:String}{r:List V->Hp->VK->Prop}{os:List Oe}
theorem jJ7{f:List D->Option (List D)}(hp:PrF K c r f)(h:tE K c E (eF f os) σ H Q):tCB r (tOs K c E os) σ H Q:=by
 obtain⟨env,B,W,cf,w⟩:=h;refine qZl cf (qK.mp w) fun r1 w1 us H1 W1 g=>?_
 obtain⟨xs,env2,W2,st2,cf2,v2,w2⟩:=vQc g.cf g.at_ (qK.mp w1);obtain⟨ds,e2,w3⟩:=qG w2;refine hp us H1 (hd2 B W2) xs ds Q (fun a z=>cf2.hbs z) v2 e2 fun p ws H' hn sm hq dz=>?_
 exact w3 _ H' W2 _ ((Got.lay cf2 hn sm (k:=.lst) hq dz).back (g.st.trans st2))
theorem jQt{f:List D->Option D}(hp:PrA K c r f)(h:tV K c E (svA f os) σ H Q):tCB r (tOs K c E os) σ H Q:=by
 obtain⟨env,B,W,cf,w⟩:=h;refine qZl cf (qK.mp w) fun r1 w1 us H1 W1 g=>?_
 obtain⟨xs,env2,W2,st2,cf2,v2,w2⟩:=vQc g.cf g.at_ (qK.mp w1);obtain⟨z,e2,w3⟩:=qG w2;refine hp us H1 (hd2 B W2) xs z Q (fun a z=>cf2.hbs z) v2 e2 fun v H' sm dz=>?_
 exact w3 v H' W2 ⟨(g.st.trans st2).trans (.grow cf2 sm),cf2.grow sm,dz⟩
theorem zZc{f:List D->Option (List D)}(hc:j8 X (.type T) r)(hp:PrF X.K c r f)(hg:Gl X x)(hm:X.mg x=none)(hv:dE x=some (.type T))(ha:OsD X c E (e::es) os)(hn:x≠"__name__":=by decide)(hdb:(x == ("__debug__":Str))=false:=by decide)(he:aX (e::es) X.env=(false,eval e X.env)::aX es X.env:=by rfl)(hpl:(cZ pos (aX es X.env)).any (·.1)=false:=by rfl):ED X c E (.Call (.Name x p) (e::es) [] pos) (eF f os):=
 ⟨PE.imp (qJs hc hg hm hv ha.h hn hdb he hpl) fun _ _ _ h=>jJ7 hp h⟩
theorem zZb{f:List D->Option D}(hc:j8 X (.type T) r)(hp:PrA X.K c r f)(hg:Gl X x)(hm:X.mg x=none)(hv:dE x=some (.type T))(ha:OsD X c E (e::es) os)(hn:x≠"__name__":=by decide)(hdb:(x == ("__debug__":Str))=false:=by decide)(he:aX (e::es) X.env=(false,eval e X.env)::aX es X.env:=by rfl)(hpl:(cZ pos (aX es X.env)).any (·.1)=false:=by rfl):EV X c E (.Call (.Name x p) (e::es) [] pos) (svA f os):=
 ⟨PE.imp (qJs hc hg hm hv ha.h hn hdb he hpl) fun _ _ _ h=>jQt hp h⟩
end
noncomputable def evVs:List SV->Ev->Res (List D×Ev)
 |[],env=>.ok ([],env)
 |s::ss,env=>(s env).bind fun r=>(evVs ss r.2).bind fun r' =>.ok (r.1::r'.1,r'.2)
noncomputable def tVs(K:aQ)(c:Nat->aV)(E:XK):List SV->TA
 |[]=>tNil
 |s::ss=>vVi (tV K c E s) (tVs K c E ss)
structure VsD(X:Cx)(c:Nat->aV)(E:XK)(es:List Expr)(ss:List SV):Prop where
 h:PA X es (tVs X.K c E ss)
theorem qN:VsD X c E [] []:=⟨qWe⟩
theorem vC{es:List Expr}{s:SV}{ss:List SV}(ha:EV X c E e s)(hr:VsD X c E es ss)(hs:aX (e::es) X.env=(false,eval e X.env)::aX es X.env:=by rfl):VsD X c E (e::es) (s::ss):=⟨qVl ha.h hr.h hs⟩
structure GotDs(K:aQ)(c:Nat->aV)(env:Ev)(σ:L2.St)(H:Hp)(B W:Fp)(env' :Ev)(H' :Hp)(W' :Fp)(xs:List D)(us:List V):Prop where
 st:Step env σ H B W env' σ H' W'
 cf:Cf K c env' σ H' B W'
 at_:DsAt K c (hide (hd2 B W') H') us xs
theorem qXx{K:aQ}:∀{ss:List SV} {env:Ev} {σ:L2.St} {H:Hp} {B W:Fp} {Q:List V->Hp->Prop} {w:List D×Ev->Prop},Cf K c env σ H B W->(evVs ss env).wp w (erP K c E H B W)->(∀r,w r->∀us H' W',GotDs K c env σ H B W r.2 H' W' r.1 us->Q us H')->tVs K c E ss σ H Q
 |[],env,σ,H,B,W,Q,w,cf,hw,k=>k _ hw [] H W ⟨.refl,cf,.nil⟩
 | s::ss,env,σ,H,B,W,Q,w,cf,hw,k=>by
   refine⟨env,B,W,cf,wp_mono (fun r w1 u H1 W1 g1=>?_) (fun _ _ he=>he) (qK.mp hw)⟩;refine qXx g1.cf (wp_mono (fun _ q=>q) (fun C fs he=>he.back g1.st) (qK.mp w1)) fun r' w3 us H2 W2 g2=>?_
   exact k _ w3 (u::us) H2 W2 ⟨g1.st.trans g2.st,g2.cf,.cons (g1.at_.same g2.st.same) g2.at_⟩
noncomputable def vD(ss:List SV):SV:=fun env=>(evVs ss env).bind fun r=>cond (decide (r.1.length<=1000)) (.ok (.tup r.1,r.2)) .no
noncomputable def eLst(ss:List SV):SE:=fun env=>(evVs ss env).bind fun r=>cond (decide (r.1.length<=1000)) (.ok (.ow .lst (r.1.map .fz),r.2)) .no
theorem zJz(h:n<=1000):n<=aD:=Nat.le_of_lt (zVl h)
section
variable{X:Cx}{c:Nat->aV}{E:XK}{es:List Expr}{pos:Pos}{ss:List SV}
theorem vB{x1}(h:VsD X c E es ss):EV X c E (.Tuple es x1 pos) (vD ss):=by
 refine⟨PE.imp (jZo h.h) fun σ H Q=>?_⟩;rintro⟨env,B,W,cf,w⟩;refine qXx cf (qK.mp w) fun r w1 us H1 W1 g=>?_
 obtain⟨hl,w2⟩:=vM w1;refine⟨zJz (by rw[g.at_.len];exact of_decide_eq_true hl),fun p hp=>?_⟩;have sm:Same H1 (upd H1 p (.tup us)):=.upd hp;obtain⟨z1,z2⟩:=g.cf.fresh hp;refine w2 (.ref p) _ W1 ⟨g.st.trans (.grow g.cf sm),g.cf.grow sm,.of (k:=.tup) (SqT.of ?_) (g.at_.same (zY fun a o z q=>⟨z,sm a o q⟩))⟩;rw[zG (by dsimp only[hd2];omega),upd_same]
theorem qQy(h:VsD X c E es ss):ED X c E (.List es pos) (eLst ss):=by
 refine⟨PE.imp (jZq h.h) fun σ H Q=>?_⟩;rintro⟨env,B,W,cf,w⟩;refine qXx cf (qK.mp w) fun r w1 us H1 W1 g=>?_
 obtain⟨hl,w2⟩:=vM w1;refine⟨zJz (by rw[g.at_.len];exact of_decide_eq_true hl),fun p hp=>?_⟩;have sm:Same H1 (upd H1 p (.lst us)):=.upd hp;exact w2 (.ref p) _ W1 _ ((Got.lay g.cf hp sm (k:=.lst) upd_same (g.at_.same (vXd g.cf hp sm))).back g.st)
end
inductive Out where
 |nx (env:Ev)|rt (o:O) (env:Ev)|bk (env:Ev)|ct (env:Ev)
noncomputable abbrev SS:=Ev->Res Out
structure GotR(K:aQ)(c:Nat->aV)(env:Ev)(σ:L2.St)(H:Hp)(B W:Fp)(env' :Ev)(σ' :L2.St)(H' :Hp)(W' Z:Fp)(o:O)(u:V):Prop where
 st:Step env σ H B W env' σ' H' (hd2 W' Z)
 cf:Cf K c env' σ' H' (hd2 B Z) W'
 at_:OAt K c (hide (hd2 (hd2 B Z) W') H') H' o u Z
noncomputable def OutP(K:aQ)(c:Nat->aV)(env:Ev)(σ:L2.St)(H:Hp)(B W:Fp)(D:Ends):Out->Prop
 |.nx e=>∀σ' H' W',Step env σ H B W e σ' H' W' ->Cf K c e σ' H' B W' ->D.nx σ' H'
 |.bk e=>∀σ' H' W',Step env σ H B W e σ' H' W' ->Cf K c e σ' H' B W' ->D.bk σ' H'
 |.ct e=>∀σ' H' W',Step env σ H B W e σ' H' W' ->Cf K c e σ' H' B W' ->D.ct σ' H'
 |.rt o e=>∀v σ' H' W' Z,GotR K c env σ H B W e σ' H' W' Z o v->D.rt v H'
noncomputable def tS(K:aQ)(c:Nat->aV)(E:XK)(s:SS):TS:=fun D σ H=>∃env B W,Cf K c env σ H B W/\(s env).wp (OutP K c env σ H B W D) (erP K c E H B W)
structure SD(X:Cx)(c:Nat->aV)(E:XK)(st:Stmt)(s:SS):Prop where
 h:PS X st (tS X.K c E s)
structure SDs(X:Cx)(c:Nat->aV)(E:XK)(st:List Stmt)(s:SS):Prop where
 h:PSs X st (tS X.K c E s)
theorem PS.imp{st:Stmt}{t t' :TS}(h:PS X st t)(k:∀D σ H,t' D σ H->t D σ H):PS X st t' :=fun pins s σ H D I q=>h pins s σ H D I (k D σ H q)
theorem PSs.imp{st:List Stmt}{t t' :TS}(h:PSs X st t)(k:∀D σ H,t' D σ H->t D σ H):PSs X st t' :=fun pins s σ H D I q=>h pins s σ H D I (k D σ H q)
theorem PS.len{st:Stmt}{t:TS}(h:PS X st (fun D σ H=>σ.length=X.N.length/\t D σ H)):PS X st t:=fun pins s σ H D I q=>h pins s σ H D I ⟨I.len,q⟩
section
variable{K:aQ}{c:Nat->aV}{E:XK}{env env' :Ev}{σ σ' :L2.St}{H H' :Hp}{B W W' :Fp}{D:Ends}{o:Out}{s:SS}
theorem OutP.back(st:Step env σ H B W env' σ' H' W')(h:OutP K c env σ H B W D o):OutP K c env' σ' H' B W' D o:=by
 cases o with
 |nx e=>exact fun σ2 H2 W2 s2 cf=>h σ2 H2 W2 (st.trans s2) cf
 |bk e=>exact fun σ2 H2 W2 s2 cf=>h σ2 H2 W2 (st.trans s2) cf
 |ct e=>exact fun σ2 H2 W2 s2 cf=>h σ2 H2 W2 (st.trans s2) cf
 |rt r e=>exact fun v σ2 H2 W2 Z g=>h v σ2 H2 W2 Z ⟨st.trans g.st,g.cf,g.at_⟩
theorem vZ7(st:Step env σ H B W env' σ' H' W')(cf:Cf K c env' σ' H' B W')(h:(s env').wp (OutP K c env σ H B W D) (erP K c E H B W)):tS K c E s D σ' H' :=
 ⟨env',B,W',cf,wp_mono (fun _ q=>q.back st) (fun _ _ he=>he.back st) h⟩
end
noncomputable def sSeq(s t:SS):SS:=fun env=>(s env).bind fun o=>match o with
 |.nx e=>t e
 |o=>.ok o
noncomputable def sNil:SS:=fun env=>.ok (.nx env)
section
variable{X:Cx}{c:Nat->aV}{E:XK}{st:Stmt}{sts:List Stmt}{s t u:SS}{pos:Pos}
theorem qB:SDs X c E [] sNil:=by
 refine⟨PSs.imp zQh fun D σ H=>?_⟩;rintro⟨env,B,W,cf,w⟩;exact w σ H W .refl cf
theorem qV(h:SD X c E st s):SDs X c E [st] s:=⟨zY0 h.h⟩
theorem qQ(h:SD X c E st s)(k:SDs X c E sts t):SDs X c E (st::sts) (sSeq s t):=by
 refine⟨PSs.imp (vW3 h.h k.h) fun D σ H=>?_⟩;rintro⟨env,B,W,cf,w⟩;refine⟨env,B,W,cf,wp_mono (fun o ho=>?_) (fun _ _ he=>he) (qK.mp w)⟩;cases o with
 |nx e=>exact fun σ' H' W' st' cf' =>vZ7 st' cf' ho
 |bk e=>exact ho
 |ct e=>exact ho
 |rt r e=>exact ho
noncomputable def sIf(b:ST)(s t:SS):SS:=fun env=>(b env).bind fun r=>cond r.1 (s r.2) (t r.2)
theorem qT{x y:List Stmt}{sc:ST}(hc:TD X c E e sc)(ha:SDs X c E x s)(hb:SDs X c E y t):SD X c E (.If e x y pos) (sIf sc s t):=by
 refine⟨PS.imp (jWe hc.h ha.h hb.h) fun D σ H=>?_⟩;rintro⟨env,B,W,cf,w⟩;refine⟨env,B,W,cf,wp_mono (fun r1 h1 H1 W1 st1 cf1=>?_) (fun _ _ he=>he) (qK.mp w)⟩;obtain⟨k,e1⟩:=r1;cases k with
 |true=>exact vZ7 st1 cf1 h1
 |false=>exact vZ7 st1 cf1 h1
noncomputable def sRet(s:SE):SS:=fun env=>(s env).bind fun r=>.ok (.rt r.1 r.2)
theorem qP{s:SE}(h:ED X c E e s):SD X c E (.Return (some e) pos) (sRet s):=by
 refine⟨PS.imp (jZe h.h) fun D σ H=>?_⟩;rintro⟨env,B,W,cf,w⟩;exact⟨env,B,W,cf,wp_mono (fun r1 h1 u H1 W1 Z g=>h1 u σ H1 W1 Z ⟨g.st,g.cf,g.at_⟩) (fun _ _ he=>he) (qK.mp w)⟩
noncomputable def eMv(i:Nat):SE:=fun env=>match env[i]? with
 |some (.s false o)=>.ok (o,env.set i .un)
 |_=>.no
theorem vYy{s:Slot}{o:O}(hs:∀o,s≠ .s true o)(h:(env.set i s)[j]?=some (.s true o)):j≠i/\env[j]?=some (.s true o):=by
 grind
theorem yJ(h:PE X e (tVar i)):ED X c E e (eMv i):=by
 refine⟨PE.imp h fun σ H Q=>?_⟩;rintro⟨env,B,W,cf,w⟩;unfold eMv at w;split at w
 ·rename_i o e0;obtain⟨x,Z1,R,h1,h2,h3,h4⟩:=cf.focus e0;cases x with
  |none=>exact h2.elim
  | some v=>
    have eq:hide (hd2 (hd2 B Z1) R) H=hide (hd2 B W) H:=zT fun a=>by dsimp only[hd2];rw[h3];omega
    have eq2:hide (hd2 B (hd2 R Z1)) H=hide (hd2 B W) H:=zT fun a=>by dsimp only[hd2];rw[h3];omega
    have cf' :=h4 H (hd2 B Z1) R .un (some v) (fun _=>0) (by rw[eq];exact Same.refl _) (fun a=>by omega) (fun _ _=>rfl) (fun _=>rfl) (fun a=>by have:=cf.nd a;rw[h3]at this;dsimp only[hd2];omega) (fun a z=>by
     by_cases q:B a=0
     ·exact jH.hb (x:=some v) h2 (by dsimp only[hd2]at z;omega)
     ·exact cf.hb a q)
    rw[yT h1]at cf';refine⟨v,h1,w v H R Z1 ⟨⟨by rw[eq2];exact Same.refl _,fun _ _=>rfl,fun a z=>.inl (by dsimp only[hd2]at z;rw[h3];omega),fun _ z=>z,fun _ _ _=>.refl,fun j o' q=>?_,cR⟩,cf',by rw[eq];exact h2⟩⟩;grind
 ·exact w.elim
noncomputable def zB(s:SE):SS:=fun env=>(s env).bind fun r=>.ok (.nx r.2)
theorem v5{s:SE}(h:ED X c E e s)(hs:swapsWith e none pos.line X.env=pure false:=by rfl):SD X c E (.Expr e pos) (zB s):=by
 refine⟨PS.imp (zY3 h.h hs) fun D σ H=>?_⟩;rintro⟨env,B,W,cf,w⟩;exact⟨env,B,W,cf,wp_mono (fun r1 h1 u H1 W1 Z g=>h1 σ H1 W1 g.fz.st g.fz.cf) (fun _ _ he=>he) (qK.mp w)⟩
end
section
variable{K:aQ}{c:Nat->aV}{env env' :Ev}{σ σ' :L2.St}{H H' :Hp}{B W W' Z:Fp}{i:Nat}{o:O}{u:V}
theorem GotR.put(g:GotR K c env σ H B W env' σ' H' W' Z o u)(hi:i<env'.length):∃W2,Step env σ H B W (env'.set i (.s false o)) (σ'.set i (some u)) H' W2/\Cf K c (env'.set i (.s false o)) (σ'.set i (some u)) H' B W2:=by
 obtain⟨W2,cf2,sm,nw⟩:=g.cf.put (B:=B) (io:=false) (fun _=>rfl) g.at_ hi;refine⟨W2,g.st.trans ⟨?_,fun _ _=>rfl,fun a z=>.inl ?_,fun _ z=>z,fun _ _ _=>.refl,fun j o' q=>?_,cR⟩,cf2⟩
 ·rw [show hide (hd2 B (hd2 W' Z)) H' =hide (hd2 (hd2 B Z) W') H' from zT fun a=>by dsimp only [hd2];omega];exact sm
 ·have:=nw a z;dsimp only[hd2];omega
 ·obtain⟨q1,q2⟩:=vYy (fun _ z=>by cases z) q;exact⟨⟨o',q2⟩,bT (Ne.symm q1)⟩
theorem Got.r(g:Got K c env σ H B W env' H' W' Z o u):GotR K c env σ H B W env' σ H' W' Z o u:=⟨g.st,g.cf,g.at_⟩
end
noncomputable def sSet(i:Nat)(s:SE):SS:=fun env=>(s env).bind fun r=>.ok (.nx (r.2.set i (.s false r.1)))
section
variable{X:Cx}{c:Nat->aV}{E:XK}{pos pos' :Pos}{i:Nat}{x:Str}{e:Expr}
theorem Cf.len{K:aQ}(h:Cf K c env σ H B W):env.length=σ.length:=h.at_.len
theorem qY8{K:aQ}(cf:Cf K c env σ H B W)(hl:σ.length=N.length)(hi:N[i]?=some x):i<env.length:=by
 rw[cf.len,hl];exact(aW.mp hi).1
theorem jV2{s:SE}(hN:X.N.Nodup)(hi:X.N[i]?=some x)(hx:Loc X.env.scope x)(he:ED X c E e s)(hs:swapsWith e (some (.Name x pos')) pos.line X.env=pure false:=by rfl)(hf:X.fn x=true\/X.env.scope.names.lookup x=some .local :=by first|exact .inl rfl|exact .inr rfl|assumption):
  SD X c E (.Assign [.Name x pos'] e pos) (sSet i s):=by
 refine⟨PS.len (PS.imp (jZd hN hi hx he.h hs hf) fun D σ H=>?_)⟩;rintro⟨hl,env,B,W,cf,w⟩;refine⟨env,B,W,cf,wp_mono (fun r1 h1 u H1 W1 Z g=>?_) (fun _ _ he=>he) (qK.mp w)⟩;obtain⟨W2,s2,c2⟩:=g.r.put (qY8 g.cf hl hi);exact h1 _ H1 W2 s2 c2
end
noncomputable abbrev SG:=D->Ev->Option Ev
noncomputable def tG(K:aQ)(c:Nat->aV)(T:List Nat)(g:SG):TG:=fun v σ H Q=>∃env B W d e,Cf K c env σ H B W/\DAt K c (hide (hd2 B W) H) v d/\g d env=some e/\∀σ' W',Step env σ H B W e σ' H W' ->Cf K c e σ' H B W' ->(∀i,i∉T->σ'[i]?=σ[i]?)->Q σ' H
structure GD(X:Cx)(c:Nat->aV)(e:Expr)(T:List Nat)(g:SG):Prop where
 h:PG X e (tG X.K c T g)
noncomputable abbrev SGs:=List D->Ev->Option Ev
noncomputable def tGs(K:aQ)(c:Nat->aV)(T:List Nat)(g:SGs):TGs:=fun vs σ H Q=>∃env B W ds e,Cf K c env σ H B W/\DsAt K c (hide (hd2 B W) H) vs ds/\g ds env=some e/\∀σ' W',Step env σ H B W e σ' H W' ->Cf K c e σ' H B W' ->(∀i,i∉T->σ'[i]?=σ[i]?)->Q σ' H
structure GDs(X:Cx)(c:Nat->aV)(es:List Expr)(T:List Nat)(g:SGs):Prop where
 h:PGs X es (tGs X.K c T g)
theorem PG.imp{t t' :TG}(h:PG X e t)(k:∀v σ H Q,t' v σ H Q->t v σ H Q):PG X e t' :=fun pins s σ H v u Q I r q=>h pins s σ H v u Q I r (k v σ H Q q)
theorem PGs.imp{e:List Expr}{t t' :TGs}(h:PGs X e t)(k:∀v σ H Q,t' v σ H Q->t v σ H Q):PGs X e t' :=fun pins s σ H v u Q I r q=>h pins s σ H v u Q I r (k v σ H Q q)
theorem PG.len{t:TG}(h:PG X e (fun v σ H Q=>σ.length=X.N.length/\t v σ H Q)):PG X e t:=fun pins s σ H v u Q I r q=>h pins s σ H v u Q I r ⟨I.len,q⟩
noncomputable def gN(i:Nat):SG:=fun d env=>some (env.set i (.s false (.fz d)))
noncomputable def gNl:SGs:=fun ds env=>match ds with
 |[]=>some env
 |_=>none
noncomputable def gCn(g:SG)(gs:SGs):SGs:=fun ds env=>match ds with
 |d::r=>(g d env).bind fun e=>gs r e
 |[]=>none
noncomputable def gT(n:Nat)(gs:SGs):SG:=fun d env=>match d with
 |.nd .tup ds=>if ds.length=n then gs ds env else none
 |_=>none
section
variable{X:Cx}{c:Nat->aV}{pos:Pos}{x:Str}{i n:Nat}{e:Expr}{es:List Expr}{g:SG}{gs:SGs}{T T' :List Nat}
theorem zK6(hN:X.N.Nodup)(hi:X.N[i]?=some x)(hx:Loc X.env.scope x)(hf:X.fn x=true\/X.env.scope.names.lookup x=some .local :=by first|exact .inl rfl|exact .inr rfl|assumption):GD X c (.Name x pos) [i] (gN i):=by
 refine⟨PG.len (PG.imp (zKd hN hi hx hf) fun v σ H Q=>?_)⟩;rintro⟨hl,env,B,W,d,e,cf,hd,h1,h2⟩;cases h1;have g:GotD X.K c env σ H B W env H W d v:=⟨.refl,cf,hd⟩
 obtain⟨W2,s2,c2⟩:=g.own.r.put (qY8 cf hl hi);exact h2 _ W2 s2 c2 fun j hj=>bT fun z=>hj (by rw[z];exact aM)
theorem vJh:GDs X c [] [] gNl:=by
 refine⟨PGs.imp zKc fun v σ H Q=>?_⟩;rintro⟨env,B,W,ds,e,cf,hd,h1,h2⟩;cases ds with
 | nil=>
   have:=hd.un0;cases h1;exact⟨this,h2 _ W .refl cf fun _ _=>rfl⟩
 |cons d r=>cases h1
theorem qVe(h:GD X c e T g)(k:GDs X c es T' gs)(hs:(assignEach (e::es) X.env).map (·.2)=assign e X.env::(assignEach es X.env).map (·.2):=by rfl):GDs X c (e::es) (T ++ T') (gCn g gs):=by
 refine⟨PGs.imp (zW2 h.h k.h hs) fun v σ H Q=>?_⟩;rintro⟨env,B,W,ds,e,cf,hd,h1,h2⟩;cases ds with
 |nil=>cases h1
 | cons d r=>
   obtain⟨u,us,rfl,a,b⟩:=hd.un;obtain⟨e2,e1,h1⟩:=bnd h1;exact⟨u,us,rfl,env,B,W,d,e2,cf,a,e1,fun σ' W' st' cf' k1=>⟨e2,B,W',r,e,cf',b.same st'.same,h1,fun σ2 W2 st2 cf2 k2=>h2 σ2 W2 (st'.trans st2) cf2 fun i hi=>(k2 i fun z=>hi (bE _ z)).trans (k1 i fun z=>hi (List.mem_append_left _ z))⟩⟩
theorem vYj{k:Nat}(hc:X.calm=true)(h:GDs X c es T gs)(hn:(assignEach es X.env).length =n:=by rfl)(hst:(assignEach es X.env).findIdx? (·.1)=none:=by rfl):GD X c (.Tuple es k pos) T (gT n gs):=by
 refine⟨PG.imp (jZm hc h.h hn hst) fun v σ H Q=>?_⟩;rintro⟨env,B,W,d,e,cf,hd,h1,h2⟩;unfold gT at h1;split at h1
 ·rename_i ds;split at h1
  ·rename_i hl;obtain⟨p,vs,q1,q2,q3⟩:=hd.un;exact⟨p,vs,q1,hide_sub.tup q2,by rw[q3.len];exact hl,env,B,W,ds,e,cf,q3,h1,h2⟩
  ·cases h1
 ·cases h1
end
noncomputable def ItD(K:aQ)(c:Nat->aV)(F:Hp)(J:It)(ds:List D):Prop:=∀(i:Nat) (H:Hp) (T:Fp),Same F (hide T H)->(∀a,T a≠0->∃o,H a=some o/\Hb o)->
 (∀d,ds[i]?=some d->J.go i H/\∀x H',J.yld i H x H' ->Same H H' /\DAt K c (hide T H') x d)/\(i=ds.length->J.stop i H)
noncomputable abbrev SI:=Ev->Res (List D×Ev)
noncomputable def tIt(K:aQ)(c:Nat->aV)(E:XK)(s:SI):TI:=fun σ H R=>∃env B W,Cf K c env σ H B W/\(s env).wp (fun r=>∀J H' W',Step env σ H B W r.2 σ H' W' ->Cf K c r.2 σ H' B W' ->ItD K c (hide (hd2 B W') H') J r.1->R J H') (erP K c E H B W)
structure ID'(X:Cx)(c:Nat->aV)(E:XK)(tg e:Expr)(s:SI):Prop where
 h:PI X tg e (tIt X.K c E s)
theorem PI.imp{tg:Expr}{t t' :TI}(h:PI X tg e t)(k:∀σ H R,t' σ H R->t σ H R):PI X tg e t' :=fun pins s σ H R I q=>h pins s σ H R I (k σ H R q)
noncomputable def forS(g:SG)(body:SS):List D->SS
 |[],env=>.ok (.nx env)
 |d::ds,env=>(opt (g d env)).bind fun e1=>(body e1).bind fun o=>match o with
    |.nx e2=>forS g body ds e2
    |.ct e2=>forS g body ds e2
    |.bk e2=>.ok (.nx e2)
    |.rt r e2=>.ok (.rt r e2)
noncomputable def sFor(it:SI)(g:SG)(body:SS):SS:=fun env=>(it env).bind fun r=>forS g body r.1 r.2
theorem zXx{K:aQ}{T:List Nat}{body:SS}{D:Ends}{J:It}{H1:Hp}{W1:Fp}{ds:List DX.D}{e1:Ev}(cf1:Cf K c e1 σ H1 B W1)(iter:ItD K c (hide (hd2 B W1) H1) J ds)(h1:(forS g body ds e1).wp (OutP K c e1 σ H1 B W1 D) (erP K c E H1 B W1)):∃W:Nat->Nat->L2.St->Hp->Prop,(∃m,W 0 m σ H1)/\∀i m σ H,W i m σ H->
   (J.stop i H/\D.nx σ H)\/(J.go i H/\∃N:L2.St->Hp->Prop,(∀σ' H',N σ' H' ->∃m',m'<m/\W (i+1) m' σ' H')/\∀x H',J.yld i H x H' ->tG K c T g x σ H' fun σ2 H2=>tS K c E body {D with nx:=N,ct:=N,bk:=D.nx} σ2 H2):=by
 refine⟨fun i m σ' H' =>m=ds.length - i/\i<=ds.length/\∃env' W',Same (hide (hd2 B W1) H1) (hide (hd2 B W') H')/\Cf K c env' σ' H' B W' /\(forS g body (ds.drop i) env').wp (OutP K c env' σ' H' B W' D) (erP K c E H' B W'),
  ⟨ds.length,by simp,cJ _,e1,W1,Same.refl _,cf1,h1⟩,?_⟩
 rintro i m σ' H' ⟨rfl,hi,env',W',sm,cf',w'⟩;obtain⟨it1,it2⟩:=iter i H' (hd2 B W') sm (fun a z=>cf'.hbs z);by_cases hlt:i<ds.length
 ·obtain⟨go,yl⟩:=it1 ds[i] (aF hlt);refine .inr ⟨go,fun σ2 H2=>ds.length - (i+1)<ds.length - i/\(ds.length - (i+1)=ds.length - (i+1)/\i+1<=ds.length/\∃env2 W2,Same (hide (hd2 B W1) H1) (hide (hd2 B W2) H2)/\Cf K c env2 σ2 H2 B W2/\(forS g body (ds.drop (i+1)) env2).wp (OutP K c env2 σ2 H2 B W2 D) (erP K c E H2 B W2)),fun σ2 H2 q=>⟨_,q.1,q.2⟩,fun x H2 y=>?_⟩;obtain⟨sm2,hx⟩:=yl x H2 y;rw[bF hlt]at w';obtain⟨e3,e2,w'⟩:=qG w';refine⟨env',B,W',ds[i],e3,cf'.grow sm2,hx,e2,fun σ3 W3 st3 cf3 _=>?_⟩;have stA:Step env' σ' H' B W' e3 σ3 H2 W3:=(Step.grow cf' sm2).trans st3
  have next:∀e4,(forS g body (ds.drop (i+1)) e4).wp (OutP K c env' σ' H' B W' D) (erP K c E H' B W')->∀σ4 H4 W4,Step e3 σ3 H2 B W3 e4 σ4 H4 W4->Cf K c e4 σ4 H4 B W4->
    ds.length - (i+1)<ds.length - i/\(ds.length - (i+1)=ds.length - (i+1)/\i+1<=ds.length/\∃env2 W2,Same (hide (hd2 B W1) H1) (hide (hd2 B W2) H4)/\Cf K c env2 σ4 H4 B W2/\(forS g body (ds.drop (i+1)) env2).wp (OutP K c env2 σ4 H4 B W2 D) (erP K c E H4 B W2)):=fun e4 q σ4 H4 W4 st4 cf4=>by
   have stB:=stA.trans st4;exact⟨by omega,rfl,hlt,e4,W4,sm.trans stB.same,cf4,wp_mono (fun o q=>q.back stB) (fun _ _ he=>he.back stB) q⟩
  refine⟨e3,B,W3,cf3,wp_mono (fun o q=>?_) (fun _ _ he=>he.back stA) (qK.mp w')⟩;cases o with
  |nx e4=>exact next e4 q
  |ct e4=>exact next e4 q
  |bk e4=>exact fun σ4 H4 W4 st4 cf4=>q σ4 H4 W4 (stA.trans st4) cf4
  |rt r e4=>exact fun v σ4 H4 W4 Z g=>q v σ4 H4 W4 Z ⟨stA.trans g.st,g.cf,g.at_⟩
 ·have hi2:i=ds.length:=by omega
  subst hi2;rw[List.drop_length]at w';exact .inl ⟨it2 rfl,w' σ' H' W' .refl cf'⟩
theorem zYi{K:aQ}{T:List Nat}{body:SS}{D:Ends}(h:tS K c E (sFor it g body) D σ H):tFor (tIt K c E it) (tG K c T g) (tS K c E body) D σ H:=by
 obtain⟨env,B,W,cf,w⟩:=h;refine⟨env,B,W,cf,wp_mono (fun r1 h1 J H1 W1 st1 cf1 iter=>?_) (fun _ _ he=>he) (qK.mp w)⟩;exact zXx cf1 iter (wp_mono (fun o q=>q.back st1) (fun _ _ he=>he.back st1) h1)
theorem qZn{tg iter:Expr}{body:List Stmt}{T:List Nat}{s:SS}(hp:PassesOwn (model X.prog X.w) X.A X.env X.xe)(hc:X.calm=true)(hi:ID' X c E tg iter it)(hg:GD X c tg T g)(hb:SDs X c E body s)(hs:∀x,foldedSetIterable iter X.env x=pure x:=by intro _;rfl):SD X c E (.For tg iter body [] pos) (sFor it g s):=
 ⟨PS.imp (jZf hp hc hi.h hg.h hb.h hs) fun _ _ _ h=>zYi h⟩
noncomputable def vS(b:ST)(body:SS):Nat->SS
 | 0,_=>.no
 | n + 1,env=>(b env).bind fun r=>cond r.1 ((body r.2).bind fun o=>match o with
     |.nx e2=>vS b body n e2
     |.ct e2=>vS b body n e2
     |.bk e2=>.ok (.nx e2)
     |.rt r e2=>.ok (.rt r e2)) (.ok (.nx r.2))
theorem zVj{K:aQ}{t:ST}{body:SS}{D:Ends}(h:tS K c E (vS t body n) D σ H):zJb (tT K c E t) (tS K c E body) D σ H:=by
 obtain⟨env,B,W,cf,w⟩:=h;refine⟨fun m σ' H' =>∃env' B' W',Cf K c env' σ' H' B' W' /\(vS t body m env').wp (OutP K c env' σ' H' B' W' D) (erP K c E H' B' W'),⟨n,env,B,W,cf,w⟩,?_⟩;rintro m σ' H' ⟨env',B',W',cf',w'⟩;cases m with
 |zero=>exact w'.elim
 | succ m=>
   refine⟨env',B',W',cf',wp_mono (fun r q H1 W1 st1 cf1=>?_) (fun _ _ he=>he) (qK.mp w')⟩;obtain⟨k,e1⟩:=r;cases k with
   |false=>exact q σ' H1 W1 st1 cf1
   | true=>
     refine⟨fun σ2 H2=>∃env' B' W',Cf K c env' σ2 H2 B' W' /\(vS t body m env').wp (OutP K c env' σ2 H2 B' W' D) (erP K c E H2 B' W'),fun σ2 H2 q=>⟨m,Nat.lt_succ_self m,q⟩,e1,B',W1,cf1,wp_mono (fun o q=>?_) (fun _ _ he=>he.back st1) (qK.mp q)⟩;have go:∀e4,(vS t body m e4).wp (OutP K c env' σ' H' B' W' D) (erP K c E H' B' W')->∀σ4 H4 W4,Step e1 σ' H1 B' W1 e4 σ4 H4 W4->Cf K c e4 σ4 H4 B' W4->∃env' B' W',Cf K c env' σ4 H4 B' W' /\(vS t body m env').wp (OutP K c env' σ4 H4 B' W' D) (erP K c E H4 B' W'):=fun e4 q σ4 H4 W4 st4 cf4=>
      ⟨e4,B',W4,cf4,wp_mono (fun o q=>q.back (st1.trans st4)) (fun _ _ he=>he.back (st1.trans st4)) q⟩
     cases o with
     |nx e4=>exact go e4 q
     |ct e4=>exact go e4 q
     |bk e4=>exact fun σ4 H4 W4 st4 cf4=>q σ4 H4 W4 (st1.trans st4) cf4
     |rt r e4=>exact fun v σ4 H4 W4 Z g=>q v σ4 H4 W4 Z ⟨st1.trans g.st,g.cf,g.at_⟩
theorem y6{body:List Stmt}{t:ST}{s:SS}(n:Nat)(hp:PassesOwn (model X.prog X.w) X.A X.env X.xe)(hc:TD X c E e t)(hb:SDs X c E body s):SD X c E (.While e body [] pos) (vS t s n):=
 ⟨PS.imp (zWz hp hc.h hb.h) fun _ _ _ h=>zVj h⟩
noncomputable abbrev Fn:=Ev->Res (O×Ev)
noncomputable def vZz:Slot->Slot
 |.s true o=>.s true o
 |_=>.un
noncomputable def outs:Nat->Ev->Ev
 | 0,_=> []
 |_+1,[]=> []
 |n+1,s::e=>vZz s::outs n e
noncomputable def fnS(n m:Nat)(body:SS):Fn:=fun args=>(body (args ++ List.replicate m .un)).bind fun o=>match o with
 |.nx e=>.ok (.fz .non,outs n e)
 |.rt r e=>.ok (r,outs n e)
 |_=>.no
noncomputable def spD(K:aQ)(c:Nat->aV)(n:Nat)(F:Fn):Sp:=fun vs H Q E=>∃args B W,args.length=n/\Cf K c args (vs.map some) H B W/\
 (F args).wp (fun r=>∀v H' W' Z,GotR K c args (vs.map some) H B W r.2 (vs.map some) H' W' Z r.1 v->Q v H') (erP K c E H B W)
section
variable{K:aQ}{c:Nat->aV}{F H H' :Hp}
theorem SlAt.uns(t:TabF c F):∀m:Nat,SlAt K c F H (List.replicate m .un) (List.replicate m none) (fun _=>0)
 | 0=>⟨⟨rfl,t⟩,fun _=>rfl⟩
 |m+1=>⟨none,List.replicate m none,fun _=>0,fun _=>0,rfl,fun _=>rfl,SlAt.uns t m,fun _=>rfl⟩
theorem SlAt.append:∀{env env' :Ev} {σ σ' :L2.St} {Z Z' :Fp},SlAt K c F H env σ Z->SlAt K c F H env' σ' Z' ->SlAt K c F H (env ++ env') (σ ++ σ') (fun a=>Z a+Z' a)
 | [],env',σ,σ',Z,Z',h,k=>by
   rw[h.1.1];exact k.cast fun a=>by rw[h.2];omega
 | s::env,env',σ,σ',Z,Z',h,k=>by
   obtain⟨x,r,Z1,Z2,rfl,b,cc,d⟩:=h;exact⟨x,r ++ σ',Z1,_,rfl,b,cc.append k,fun a=>by dsimp only;rw[d];omega⟩
theorem Cf.ext{m:Nat}(h:Cf K c args τ H B W):Cf K c (args ++ List.replicate m .un) (τ ++ List.replicate m none) H B W:=
 ⟨(h.at_.append (SlAt.uns h.at_.tab m)).cast fun a=>by(try dsimp only);omega,h.nd,h.hb⟩
theorem SlAt.outs:∀{n:Nat} {e:Ev} {σ τ:L2.St} {Z:Fp},SlAt K c F H e σ Z->n<=e.length->τ.length=n->(∀(i:Nat) o,i<n->e[i]?=some (.s true o)->σ[i]?=τ[i]?)->∃Z',SlAt K c F H (outs n e) τ Z' /\∀a,Z' a<=Z a
 | 0,e,σ,τ,Z,h,hl,ht,k=>⟨fun _=>0,⟨⟨dY ht,h.tab⟩,fun _=>rfl⟩,fun _=>cJ _⟩
 |n+1,[],σ,τ,Z,h,hl,ht,k=>by simp at hl
 |n+1,s::e,σ,[],Z,h,hl,ht,k=>by simp at ht
 | n + 1,s::e,σ,t::τ,Z,h,hl,ht,k=>by
   obtain⟨x,r,Z1,Z2,rfl,b,cc,d⟩:=h;obtain⟨Z',h1,h2⟩:=SlAt.outs (n:=n) (τ:=τ) cc (by simpa using hl) (by simpa using ht) fun i o hi e=>by
    have:=k (i+1) o (by omega) (by simpa using e);simpa using this
   have un:∃Y:Fp,SlAt K c F H (.un ::DX.outs n e) (t::τ) Y/\∀a,Y a<=Z a:=⟨Z',⟨t,τ,fun _=>0,Z',rfl,fun _=>rfl,h1,fun a=>by dsimp only;omega⟩,fun a=>by have:=h2 a;rw[d];omega⟩
   cases s with
   |un=>exact un
   | s io o=>
     cases io with
     |false=>exact un
     | true=>
       have e0:=k 0 o (by omega) rfl;simp only[List.getElem?_cons_zero,Option.some.injEq]at e0;subst e0;exact⟨fun a=>Z1 a+Z' a,⟨x,τ,Z1,Z',rfl,b,h1,fun _=>rfl⟩,fun a=>by have:=h2 a;rw[d];dsimp only;omega⟩
theorem vXa:∀{n i:Nat} {e:Ev} {o:O},(outs n e)[i]?=some (.s true o)->i<n/\e[i]?=some (.s true o)
 | 0,i,e,o,h=>by simp[outs]at h
 |n+1,i,[],o,h=>by simp[outs]at h
 | n + 1,0,s::e,o,h=>by
   simp only[outs,List.getElem?_cons_zero,Option.some.injEq]at h;refine⟨Nat.succ_pos _,?_⟩;cases s with
   |un=>cases h
   |s io o' =>cases io <;> cases h;rfl
 | n + 1,i + 1,s::e,o,h=>by
   simp only[outs,List.getElem?_cons_succ]at h⊢;obtain⟨h1,h2⟩:=vXa h;exact⟨by omega,h2⟩
theorem vW9:∀{n:Nat} {e:Ev},n<=e.length->(outs n e).length =n
 | 0,e,_=>by simp[outs]
 |n+1,[],h=>by simp at h
 |n+1,s::e,h=>by rw[outs,aZ,vW9 (by simpa using h)]
theorem GotR.out{e:Ev}{m:Nat}{r:O}(hn:args.length=n)(cf:Cf K c args τ H B W)(g:GotR K c (args ++ List.replicate m .un) (τ ++ List.replicate m none) H B W e σ' H' W' Z r v):
  ∃W2,GotR K c args τ H B W (outs n e) τ H' W2 Z r v:=by
 have hle:n<=e.length:=by rw[g.st.len,aJ];omega
 have hτ:τ.length=n:=by rw[←cf.len];exact hn
 have back:∀(i:Nat) (o:O),i<n->e[i]?=some (.s true o)->(∃o0,args[i]?=some (.s true o0))/\σ'[i]?=τ[i]?:=fun i o hi h=>by
  obtain⟨⟨o0,h3⟩,h5⟩:=g.st.io i o h;grind
 obtain⟨W2,h1,h2⟩:=g.cf.at_.outs hle hτ fun i o hi h=>(back i o hi h).2
 have sm:Same (hide (hd2 (hd2 B Z) W') H') (hide (hd2 (hd2 B Z) W2) H'):=jK fun a z=>by have:=h2 a;dsimp only[hd2]at *;omega
 have sm2:Same (hide (hd2 B (hd2 W' Z)) H') (hide (hd2 B (hd2 W2 Z)) H'):=jK fun a z=>by have:=h2 a;dsimp only[hd2]at *;omega
 refine⟨W2,⟨g.st.same.trans sm2,g.st.by_,fun a z=>g.st.new a (by have:=h2 a;dsimp only[hd2]at *;omega),g.st.dom,fun a z1 z2=>g.st.pin a z1 (by have:=h2 a;dsimp only[hd2]at *;omega),fun i o h=>?_,by rw[vW9 hle,hn]⟩,
  ⟨h1.keep sm fun _ _=>rfl,fun a=>by have:=h2 a;have:=g.cf.nd a;dsimp only[hd2]at *;omega,g.cf.hb⟩,g.at_.keep sm fun _ _=>rfl⟩
 obtain⟨hi,h3⟩:=vXa h;grind
end
theorem fnD{w:bX}{K:aQ}{x:Str}{st:Stmt}{f:aV}{k:Nat}(F:Fun K x qual st f fd)(S:FnScope N ps (qW st)){body:SS}(hb:∀(cdv:Value) (A:cB) (outer:List Env) (s:aY) (H:Hp) (E:XK),Room k (A.deeper (envOfC qual (qW st) s.heap.objs.size f cdv))->SDs (cxOf (CXd P w) P w K mg base N qual (qW st) f cdv A outer s H E) c E (z6 st) body):
  FnOk P w K mg base (CXd P w) (k+1) f fd ps (spD K c ps.length (fnS ps.length (N.length - ps.length) body)):=by
 refine F.okD S (fun vs H Q E h=>?_) (fun cdv Ar outer s H vs Q E hr h=>?_)
 ·obtain⟨args,B,W,hl,cf,_⟩:=h;have:=cf.len;rw[aB]at this;omega
 ·obtain⟨args,B,W,hl,cf,wp0⟩:=h;have hvl:vs.length=ps.length:=by
   have:=cf.len;rw[aB]at this;omega
  refine⟨_,(hb cdv Ar outer s H E hr).h,?_⟩;have hst:L2.start N vs=vs.map some ++ List.replicate (N.length - ps.length) none:=by unfold L2.start;rw[hvl]
  show tS K c E body _ (L2.start N vs) H;rw[hst];unfold fnS at wp0;refine⟨args ++ List.replicate (N.length - ps.length) .un,B,W,cf.ext,wp_mono (fun o ho=>?_) (fun _ _ he=>he) (qK.mp wp0)⟩;cases o with
  | nx e=>
    intro σ' H' W' st' cf';have g:GotR K c (args ++ List.replicate (N.length - ps.length) .un) (vs.map some ++ List.replicate (N.length - ps.length) none) H B W e σ' H' W' (fun _=>0) (.fz .non) .non :=⟨st'.cast (fun _=>rfl) (fun _=>rfl) fun _=>rfl,cf'.cast (fun _=>rfl) fun _=>rfl,OAt.fz.mpr ⟨.non,fun _=>rfl⟩⟩
    obtain⟨W2,g2⟩:=g.out hl cf;exact ho .non H' W2 _ g2
  | rt r e=>
    intro v σ' H' W' Z g;obtain⟨W2,g2⟩:=g.out hl cf;exact ho v H' W2 Z g2
  |bk e=>exact ho.elim
  |ct e=>exact ho.elim
mutual
def qJ4:D->Bool
 |.nd .tup ds=>flatDs ds
 |.nd _ _=>false
 |_=>true
def flatDs:List D->Bool
 |[]=>true
 |d::ds=>qJ4 d && flatDs ds
end
mutual
def vWj:O->Bool
 |.fz d=>qJ4 d
 |.ow _ os=>flatOs os
def flatOs:List O->Bool
 |[]=>true
 |o::os=>vWj o && flatOs os
end
theorem vQ0:∀{ds:List D} {i:Nat} {d:D},flatDs ds=true->ds[i]?=some d->qJ4 d=true
 |[],i,d,h,e=>by simp at e
 | x::ds,0,d,h,e=>by
   rw[flatDs,aE]at h;cases e;exact h.1
 | x::ds,i + 1,d,h,e=>by
   rw[flatDs,aE]at h;exact vQ0 h.2 (by simpa using e)
section
variable{K:aQ}{c:Nat->aV}{F F' H H' :Hp}
theorem zWk(k:∀a o,F a=some o->¬Hb o->F' a=some o){p:aV}(h:SqT K F p vs):SqT K F' p vs:=by
 rcases h with(h|⟨o,h⟩)|h
 ·exact .inl (.inl (k _ _ h fun z=>z))
 ·exact .inl (.inr ⟨o,k _ _ h fun z=>z⟩)
 ·exact .inr h
theorem DAt.flat(k:∀a o,F a=some o->¬Hb o->F' a=some o){d:D}(h:DAt K c F v d)(hf:qJ4 d=true):DAt K c F' v d:=by
 induction h with
 |non=>exact .non
 |int i=>exact .int i
 |str i=>exact .str i
 |bl i=>exact .bl i
 |fn i=>exact .fn i
 | @nd p kd vs ds h l r ih=>
   cases kd with
   | tup=>
     exact .nd (zWk k h) l fun i v d a b=>ih i v d a b (vQ0 hf b)
   |lst=>simp[qJ4]at hf
   |dct ks=>simp[qJ4]at hf
   |dcT ks=>simp[qJ4]at hf
   |obj C fs=>simp[qJ4]at hf
   |exc C fs=>simp[qJ4]at hf
mutual
theorem OAt.flat(k:∀a o,F a=some o->¬Hb o->F' a=some o):∀{o:O} {v:V} {Z:Fp},vWj o=true->OAt K c F H o v Z->OAt K c F' H o v Z
 | .fz d,v,Z,hf,h=>by
   rw[OAt.fz]at h⊢;rw[vWj]at hf;exact⟨h.1.flat k hf,h.2⟩
 | .ow kd os,v,Z,hf,h=>by
   rw[OAt.ow0]at h⊢;rw[vWj]at hf;obtain⟨p,vs,Z',a,b,c,d⟩:=h;exact⟨p,vs,Z',a,b.keep (fun _ _ z=>k _ _ z fun y=>y) fun _=>rfl,OsAt.flat k hf c,d⟩
theorem OsAt.flat(k:∀a o,F a=some o->¬Hb o->F' a=some o):∀{os:List O} {vs:List V} {Z:Fp},flatOs os=true->OsAt K c F H os vs Z->OsAt K c F' H os vs Z
 |[],vs,Z,hf,h=>by rw[OsAt.nil]at h⊢;exact h
 | o::os,vs,Z,hf,h=>by
   rw[OsAt.cons]at h⊢;rw[flatOs,aE]at hf;obtain⟨v,r,Z1,Z2,a,b,c,d⟩:=h;exact⟨v,r,Z1,Z2,a,OAt.flat k hf.1 b,OsAt.flat k hf.2 c,d⟩
end
end
mutual
def ndD:D->Bool
 |.nd (.dct _) _=>false
 |.nd (.dcT _) _=>false
 |.nd _ ds=>ndDs ds
 |_=>true
def ndDs:List D->Bool
 |[]=>true
 |d::ds=>ndD d && ndDs ds
end
mutual
def ndO:O->Bool
 |.fz d=>ndD d
 |.ow _ os=>ndOs os
def ndOs:List O->Bool
 |[]=>true
 |o::os=>ndO o && ndOs os
end
theorem vXc:∀{ds:List D} {i:Nat} {d:D},ndDs ds=true->ds[i]?=some d->ndD d=true
 |[],i,d,h,e=>by simp at e
 | x::ds,0,d,h,e=>by
   rw[ndDs,aE]at h;cases e;exact h.1
 | x::ds,i + 1,d,h,e=>by
   rw[ndDs,aE]at h;exact vXc h.2 (by simpa using e)
noncomputable def isDK:HO->Prop
 |.dK _=>True
 |.dT _=>True
 |_=>False
section
variable{K:aQ}{c:Nat->aV}{F F' H H' :Hp}
theorem NdAt.nd'(k:∀a o,F a=some o->¬isDK o->F' a=some o){p:aV}{kd:Kd}(h:NdAt K c F p kd vs)(hk:∀ks,kd≠ .dct ks)(hk' :∀ks,kd≠ .dcT ks):NdAt K c F' p kd vs:=by
 cases kd with
 | lst=>
   rcases h with(h|⟨o,h⟩)|h
   ·exact .inl (.inl (k _ _ h fun z=>z))
   ·exact .inl (.inr ⟨o,k _ _ h fun z=>z⟩)
   ·exact .inr h
 | tup=>
   rcases h with(h|⟨o,h⟩)|h
   ·exact .inl (.inl (k _ _ h fun z=>z))
   ·exact .inl (.inr ⟨o,k _ _ h fun z=>z⟩)
   ·exact .inr h
 |dct ks=>grind
 |dcT ks=>grind
 |obj C fs=>obtain⟨a,dx,b⟩:=h;exact⟨a,dx,k _ _ b fun z=>z⟩
 | exc C fs=>
   obtain⟨a,ox,b,d⟩:=h;refine⟨a,ox,k _ _ b fun z=>z,?_⟩;cases ox with
   |none=>exact d
   |some dx=>exact k _ _ d fun z=>z
theorem DAt.nd'(k:∀a o,F a=some o->¬isDK o->F' a=some o){d:D}(h:DAt K c F v d)(hf:ndD d=true):DAt K c F' v d:=by
 induction h with
 |non=>exact .non
 |int i=>exact .int i
 |str i=>exact .str i
 |bl i=>exact .bl i
 |fn i=>exact .fn i
 | @nd p kd vs ds h l r ih=>
   have hk:(∀ks,kd≠ .dct ks)/\(∀ks,kd≠ .dcT ks)/\ndDs ds=true:=by
    cases kd with
    |lst=>rw[ndD]at hf <;> simp_all
    |tup=>rw[ndD]at hf <;> simp_all
    |dct ks=>simp[ndD]at hf
    |dcT ks=>simp[ndD]at hf
    |obj C fs=>rw[ndD]at hf <;> simp_all
    |exc C fs=>rw[ndD]at hf <;> simp_all
   exact .nd (h.nd' k hk.1 hk.2.1) l fun i v d a b=>ih i v d a b (vXc hk.2.2 b)
mutual
theorem OAt.nd'(k:∀a o,F a=some o->¬isDK o->F' a=some o):∀{o:O} {v:V} {Z:Fp},ndO o=true->OAt K c F H o v Z->OAt K c F' H o v Z
 | .fz d,v,Z,hf,h=>by
   rw[OAt.fz]at h⊢;rw[ndO]at hf;exact⟨h.1.nd' k hf,h.2⟩
 | .ow kd os,v,Z,hf,h=>by
   rw[OAt.ow0]at h⊢;rw[ndO]at hf;obtain⟨p,vs,Z',a,b,c,d⟩:=h;exact⟨p,vs,Z',a,b.keep (fun _ _ z=>k _ _ z fun y=>y) fun _=>rfl,OsAt.nd' k hf c,d⟩
theorem OsAt.nd'(k:∀a o,F a=some o->¬isDK o->F' a=some o):∀{os:List O} {vs:List V} {Z:Fp},ndOs os=true->OsAt K c F H os vs Z->OsAt K c F' H os vs Z
 |[],vs,Z,hf,h=>by rw[OsAt.nil]at h⊢;exact h
 | o::os,vs,Z,hf,h=>by
   rw[OsAt.cons]at h⊢;rw[ndOs,aE]at hf;obtain⟨v,r,Z1,Z2,a,b,c,d⟩:=h;exact⟨v,r,Z1,Z2,a,OAt.nd' k hf.1 b,OsAt.nd' k hf.2 c,d⟩
end
end
noncomputable def dcFz:O->Bool
 | .ow (.dct _) os=>os.all fun o=>match o with
   |.fz _=>true
   |_=>false
 |_=>false
theorem jQf{K:aQ}{F:Hp}{o:O}(h:OAt K c F H o v Z)(e:dcFz o=true):∀a,Z a≠0->∃ho,H a=some ho/\isDK ho:=by
 unfold dcFz at e;split at e
 ·rename_i ks os;rw[OAt.ow0]at h;obtain⟨p,vs,Z',rfl,b,cc,d⟩:=h;have d:∀a,Z a=one p a+Z' a:=d;have key:∀{os:List O} {vs:List V} {Z:Fp},(os.all fun o=>match o with|.fz _=>true|_=>false)=true->OsAt K c F H os vs Z->∀a,Z a=0:=fun {os}=>by
   induction os with
   |nil=>intro vs Z _ h;rw[OsAt.nil]at h;exact h.2
   | cons o os ih=>
     intro vs Z hf h;rw[dQ,aE]at hf;rw[OsAt.cons]at h;obtain⟨v,r,Z1,Z2,_,b,cc,d⟩:=h;cases o with
     |ow _ _=>cases hf.1
     |fz x=>rw[OAt.fz]at b;intro a;rw[d,b.2,ih hf.2 cc]
  intro a z;have z0:=key e cc a;by_cases y:a=p
  ·subst y;exact⟨_,b.2.2,trivial⟩
  ·rw[d,xW y,z0]at z;exact absurd rfl z
 ·cases e
inductive Am where
 |v (s:SV)|b (s:SP)|io (i:Nat)
noncomputable def pIo(i:Nat):SP:=fun env=>match env[i]? with
 |some (.s _ _)=>some (.p i [])
 |_=>none
noncomputable def Am.o:Am->Oe
 |.v s=>.v s
 |.b s=>.p s
 |.io i=>.p (pIo i)
noncomputable def wG:List Am->List Hn->List Nat
 |.io _::as,.p j _::hs=>j::wG as hs
 |_::as,_::hs=>wG as hs
 |_,_=> []
noncomputable def yL:List Nat->Ev->Option (List O×Ev)
 |[],env=>some ([],env)
 | j::js,env=>match env[j]? with
   |some (.s _ o)=>(yL js (env.set j .un)).bind fun q=>some (o::q.1,q.2)
   |_=>none
noncomputable def flag(env:Ev)(j:Nat):Bool:=match env[j]? with
 |some (.s io _)=>io
 |_=>false
noncomputable def putS(e1:Ev):List Nat->List O->Ev->Ev
 |j::js,o::os,env=>putS e1 js os (env.set j (.s (flag e1 j) o))
 |_,_,env=>env
noncomputable def getL:List Nat->List O->Nat->Option O
 |j::js,o::os,i=>if j=i then some o else getL js os i
 |_,_,_=>none
noncomputable def wP(ls:List Nat)(lo:List O):List Am->List Hn->List O->Option Ev
 |[],[],_=>some []
 |.v _::as,.d x::hs,os=>(wP ls lo as hs os).bind fun r=>some (.s false (.fz x)::r)
 |.b _::as,.d x::hs,os=>(wP ls lo as hs os).bind fun r=>some (.s false (.fz x)::r)
 |.b _::as,.p i π::hs,os=>(getL ls lo i).bind fun o0=>(getP o0 π).bind fun o=>(wP ls lo as hs os).bind fun r=>some (.s false (.fz (fzO o))::r)
 |.io _::as,.p _ []::hs,o::os=>(wP ls lo as hs os).bind fun r=>some (.s true o::r)
 |_,_,_=>none
noncomputable def zS:List Am->List Hn->List Nat
 |.b _::as,.p i _::hs=>cond ((zS as hs).contains i) (zS as hs) (i::zS as hs)
 |_::as,_::hs=>zS as hs
 |_,_=> []
noncomputable def qZi:List Am->Ev->Option (List O)
 |[],[]=>some []
 |.io _::as,.s true o::e=>(qZi as e).bind fun r=>some (o::r)
 |.io _::_,_::_=>none
 |_::as,_::e=>qZi as e
 |_,_=>none
noncomputable def yR:List Am->List V->List V
 |.io _::as,u::us=>u::yR as us
 |_::as,_::us=>yR as us
 |_,_=> []
section
variable{K:aQ}{c:Nat->aV}{F F' H H' :Hp}
theorem qK8:∀{js:List Nat} {env envR:Ev} {os:List O} {σ:L2.St} {W:Fp},SlAt K c F H env σ W->yL js env=some (os,envR)->∃vs Wc R,js.map (fun j=>σ[j]?)=vs.map (fun v=>some (some v))/\OsAt K c F H os vs Wc/\SlAt K c F H envR σ R/\(∀a,W a=Wc a+R a)/\
  js.Nodup/\(∀j∈js,envR[j]?=some .un)/\(∀j,j∉js->envR[j]?=env[j]?)/\envR.length=env.length
 | [],env,envR,os,σ,W,h,e=>by
   cases e;exact⟨[],fun _=>0,W,rfl,OsAt.nil.mpr ⟨rfl,fun _=>rfl⟩,h,fun a=>by(try dsimp only);omega,List.nodup_nil,fun _ z=>by simp at z,fun _ _=>rfl,rfl⟩
 | j::js,env,envR,os,σ,W,h,e=>by
   simp only[yL]at e;cases e0:env[j]? with
   |none=>grind
   | some s=>
     rw[e0]at e;cases s with
     |un=>cases e
     | s io o=>
       obtain⟨q,e1,e2⟩:=bnd e;cases e2;obtain⟨x,Z1,R1,h1,h2,h3,h4⟩:=h.focus e0;cases x with
       |none=>exact h2.elim
       | some v=>
         have h5:=h4 F H .un (some v) (fun _=>0) R1 (Same.refl _) (fun _ _=>rfl) (fun _=>rfl) fun a=>by(try dsimp only);omega
         rw[yT h1]at h5;obtain⟨vs,Wc,R,a1,a2,a3,a4,a5,a6,a7,a8⟩:=qK8 h5 e1;have hj:j<env.length:=(aW.mp e0).1;have nj:j∉js:=fun z=>by
          have key:∀{js:List Nat} {env:Ev} {q:List O×Ev},env[j]?=some .un ->j∈js->yL js env=some q->False:=by
           intro js;induction js with
           |nil=>grind
           | cons i is ih=>
             intro env q hu z ht;simp only[yL]at ht;by_cases hi:i=j
             ·grind
             ·rcases aC.mp z with z | z
              ·grind
              ·cases e3:env[i]? with
               |none=>grind
               | some s=>
                 rw[e3]at ht;cases s with
                 |un=>cases ht
                 | s io o=>
                   obtain⟨q',e4,_⟩:=bnd ht;grind
          grind
         refine⟨v::vs,fun a=>Z1 a+Wc a,R,by rw[bD,bD,h1,a1],OsAt.cons.mpr ⟨v,vs,Z1,Wc,rfl,h2,a2,fun _=>rfl⟩,a3,fun a=>by rw[h3,a4];(try dsimp only);omega,dB.mpr ⟨nj,a5⟩,fun i hi=>?_,fun i hi=>?_,by rw[a8,cR]⟩
         ·grind
         ·grind
theorem vJc{e1:Ev}:∀{js:List Nat} {os:List O} {vs:List V} {env:Ev} {σ:L2.St} {R Wc Y:Fp},SlAt K c F H env σ R->js.Nodup->(∀j∈js,env[j]?=some .un)->js.map (fun j=>σ[j]?)=vs.map (fun v=>some (some v))->OsAt K c F H os vs Wc->(∀a,Y a=R a+Wc a)->SlAt K c F H (putS e1 js os env) σ Y
 | [],os,vs,env,σ,R,Wc,Y,h,_,_,e,k,y=>by
   cases vs with
   |cons v vs=>cases e
   | nil=>
     cases os with
     |cons o os=>rw[OsAt.cons]at k;obtain⟨_,_,_,_,z,_⟩:=k;cases z
     | nil=>
       exact h.cast fun a=>by rw[y,k.2];omega
 | j::js,os,vs,env,σ,R,Wc,Y,h,hn,hu,e,k,y=>by
   cases vs with
   |nil=>cases e
   | cons v vs=>
     rw[bD,bD,bC]at e;cases os with
     |nil=>rw[OsAt.nil]at k;cases k.1
     | cons o os=>
       obtain⟨v',r,Z1,Z2,z,k1,k2,k3⟩:=k;cases z;rw[dB]at hn;obtain⟨x,Z0,R0,h1,h2,h3,h4⟩:=h.focus (hu j aM);have z0:∀a,Z0 a=0:=h2;have hx:x=some v:=by rw[e.1]at h1;exact(Option.some.inj h1).symm
       subst hx;have h5:=h4 F H (.s (flag e1 j) o) (some v) Z1 (fun a=>Z1 a+R a) (Same.refl _) (fun _ _=>rfl) k1 fun a=>by rw[h3,z0];omega
       rw[yT h1]at h5;simp only[putS];exact vJc h5 hn.2 (fun i hi=>by rw[bT fun z=>hn.1 (by rw[z];exact hi)];exact hu i (aI _ hi)) e.2 k2 fun a=>by rw[y,k3];omega
theorem vQe{e1:Ev}:∀{js:List Nat} {os:List O} {env:Ev} {i:Nat} {o:O},(putS e1 js os env)[i]?=some (.s true o)->(i∈js/\flag e1 i=true)\/env[i]?=some (.s true o)
 |[],os,env,i,o,h=>.inr (by simpa[putS] using h)
 |j::js,[],env,i,o,h=>.inr (by simpa[putS] using h)
 | j::js,o' ::os,env,i,o,h=>by
   simp only[putS]at h;rcases vQe h with⟨h1,h2⟩|h1
   ·grind
   ·grind
theorem vQd{e1:Ev}:∀{js:List Nat} {os:List O} {env:Ev},(putS e1 js os env).length =env.length
 |[],os,env=>by simp[putS]
 |j::js,[],env=>by simp[putS]
 |j::js,o' ::os,env=>by simp only[putS];rw[vQd,cR]
theorem qY7{u:V}{x:D}(h:DAt K c F u x):jH K c F H (.s io (.fz x)) (some u) (fun _=>0):=by
 show OAt K c F H (.fz x) u (fun _=>0);rw[OAt.fz];grind
theorem zQv:∀{ls:List Nat} {lo:List O} {vs:List V} {L:Fp} {i:Nat} {o:O},OsAt K c F H lo vs L->ls.map (fun j=>σ[j]?)=vs.map (fun v=>some (some v))->getL ls lo i=some o->∃(v:V) (Z R:Fp),σ[i]?=some (some v)/\OAt K c F H o v Z/\∀a,L a=Z a+R a
 |[],lo,vs,L,i,o,h,e,g=>by cases lo <;> simp[getL]at g
 |j::js,[],vs,L,i,o,h,e,g=>by simp[getL]at g
 |j::js,o0::lo,[],L,i,o,h,e,g=>by cases e
 | j::js,o0::lo,v::vs,L,i,o,h,e,g=>by
   rw[bD,bD,bC]at e;obtain⟨v',r,Z1,Z2,z,b,cc,d⟩:=h;cases z;simp only[getL]at g;by_cases q:j=i
   ·rw [if_pos q] at g;cases g;exact⟨v,Z1,Z2,by rw[←q];exact e.1,b,d⟩
   ·rw [if_neg q] at g;obtain⟨w,Z,R,h1,h2,h3⟩:=zQv cc e.2 g;exact⟨w,Z,fun a=>Z1 a+R a,h1,h2,fun a=>by rw[d,h3];(try dsimp only);omega⟩
theorem mkArgs_at{lo:List O}{lv:List V}{L:Fp}{Fc:Hp}(ol:OsAt K c F H lo lv L)(el:ls.map (fun j=>σ[j]?)=lv.map (fun v=>some (some v)))(tb:TabF c Fc)(lk:∀a,L a≠0->Fc a=H a)(sm:Same F Fc)(sfh:Same F H):∀{as:List Am} {hs:List Hn} {us:List V} {os:List O} {args:Ev} {Wc:Fp},wH K c F σ H us hs->OsAt K c F H os (yR as us) Wc->wP ls lo as hs os=some args->
  SlAt K c Fc H args (us.map some) Wc/\args.length=as.length
 | [],[],us,os,args,Wc,hh,ho,e=>by
   cases e;cases us with
   |cons u us=>exact hh.elim
   | nil=>
     cases os with
     |cons o os=>rw[OsAt.cons]at ho;obtain⟨_,_,_,_,z,_⟩:=ho;cases z
     |nil=>rw[OsAt.nil]at ho;exact⟨⟨⟨rfl,tb⟩,ho.2⟩,rfl⟩
 | .v s::as, .d x::hs,us,os,args,Wc,hh,ho,e=>by
   cases us with
   |nil=>exact hh.elim
   | cons u us=>
     obtain⟨r,e1,e2⟩:=bnd e;cases e2;obtain⟨h1,h2⟩:=mkArgs_at ol el tb lk sm sfh (as:=as) (hs:=hs) hh.2 ho e1;exact⟨⟨some u,us.map some,fun _=>0,Wc,rfl,qY7 (DAt.same sm hh.1),h1,fun a=>by(try dsimp only);omega⟩,by rw[aZ,aZ,h2]⟩
 | .b s::as, .d x::hs,us,os,args,Wc,hh,ho,e=>by
   cases us with
   |nil=>exact hh.elim
   | cons u us=>
     obtain⟨r,e1,e2⟩:=bnd e;cases e2;obtain⟨h1,h2⟩:=mkArgs_at ol el tb lk sm sfh (as:=as) (hs:=hs) hh.2 ho e1;exact⟨⟨some u,us.map some,fun _=>0,Wc,rfl,qY7 (DAt.same sm hh.1),h1,fun a=>by(try dsimp only);omega⟩,by rw[aZ,aZ,h2]⟩
 | .b s::as, .p i π::hs,us,os,args,Wc,hh,ho,e=>by
   cases us with
   |nil=>exact hh.elim
   | cons u us=>
     obtain⟨o0,e0,e⟩:=bnd e;obtain⟨o,e5,e⟩:=bnd e;obtain⟨r,e1,e2⟩:=bnd e;cases e2;obtain⟨h1,h2⟩:=mkArgs_at ol el tb lk sm sfh (as:=as) (hs:=hs) hh.2 ho e1;have hw:vO H σ i π=some u:=hh.1;have dd:DAt K c Fc u (fzO o):=by
      obtain⟨v,Z,R,g1,g2,g3⟩:=zQv ol el e0;obtain⟨v1,Z1,R1,k1,k2,k3,k4⟩:=OAt.focus sfh g2 e5;have:v1=u:=by
       unfold vO at hw;rw[g1]at hw;exact Option.some.inj (k1.symm.trans hw)
      subst this;exact k2.dat sm fun a z=>lk a (by rw[g3,k3];omega)
     exact⟨⟨some u,us.map some,fun _=>0,Wc,rfl,qY7 dd,h1,fun a=>by(try dsimp only);omega⟩,by rw[aZ,aZ,h2]⟩
 | .io i::as, .p j []::hs,us,os,args,Wc,hh,ho,e=>by
   cases us with
   |nil=>exact hh.elim
   | cons u us=>
     cases os with
     |nil=>cases e
     | cons o os=>
       obtain⟨r,e1,e2⟩:=bnd e;cases e2;rw[show yR (.io i::as) (u::us)=u::yR as us from rfl,OsAt.cons]at ho;obtain⟨v,r',Z1,Z2,z,k1,k2,k3⟩:=ho;cases z;obtain⟨h1,h2⟩:=mkArgs_at ol el tb lk sm sfh (as:=as) (hs:=hs) hh.2 k2 e1;exact⟨⟨some u,us.map some,Z1,Z2,rfl,k1.keep sm fun _ _=>rfl,h1,k3⟩,by rw[aZ,aZ,h2]⟩
 |.v _::_,.p _ _::_,_,_,_,_,_,_,e=>by cases e
 |.io _::_,.d _::_,_,_,_,_,_,_,e=>by cases e
 |.io _::_,.p _ (_::_)::_,_,_,_,_,_,_,e=>by cases e
 |[],_::_,_,_,_,_,_,_,e=>by cases e
 |.v _::_,[],_,_,_,_,_,_,e=>by cases e
 |.b _::_,[],_,_,_,_,_,_,e=>by cases e
 |.io _::_,[],_,_,_,_,_,_,e=>by cases e
theorem outOs_at:∀{as:List Am} {e:Ev} {us:List V} {os:List O} {W:Fp},SlAt K c F H e (us.map some) W->qZi as e=some os->∃W',OsAt K c F H os (yR as us) W' /\∀a,W' a<=W a
 | [],[],us,os,W,h,e=>by
   cases e;have:us=[]:=by simpa using h.1.1
   exact⟨fun _=>0,OsAt.nil.mpr ⟨rfl,fun _=>rfl⟩,fun _=>cJ _⟩
 | .io i::as, .s true o::e,us,os,W,h,eq=>by
   obtain⟨r,e1,e2⟩:=bnd eq;cases e2;obtain⟨x,t,Z1,Z2,z,b,cc,d⟩:=h;cases us with
   |nil=>cases z
   | cons u us=>
     rw[bD,bC]at z;obtain⟨z1,z2⟩:=z;subst z1 z2;obtain⟨W',h1,h2⟩:=outOs_at cc e1;exact⟨fun a=>Z1 a+W' a,OsAt.cons.mpr ⟨u,_,Z1,W',rfl,b,h1,fun _=>rfl⟩,fun a=>by have:=h2 a;rw[d];(try dsimp only);omega⟩
 | .v _::as,s::e,us,os,W,h,eq=>by
   obtain⟨x,t,Z1,Z2,z,b,cc,d⟩:=h;cases us with
   |nil=>cases z
   | cons u us=>
     rw[bD,bC]at z;obtain⟨z1,z2⟩:=z;subst z2;obtain⟨W',h1,h2⟩:=outOs_at (as:=as) cc (by simpa[qZi] using eq);exact⟨W',h1,fun a=>by have:=h2 a;rw[d];omega⟩
 | .b _::as,s::e,us,os,W,h,eq=>by
   obtain⟨x,t,Z1,Z2,z,b,cc,d⟩:=h;cases us with
   |nil=>cases z
   | cons u us=>
     rw[bD,bC]at z;obtain⟨z1,z2⟩:=z;subst z2;obtain⟨W',h1,h2⟩:=outOs_at (as:=as) cc (by simpa[qZi] using eq);exact⟨W',h1,fun a=>by have:=h2 a;rw[d];omega⟩
 |.io _::_,.un ::_,_,_,_,_,eq=>by cases eq
 |.io _::_,.s false _::_,_,_,_,_,eq=>by cases eq
 |[],_::_,_,_,_,_,eq=>by cases eq
 |.v _::_,[],_,_,_,_,eq=>by cases eq
 |.b _::_,[],_,_,_,_,eq=>by cases eq
 |.io _::_,[],_,_,_,_,eq=>by cases eq
theorem qQa{lo:List O}:∀{as:List Am} {hs:List Hn} {us:List V} {os:List O} {args:Ev},wH K c F σ H us hs->wP ls lo as hs os=some args->(wG as hs).map (fun j=>σ[j]?)=(yR as us).map (fun v=>some (some v))
 |[],[],us,os,args,hh,_=>by cases us <;> rfl
 | .io i::as, .p j []::hs,us,os,args,hh,e=>by
   cases us with
   |nil=>exact hh.elim
   | cons u us=>
     cases os with
     |nil=>cases e
     | cons o os=>
       obtain⟨r,e1,_⟩:=bnd e;have w:vO H σ j []=some u:=hh.1;have w2:σ[j]?=some (some u):=by
        unfold vO at w;cases e:σ[j]? with
        |none=>grind
        | some y=>
          rw[e]at w;cases y with
          |none=>cases w
          | some v=>have:v=u:=by cases v <;> simpa [walk] using w
                    rw[this]
       simp only[wG,yR,bD];rw[w2,qQa hh.2 e1]
 | .v s::as, .d x::hs,us,os,args,hh,e=>by
   cases us with
   |nil=>exact hh.elim
   | cons u us=>
     obtain⟨r,e1,_⟩:=bnd e;simp only[wG];exact qQa hh.2 e1
 | .b s::as, .d x::hs,us,os,args,hh,e=>by
   cases us with
   |nil=>exact hh.elim
   | cons u us=>
     obtain⟨r,e1,_⟩:=bnd e;simp only[wG];exact qQa hh.2 e1
 | .b s::as, .p i π::hs,us,os,args,hh,e=>by
   cases us with
   |nil=>exact hh.elim
   | cons u us=>
     obtain⟨o0,_,e⟩:=bnd e;obtain⟨o,_,e⟩:=bnd e;obtain⟨r,e1,_⟩:=bnd e;simp only[wG];exact qQa hh.2 e1
 |.v _::_,.p _ _::_,_,_,_,_,e=>by cases e
 |.io _::_,.d _::_,_,_,_,_,e=>by cases e
 |.io _::_,.p _ (_::_)::_,_,_,_,_,e=>by cases e
 |[],_::_,_,_,_,_,e=>by cases e
 |.v _::_,[],_,_,_,_,e=>by cases e
 |.b _::_,[],_,_,_,_,e=>by cases e
 |.io _::_,[],_,_,_,_,e=>by cases e
end
noncomputable def vZx(lo:List O)(r:O)(os:List O):Bool:=lo.isEmpty || (vWj r && flatOs os) || (lo.all dcFz && ndO r && ndOs os)
noncomputable def qVa(F:Fn)(as:List Am)(hs:List Hn)(env:Ev):Res (O×Ev):=(opt (yL (zS as hs) env)).bind fun t0=>(opt (yL (wG as hs) t0.2)).bind fun t=>(opt (wP (zS as hs) t0.1 as hs t.1)).bind fun args=>(F args).bind fun q=>(opt (qZi as q.2)).bind fun os=>
 cond (vZx t0.1 q.1 os) (.ok (q.1,putS env (zS as hs) t0.1 (putS env (wG as hs) os t.2))) .no
noncomputable def qY(F:Fn)(as:List Am):SE:=fun env=>(evOs (as.map Am.o) env).bind fun r=>qVa F as r.1 r.2
theorem zQf{e1:Ev}:∀{js:List Nat} {os:List O} {env:Ev} {i:Nat},i∉js->(putS e1 js os env)[i]?=env[i]?
 |[],os,env,i,_=>by cases os <;> rfl
 |j::js,[],env,i,_=>rfl
 | j::js,o::os,env,i,h=>by
   simp only[putS];rw[zQf fun z=>h (aI _ z),bT fun z=>h (by rw[z];exact aM)]
theorem qJx{K:aQ}{hs:List Hn}{F:Fn}(cf:Cf K c env σ H B W)(hh:wH K c (hide (hd2 B W) H) σ H us hs)(hw:(qVa F as hs env).wp (fun r=>∀u H' W' Z,Got K c env σ H B W r.2 H' W' Z r.1 u->Q u H') (erP K c E H B W)):spD K c as.length F us H Q E:=by
 obtain⟨t0,e0,w0⟩:=qG hw
 obtain⟨t,e1,w1⟩:=qG w0
 obtain⟨args,e2,w2⟩:=qG w1
 obtain⟨lo,eL⟩:=t0
 obtain⟨os,eR⟩:=t
 obtain⟨lv,L,R1,l1,l2,l3,l4,l5,l6,l7,l8⟩:=qK8 cf.at_ e0
 obtain⟨vs,Wc,R,a1,a2,a3,a4',a5,a6,a7,a8⟩:=qK8 l3 e1
 have a4:∀a,W a=L a+(Wc a+R a):=fun a=>by rw[l4,a4']
 have hv:=qQa hh e2
 have hvs:vs=yR as us:=by
  have e:vs.map (fun v=>some (some v))=(yR as us).map (fun v=>some (some v)):=a1.symm.trans hv
  exact List.map_inj_right (f:=fun v:V=>some (some v)) (fun x y h=>Option.some.inj (Option.some.inj h)) |>.mp e
 subst hvs
 have nd:∀a,B a+(L a+(Wc a+R a))<=1:=fun a=>by have:=cf.nd a;rw[a4]at this;exact this
 let Bc:Fp:=fun a=>B a+R a
 have bc:∀a,Bc a=B a+R a:=fun _=>rfl
 have smc:Same (hide (hd2 B W) H) (hide (hd2 Bc Wc) H):=jK fun a z=>by have:=a4 a;have:=bc a;dsimp only[hd2]at *;omega
 have Lv:∀a,L a≠0->hide (hd2 Bc Wc) H a=H a:=fun a q=>zG (by have:=nd a;have:=bc a;dsimp only[hd2];omega)
 obtain⟨sA,la⟩:=mkArgs_at l2 l1 (cf.at_.tab.same smc) Lv smc hide_sub (as:=as) (hs:=hs) hh a2 e2
 have hbR:∀a,B a+(L a+R a)≠0->∃o,H a=some o/\Hb o:=fun a z=>cf.hbs (by rw[a4];omega)
 have cfc:Cf K c args (us.map some) H Bc Wc:=⟨sA,fun a=>by have:=nd a;rw[bc];omega,fun a z=>hbR a (by rw[bc]at z;omega)⟩
 refine⟨args,Bc,Wc,la,cfc,wp_mono (fun q w3 v H' W' Z g=>?_) (fun C fs he H2 Y ox sx er=>?_) (qK.mp w2)⟩
 rotate_left
 · -- an error:what lies aside stays
   have eq:hide (hd2 B fun a=>Y a+R a) H2=hide (hd2 Bc Y) H2:=zT fun a=>by have:=bc a;dsimp only[hd2];omega
   exact he H2 (fun a=>Y a+R a) ox ⟨by rw[eq];exact smc.trans sx.same,fun a z=>sx.by_ a (by rw[bc];omega),sx.dom⟩ (by rw[eq];exact er)
 obtain⟨os',e3,w4⟩:=qG w3
 obtain⟨hf,w5⟩:=vM w4
 have cellR:∀a,R a≠0->H' a=H a:=fun a z=>g.st.by_ a (by rw[bc];omega)
 have cellL:∀a,L a≠0->H' a=H a:=fun a z=>by
  obtain⟨o,h1,_⟩:=hbR a (by omega)
  have h2:=g.st.same a o (by rw[Lv a z];exact h1)
  rw[(yG h2).2,h1]
 have cellB:∀a,B a≠0->H' a=H a:=fun a z=>g.st.by_ a (by rw[bc];omega)
 obtain⟨W2,b1,b2⟩:=outOs_at g.cf.at_ e3
 have newL:∀a,L a≠0->W' a+Z a=0:=fun a z=>by
  by_cases q0:W' a+Z a=0
  ·exact q0
  ·rcases g.st.new a (by dsimp only [hd2];omega) with q1 | q1
   ·have:=nd a;omega
   ·obtain⟨o,h1,_⟩:=hbR a (by omega);rw[q1]at h1;cases h1
 have nd4:∀a,B a+Z a+(L a+(R a+W2 a))<=1:=fun a=>by
  have n1:=g.cf.nd a
  have n2:=b2 a
  have n3:=nd a
  have n4:=bc a
  dsimp only[hd2]at n1
  by_cases z:L a=0
  ·omega
  ·have:=newL a z;omega
 have sm4:Same (hide (hd2 B W) H) (hide (hd2 (hd2 B Z) (fun a=>L a+(R a+W2 a))) H'):=fun a o h=>by
  obtain⟨z1,z2⟩:=yG h
  obtain⟨z3,z4⟩:=yG (g.st.same a o (smc a o h))
  rw[zG]
  ·exact z4
  ·have:=a4 a;have:=b2 a
   dsimp only[hd2]at *
   omega
 have kF:∀(P:HO->Prop),(∀a,L a≠0->∃o,H a=some o/\P o)->∀a o,hide (hd2 (hd2 Bc Z) W') H' a=some o->¬P o->hide (hd2 (hd2 B Z) (fun a=>L a+(R a+W2 a))) H' a=some o:=fun P hP a o q1 q2=>by
  obtain⟨z1,z2⟩:=yG q1
  rw[zG]
  ·exact z2
  ·have:=b2 a;have:=bc a
   by_cases z:L a=0
   ·dsimp only[hd2]at *;omega
   ·obtain⟨o2,h1,h2⟩:=hP a z
    rw[cellL a z,h1]at z2
    cases z2
    exact absurd h2 q2
 have fin:OAt K c (hide (hd2 (hd2 B Z) (fun a=>L a+(R a+W2 a))) H') H' q.1 v Z/\OsAt K c (hide (hd2 (hd2 B Z) (fun a=>L a+(R a+W2 a))) H') H' os' (yR as us) W2:=by
  unfold vZx at hf
  rw[Bool.or_eq_true,Bool.or_eq_true]at hf
  rcases hf with(hf|hf)|hf
  ·have hl0:lo=[]:=List.isEmpty_iff.mp hf
   subst hl0
   rw[OsAt.nil]at l2
   have sm:Same (hide (hd2 (hd2 Bc Z) W') H') (hide (hd2 (hd2 B Z) (fun a=>L a+(R a+W2 a))) H'):=jK fun a z=>by have:=b2 a;have:=l2.2 a;have:=bc a;dsimp only[hd2]at *;omega
   exact⟨g.at_.keep sm fun _ _=>rfl,b1.keep sm fun _ _=>rfl⟩
  ·rw [aE] at hf
   have k:=kF Hb fun a z=>by obtain⟨o,h1,h2⟩:=hbR a (by omega);exact⟨o,h1,h2⟩
   exact⟨g.at_.flat k hf.1,b1.flat k hf.2⟩
  ·rw [aE,aE] at hf
   have hP:∀{lo:List O} {lv:List V} {L:Fp},lo.all dcFz=true->OsAt K c (hide (hd2 B W) H) H lo lv L->∀a,L a≠0->∃o,H a=some o/\isDK o:=fun {lo}=>by
    induction lo with
    |nil=>intro lv L _ h a z;rw[OsAt.nil]at h;exact absurd (h.2 a) z
    | cons o lo ih=>
      intro lv L hl h a z
      rw[dQ,aE]at hl
      rw[OsAt.cons]at h
      obtain⟨v,r,Z1,Z2,_,p1,p2,p3⟩:=h
      by_cases y:Z1 a=0
      ·exact ih hl.2 p2 a (by rw[p3]at z;omega)
      ·exact jQf p1 hl.1 a y
   have k:=kF isDK (hP hf.1.1 l2)
   exact⟨g.at_.nd' k hf.1.2,b1.nd' k hf.2⟩
 have sl3:=vJc (e1:=env) (a3.keep sm4 cellR) a5 a6 a1 fin.2 (Y:=fun a=>R a+W2 a) fun _=>rfl
 have sl4:=vJc (e1:=env) sl3 l5 (fun j hj=>by
  by_cases z:j∈wG as hs
  · -- taken twice:not so
    exfalso
    have:eL[j]?=some .un :=l6 j hj
    have key:∀{js:List Nat} {env:Ev} {q:List O×Ev},env[j]?=some .un ->j∈js->yL js env=some q->False:=by
     intro js
     induction js with
     |nil=>intro env q _ z;simp at z
     | cons i is ih=>
       intro env q hu z ht
       simp only[yL]at ht
       by_cases hi:i=j
       ·subst hi;rw[hu]at ht;cases ht
       ·rcases aC.mp z with z | z
        ·exact hi z.symm
        ·cases e3:env[i]? with
         |none=>rw[e3]at ht;cases ht
         | some s=>
           rw[e3]at ht
           cases s with
           |un=>cases ht
           | s io o=>
             obtain⟨q',e4,_⟩:=bnd ht
             exact ih (by rw[bT hi];exact hu) z e4
    exact key this z e1
  ·rw[zQf z,a7 j z];exact l6 j hj) l1 (l2.keep sm4 cellL) (Y:=fun a=>L a+(R a+W2 a)) fun a=>by(try dsimp only);omega
 refine w5 v H' (fun a=>L a+(R a+W2 a)) Z ⟨⟨?_,cellB,fun a z=>?_,g.st.dom,fun a z1 z2=>?_,fun i o h=>?_,by rw[vQd,vQd,a8,l8]⟩,⟨sl4,fun a=>nd4 a,fun a z=>?_⟩,fin.1⟩
 ·rw [show hide (hd2 B (hd2 (fun a=>L a + (R a + W2 a)) Z)) H' =hide (hd2 (hd2 B Z) (fun a=>L a + (R a + W2 a))) H' from zT fun a=>by dsimp only [hd2];omega]
  exact sm4
 ·by_cases q0:L a + R a=0
  ·rcases g.st.new a (by have:=b2 a;dsimp only [hd2] at *;omega) with q1 | q1
   ·exact .inl (by rw[a4];omega)
   ·exact .inr q1
  ·exact .inl (by rw[a4];omega)
 ·by_cases q1:L a=0
  ·by_cases q0:R a=0
   ·exact g.st.pin a (by rw[a4]at z1;omega) (by have:=b2 a;dsimp only[hd2]at *;omega)
   ·exact .of (cellR a q0)
  ·exact .of (cellL a q1)
 ·refine⟨?_,rfl⟩
  have fl:flag env i=true->∃o0,env[i]?=some (.s true o0):=fun h2=>by
   unfold flag at h2
   split at h2
   ·rename_i io o' e
    rw[h2]at e
    exact⟨o',e⟩
   ·cases h2
  rcases vQe h with⟨h1,h2⟩|h1
  ·exact fl h2
  ·rcases vQe h1 with⟨h1,h2⟩ | h1
   ·exact fl h2
   ·by_cases z:i∈wG as hs
    ·rw[a6 i z]at h1;cases h1
    ·rw [a7 i z] at h1
     by_cases y:i∈zS as hs
     ·rw[l6 i y]at h1;cases h1
     ·rw[l7 i y]at h1;exact⟨o,h1⟩
 ·by_cases q0:B a=0
  ·exact g.cf.hb a (by have:=bc a;dsimp only[hd2]at *;omega)
  ·rw[cellB a q0];exact cf.hb a q0
theorem vWu{K:aQ}{F:Fn}(h:tE K c E (qY F as) σ H Q):zZp (spD K c as.length F) [] E (tOs K c E (as.map Am.o)) σ H Q:=by
 obtain⟨env,B,W,cf,w⟩:=h;refine qZl cf (qK.mp w) fun r1 w1 us H1 W1 g=>?_
 rw[bU];exact qJx g.cf g.at_ (wp_mono (fun r q v H' W' Z g2=>q v H' W' Z (g2.back g.st)) (fun _ _ he=>he.back g.st) w1)
section
variable{X:Cx}{c:Nat->aV}{E:XK}{k:Nat}{f:aV}{fd:aH}{ps:List Str}{x:Str}{p pos:Pos}{e:Expr}{es:List Expr}{F:Fn}{as:List Am}
theorem qJp(G:FnOk X.prog X.w X.K X.mg X.base (CXd X.prog X.w) k f fd ps (spD X.K c as.length F))(hr:Room k X.A)(hg:Gl X x)(hm:X.mg x=some (.ref f))(hk:bO X.K (.ref f)=true)(hb:j9 X.K fd ps [])(hx:jD (CXd X.prog X.w) X E)(ha:OsD X c E (e::es) (as.map Am.o))(hdb:(x == ("__debug__":Str))=false:=by decide)(he:aX (e::es) X.env=(false,eval e X.env)::aX es X.env:=by rfl)(hpl:(cZ pos (aX es X.env)).any (·.1)=false:=by rfl):
  ED X c E (.Call (.Name x p) (e::es) [] pos) (qY F as):=
 ⟨PE.imp (zKj G hr hg hm hk hb .nil hx ha.h hdb he hpl) fun _ _ _ h=>vWu h⟩
theorem qS(h:PE X e (tVar i)):OD X c E e (Am.io i).o :=by
 refine⟨PE.imp h fun σ H Q=>?_⟩;rintro⟨env,B,W,h1,cf,e0,q⟩;simp only[pIo]at e0;cases e1:env[i]? with
 |none=>grind
 | some s=>
   rw[e1]at e0;cases s with
   |un=>cases e0
   | s io o=>
     cases e0;obtain⟨x,Z1,R,h1,h2,h3,h4⟩:=cf.focus e1;cases x with
     |none=>exact h2.elim
     |some v=>exact⟨v,h1,q v (by show vO H σ i []=some v;unfold vO;rw[h1];simp[walk])⟩
end
noncomputable def hasF(m:Str)(fs:List Str):Bool:=fs.any fun g=>decide (m=g)
noncomputable def jVk(env:Ev)(h:Hn)(C:Nat)(m:Str):Bool:=match rsv env h with
 |some (.nd (.obj C' fs) _)=>C' == C &&!hasF m fs
 |_=>false
noncomputable def vE(C:Nat)(m:Str)(F:Fn)(a0:Am)(as:List Am):SE:=fun env=>(evO a0.o env).bind fun r0=>cond (jVk r0.2 r0.1 C m && (r0.1.st || (as.map Am.o).all Oe.isP)) ((evOs (as.map Am.o) r0.2).bind fun r=>qVa F (a0::as) (r0.1::r.1) r.2) .no
theorem vZa{m:Str}:∀{fs:List Str} {vs:List V},hasF m fs=false->(fs.zip vs).lookup m=none
 |[],vs,_=>by simp
 |g::r,[],_=>by simp
 | g::r,v::vs,h=>by
   unfold hasF at h;rw[List.any_cons,Bool.or_eq_false_iff]at h;rw[dP,List.lookup,show(m == g)=false from beq_eq_false_iff_ne.mpr (of_decide_eq_false h.1)];exact vZa h.2
section
variable{K:aQ}{c:Nat->aV}{E:XK}
theorem vWt{m:Str}{F:Fn}{a0:Am}(h:tE K c E (vE C m F a0 as) σ H Q):zZo (c C) m (spD K c (a0::as).length F) [] E (tO K c E a0.o) (tOs K c E (as.map Am.o)) σ H Q:=by
 obtain⟨env,B,W,cf,w⟩:=h;refine qQo cf (qK.mp w) fun r0 w1 u H1 W1 g1=>?_
 obtain⟨hs,w2⟩:=vM w1;rw[aE]at hs;obtain⟨ho,hst⟩:=hs;have obj:∃a dx fs,u=.ref a/\H1 a=some (.ins (c C) dx fs)/\fs.lookup m=none:=by
  unfold jVk at ho;split at ho
  ·rename_i C' fs ds e;rw[aE,Bool.not_eq_true']at ho;obtain⟨p,vs,rfl,⟨h1,dx,h2⟩,h3⟩:=(jC g1.cf g1.at_ e).un;have:C' =C:=by simpa using ho.1
   subst this;exact⟨p,dx,_,rfl,h2,vZa ho.2⟩
  ·cases ho
 obtain⟨a,dx,fs,rfl,h2,h3⟩:=obj;refine⟨a,dx,fs,rfl,h2,h3,?_⟩;refine qZl g1.cf (wp_mono (fun _ q=>q) (fun _ _ he=>he.back g1.st) (qK.mp w2)) fun r w3 us H2 W2 g2=>?_
 rw[bU];have hh:wH K c (hide (hd2 B W2) H2) σ H2 (.ref a::us) (r0.1::r.1):=by
  refine⟨?_,g2.at_⟩;cases e:r0.1.st with
  |true=>exact g1.at_.step g2.st.same e
  | false=>
    rw[e]at hst;obtain⟨e1,e2,_⟩:=g2.pu (by simpa using hst);rw[e1,e2];exact g1.at_
 exact qJx g2.cf hh (wp_mono (fun r q v H' W' Z g=>q v H' W' Z (g.back (g1.st.trans g2.st))) (fun _ _ he=>he.back (g1.st.trans g2.st)) w3)
end
section
variable{X:Cx}{c:Nat->aV}{E:XK}{k:Nat}{f:aV}{fd:aH}{ps:List Str}{x m:Str}{p pos apos:Pos}{e o:Expr}{es:List Expr}{F:Fn}{a0:Am}{as:List Am}{C:Nat}
theorem jQb(ho:OD X c E o a0.o)(hc:Cls X.K (c C))(hm:Meth X.K (c C) m f)(G:FnOk X.prog X.w X.K X.mg X.base (CXd X.prog X.w) k f fd ps (spD X.K c (a0::as).length F))(hr:Room k X.A)(hb:j9 X.K fd ps [])(hx:jD (CXd X.prog X.w) X E)(ha:OsD X c E (e::es) (as.map Am.o))(hst:aX (e::es) X.env=(false,eval e X.env)::aX es X.env:=by rfl)(hpl:(cZ pos (aX es X.env)).any (·.1)=false:=by rfl)(ht:eval (.Call (.Attribute o m apos) (e::es) [] pos) X.env=(do
   let ov ←eval o X.env;standAt apos.atName;let (f,first) ←holding [ov] (getMethod ov m pl);callWith pos f first (cZ pos (aX (e::es) X.env)) (backToKw pos (keywordEach [] X.env))):=by rfl):
  ED X c E (.Call (.Attribute o m apos) (e::es) [] pos) (vE C m F a0 as):=
 ⟨PE.imp (zKe ho.h hc hm G hr hb .nil hx ha.h hst hpl ht) fun _ _ _ h=>vWt h⟩
theorem zX4(ho:OD X c E o a0.o)(hc:Cls X.K (c C))(hm:Meth X.K (c C) m f)(G:FnOk X.prog X.w X.K X.mg X.base (CXd X.prog X.w) k f fd ps (spD X.K c 1 F))(hr:Room k X.A)(hb:j9 X.K fd ps [])(hx:jD (CXd X.prog X.w) X E)(ht:eval (.Call (.Attribute o m apos) [] [] pos) X.env=(do
   let ov ←eval o X.env;standAt apos.atName;let (f,first) ←holding [ov] (getMethod ov m pl);callWith pos f first (cZ pos (aX [] X.env)) (backToKw pos (keywordEach [] X.env))):=by rfl):
  ED X c E (.Call (.Attribute o m apos) [] [] pos) (vE C m F a0 []):=
 ⟨PE.imp (zW3 ho.h hc hm G hr hb .nil hx ht) fun _ _ _ h=>vWt (as:=[]) h⟩
end
noncomputable def popL(env:Ev)(n:Nat):Option (O×Ev):=match env[n]? with
 |some (.s _ o)=>some (o,env.take n)
 |_=>none
noncomputable def vKw(C:Nat)(F:Fn)(as:List Am):SE:=fun env=>(evOs (as.map Am.o) env).bind fun r=>(qVa F (.io r.2.length::as) (.p r.2.length []::r.1) (r.2 ++ [.s false (.ow (.obj C []) [])])).bind fun q=>match q.1 with
 |.fz .non =>opt (popL q.2 r.2.length)
 |_=>.no
section
variable{K:aQ}{c:Nat->aV}{E:XK}
theorem vVw(sm:Same H H'):∀{π:List Nat} {v u:V},walk H v π=some u->walk H' v π=some u
 |[],v,u,h=>by cases v <;> simpa[walk] using h
 | j::π,v,u,h=>by
   cases v with
   | ref p=>
     simp only[walk]at h⊢;cases e:H p with
     |none=>grind
     | some o=>
       rw[e]at h;rw[sm p o e];dsimp only at h⊢;cases e2:(kids o)[j]? with
       |none=>grind
       |some v=>rw[e2]at h;exact vVw sm h
   |_=>cases h
theorem wH.push{F:Hp}{y:L2.St}(sF:Same F F')(sm:Same H H'):∀{us:List V} {hs:List Hn},wH K c F σ H us hs->wH K c F' (σ ++ y) H' us hs
 |[],[],_=>trivial
 | u::us,h::hs,a=>by
   refine⟨?_,wH.push sF sm a.2⟩;cases h with
   |d x=>exact DAt.same sF a.1
   | p i π=>
     have w:vO H σ i π=some u:=a.1;show vO H' (σ ++ y) i π=some u;unfold vO at w⊢;cases e:σ[i]? with
     |none=>grind
     | some x=>
       rw[e]at w;rw[List.getElem?_append_left (aW.mp e).1,e];cases x with
       |none=>cases w
       |some v=>exact vVw sm w
 |[],_::_,a=>a.elim
 |_::_,[],a=>a.elim
theorem SlAt.pop{F:Hp}:∀{env:Ev} {σ:L2.St} {s:Slot} {x:Option V} {Z:Fp} {n:Nat},SlAt K c F H env (σ ++ [x]) Z->env[n]?=some s->n=σ.length->∃Z1 R,jH K c F H s x Z1/\SlAt K c F H (env.take n) σ R/\∀a,Z a=Z1 a+R a
 |[],σ,s,x,Z,n,h,e,hn=>by simp at e
 | s0::env,[],s,x,Z,n,h,e,hn=>by
   subst hn;obtain⟨y,r,Z1,Z2,e1,b,cc,d⟩:=h;cases e1;cases e;have:env=[]:=by
    cases env with
    |nil=>rfl
    |cons s1 env=>obtain⟨_,_,_,_,z,_⟩:=cc;cases z
   subst this;exact⟨Z1,Z2,b,⟨⟨rfl,cc.1.2⟩,cc.2⟩,d⟩
 | s0::env,y::σ,s,x,Z,n,h,e,hn=>by
   subst hn;obtain⟨y',r,Z1,Z2,e1,b,cc,d⟩:=h;cases e1;obtain⟨Z3,R,h1,h2,h3⟩:=SlAt.pop (σ:=σ) cc (by simpa using e) rfl;exact⟨Z3,fun a=>Z1 a+R a,h1,⟨_,_,Z1,R,rfl,b,h2,fun _=>rfl⟩,fun a=>by rw[d,h3];(try dsimp only);omega⟩
theorem zWi{F:Fn}(h:tE K c E (vKw C F as) σ H Q):jQs (c C) (spD K c (as.length+1) F) [] E (tOs K c E (as.map Am.o)) σ H Q:=by
 obtain⟨env,B,W,cf,w⟩:=h;refine qZl cf (qK.mp w) fun r w1 us H1 W1 g=>?_
 intro x dx hx hdx hne;rw[bU];have sm1:Same H1 (upd H1 dx (.own x)):=.upd hdx;have hx1:upd H1 dx (.own x) x=none:=by rw[qH fun z=>hne z.symm];exact hx
 have sm2:Same (upd H1 dx (.own x)) (upd (upd H1 dx (.own x)) x (.ins (c C) dx [])):=.upd hx1;have cf1:=g.cf.grow sm1;have gl:Got K c r.2 σ (upd H1 dx (.own x)) B W1 r.2 (upd (upd H1 dx (.own x)) x (.ins (c C) dx [])) W1 (one x) (.ow (.obj C []) ([].map .fz)) (.ref x):=Got.lay cf1 hx1 sm2 (k:=.obj C []) (vs:=[]) (ds:=[]) ⟨rfl,dx,upd_same⟩ .nil;generalize hH:upd (upd H1 dx (.own x)) x (.ins (c C) dx [])=H2 at *;have stG:Step r.2 σ H1 B W1 r.2 σ H2 (hd2 W1 (one x)):=(Step.grow g.cf sm1).trans gl.st;have lenσ:σ.length=r.2.length:=g.cf.len.symm;have hid:hide (hd2 (hd2 B (one x)) W1) H2=hide (hd2 B (hd2 W1 (one x))) H2:=zT fun a=>by dsimp only[hd2];omega
 have cfP:Cf K c (r.2 ++ [.s false (.ow (.obj C []) [])]) (σ ++ [some (.ref x)]) H2 B (hd2 W1 (one x)):=by
  refine⟨?_,fun a=>by have:=gl.cf.nd a;dsimp only[hd2]at *;omega,fun a z=>gl.cf.hb a (by dsimp only[hd2];omega)⟩;rw[←hid];refine(gl.cf.at_.append (env' :=[.s false (.ow (.obj C []) [])]) (σ' :=[some (.ref x)]) (Z' :=one x) ⟨some (.ref x),[],one x,fun _=>0,rfl,gl.at_,⟨⟨rfl,gl.cf.at_.tab⟩,fun _=>rfl⟩,fun a=>by(try dsimp only);omega⟩)
 have hh:wH K c (hide (hd2 B (hd2 W1 (one x))) H2) (σ ++ [some (.ref x)]) H2 (.ref x::us) (.p r.2.length []::r.1):=by
  refine⟨?_,wH.push stG.same (sm1.trans sm2) g.at_⟩;show vO H2 (σ ++ [some (.ref x)]) r.2.length []=some (.ref x);unfold vO;rw[cL (by omega),show r.2.length - σ.length=0 by omega];rfl
 refine qJx (as:=.io r.2.length::as) cfP hh (wp_mono (fun q w2 v H' W' Z gq=>?_) (fun C fs he=>?_) (qK.mp w1));rotate_left
 ·exact(he.back g.st).back stG
 obtain⟨q1,q2⟩:=q;cases q1 with
 |ow k os=>exact w2.elim
 | fz d=>
   cases d with
   | non=>
     have ev:=gq.at_;have hv:v=.non :=by cases ev.1;rfl
     refine⟨hv,?_⟩;obtain⟨p,e1,w3⟩:∃p,popL q2 r.2.length=some p/\∀u H' W' Z,Got K c env σ H B W p.2 H' W' Z p.1 u->Q u H' :=by
      cases e:popL q2 r.2.length with
      |none=>dsimp only at w2;rw[e]at w2;exact w2.elim
      |some p=>dsimp only at w2;rw[e]at w2;exact⟨p,rfl,w2⟩
     unfold popL at e1;split at e1
     ·rename_i io o e2;cases e1;obtain⟨Z1,R,h1,h2,h3⟩:=SlAt.pop gq.cf.at_ e2 lenσ.symm;have zz:∀a,Z a=0:=ev.2;have hd1:hide (hd2 (hd2 B Z) W') H' =hide (hd2 (hd2 B Z1) R) H' :=zT fun a=>by dsimp only[hd2];rw[h3,zz];omega
      have hd3:hide (hd2 B (hd2 R Z1)) H' =hide (hd2 B (hd2 W' Z)) H' :=zT fun a=>by dsimp only[hd2];rw[h3,zz];omega
      refine w3 (.ref x) H' R Z1 ⟨(g.st.trans stG).trans ⟨by rw[hd3];exact gq.st.same,gq.st.by_,fun a z=>gq.st.new a (by dsimp only[hd2]at *;rw[h3];omega),gq.st.dom,fun a z1 z2=>gq.st.pin a z1 (by dsimp only[hd2]at *;rw[h3];omega),fun i o' h=>?_,?_⟩,⟨by rw[←hd1];exact h2,fun a=>by have:=gq.cf.nd a;dsimp only[hd2]at *;rw[h3,zz]at this;omega,fun a z=>?_⟩,by rw[←hd1];exact h1⟩
      ·have hi:i<r.2.length:=by
        grind
       rw[List.getElem?_take_of_lt hi]at h;obtain⟨⟨o0,k1⟩,k2⟩:=gq.st.io i o' h;grind
      ·grind
      ·by_cases q0:B a=0
       ·exact h1.hb (by dsimp only[hd2]at z;omega)
       ·exact gq.cf.hb a (by dsimp only[hd2];omega)
     ·cases e1
   |_=>exact w2.elim
end
section
variable{X:Cx}{c:Nat->aV}{E:XK}{k:Nat}{f:aV}{fd:aH}{ps:List Str}{x:Str}{p pos:Pos}{e:Expr}{es:List Expr}{F:Fn}{as:List Am}{C:Nat}
theorem jQc(M:Mk X.K (c C) f)(G:FnOk X.prog X.w X.K X.mg X.base (CXd X.prog X.w) k f fd ps (spD X.K c (as.length+1) F))(hr:Room (k+1) X.A)(hg:Gl X x)(hm:X.mg x=some (.ref (c C)))(hb:j9 X.K fd ps [])(hx:jD (CXd X.prog X.w) X E)(ha:OsD X c E (e::es) (as.map Am.o))(hdb:(x == ("__debug__":Str))=false:=by decide)(he:aX (e::es) X.env=(false,eval e X.env)::aX es X.env:=by rfl)(hpl:(cZ pos (aX es X.env)).any (·.1)=false:=by rfl):
  ED X c E (.Call (.Name x p) (e::es) [] pos) (vKw C F as):=
 ⟨PE.imp (zKf M G hr hg hm hb .nil hx ha.h hdb he hpl) fun _ _ _ h=>zWi h⟩
end
noncomputable abbrev lim:Nat:=1000000
theorem zJy(h:n<=lim):n<aD:=Nat.lt_of_le_of_lt h (by decide)
section
variable{K:aQ}{c:Nat->aV}{env env' :Ev}{σ:L2.St}{H H' :Hp}{B W Z:Fp}{i:Nat}{π:List Nat}{k:Kd}{os:List O}
theorem Cf.mut(cf:Cf K c env σ H (hd2 B Z) W)(e:getE env i π=some (.ow k os))(nt:isT k=false:=by rfl):∃p vs Zk,vO H σ i π=some (.ref p)/\OwAt c H p k vs/\OsAt K c (hide (hd2 (hd2 B Z) W) H) H os vs Zk/\
  ∀k' os' vs' Zk' Z2 ho,OsAt K c (hide (hd2 (hd2 B Z) W) H) H os' vs' Zk' ->(∀a,Zk' a+Z2 a<=Zk a+Z a)->OwAt c (upd H p ho) p k' vs' ->Hb ho->Pin (H p) (some ho)->
   ∃W',Cf K c (setE env i π (.ow k' os')) σ (upd H p ho) (hd2 B Z2) W' /\Step env σ H B (hd2 W Z) (setE env i π (.ow k' os')) σ (upd H p ho) (hd2 W' Z2)/\
    ∀o v,OAt K c (hide (hd2 (hd2 B Z) W) H) H o v Z2->OAt K c (hide (hd2 (hd2 B Z2) W') (upd H p ho)) (upd H p ho) o v Z2:=by
 obtain⟨v1,Z1,R,h1,h2,h3,h4⟩:=cf.place e;rw[OAt.ow nt]at h2;obtain⟨p,vs,Zk,rfl,b,cc,d⟩:=h2;refine⟨p,vs,Zk,h1,b,cc,fun k' os' vs' Zk' Z2 ho hk hz hp hb pn=>?_⟩;have nd:∀a,B a+Z a+(one p a+Zk a+R a)<=1:=fun a=>by have:=cf.nd a;rw[h3,d]at this;dsimp only[hd2]at this;omega
 have np:B p=0/\Z p=0/\Zk p=0/\R p=0:=by have:=nd p;rw[wV]at this;omega
 have nz:Zk' p=0/\Z2 p=0:=by have:=hz p;omega
 have hid:∀a,(hd2 (hd2 B Z) W) a=B a+Z a+(one p a+Zk a+R a):=fun a=>by dsimp only[hd2];rw[h3,d]
 have sm:Same (hide (hd2 (hd2 B Z) W) H) (hide (hd2 (hd2 B Z2) (fun a=>(one p a+Zk' a)+R a)) (upd H p ho)):=zY fun a o z q=>by
  rw[hid]at z;have:=hz a;have ne:a≠p:=fun y=>by rw[y,wV]at z;omega
  exact⟨by dsimp only[hd2];omega,by rw[qH ne];exact q⟩
 have cell:∀a,a≠p->upd H p ho a=H a:=fun a z=>qH z
 refine⟨fun a=>(one p a+Zk' a)+R a,h4 (upd H p ho) (hd2 B Z2) _ (.ow k' os') (fun a=>one p a+Zk' a) sm (fun _=>rfl) (fun a z=>cell a fun y=>by rw[y]at z;omega) ((OAt.ow hp.nt).mpr ⟨p,vs',Zk',rfl,hp,hk.keep sm fun a z=>cell a fun y=>by rw[y]at z;omega,fun _=>rfl⟩) (fun a=>?_) (fun a z=>?_),⟨?_,fun a z=>cell a fun y=>by rw[y]at z;omega,fun a z=>.inl ?_,fun a z=>?_,fun a z1 z2=>?_,fun j o q=>⟨qY9 q,rfl⟩,qXh⟩,fun o v h=>h.keep sm fun a z=>cell a fun y=>by rw[y]at z;omega⟩
 ·have:=nd a;have:=hz a;dsimp only[hd2];omega
 ·by_cases y:a=p
  ·subst y;exact⟨ho,upd_same,hb⟩
  ·rw [cell a y];by_cases q:B a=0
   ·exact cf.hbs (by have h5:=hid a;have h6:=hz a;dsimp only[hd2]at h5 z⊢;omega)
   ·exact cf.hb a (by dsimp only[hd2];omega)
 ·rw [show hide (hd2 B (hd2 W Z)) H=hide (hd2 (hd2 B Z) W) H from zT fun a=>by dsimp only [hd2];omega,show hide (hd2 B (hd2 (fun a=>(one p a + Zk' a) + R a) Z2)) (upd H p ho)=hide (hd2 (hd2 B Z2) (fun a=>(one p a + Zk' a) + R a)) (upd H p ho) from zT fun a=>by dsimp only [hd2];omega];exact sm
 ·have:=hz a;dsimp only[hd2]at *;rw[h3,d];omega
 ·by_cases y:a=p
  ·subst y;rw[upd_same]at z;cases z
  ·rw[cell a y]at z;exact z
 ·by_cases y:a=p
  ·subst y;rw[upd_same];exact pn
  ·exact .of (cell a y)
noncomputable def stab(env env1:Ev)(i:Nat):List Nat->Bool
 |[]=>true
 | [j]=>match env[i]?,env1[i]? with
   | some (.s _ (.ow (.obj _ fs) _)),some (.s _ (.ow (.obj _ _) _))=>match fs[j]? with
     |some f=>pinF f
     |none=>false
   |_,_=>false
 |_=>false
theorem vWv{K:aQ}{F:Hp}{kd:Kd}{os:List O}{x:Option V}{Z1:Fp}(h:jH K c F H (.s io (.ow kd os)) x Z1)(nt:isT kd=false:=by rfl):∃p vs,x=some (.ref p)/\OwAt c H p kd vs/\Z1 p≠0:=by
 cases x with
 |none=>exact h.elim
 | some v=>
   have h' :OAt K c F H (.ow kd os) v Z1:=h;rw[OAt.ow nt]at h';obtain⟨p,vs,Z',rfl,b,_,d⟩:=h';exact⟨p,vs,rfl,b,by rw[d,wV];omega⟩
theorem vV0{Y:Fp}{u:V}(cf:Cf K c env σ H B W)(st:Step env σ H B W env' σ H' Y)(cf' :Cf K c env' σ H' B' W')(hY:∀a,W' a≠0->Y a≠0)(hs:stab env env' i π=true)(h:vO H σ i π=some u):vO H' σ i π=some u:=by
 cases π with
 | nil=>
   unfold vO at h⊢;cases e:σ[i]? with
   |none=>rw[e]at h;cases h
   | some x=>
     rw[e]at h;cases x with
     |none=>cases h
     |some v=>simpa[walk] using h
 | cons j π=>
   cases π with
   |cons _ _=>simp[stab]at hs
   | nil=>
     simp only[stab]at hs;split at hs
     ·rename_i io C fs os io' C2 fs2 os' e1 e2;split at hs
      ·rename_i f ef;obtain⟨x,Z1,R,h1,h2,h3,_⟩:=cf.focus e1;obtain⟨x',Z1',R',h1',h2',h3',_⟩:=cf'.focus e2;obtain⟨p,vs,rfl,⟨b1,dx,b2⟩,zp⟩:=vWv h2;obtain⟨p',vs',rfl,_,zp'⟩:=vWv h2';rw[h1]at h1';cases h1';have pn:=st.pin p (by rw[h3];omega) (hY p (by rw[h3'];omega));rw[b2]at pn;obtain⟨fs',e3,q⟩:=pn;unfold vO at h⊢;rw[h1]at h⊢;simp only[walk,b2,kids,qZr b1]at h;cases ev:vs[j]? with
       |none=>rw[ev]at h;cases h
       | some v=>
         rw[ev]at h;have hv:v=u:=by cases v <;> simpa[walk] using h
         subst hv;have hz:(fs.zip vs)[j]?=some (f,v):=by rw[List.getElem?_zip_eq_some];exact⟨ef,ev⟩
         have h5:=q j f v hs hz;have h6:(kids (.ins (c C) dx fs'))[j]?=some v:=by
          show(fs'.map (·.2))[j]?=some v;rw[cT,h5];rfl
         show walk H' (.ref p) [j]=some v;rw[qX4 e3 h6];simp[walk]
      ·cases hs
     ·cases hs
end
noncomputable def qQ8(env:Ev)(i:Nat)(π:List Nat):Option (List O):=match getE env i π with
 |some (.ow .lst os)=>some os
 |_=>none
theorem qYd{os:List O}(h:qQ8 env i π=some os):getE env i π=some (.ow .lst os):=by
 unfold qQ8 at h;grind
noncomputable def eMu1(s:SP)(a:SE)(f:List O->O->Option (O×List O)):SE:=fun env=>(opt (s env)).bind fun h=>match h with
 |.p i π=>(opt (qQ8 env i π)).bind fun _=>(a env).bind fun r=>(opt (qQ8 r.2 i π)).bind fun os=>cond (stab env r.2 i π) ((opt (f os r.1)).bind fun z=>.ok (z.1,setE r.2 i π (.ow .lst z.2))) .no
 |_=>.no
noncomputable def apF(os:List O)(x:O):Option (O×List O):=cond (decide (os.length<=lim)) (some (.fz .non,os ++ [x])) none
noncomputable def PrM(K:aQ)(c:Nat->aV)(r:V->List V->Hp->VK->Prop)(f:List O->O->Option (O×List O)):Prop:=∀(p:aV) (vs:List V) (u:V) (F H:Hp) (os os' :List O) (x o:O) (Zk Z:Fp) (Q:VK),H p=some (.lst vs)->OsAt K c F H os vs Zk->OAt K c F H x u Z->f os x=some (o,os')->
 (∀v vs' Zk',o=.fz .non ->v=.non ->OsAt K c F H os' vs' Zk' ->(∀a,Zk' a<=Zk a+Z a)->Q v (upd H p (.lst vs')))->r (.ref p) [u] H Q
section
variable{K:aQ}{c:Nat->aV}{E:XK}
theorem zVr:PrM K c rAppend apF:=fun p vs u F H os os' x o Zk Z Q h1 h2 h3 e q=>by
 obtain⟨q1,q2⟩:=zM e;cases q2;exact⟨p,vs,u,rfl,rfl,h1,by rw[h2.length];exact zJy (of_decide_eq_true q1),q .non _ _ rfl rfl (h2.append (OsAt.one.mpr h3)) fun a=>aP _⟩
theorem zYh{r:V->List V->Hp->VK->Prop}{f:List O->O->Option (O×List O)}(hp:PrM K c r f){s:SP}{a:SE}(h:tE K c E (eMu1 s a f) σ H Q):tBM K "list" r (tP K c s) (vVi (tE K c E a) tNil) σ H Q:=by
 obtain⟨env,B,W,cf,w⟩:=h;obtain⟨h1,e0,w1⟩:=qG w;refine⟨env,B,W,h1,cf,e0,fun u hu=>?_⟩;cases h1 with
 |d x=>exact w1.elim
 | p i π=>
   obtain⟨os0,e1,w2⟩:=qG w1;have hu' :vO H σ i π=some u:=hu;obtain⟨v1,Z1,R,g1,g2,g3,g4⟩:=cf.place (qYd e1);rw[hu']at g1;cases g1;rw[OAt.ow (k:=.lst) rfl]at g2;obtain⟨p,vs0,Z0,rfl,b,_,_⟩:=g2;refine⟨.inl ⟨rfl,vs0,SqL.of b⟩,env,B,W,cf,wp_mono (fun r1 w3 x H1 W1 Z g=>?_) (fun _ _ he=>he) (qK.mp w2)⟩;obtain⟨os,e2,w4⟩:=qG w3;obtain⟨hs,w5⟩:=vM w4;obtain⟨z,e3,w6⟩:=qG w5;have hw:=vV0 cf g.st g.cf (fun a z=>by dsimp only[hd2];omega) hs hu';obtain⟨p',vs,Zk,k1,k2,k3,k4⟩:=g.cf.mut (qYd e2);rw[hw]at k1;cases k1;refine hp p vs x _ H1 os z.2 r1.1 z.1 Zk Z Q k2 k3 g.at_ e3 fun v vs' Zk' ho hv hk hz=>?_
   subst hv;obtain⟨W',c1,c2,c3⟩:=k4 .lst z.2 vs' Zk' (fun _=>0) (.lst vs') hk (fun a=>by have:=hz a;omega) upd_same trivial (by have k2' :H1 p=some (.lst vs):=k2;rw[k2'];trivial);refine w6 .non _ W' (fun _=>0) ⟨g.st.trans c2,c1,by rw[ho,OAt.fz];exact⟨.non,fun _=>rfl⟩⟩
end
section
variable{X:Cx}{c:Nat->aV}{E:XK}{o e:Expr}{apos cpos:Pos}{s:SP}{a:SE}
theorem zZd(ho:OD X c E o (.p s))(ha:ED X c E e a)(hbase:attributeBase o "append" X.env (eval o X.env)=eval o X.env:=by rfl)(hfew:((cZ cpos (aX [e] X.env)).all (fun x=>!x.1) && (backToKw cpos (keywordEach [] X.env)).all (fun x=>x.1.isSome) && decide (([e]:List Expr).length+([]:List Keyword).length+(if([]:List Keyword).isEmpty then 0 else 1)<30))=true:=by rfl)(hline:(apos.endLine == cpos.line)=true:=by rfl)(hs:aX [e] X.env=(false,eval e X.env)::aX [] X.env:=by rfl)(hplain:(cZ cpos (aX [] X.env)).any (·.1)=false:=by rfl):
  ED X c E (.Call (.Attribute o "append" apos) [e] [] cpos) (eMu1 s a apF):=
 ⟨PE.imp (zZv PySem.F.plainAttrs_list PySem.F.slot_list_append PySem.F.type_list_append vV9 ho.h (qVl ha.h qWe hs) hbase hfew hline hs hplain) fun _ _ _ h=>zYh zVr h⟩
noncomputable def ePop(s:SP):SE:=fun env=>(opt (s env)).bind fun h=>match h with
 |.p i π=>(opt (qQ8 env i π)).bind fun os=>(opt (os[os.length - 1]?)).bind fun o=>.ok (o,setE env i π (.ow .lst (os.eraseIdx (os.length - 1))))
 |_=>.no
theorem qJd(xs:List α):xs.dropLast=xs.eraseIdx (xs.length - 1):=by
 rw[List.dropLast_eq_take,List.eraseIdx_eq_take_drop_succ];cases xs with
 |nil=>rfl
 |cons x xs=>simp
theorem jJr(ho:OD X c E o (.p s))(hbase:attributeBase o "pop" X.env (eval o X.env)=eval o X.env:=by rfl)(hline:(apos.endLine == cpos.line)=true:=by rfl):ED X c E (.Call (.Attribute o "pop" apos) [] [] cpos) (ePop s):=by
 refine⟨PE.imp (zJn PySem.F.plainAttrs_list PySem.F.slot_list_pop PySem.F.type_list_pop jZ6 ho.h hbase hline) fun σ H Q h=>?_⟩;obtain⟨env,B,W,cf,w⟩:=h;obtain⟨h1,e0,w1⟩:=qG w;refine⟨env,B,W,h1,cf,e0,fun u hu=>?_⟩;cases h1 with
 |d x=>exact w1.elim
 | p i π=>
   obtain⟨os,e1,w2⟩:=qG w1;obtain⟨oo,e2,w3⟩:=qG w2;have hu' :vO H σ i π=some u:=hu;have cf0:Cf X.K c env σ H (hd2 B fun _=>0) W:=cf.cast (fun _=>rfl) fun _=>rfl
   obtain⟨p,vs,Zk,k1,k2,k3,k4⟩:=cf0.mut (qYd e1);rw[hu']at k1;cases k1;obtain⟨v,Y1,R,g1,g2,g3,g4⟩:=k3.erase e2;have hl:=k3.length;refine⟨.inl ⟨rfl,vs,SqL.of k2⟩,p,vs,v,rfl,rfl,k2,by rw[hl];exact g1,?_⟩;rw[qJd,hl];obtain⟨W',c1,c2,c3⟩:=k4 .lst _ _ R Y1 (.lst (vs.eraseIdx (os.length - 1))) g4 (fun a=>by rw[g3];omega) upd_same trivial (by have k2' :H p=some (.lst vs):=k2;rw[k2'];trivial);exact w3 v _ W' Y1 ⟨c2.cast (fun _=>rfl) (fun _=>rfl) fun _=>rfl,c1,c3 _ _ g2⟩
end
section
variable{κ α:Type}[DecidableEq κ]
theorem vWn{k:κ}{v:α}:∀{ks:List κ} {vs:List α},ks.length=vs.length->(ks ++ [k]).zip (vs ++ [v])=ks.zip vs ++ [(k,v)]
 |[],[],_=>rfl
 | g::r,w::vs,h=>by
   rw[aA,aA,dP,vWn (Nat.succ.inj h)];rfl
 |[],_::_,h=>by cases h
 |_::_,[],h=>by cases h
end
theorem OsAt.put{K:aQ}{F:Hp}{os:List O}{Zk:Fp}{o:O}{u:V}(h:OsAt K c F H os vs Zk)(hj:j<os.length)(ho:OAt K c F H o u Z):∃Y,OsAt K c F H (os.set j o) (vs.set j u) Y/\∀a,Y a<=Zk a+Z a:=by
 obtain⟨v,Z1,R,h1,h2,h3,h4⟩:=h.focus (aF hj);exact⟨_,h4 F H o u Z (Same.refl _) (fun _ _=>rfl) ho,fun a=>by rw[h3];(try dsimp only);omega⟩
theorem vW2{f:Str}:∀{fs:List Str} {vs:List V},fs.length=vs.length->putF f v (fs.zip vs)=match fidx f fs with
  |some j=>fs.zip (vs.set j v)
  |none=>(fs ++ [f]).zip (vs ++ [v])
 |[],[],_=>rfl
 | g::r,w::vs,h=>by
   rw[dP];simp only[putF,fidx];by_cases q:f=g
   ·simp_all
   ·rw [if_neg q,if_neg fun z=>q z.symm,vW2 (Nat.succ.inj h)];cases fidx f r <;> rfl
 |[],_::_,h=>by cases h
 |_::_,[],h=>by cases h
theorem vQn{f:Str}:∀{fs:List Str} {j:Nat},fidx f fs=some j->fs[j]?=some f
 |[],j,h=>by cases h
 | g::r,j,h=>by
   simp only[fidx]at h;by_cases q:f=g
   ·rw[if_pos q]at h;cases h;rw[q];rfl
   ·rw [if_neg q] at h;obtain⟨i,h1,rfl⟩:=bY.mp h;simpa using vQn h1
noncomputable def vKu(C:Nat)(fs:List Str)(os:List O)(f:Str)(o:O):Option O:=match fidx f fs with
 |some j=>cond (!pinF f) (some (.ow (.obj C fs) (os.set j o))) none
 |none=>cond (decide (os.length<1000)) (some (.ow (.obj C (fs ++ [f])) (os ++ [o]))) none
noncomputable def vVm(env:Ev)(i:Nat)(π:List Nat):Option (Nat×List Str×List O):=match getE env i π with
 |some (.ow (.obj C fs) os)=>some (C,fs,os)
 |_=>none
theorem qYb(h:vVm env i π=some q):getE env i π=some (.ow (.obj q.1 q.2.1) q.2.2):=by
 unfold vVm at h;grind
section
variable{K:aQ}{c:Nat->aV}{env:Ev}{σ:L2.St}{H:Hp}{B W Z:Fp}{i:Nat}{π:List Nat}
theorem Cf.fld{f:Str}{o o' :O}{u:V}{p:aV}(cf:Cf K c env σ H (hd2 B Z) W)(e:vVm env i π=some q)(hw:vO H σ i π=some (.ref p))(ho:OAt K c (hide (hd2 (hd2 B Z) W) H) H o u Z)(e2:vKu q.1 q.2.1 q.2.2 f o=some o')(hl:q.2.2.length<=999):
  ∃dx fs W',H p=some (.ins (c q.1) dx fs)/\fs.length<1000/\Cf K c (setE env i π o') σ (upd H p (.ins (c q.1) dx (putF f u fs))) B W' /\Step env σ H B (hd2 W Z) (setE env i π o') σ (upd H p (.ins (c q.1) dx (putF f u fs))) W' :=by
 obtain⟨p',vs,Zk,k1,⟨k2,dx,k4⟩,k5,k6⟩:=cf.mut (qYb e);rw[hw]at k1;cases k1;refine⟨dx,q.2.1.zip vs,?_⟩;have hlen:(q.2.1.zip vs).length<1000:=by rw[List.length_zip,k5.length];have:=Nat.min_le_right q.2.1.length q.2.2.length;omega
 rw[vW2 k2];unfold vKu at e2;cases e6:fidx f q.2.1 with
 | some j=>
   rw[e6]at e2;obtain⟨pn,e3⟩:=zM e2;cases e3;have hj:j<q.2.2.length:=by
    have:=(aW.mp (vQn e6)).1;rw[←k5.length,←k2];exact this
   obtain⟨Y,y1,y2⟩:=k5.put hj ho;obtain⟨W',c1,c2,_⟩:=k6 (.obj q.1 q.2.1) _ _ Y (fun _=>0) (.ins (c q.1) dx (q.2.1.zip (vs.set j u))) y1 (fun a=>by have:=y2 a;omega) ⟨by rw[cR];exact k2,dx,upd_same⟩ trivial (by
    rw[k4];refine⟨_,rfl,fun j' f' v' hp hz=>?_⟩;rw[List.getElem?_zip_eq_some]at hz⊢;refine⟨hz.1,?_⟩;rw[bT fun y=>?_]
    ·exact hz.2
    ·subst y;rw[vQn e6]at hz;cases hz.1;rw[hp]at pn;cases pn)
   exact⟨W',k4,hlen,c1.cast (fun _=>rfl) fun _=>rfl,c2.cast (fun _=>rfl) (fun _=>rfl) fun _=>rfl⟩
 | none=>
   rw[e6]at e2;obtain⟨pn,e3⟩:=zM e2;cases e3;obtain⟨W',c1,c2,_⟩:=k6 (.obj q.1 (q.2.1 ++ [f])) _ _ _ (fun _=>0) (.ins (c q.1) dx ((q.2.1 ++ [f]).zip (vs ++ [u]))) (k5.append (OsAt.one.mpr ho)) (fun a=>by(try dsimp only);omega) ⟨by rw[aJ,aJ,k2];rfl,dx,upd_same⟩ trivial (by
    rw[k4];refine⟨_,rfl,fun j' f' v' hp hz=>?_⟩;rw[vWn k2,List.getElem?_append_left (aW.mp hz).1];exact hz)
   exact⟨W',k4,hlen,c1.cast (fun _=>rfl) fun _=>rfl,c2.cast (fun _=>rfl) (fun _=>rfl) fun _=>rfl⟩
end
noncomputable def vWa(cs:List Nat)(f:Str)(s:SP)(a:SE):SS:=fun env=>(a env).bind fun r=>(opt (s r.2)).bind fun h=>match h with
 |.p i π=>(opt (vVm r.2 i π)).bind fun q=>cond (cs.contains q.1 && decide (q.2.2.length<=999)) ((opt (vKu q.1 q.2.1 q.2.2 f r.1)).bind fun o=>.ok (.nx (setE r.2 i π o))) .no
 |.d _=>.no
noncomputable def vKt(cs:List Nat)(f:Str)(g:D->D->Option D)(s:SP)(a:SV):SS:=fun env=>(opt (s env)).bind fun h=>match h with
 | .p i π=>(opt (vVm env i π)).bind fun q=>(opt (fidx f q.2.1)).bind fun j=>(opt (q.2.2[j]?)).bind fun o0=>match o0 with
   |.fz x=>cond (cs.contains q.1) ((a env).bind fun r=>cond (stab env r.2 i π) ((opt (g x r.1)).bind fun z=>(opt (vVm r.2 i π)).bind fun q' =>cond (decide (q'.1=q.1) && decide (q'.2.2.length<=999)) ((opt (vKu q'.1 q'.2.1 q'.2.2 f (.fz z))).bind fun o=>.ok (.nx (setE r.2 i π o))) .no) .no) .no
   |.ow _ _=>.no
 |.d _=>.no
section
variable{X:Cx}{c:Nat->aV}{E:XK}{o e:Expr}{f:Str}{pos pos' :Pos}{s:SP}{a:SE}{cs:List Nat}
theorem zYp(ok:qZe X.K c cs f)(ho:OD X c E o (.p s))(hv:ED X c E e a)(hs:swapsWith e (some (.Attribute o f pos')) pos.line X.env=pure false:=by rfl):SD X c E (.Assign [.Attribute o f pos'] e pos) (vWa cs f s a):=by
 refine⟨PS.imp (jZg ho.h hv.h hs) fun D σ H=>?_⟩;rintro⟨env,B,W,cf,w⟩;refine⟨env,B,W,cf,wp_mono (fun r w1 u H1 W1 Z g=>?_) (fun _ _ he=>he) (qK.mp w)⟩;obtain⟨h,e1,w2⟩:=qG w1;refine⟨r.2,_,W1,h,g.cf,e1,fun x hx=>?_⟩;cases h with
 |d x=>exact w2.elim
 | p i π=>
   obtain⟨q,e5,w6⟩:=qG w2;obtain⟨hc,w7⟩:=vM w6;obtain⟨o',e6,w8⟩:=qG w7;rw[aE]at hc;have hx' :vO H1 σ i π=some x:=hx;obtain⟨p,_,_,k1,_⟩:=g.cf.mut (qYb e5);rw[hx']at k1;cases k1;obtain⟨dx,fs,W',m1,m2,m3,m4⟩:=g.cf.fld e5 hx' g.at_ e6 (of_decide_eq_true hc.2);obtain⟨c1,c2⟩:=ok q.1 (qKe hc.1);exact⟨p,_,dx,fs,rfl,m1,c1,c2,m2,w8 σ _ W' (g.st.trans m4) m3⟩
theorem zYq{rd:V->V->Hp->VK->Prop}{g:D->D->Option D}{t:SV}(ok:qZe X.K c cs f)(ho:OD X c E o (.p s))(hv:EV X c E e t)(hop:InOp X op rd)(hp:PrS2 X.K c rd g):SD X c E (.AugAssign (.Attribute o f pos') op e pos) (vKt cs f g s t):=by
 refine⟨PS.imp (zVq ho.h hv.h hop) fun D σ H=>?_⟩;rintro⟨env,B,W,cf,w⟩;obtain⟨h,e1,w2⟩:=qG w;refine⟨env,B,W,h,cf,e1,fun x hx=>?_⟩;cases h with
 |d x=>exact w2.elim
 | p i π=>
   obtain⟨q,e2,w3⟩:=qG w2;obtain⟨j,e3,w4⟩:=qG w3;obtain⟨o0,e4,w5⟩:=qG w4;cases o0 with
   |ow _ _=>exact w5.elim
   | fz y=>
     have hx' :vO H σ i π=some x:=hx;have cf0:Cf X.K c env σ H (hd2 B fun _=>0) W:=cf.cast (fun _=>rfl) fun _=>rfl
     obtain⟨p,vs,Zk,k1,⟨k2,dx,k4⟩,k5,k6⟩:=cf0.mut (qYb e2);rw[hx']at k1;cases k1;obtain⟨v,Z1,R,g1,g2,g3,_⟩:=k5.focus e4;have hd:DAt X.K c (hide (hd2 B W) H) v y:=g2.1;obtain⟨hcs,w5⟩:=vM w5;obtain⟨c1,c2⟩:=ok q.1 (qKe hcs);refine⟨p,_,dx,_,v,rfl,k4,c1,c2,qVo e3 g1,env,B,W,cf,wp_mono (fun r w6 u H1 W1 gd=>?_) (fun _ _ he=>he) (qK.mp w5)⟩;obtain⟨hc,w7⟩:=vM w6;obtain⟨z,e5,w8⟩:=qG w7;obtain⟨q',e6,w9⟩:=qG w8;obtain⟨hc',w10⟩:=vM w9;obtain⟨o',e7,w11⟩:=qG w10;rw[aE]at hc';have hw:=vV0 cf gd.st gd.cf (fun a z=>z) hc hx';refine hp v u H1 y r.1 z _ ((hd.same gd.st.same).same hide_sub) (gd.at_.same hide_sub) e5 fun v3 hv3=>?_
     have cf1:Cf X.K c r.2 σ H1 (hd2 B fun _=>0) W1:=gd.cf.cast (fun _=>rfl) fun _=>rfl
     obtain⟨dx',fs',W',m1,m2,m3,m4⟩:=cf1.fld e6 hw (Z:=fun _=>0) (u:=v3) (by rw[OAt.fz];exact⟨hv3 _,fun _=>rfl⟩) e7 (of_decide_eq_true hc'.2);have hq:q'.1=q.1:=of_decide_eq_true hc'.1;rw[hq]at m1 m3 m4;exact⟨dx',fs',m1,m2,w11 σ _ W' (gd.st.trans (m4.cast (fun _=>rfl) (fun _=>rfl) fun _=>rfl)) m3⟩
end
noncomputable def sAug(i:Nat)(f:D->D->Option D)(s:SV):SS:=fun env=>match env[i]? with
 |some (.s _ (.fz x))=>(s env).bind fun r=>(opt (f x r.1)).bind fun z=>.ok (.nx (r.2.set i (.s false (.fz z))))
 |_=>.no
theorem vX9{pos':Pos}{x:Str}{ti:TIp}{f:D->D->Option D}{s:SV}(hN:X.N.Nodup)(hi:X.N[i]?=some x)(hx:Loc X.env.scope x)(he:EV X c E e s)(ho:PIp X op ti)(hp:PrS2 X.K c ti f)(hf:X.fn x=true\/X.env.scope.names.lookup x=some .local :=by first|exact .inl rfl|exact .inr rfl|assumption):SD X c E (.AugAssign (.Name x pos') op e pos) (sAug i f s):=by
 refine⟨PS.len (PS.imp (jZh hN hi hx he.h ho hf) fun D σ H=>?_)⟩;rintro⟨hl,env,B,W,cf,w⟩;unfold sAug at w;split at w
 ·rename_i io d e0;obtain⟨x,Z1,R,h1,h2,h3,h4⟩:=cf.focus e0;cases x with
  |none=>exact h2.elim
  | some v=>
    have h2' :OAt X.K c (hide (hd2 B W) H) H (.fz d) v Z1:=h2;refine⟨v,h1,env,B,W,cf,wp_mono (fun r1 w1 u H1 W1 g=>?_) (fun _ _ he=>he) (qK.mp w)⟩;obtain⟨z,e1,w2⟩:=qG w1;refine hp v u H1 d r1.1 z _ ((h2'.1.same g.st.same).same hide_sub) (g.at_.same hide_sub) e1 fun v3 hv3=>?_
    have g3:GotD X.K c env σ H B W r1.2 H1 W1 z v3:=⟨g.st,g.cf,hv3 _⟩
    obtain⟨W2,s2,c2⟩:=g3.own.r.put (qY8 g.cf hl hi);exact w2 _ H1 W2 s2 c2
 ·exact w.elim
instance decMul(i j:Int):Decidable (IntMulOk i j):=by unfold IntMulOk;infer_instance
instance decDivP(i j:Int):Decidable (vK4 i j):=by unfold vK4;infer_instance
instance decPow(i j:Int):Decidable (CPow i j):=by unfold CPow;infer_instance
noncomputable def i2(g:Int->Int->Int)(x y:D):Option D:=(qZd x).bind fun i=>(qZd y).bind fun j=>some (.int (g i j))
noncomputable def i2g(C:Int->Int->Prop)[∀i j,Decidable (C i j)](g:Int->Int->Int)(x y:D):Option D:=(qZd x).bind fun i=>(qZd y).bind fun j=>if C i j then some (.int (g i j)) else none
noncomputable def c2(g:Int->Int->Bool)(x y:D):Option D:=(qZd x).bind fun i=>(qZd y).bind fun j=>some (.bl (g i j))
theorem zQr{P:Prop}[Decidable P]{x y:α}(h:(if P then some x else none)=some y):P/\x=y:=by
 grind
section
variable{K:aQ}{c:Nat->aV}
theorem zZu(g:Int->Int->Int):PrS2 K c (rI0 fun i j=>.int (g i j)) (i2 g):=fun u w H x y z Q hx hy e q=>by
 obtain⟨i,e1,e2⟩:=bnd e;obtain⟨j,e3,e4⟩:=bnd e2;cases e4;exact⟨i,j,jL hx e1,jL hy e3,q _ fun _=>.int _⟩
theorem vZq(C:Int->Int->Prop)[∀i j,Decidable (C i j)](g:Int->Int->Int):PrS2 K c (rI C fun i j=>.int (g i j)) (i2g C g):=fun u w H x y z Q hx hy e q=>by
 obtain⟨i,e1,e2⟩:=bnd e;obtain⟨j,e3,e4⟩:=bnd e2;obtain⟨p,rfl⟩:=zQr e4;exact⟨i,j,jL hx e1,jL hy e3,p,q _ fun _=>.int _⟩
theorem qKj(g:Int->Int->Bool):PrS2 K c (rI0 fun i j=>.bl (g i j)) (c2 g):=fun u w H x y z Q hx hy e q=>by
 obtain⟨i,e1,e2⟩:=bnd e;obtain⟨j,e3,e4⟩:=bnd e2;cases e4;exact⟨i,j,jL hx e1,jL hy e3,q _ fun _=>.bl _⟩
theorem qKu(g:Int->Int->Int):PrS2 K c (ipI g) (i2 g):=fun u w H x y z Q hx hy e q=>by
 obtain⟨i,j,e1,e2,r⟩:=zZu g u w H x y z Q hx hy e q;exact⟨i,j,e1,e2,r⟩
noncomputable def addS(x y:D):Option D:=(vVj x).bind fun i=>(vVj y).bind fun j=>if i.length+j.length<=aD then some (.str (i ++ j)) else none
theorem zY8:PrS2 K c (fun x y H Q=>∃i j,x=.str i/\y=.str j/\i.length+j.length<=aD/\Q (.str (i ++ j)) H) addS:=fun u w H x y z Q hx hy e q=>by
 obtain⟨i,e1,e2⟩:=bnd e;obtain⟨j,e3,e4⟩:=bnd e2;obtain⟨p,rfl⟩:=zQr e4;exact⟨i,j,qVb hx e1,qVb hy e3,p,q _ fun _=>.str _⟩
noncomputable def leS(x y:D):Option D:=(vVj x).bind fun i=>(vVj y).bind fun j=>some (.bl (!decide (j.cps.toList<i.cps.toList)))
theorem qQw:PrS2 K c rLeS leS:=fun u w H x y z Q hx hy e q=>by
 obtain⟨i,e1,e2⟩:=bnd e;obtain⟨j,e3,e4⟩:=bnd e2;cases e4;exact⟨i,j,qVb hx e1,qVb hy e3,q _ fun _=>.bl _⟩
end
section
variable{K:aQ}{c:Nat->aV}
noncomputable def toV:D->Option V
 |.non =>some .non
 |.int i=>some (.int i)
 |.str x=>some (.str x)
 |.bl b=>some (.bl b)
 |_=>none
noncomputable def allV:List D->Option (List V)
 |[]=>some []
 |d::r=>(toV d).bind fun v=>(allV r).bind fun vs=>some (v::vs)
theorem vX5{F:Hp}{u:V}{d:D}(h:DAt K c F u d)(e:toV d=some v):u=v/\qJ3 v=true:=by
 cases h <;> cases e <;> exact⟨rfl,rfl⟩
theorem vJo{F:Hp}:∀{us:List V} {ds:List D} {vs:List V},DsAt K c F us ds->allV ds=some vs->us=vs/\vs.all qJ3=true
 |us,[],vs,h,e=>by cases e;exact⟨h.un0,rfl⟩
 | us,d::ds,vs,h,e=>by
   obtain⟨u,r,rfl,a,b⟩:=h.un;obtain⟨v,e1,e2⟩:=bnd e;obtain⟨ws,e3,e4⟩:=bnd e2;cases e4;obtain⟨h1,h2⟩:=vX5 a e1;obtain⟨h3,h4⟩:=vJo b e3;grind
noncomputable def inB(x y:D):Option Bool:=match y with
 |.nd (.dct ks) _=>(vKx x).bind fun k=>some (kidx k ks).isSome
 |.nd .lst ds=>(toV x).bind fun v=>(allV ds).bind fun vs=>some (inV v vs)
 |.nd .tup ds=>(toV x).bind fun v=>(allV ds).bind fun vs=>some (inV v vs)
 |_=>none
noncomputable def inD(x y:D):Option D:=(inB x y).map .bl
noncomputable def niD(x y:D):Option D:=(inB x y).map fun b=>.bl (!b)
noncomputable def rInA(K:aQ)(neg:Bool):R2:=fun x y H Q=>rIn K neg x y H Q\/∃a o,y=.ref a/\DGet H a x o/\Q (.bl (if neg then !o.isSome else o.isSome)) H
theorem jZz(hu:X.A.units+1<cLine):OpR X (bI .In) (rInA X.K false):=zVw.or (jZy hu)
theorem vV7(hu:X.A.units+1<cLine):OpR X (bI .NotIn) (rInA X.K true):=vJv.or (zVv hu)
theorem zJ3{neg:Bool}{u w:V}{x y:D}{b:Bool}(hx:DAt K c H u x)(hy:DAt K c H w y)(e:inB x y=some b)(q:Q (.bl (if neg then !b else b)) H):rInA K neg u w H Q:=by
 unfold inB at e;split at e
 ·obtain⟨k,e1,e2⟩:=bnd e;cases e2;obtain⟨p,vs,rfl,⟨h1,h2,h3⟩,h4⟩:=hy.un;rw[vQk hx e1];refine .inr ⟨p,_,rfl,zJ7 h3,?_⟩;rw[qK5 h1];rename_i ks ds;have:((kidx k ks).bind fun j=>vs[j]?).isSome =(kidx k ks).isSome :=by
   cases e5:kidx k ks with
   |none=>rfl
   | some j=>
     have:=(zQl e5).1;grind
  grind
 ·obtain⟨v,e1,e2⟩:=bnd e;obtain⟨vs',e3,e4⟩:=bnd e2;cases e4;obtain⟨p,vs,rfl,h1,h2⟩:=hy.un;obtain⟨g1,g2⟩:=vX5 hx e1;obtain⟨g3,g4⟩:=vJo h2 e3;subst g1 g3;exact .inl ⟨p,vs,rfl,.inl h1,g2,g4,q⟩
 ·obtain⟨v,e1,e2⟩:=bnd e;obtain⟨vs',e3,e4⟩:=bnd e2;cases e4;obtain⟨p,vs,rfl,h1,h2⟩:=hy.un;obtain⟨g1,g2⟩:=vX5 hx e1;obtain⟨g3,g4⟩:=vJo h2 e3;subst g1 g3;exact .inl ⟨p,vs,rfl,.inr h1,g2,g4,q⟩
 ·cases e
theorem jWf:PrS2 K c (rInA K false) inD:=fun u w H x y z Q hx hy e q=>by
 obtain⟨b,e1,rfl⟩:=bY.mp e;exact zJ3 (neg:=false) hx hy e1 (q _ fun _=>.bl _)
theorem vW4:PrS2 K c (rInA K true) niD:=fun u w H x y z Q hx hy e q=>by
 obtain⟨b,e1,rfl⟩:=bY.mp e;exact zJ3 (neg:=true) hx hy e1 (q _ fun _=>.bl _)
noncomputable def negD(x:D):Option D:=(qZd x).bind fun i=>some (.int (-i))
end
noncomputable abbrev oAdd:=o2 (i2 fun i j=>i+j)
noncomputable abbrev oSub:=o2 (i2 fun i j=>i - j)
noncomputable abbrev oMul:=o2 (i2g IntMulOk fun i j=>i * j)
noncomputable abbrev oDiv:=o2 (i2g vK4 fun i j=>i / j)
noncomputable abbrev oMod:=o2 (i2g (fun _ j=>0<j) fun i j=>i % j)
noncomputable abbrev oPow:=o2 (i2g CPow fun i j=>i ^ j.toNat)
noncomputable abbrev oLt:=o2 (c2 fun i j=>decide (i<j))
noncomputable abbrev oLe:=o2 (c2 fun i j=>decide (i<=j))
noncomputable abbrev oGt:=o2 (c2 fun i j=>decide (j<i))
section
variable{X:Cx}{c:Nat->aV}{E:XK}{a b d e:Expr}{oa ob oc:Oe}{pos:Pos}{k:Nat}
theorem qZj(ha:OD X c E a oa)(hb:OD X c E b ob):OD X c E (.BinOp a .Add b pos) (oAdd oa ob):=qKk jZ0 (zZu _) ha hb
theorem zZw(ha:OD X c E a oa)(hb:OD X c E b ob):OD X c E (.BinOp a .Sub b pos) (oSub oa ob):=qKk jZv (zZu _) ha hb
theorem vWd(ha:OD X c E a oa)(hb:OD X c E b ob):OD X c E (.BinOp a .Mult b pos) (oMul oa ob):=qKk zKk (vZq _ _) ha hb
theorem qW2(ha:OD X c E a oa)(hb:OD X c E b ob):OD X c E (.BinOp a .FloorDiv b pos) (oDiv oa ob):=qKk zXa (vZq _ _) ha hb
theorem qZc(ha:OD X c E a oa)(hb:OD X c E b ob):OD X c E (.BinOp a .Mod b pos) (oMod oa ob):=qKk jZx (vZq _ _) ha hb
theorem jQ7(ha:OD X c E a oa)(hb:OD X c E b ob):OD X c E (.BinOp a .Pow b pos) (oPow oa ob):=qKk jZw (vZq _ _) ha hb
theorem qZp(ha:OD X c E a oa)(hb:OD X c E b ob):OD X c E (.BinOp a .Add b pos) (o2 addS oa ob):=qKk vY8 zY8 ha hb
theorem o_le(ha:OD X c E a oa)(hb:OD X c E b ob):OD X c E (.Compare a [.LtE] [b] pos) (oLe oa ob):=qKw vWc (qKj _) ha hb (qVj _)
theorem zKn(hr:Room k X.A)(ha:OD X c E a oa)(hb:OD X c E b ob)(hm:behindInMarks .NotIn b=false:=by rfl):OD X c E (.Compare a [.NotIn] [b] pos) (o2 niD oa ob):=qKw (vV7 (vKz hr)) vW4 ha hb hm
theorem t_lt(ha:OD X c E a oa)(hb:OD X c E b ob):TD X c E (.Compare a [.Lt] [b] pos) (asB (oLt oa ob)):=qWa jWo (qKj _) ha hb (qVj _)
theorem t_gt(ha:OD X c E a oa)(hb:OD X c E b ob):TD X c E (.Compare a [.Gt] [b] pos) (asB (oGt oa ob)):=qWa jWp (qKj _) ha hb (qVj _)
theorem t_in(hr:Room k X.A)(ha:OD X c E a oa)(hb:OD X c E b ob)(hm:behindInMarks .In b=false:=by rfl):TD X c E (.Compare a [.In] [b] pos) (asB (o2 inD oa ob)):=qWa (jZz (vKz hr)) jWf ha hb hm
theorem zYf(hr:Room k X.A)(ha:OD X c E a oa)(hb:OD X c E b ob)(hm:behindInMarks .NotIn b=false:=by rfl):TD X c E (.Compare a [.NotIn] [b] pos) (asB (o2 niD oa ob)):=qWa (vV7 (vKz hr)) vW4 ha hb hm
theorem jQ8(ha:OD X c E a oa):OD X c E (.UnaryOp .USub a pos) (o1 negD oa):=jWq jVt (fun u H x z Q hx e q=>by
 obtain⟨i,e1,e2⟩:=bnd e;cases e2;exact⟨i,jL hx e1,q _ fun _=>.int _⟩) ha
theorem o_ix(hr:Room k X.A)(ha:OD X c E a oa)(hb:OD X c E b ob)(hs:qXd b:=by exact fun _ _=>rfl):OD X c E (.Subscript a b pos) (oIx oa ob):=jWs (vKz hr) ha hb hs
end
noncomputable def iSeq(K:aQ)(tl:TE):TI:=fun σ H R=>tl σ H fun x H1=>∃a,x=.ref a/\(((∃xs,SqL K H1 a xs)/\R (Itl K a) H1)\/((∃xs,SqT K H1 a xs)/\R (Itt K a) H1))
theorem jZl{tg l:Expr}{tl:TE}(hl:PE X l tl):PI X tg l (iSeq X.K tl):=by
 intro pins s σ H R I h;refine thn (hl pins s σ H _ I h) fun v s1 ⟨x,H1,I1,r1,q1⟩=>?_
 obtain⟨a,e,q1⟩:=q1;subst e;cases r1;rcases q1 with⟨⟨xs,hq⟩,q⟩|⟨⟨xs,hq⟩,q⟩
 ·obtain⟨its,rv,p,hz⟩:=I1.list hq;refine wpAny_pyIter_list p.isList ?_
  refine⟨s1.heap.objs.size,[s1.heap.objs.size],_,_,H1,rfl,I1.kept (t' :=s1.toks) fun b o e=>aK _ e,zVh a _,⟨_,bW _ rfl,rfl,rfl⟩,fun b hb=>?_,q⟩;have e:b=s1.heap.objs.size:=by simpa using hb
  subst e;exact I1.fpOk (aP _) (I1.hok.fresh (aP _))
 ·obtain⟨its,rv,p,hz⟩:=I1.tuple hq;refine wpAny_pyIter_tuple (show s1.heap.IsTuple a its.toArray from p) ?_
  refine⟨s1.heap.objs.size,[s1.heap.objs.size],_,_,H1,rfl,I1.kept (t' :=s1.toks) fun b o e=>aK _ e,vYs a _,⟨_,bW _ rfl,rfl,rfl⟩,fun b hb=>?_,q⟩;have e:b=s1.heap.objs.size:=by simpa using hb
  subst e;exact I1.fpOk (aP _) (I1.hok.fresh (aP _))
section
variable{K:aQ}{c:Nat->aV}{F:Hp}{a b:aV}{xs ys:List V}{ds es:List D}
theorem zXr(h:SqL K F a xs)(k:DsAt K c F xs ds):ItD K c F (Itl K a) ds:=by
 intro i H T sm hb;have h' :SqL K H a xs:=yS hide_sub (yS sm h);refine⟨fun d hd=>?_,fun hi=>⟨xs,h',by rw[k.len];omega⟩⟩;obtain⟨v,h1,h2⟩:=k.get hd;refine⟨⟨xs,v,h',h1⟩,fun x H' y=>?_⟩;obtain⟨rfl,y2⟩:=y;have:=y2 xs h';rw[h1]at this;cases this;exact⟨Same.refl _,h2.same sm⟩
theorem zKz(h:SqT K F a xs)(k:DsAt K c F xs ds):ItD K c F (Itt K a) ds:=by
 intro i H T sm hb;have h' :SqT K H a xs:=hide_sub.tup (sm.tup h);refine⟨fun d hd=>?_,fun hi=>⟨xs,h',by rw[k.len];omega⟩⟩;obtain⟨v,h1,h2⟩:=k.get hd;refine⟨⟨xs,v,h',h1⟩,fun x H' y=>?_⟩;obtain⟨rfl,y2⟩:=y;have:=y2 xs h';rw[h1]at this;cases this;exact⟨Same.refl _,h2.same sm⟩
noncomputable def rngD(lo:Int)(n:Nat):List D:=(List.range n).map fun(j:Nat)=>D.int (lo+(j:Int))
theorem zQq{lo:Int}:ItD K c F (Itr lo n) (rngD lo n):=by
 intro i H T sm hb;unfold rngD;refine⟨fun d hd=>?_,fun hi=>by rw[aB,List.length_range]at hi;exact Nat.le_of_eq hi.symm⟩;rw[cT]at hd;cases q:(List.range n)[i]? with
 |none=>rw[q]at hd;cases hd
 | some j=>
   rw[q]at hd;cases hd;obtain⟨hl,e⟩:=aW.mp q;rw[List.getElem_range]at e;subst e;rw[List.length_range]at hl;refine⟨hl,fun x H' y=>?_⟩;obtain⟨rfl,rfl⟩:=y;exact⟨Same.refl _,.int _⟩
theorem zW6{T:Fp}{x y:V}{d e:D}{p:aV}(hn:H p=none)(hb:∀a,T a≠0->∃o,H a=some o/\Hb o)(hx:DAt K c (hide T H) x d)(hy:DAt K c (hide T H) y e):Same H (upd H p (.tup [x,y]))/\DAt K c (hide T (upd H p (.tup [x,y]))) (.ref p) (D.tup [d,e]):=by
 have sm:Same H (upd H p (.tup [x,y])):=.upd hn;have hp:T p=0:=by
  grind
 have ss:Same (hide T H) (hide T (upd H p (.tup [x,y]))):=zY fun a o z q=>⟨z,sm a o q⟩
 exact⟨sm,.of (k:=.tup) (SqT.of (by rw[zG hp,upd_same])) (.cons (hx.same ss) (.cons (hy.same ss) .nil))⟩
noncomputable def yN:Nat->List D->List D
 |_,[]=> []
 |n,d::ds=>D.tup [.int (n:Int),d]::yN (n+1) ds
theorem qXr:∀(n:Nat) (ds:List D),(yN n ds).length =ds.length
 |_,[]=>rfl
 |n,d::ds=>by simp only[yN,aZ,qXr (n+1) ds]
theorem enumD_get:∀{n:Nat} {ds:List D} {i:Nat} {z:D},(yN n ds)[i]?=some z->∃d,ds[i]?=some d/\z=D.tup [.int ((n+i:Nat):Int),d]
 |n,[],i,z,h=>by simp[yN]at h
 |n,d::ds,0,z,h=>by simp only[yN,List.getElem?_cons_zero,Option.some.injEq]at h;exact⟨d,rfl,h.symm⟩
 | n,d::ds,i + 1,z,h=>by
   obtain⟨d',h1,h2⟩:=enumD_get (n:=n+1) (ds:=ds) (i:=i) (z:=z) (by simpa[yN] using h);grind
theorem zXs(h:SqL K F a xs)(k:DsAt K c F xs ds):ItD K c F (Ite K a) (yN 0 ds):=by
 intro i H T sm hb;have g1:SqL K H a xs:=yS hide_sub (yS sm h);refine⟨fun z hz=>?_,fun hi=>⟨xs,g1,by rw[qXr,←k.len]at hi;omega⟩⟩;obtain⟨d,e1,rfl⟩:=enumD_get hz;obtain⟨v,v1,v2⟩:=k.get e1;refine⟨⟨xs,v,g1,v1⟩,fun x H' y=>?_⟩;obtain⟨p,rfl,hn,y2⟩:=y;rw[y2 xs v g1 v1,Nat.zero_add];exact zW6 hn hb (.int _) (v2.same sm)
end
noncomputable def qYn:D->Option (List D)
 |.nd .lst ds=>some ds
 |.nd .tup ds=>some ds
 |_=>none
noncomputable def vVn:D->Option (List D)
 |.nd .lst ds=>some ds
 |_=>none
noncomputable def jQq:D->Option (List D)
 |.nd .tup ds=>some ds
 |_=>none
section
variable{K:aQ}{c:Nat->aV}{F:Hp}{u:V}{d:D}{ds:List D}
theorem zXl(h:DAt K c F u d)(e:vVn d=some ds):∃p vs,u=.ref p/\SqL K F p vs/\DsAt K c F vs ds:=by
 unfold vVn at e;split at e
 ·cases e;exact h.un
 ·cases e
theorem zWq(h:DAt K c F u d)(e:qYn d=some ds):∃p vs,u=.ref p/\(SqL K F p vs\/SqT K F p vs)/\DsAt K c F vs ds:=by
 unfold qYn at e;split at e
 ·cases e;obtain⟨p,vs,a,b,r⟩:=h.un;exact⟨p,vs,a,.inl b,r⟩
 ·cases e;obtain⟨p,vs,a,b,r⟩:=h.un;exact⟨p,vs,a,.inr b,r⟩
 ·cases e
end
noncomputable def iV(s:SV):SI:=fun env=>(s env).bind fun r=>(opt (qYn r.1)).bind fun ds=>.ok (ds,r.2)
noncomputable def iL(f:List D->Option (List D))(ss:List SV):SI:=fun env=>(evVs ss env).bind fun r=>(opt (f r.1)).bind fun ds=>.ok (ds,r.2)
noncomputable def in62(j:Int):Bool:=decide (-(2 ^ 62)<=j) && decide (j<2 ^ 62)
theorem qJn{j:Int}(h:in62 j=true): -(2 ^ 62)<=j/\j<2 ^ 62:=by
 unfold in62 at h;rw[aE]at h;exact⟨of_decide_eq_true h.1,of_decide_eq_true h.2⟩
noncomputable def rg1:List D->Option (List D)
 |[.int j]=>cond (in62 j) (some (rngD 0 j.toNat)) none
 |_=>none
noncomputable def rg2:List D->Option (List D)
 |[.int i,.int j]=>cond (in62 i && in62 j) (some (rngD i (j - i).toNat)) none
 |_=>none
noncomputable def enL:List D->Option (List D)
 |[x]=>(vVn x).bind fun ds=>some (yN 0 ds)
 |_=>none
section
variable{X:Cx}{c:Nat->aV}{E:XK}{tg e e1 e2:Expr}{s:SV}{ss:List SV}{p pos tpos:Pos}{elts:List Expr}{kk:Nat}
theorem qZq(h:EV X c E e s):ID' X c E tg e (iV s):=by
 refine⟨PI.imp (jZl h.h) fun σ H R=>?_⟩;rintro⟨env,B,W,cf,w⟩;refine⟨env,B,W,cf,wp_mono (fun r w1 u H1 W1 g=>?_) (fun _ _ he=>he) (qK.mp w)⟩;obtain⟨ds,e1,w2⟩:=qG w1;obtain⟨q,vs,rfl,b1,b2⟩:=zWq g.at_ e1;rcases b1 with b1|b1
 ·exact⟨q,rfl,.inl ⟨⟨vs,yS hide_sub b1⟩,w2 _ H1 W1 g.st g.cf (zXr b1 b2)⟩⟩
 ·exact⟨q,rfl,.inr ⟨⟨vs,hide_sub.tup b1⟩,w2 _ H1 W1 g.st g.cf (zKz b1 b2)⟩⟩
theorem ds1{K:aQ}{F:Hp}{x:D}(h:DsAt K c F us [x]):∃u,us=[u]/\DAt K c F u x:=by
 obtain⟨u,r,rfl,a,b⟩:=h.un;rw[b.un0];exact⟨u,rfl,a⟩
theorem ds2{K:aQ}{F:Hp}{x y:D}(h:DsAt K c F us [x,y]):∃u w,us=[u,w]/\DAt K c F u x/\DAt K c F w y:=by
 obtain⟨u,r,rfl,a,b⟩:=h.un;obtain⟨w,rfl,b2⟩:=ds1 b;exact⟨u,w,rfl,a,b2⟩
theorem zV6(hg:Gl X "range")(hm:X.mg "range"=none)(ha:VsD X c E [e] ss)(hs:aX [e] X.env=[(false,eval e X.env)]:=by rfl):ID' X c E tg (.Call (.Name "range" p) [e] [] pos) (iL rg1 ss):=by
 refine⟨PI.imp (zVu hg hm ha.h hs) fun σ H R=>?_⟩;rintro⟨env,B,W,cf,w⟩;refine qXx cf (qK.mp w) fun r w1 us H1 W1 g=>?_
 obtain⟨ds,e1,w2⟩:=qG w1;have ga:=g.at_;unfold rg1 at e1;split at e1
 ·rename_i j e2;rw[e2]at ga;obtain⟨u,rfl,a⟩:=ds1 ga;obtain⟨q1,q2⟩:=zM e1;cases q2;cases a;exact⟨j,rfl,(qJn q1).1,(qJn q1).2,w2 _ H1 W1 g.st g.cf zQq⟩
 ·cases e1
theorem vZd(hg:Gl X "range")(hm:X.mg "range"=none)(ha:VsD X c E [e1,e2] ss)(hs:aX [e1,e2] X.env=[(false,eval e1 X.env),(false,eval e2 X.env)]:=by rfl)(hs2:aX [e2] X.env=[(false,eval e2 X.env)]:=by rfl):
  ID' X c E tg (.Call (.Name "range" p) [e1,e2] [] pos) (iL rg2 ss):=by
 refine⟨PI.imp (zVt hg hm ha.h hs hs2) fun σ H R=>?_⟩;rintro⟨env,B,W,cf,w⟩;refine qXx cf (qK.mp w) fun r w1 us H1 W1 g=>?_
 obtain⟨ds,e1,w2⟩:=qG w1;have ga:=g.at_;unfold rg2 at e1;split at e1
 ·rename_i i j e2;rw[e2]at ga;obtain⟨u,v,rfl,a,b⟩:=ds2 ga;obtain⟨q1,q2⟩:=zM e1;cases q2;cases a;cases b;rw[aE]at q1;exact⟨i,j,rfl,⟨(qJn q1.1).1,(qJn q1.1).2,(qJn q1.2).1,(qJn q1.2).2⟩,w2 _ H1 W1 g.st g.cf zQq⟩
 ·cases e1
theorem zQs(hg:Gl X "enumerate")(hm:X.mg "enumerate"=none)(ha:VsD X c E [e] ss)(hs:aX [e] X.env=[(false,eval e X.env)]:=by rfl)(hs2:aX [] X.env=[]:=by rfl):ID' X c E (.Tuple elts kk tpos) (.Call (.Name "enumerate" p) [e] [] pos) (iL enL ss):=by
 refine⟨PI.imp (zKb hg hm ha.h hs hs2) fun σ H R=>?_⟩;rintro⟨env,B,W,cf,w⟩;refine qXx cf (qK.mp w) fun r w1 us H1 W1 g=>?_
 obtain⟨ds,e1,w2⟩:=qG w1;have ga:=g.at_;unfold enL at e1;split at e1
 ·rename_i x e2;rw[e2]at ga;obtain⟨u,rfl,a⟩:=ds1 ga;obtain⟨xs,q1,e3⟩:=bnd e1;cases e3;obtain⟨q,vs,rfl,c1,c2⟩:=zXl a q1;exact⟨q,rfl,⟨_,yS hide_sub c1⟩,w2 _ H1 W1 g.st g.cf (zXs c1 c2)⟩
 ·cases e1
end
noncomputable def Res.ne{α:Type}:Res α->Res α
 |.ok a=>.ok a
 |_=>.no
theorem jQn{Q:α->Prop}{E E' :Nat->List (Str×D)->Prop}:∀{x:Res α},x.ne.wp Q E->x.wp Q E'
 |.ok _,h=>h
 |.er _ _,h=>h.elim
 |.no,h=>h.elim
noncomputable def qQ9(g:SG)(t:ST)(el:SV):List D->Ev->Res (List D×Ev)
 |[],env=>.ok ([],env)
 |d::ds,env=>(opt (g d env)).bind fun e1=>(t e1).ne.bind fun r=>cond r.1 ((el r.2).ne.bind fun v=>(qQ9 g t el ds v.2).bind fun q=>.ok (v.1::q.1,q.2)) (qQ9 g t el ds r.2)
noncomputable def capO(cs:List (Nat×Nat))(i:Nat):Option Nat:=match cs with
 |[]=>none
 |c::r=>if c.1=i then some c.2 else capO r i
theorem qXk:∀{cs:List (Nat×Nat)} {i j:Nat},capO cs i=some j->(i,j)∈cs
 |[],i,j,h=>by cases h
 | c::r,i,j,h=>by
   simp only[capO]at h;split at h
   ·grind
   ·exact aI _ (qXk h)
theorem zQb:∀{cs:List (Nat×Nat)} {i i' j:Nat},(cs.map (·.2)).Nodup ->(i,j)∈cs->(i',j)∈cs->i=i'
 | c::r,i,i',j,hn,h1,h2=>by
   rw[bD,dB]at hn;rcases aC.mp h1 with a1|a1
   ·grind
   ·rcases aC.mp h2 with a2 | a2
    ·grind
    ·exact zQb hn.2 a1 a2
noncomputable def capS{α:Type}(cs:List (Nat×Nat))(u:α)(l:List α):Nat->Nat->List α
 |_,0=> []
 | i,n + 1=>(match capO cs i with
   |some j=>l.getD j u
   |none=>u)::capS cs u l (i+1) n
theorem vXm{cs:List (Nat×Nat)}{u:α}{l:List α}:∀(n i:Nat),(capS cs u l i n).length =n
 | 0,i=>rfl
 |n+1,i=>by rw[capS,aZ,vXm n]
theorem vQp{cs:List (Nat×Nat)}{u:α}{l:List α}:∀(n i k:Nat),k<n->(capS cs u l i n)[k]?=some (match capO cs (i+k) with
  |some j=>l.getD j u
  |none=>u)
 | 0,i,k,h=>by omega
 |n+1,i,0,h=>by rw[capS];rfl
 | n + 1,i,k + 1,h=>by
   rw[capS,List.getElem?_cons_succ,vQp n (i+1) k (by omega),show i+1+k=i+(k+1) by omega]
noncomputable def qV9(cs:List (Nat×Nat)):Nat->Nat->Ev->Ev
 |_,0,env=>env
 | i,n + 1,env=>qV9 cs (i + 1) n (match capO cs i with
   |some j=>env.set j .un
   |none=>env)
noncomputable def putI(cs:List (Nat×Nat)):Nat->Ev->Ev->Ev
 |_,[],env=>env
 | i,s::inn,env=>putI cs (i + 1) inn (match capO cs i with
   |some j=>env.set j s
   |none=>env)
noncomputable def vK2(cs:List (Nat×Nat))(T:List Nat)(n m:Nat):Bool:=decide ((cs.map (·.1)).Nodup /\(cs.map (·.2)).Nodup /\∀c∈cs,c.1<n/\c.2<m/\c.1∉T)
theorem qX5{cs:List (Nat×Nat)}:∀{n i:Nat} {env:Ev},(qV9 cs i n env).length =env.length
 | 0,i,env=>rfl
 | n + 1,i,env=>by
   rw[qV9,qX5];grind
theorem vW1{cs:List (Nat×Nat)}:∀{inn:Ev} {i:Nat} {env:Ev},(putI cs i inn env).length =env.length
 |[],i,env=>rfl
 | s::inn,i,env=>by
   rw[putI,vW1];grind
theorem vWs{cs:List (Nat×Nat)}{k:Nat}{o:O}:∀{n i:Nat} {env:Ev},(qV9 cs i n env)[k]?=some (.s true o)->env[k]?=some (.s true o)
 | 0,i,env,h=>h
 | n + 1,i,env,h=>by
   rw[qV9]at h;have:=vWs h;grind
theorem zQg{cs:List (Nat×Nat)}{k:Nat}{o:O}:∀{inn:Ev} {i:Nat} {env:Ev},(putI cs i inn env)[k]?=some (.s true o)->env[k]?=some (.s true o)\/∃i',capO cs i' =some k/\i<=i' /\inn[i' - i]?=some (.s true o)
 |[],i,env,h=>.inl h
 | s::inn,i,env,h=>by
   rw[putI]at h;rcases zQg h with h|⟨i',h1,h2,h3⟩
   ·grind
   ·grind
section
variable{K:aQ}{c:Nat->aV}{F H:Hp}{cs:List (Nat×Nat)}
theorem cap_in{env0:Ev}(h2:(cs.map (·.2)).Nodup)(h3:∀e∈cs,e.2<env0.length):∀{n i:Nat} {env:Ev} {W:Fp},SlAt K c F H env σ W->(∀i' j,i<=i' ->capO cs i' =some j->env[j]?=env0[j]?)->
  ∃Wi R,SlAt K c F H (capS cs .un env0 i n) (capS cs none σ i n) Wi/\SlAt K c F H (qV9 cs i n env) σ R/\∀a,W a=Wi a+R a
 | 0,i,env,W,h,q=>⟨fun _=>0,W,⟨⟨rfl,h.tab⟩,fun _=>rfl⟩,h,fun a=>by(try dsimp only);omega⟩
 | n + 1,i,env,W,h,q=>by
   cases e:capO cs i with
   | none=>
     obtain⟨Wi,R,a1,a2,a3⟩:=cap_in h2 h3 (n:=n) (i:=i+1) h fun i' j hi he=>q i' j (by omega) he
     refine⟨Wi,R,?_,?_,a3⟩
     ·rw [capS,capS,e];exact⟨none,_,fun _=>0,Wi,rfl,fun _=>rfl,a1,fun a=>by(try dsimp only);omega⟩
     ·rw[qV9,e];exact a2
   | some j=>
     have hm:=qXk e;have hj:j<env0.length:=h3 _ hm;have e1:env[j]?=some env0[j]:=by rw[q i j (aP _) e];exact aF hj
     obtain⟨x,Z1,R1,k1,k2,k3,k4⟩:=h.focus e1;have k5:=k4 F H .un x (fun _=>0) R1 (Same.refl _) (fun _ _=>rfl) (fun _=>rfl) fun a=>by(try dsimp only);omega
     rw[yT k1]at k5;obtain⟨Wi,R,a1,a2,a3⟩:=cap_in h2 h3 (n:=n) (i:=i+1) k5 fun i' j' hi he=>by
      have nj:j≠j' :=fun z=>by
       subst z;have:=zQb h2 hm (qXk he);omega
      rw[bT nj];exact q i' j' (by omega) he
     refine⟨fun a=>Z1 a+Wi a,R,?_,?_,fun a=>by rw[k3,a3];(try dsimp only);omega⟩
     ·rw [capS,capS,e];refine⟨x,_,Z1,Wi,?_,?_,a1,fun _=>rfl⟩
      ·dsimp only;rw[bM,k1];rfl
      ·dsimp only;rw[bM,aF hj];exact k2
     ·rw[qV9,e];exact a2
theorem cap_out:∀{inn:Ev} {σ2:L2.St} {i:Nat} {env:Ev} {R Wi:Fp},SlAt K c F H inn σ2 Wi->SlAt K c F H env σ R->(∀(k j:Nat),capO cs (i+k)=some j->k<inn.length->j<env.length/\σ2[k]?=σ[j]?)->(∀a,Wi a+R a<=1)->∃W,SlAt K c F H (putI cs i inn env) σ W/\∀a,W a<=Wi a+R a
 |[],σ2,i,env,R,Wi,h,k,q,_=>⟨R,k,fun a=>by omega⟩
 | s::inn,σ2,i,env,R,Wi,h,k,q,nd=>by
   obtain⟨x,r,Z1,Z2,rfl,b,cc,d⟩:=h;cases e:capO cs i with
   | none=>
     obtain⟨W,h1,h2⟩:=cap_out (i:=i+1) cc k (fun m j he hm=>by
      obtain⟨q1,q2⟩:=q (m+1) j (by rw[show i+(m+1)=i+1+m by omega];exact he) (by rw[aZ];omega);exact⟨q1,by simpa using q2⟩) (fun a=>by have:=nd a;rw[d]at this;omega)
     refine⟨W,?_,fun a=>by have:=h2 a;rw[d];omega⟩;rw[putI,e];exact h1
   | some j=>
     obtain⟨q1,q2⟩:=q 0 j (by rw[Nat.add_zero];exact e) (by rw[aZ];omega);rw[List.getElem?_cons_zero]at q2;obtain⟨y,Y1,R1,k1,k2,k3,k4⟩:=k.focus (aF q1);rw[←q2]at k1;cases k1;have k5:=k4 F H s x Z1 (fun a=>Z1 a+R1 a) (Same.refl _) (fun _ _=>rfl) b fun _=>rfl
     rw[yT q2.symm]at k5;obtain⟨W,h1,h2⟩:=cap_out (i:=i+1) cc k5 (fun m j' he hm=>by
      obtain⟨g1,g2⟩:=q (m+1) j' (by rw[show i+(m+1)=i+1+m by omega];exact he) (by rw[aZ];omega);exact⟨by rw[cR];exact g1,by simpa using g2⟩) (fun a=>by have:=nd a;rw[d,k3]at this;(try dsimp only);omega)
     refine⟨W,?_,fun a=>by have:=h2 a;(try dsimp only at this);rw[d,k3];omega⟩;rw[putI,e];exact h1
theorem Cf.write{p:aV}{ho:HO}(cf:Cf K c env σ H B W)(hp:B p≠0)(hb:Hb ho):Cf K c env σ (upd H p ho) B W:=by
 have hh:(hd2 B W) p≠0:=by dsimp only[hd2];omega
 have np:∀a,W a≠0->a≠p:=fun a z y=>by have:=cf.nd a;rw[y]at z this;omega
 refine⟨by rw[vQl hh];exact cf.at_.keep (Same.refl _) fun a z=>qH (np a z),cf.nd,fun a z=>?_⟩;by_cases y:a=p
 ·subst y;exact⟨ho,upd_same,hb⟩
 ·rw[qH y];exact cf.hb a z
end
noncomputable def compS(n:Nat)(cs:List (Nat×Nat))(T:List Nat)(it:SI)(g:SG)(t:ST)(el:SV):SE:=fun env=>(it env).bind fun r=>cond (vK2 cs T n r.2.length && decide (r.1.length<=lim))
 ((qQ9 g t el r.1 (capS cs .un r.2 0 n)).bind fun q=>.ok (.ow .lst (q.1.map .fz),putI cs 0 q.2 (qV9 cs 0 n r.2))) .no
structure TDs(X:Cx)(c:Nat->aV)(E:XK)(ifs:List Expr)(t:ST):Prop where
 h:PTs X ifs (tT X.K c E t)
noncomputable def bTrue:ST:=fun env=>.ok (true,env)
theorem PTs.imp{e:List Expr}{t:TT}(h:PTs X e t)(k:∀σ H Q,t' σ H Q->t σ H Q):PTs X e t' :=fun pins s σ H Q I q=>h pins s σ H Q I (k σ H Q q)
theorem qJh:TDs X c E [] bTrue:=by
 refine⟨PTs.imp zYy fun σ H Q=>?_⟩;rintro⟨env,B,W,cf,w⟩;exact w H W .refl cf
noncomputable abbrev EN' :XK:=fun _ _ _=>False
set_option maxHeartbeats 1000000 in
theorem zWj{K:aQ}{cs:List (Nat×Nat)}{T:List Nat}{t:ST}{el:SV}(h:tE K c E (compS n cs T it g t el) σ H Q):
  tComp (tIt K c E it) (tG K c T g) (tT K c EN' t) (tV K c EN' el) (fun σ=>capS cs none σ 0 n) σ H Q:=by
 obtain⟨env,B,W,cf,w⟩:=h;refine⟨env,B,W,cf,wp_mono (fun r1 h1 J H1 W1 st1 cf1 iter p hp=>?_) (fun _ _ he=>he) (qK.mp w)⟩;obtain⟨ds,e1⟩:=r1;obtain⟨hck,h1⟩:=vM h1;rw[aE]at hck;obtain⟨n1,n2,n3⟩:=(of_decide_eq_true hck.1:(cs.map (·.1)).Nodup /\(cs.map (·.2)).Nodup /\∀c∈cs,c.1<n/\c.2<e1.length/\c.1∉T)
 have hlim:ds.length<=lim:=of_decide_eq_true hck.2;obtain⟨Wi,R,i1,i2,i3⟩:=cap_in n2 (fun e he=>(n3 e he).2.1) (n:=n) (i:=0) cf1.at_ (fun _ _ _ _=>rfl);have nd1:∀a,B a+(Wi a+R a)<=1:=fun a=>by have:=cf1.nd a;rw[i3]at this;exact this
 obtain⟨pB,pW⟩:=cf1.fresh hp;have pWi:Wi p=0/\R p=0:=by have:=i3 p;omega
 have smp:Same H1 (upd H1 p (.lst [])):=.upd hp;have cellp:∀a,a≠p->upd H1 p (.lst []) a=H1 a:=fun a z=>qH z
 let B0:Fp:=fun a=>B a+R a
 have hB0:∀a,B0 a=B a+R a:=fun _=>rfl
 have sm0:Same (hide (hd2 B W1) H1) (hide (hd2 (hd2 B0 (one p)) Wi) (upd H1 p (.lst []))):=zY fun a o z q=>by
  have ne:a≠p:=fun y=>by rw[y,hp]at q;cases q
  have:=xW ne;have:=i3 a;have:=hB0 a;dsimp only[hd2]at *;exact⟨by omega,by rw[cellp a ne];exact q⟩
 have cfI:Cf K c (capS cs .un e1 0 n) (capS cs none σ 0 n) (upd H1 p (.lst [])) (hd2 B0 (one p)) Wi:=by
  refine⟨i1.keep sm0 fun a z=>cellp a fun y=>by rw[y]at z;omega,fun a=>?_,fun a z=>?_⟩
  ·have:=nd1 a;have:=hB0 a;by_cases y:a=p
   ·subst y;dsimp only[hd2];rw[wV];omega
   ·dsimp only[hd2];rw[xW y];omega
  ·by_cases y:a=p
   ·subst y;exact⟨_,upd_same,trivial⟩
   ·rw [cellp a y];exact cf1.hbs (by have:=i3 a;have:=hB0 a;dsimp only[hd2]at z;rw[xW y]at z;omega)
 generalize hPost:(fun r:List D×Ev=>∀u H' W' Z,Got K c env σ H B W (putI cs 0 r.2 (qV9 cs 0 n e1)) H' W' Z (.ow .lst (r.1.map .fz)) u->Q u H')=Post
 let Inv:Nat->Nat->L2.St->List V->Hp->Prop:=fun i m σ2 ys H2=>m=ds.length - i/\i<=ds.length/\∃inn W2 out,Step (capS cs .un e1 0 n) (capS cs none σ 0 n) (upd H1 p (.lst [])) B0 (hd2 Wi (one p)) inn σ2 H2 (hd2 W2 (one p))/\Cf K c inn σ2 H2 (hd2 B0 (one p)) W2/\
  H2 p=some (.lst ys)/\DsAt K c (hide (hd2 (hd2 B0 (one p)) W2) H2) ys out/\ys.length<=i/\(∀e∈cs,σ2[e.1]?=(capS cs none σ 0 n)[e.1]?)/\(qQ9 g t el (ds.drop i) inn).wp (fun q=>Post (out ++ q.1,q.2)) (fun _ _=>True)
 refine⟨Inv,⟨ds.length,by simp,cJ _,_,Wi,[],.refl,cfI,upd_same,.nil,aP _,fun _ _=>rfl,?_⟩,?_⟩
 ·refine wp_mono (fun q hq=>?_) (fun _ _ _=>trivial) (qK.mp h1);subst hPost;exact hq
 rintro i m σ2 ys H2 ⟨rfl,hi,inn,W2,out,st2,cf2,at2,dsO,hly,hσ,w2⟩;refine⟨at2,zJy (by omega),?_⟩;have eqI:hide (hd2 (hd2 B0 (one p)) Wi) (upd H1 p (.lst []))=hide (hd2 B0 (hd2 Wi (one p))) (upd H1 p (.lst [])):=zT fun a=>by dsimp only[hd2];omega
 have eq2:hide (hd2 (hd2 B0 (one p)) W2) H2=hide (hd2 B0 (hd2 W2 (one p))) H2:=zT fun a=>by dsimp only[hd2];omega
 have smI:Same (hide (hd2 B W1) H1) (hide (hd2 (hd2 B0 (one p)) W2) H2):=sm0.trans (by rw[eqI,eq2];exact st2.same);have p0:B0 p=0:=by rw[hB0];omega
 have pBp:(hd2 B0 (one p)) p≠0:=by dsimp only[hd2];rw[wV];omega
 obtain⟨it1,it2⟩:=iter i H2 (hd2 (hd2 B0 (one p)) W2) smI (fun a z=>cf2.hbs z);by_cases hlt:i<ds.length
 ·obtain⟨go,yl⟩:=it1 ds[i] (aF hlt);refine .inr ⟨go,fun x H3 y=>?_⟩;obtain⟨sm3,hx⟩:=yl x H3 y;rw[bF hlt]at w2;obtain⟨e3,e2,w3⟩:=qG w2;refine⟨inn,_,W2,ds[i],e3,cf2.grow sm3,hx,e2,fun σ4 W4 st4 cf4 kσ=>⟨e3,_,W4,cf4,wp_mono (fun r q H5 W5 st5 cf5=>?_) (fun _ _ he=>he) (jQn (E' :=erP K c EN' H3 (hd2 B0 (one p)) W4) (qK.mp w3))⟩⟩;obtain⟨b,e5⟩:=r;have st25:=((Step.grow cf2 sm3).trans st4).trans st5;have at5:H5 p=some (.lst ys):=by rw[st25.by_ p pBp];exact at2
  have hσ4:∀e∈cs,σ4[e.1]?=(capS cs none σ 0 n)[e.1]?:=fun e he=>(kσ e.1 (n3 e he).2.2).trans (hσ e he)
  cases b with
  | false=>
    have l25:=st25.lift (B:=B0) (Z:=one p) (W' :=hd2 W2 (one p)) (Y' :=hd2 W5 (one p)) (fun _=>rfl) (fun _=>rfl) (fun _=>rfl);exact⟨ds.length - (i+1),by omega,rfl,hlt,e5,W5,out,st2.trans l25,cf5,at5,dsO.same st25.same,by omega,hσ4,q⟩
  | true=>
    refine⟨e5,_,W5,cf5,wp_mono (fun r q u H6 W6 g6=>?_) (fun _ _ he=>he) (jQn (E' :=erP K c EN' H5 (hd2 B0 (one p)) W5) (qK.mp q))⟩;obtain⟨v,e6⟩:=r;have st26:=st25.trans g6.st;have at6:H6 p=some (.lst ys):=by rw[st26.by_ p pBp];exact at2
    have l26:=st26.lift (B:=B0) (Z:=one p) (W' :=hd2 W2 (one p)) (Y' :=hd2 W6 (one p)) (fun _=>rfl) (fun _=>rfl) (fun _=>rfl);have hh6:(hd2 (hd2 B0 (one p)) W6) p≠0:=by dsimp only[hd2]at *;omega
    have hh7:(hd2 B0 (hd2 W6 (one p))) p≠0:=by dsimp only[hd2];rw[wV];omega
    have wr:Step e6 σ4 H6 B0 (hd2 W6 (one p)) e6 σ4 (upd H6 p (.lst (ys ++ [u]))) (hd2 W6 (one p)):=by
     refine⟨by rw[vQl hh7];exact Same.refl _,fun a z=>qH fun y=>by rw[y]at z;exact z p0,fun a z=>.inl z,fun a z=>?_,fun a _ _=>?_,fun _ o h=>⟨⟨o,h⟩,rfl⟩,rfl⟩
     ·by_cases y:a=p
      ·subst y;rw[upd_same]at z;cases z
      ·rw[qH y]at z;exact z
     ·by_cases y:a=p
      ·subst y;rw[at6];trivial
      ·exact .of (qH y)
    refine⟨at6,ds.length - (i+1),by omega,rfl,hlt,e6,W6,out ++ [v],(st2.trans l26).trans wr,g6.cf.write pBp trivial,upd_same,?_,by rw[aJ,dC];omega,hσ4,?_⟩
    ·rw [vQl hh6];exact(dsO.same st26.same).append (.cons g6.at_ .nil)
    ·exact wp_mono (fun q hq=>by rw[bV];exact hq) (fun _ _ _=>trivial) (qK.mp q)
 ·have hi2:i=ds.length:=by omega
  subst hi2;refine .inl ⟨it2 rfl,?_⟩;rw[List.drop_length]at w2;have w3:Post (out ++ [],inn):=w2;rw[bU,←hPost]at w3;have nd2:∀a,B a+R a+one p a+W2 a<=1:=fun a=>by have:=cf2.nd a;have:=hB0 a;dsimp only[hd2]at *;omega
  have cellR:∀a,R a≠0->H2 a=H1 a:=fun a z=>by
   rw[st2.by_ a (by rw[hB0];omega)];exact cellp a fun y=>by rw[y]at z;omega
  have linn:inn.length=n:=by rw[st2.len,vXm]
  obtain⟨W3,o1,o2⟩:=cap_out (cs:=cs) (i:=0) cf2.at_ (i2.keep smI cellR) (fun k j he hk=>by
   rw[Nat.zero_add]at he;have hm:=qXk he;obtain⟨m1,m2,_⟩:=n3 _ hm;refine⟨by rw[qX5];exact m2,?_⟩;rw[hσ _ hm];show(capS cs none σ 0 n)[k]?=σ[j]?;have hj:j < σ.length:=by rw[←cf1.len];exact m2
   rw[vQp n 0 k m1,Nat.zero_add,he];dsimp only;rw[bM,aF hj];rfl) (fun a=>by have:=nd2 a;omega)
  have smE:Same (hide (hd2 (hd2 B0 (one p)) W2) H2) (hide (hd2 (hd2 B (one p)) W3) H2):=jK fun a z=>by have:=o2 a;have:=hB0 a;dsimp only[hd2]at *;omega
  have eqE:hide (hd2 (hd2 B (one p)) W3) H2=hide (hd2 B (hd2 W3 (one p))) H2:=zT fun a=>by dsimp only[hd2];omega
  refine w3 (.ref p) H2 W3 (one p) ⟨st1.trans ⟨by rw[←eqE];exact smI.trans smE,fun a z=>?_,fun a z=>?_,fun a z=>?_,fun a z1 z2=>?_,fun k o h=>⟨?_,rfl⟩,by rw[vW1,qX5]⟩,⟨o1.keep smE fun _ _=>rfl,fun a=>?_,fun a z=>?_⟩,(OAt.ow (k:=.lst) rfl).mpr ⟨p,ys,fun _=>0,rfl,at2,OsAt.fzs.mpr ⟨dsO.same smE,fun _=>rfl⟩,fun _=>rfl⟩⟩
  ·rw [st2.by_ a (by rw [hB0];omega)];exact cellp a fun y=>by rw[y]at z;omega
  ·by_cases y:a=p
   ·exact .inr (by rw[y];exact hp)
   ·have y1:=xW y;have:=o2 a;by_cases q:R a=0
    ·rcases st2.new a (by dsimp only [hd2] at *;omega) with q1 | q1
     ·exact .inl (by rw[i3];dsimp only[hd2]at q1;omega)
     ·exact .inr (by rw[cellp a y]at q1;exact q1)
    ·exact .inl (by rw[i3];omega)
  ·have:=st2.dom a z;by_cases y:a=p
   ·subst y;rw[upd_same]at this;cases this
   ·rw[cellp a y]at this;exact this
  ·have y:a≠p:=fun y=>by rw [y] at z1;exact z1 pW
   have y1:=xW y;by_cases q:R a=0
   ·have:=st2.pin a (by have:=i3 a;dsimp only [hd2];omega) (by have:=o2 a;dsimp only [hd2] at *;omega);rw[cellp a y]at this;exact this
   ·exact .of (cellR a q)
  ·rcases zQg h with h | ⟨i',k1,_,k3⟩
   ·exact⟨o,vWs h⟩
   ·rw [Nat.sub_zero] at k3;obtain⟨⟨o0,k4⟩,_⟩:=st2.io i' o k3;have hi' :i'<n:=by rw[←linn];exact(aW.mp k3).1
    rw[vQp n 0 i' hi',Nat.zero_add,k1]at k4;have k5:=Option.some.inj k4;dsimp only at k5;rw[bM]at k5;cases e:e1[k]? with
    |none=>rw[e]at k5;cases k5
    |some s=>rw[e]at k5;exact⟨o0,by rw[←k5];rfl⟩
  ·have:=nd2 a;have:=o2 a;dsimp only[hd2];omega
  ·exact cf2.hb a (by have:=hB0 a;dsimp only[hd2]at *;omega)
theorem qX3{scope:Scope}{Nc:List Str}(hk:scope.kind=.function)(hfree:∀x∈scope.names,x.2≠ .free)(hcell:∀x∈scope.names,x.2≠ .cell)(hnames:∀y∈scope.names,y.2=.local ->scope.names.lookup y.1=some .local):
  Caps X scope [] Nc (fun σ=>capS [] none σ 0 Nc.length):=by
 have e:(fun σ:L2.St=>capS [] none σ 0 Nc.length)=(fun _=>List.replicate Nc.length none):=by
  funext σ;have:∀n i,capS [] (none:Option V) σ i n=List.replicate n none:=fun n=>by
   induction n with
   |zero=>intro i;rfl
   |succ n ih=>intro i;rw[capS,ih,List.replicate_succ];rfl
  grind
 rw[e];exact jXg hk hfree hcell hnames
section
variable{X:Cx}{c:Nat->aV}{E:XK}{tg iter elt:Expr}{ifs:List Expr}{scope:Scope}{cl:List (Str×aV)}{Nc:List Str}{cs:List (Nat×Nat)}{T:List Nat}{pos:Pos}{it:SI}{g:SG}{t:ST}{el:SV}
theorem qJo(hc:X.calm=true)(cp:Caps X scope cl Nc (fun σ=>capS cs none σ 0 Nc.length))(hi:ID' X c E tg iter it)(hg:∀C s H fp,GD (cCx X scope cl C Nc s H fp) c tg T g)(ht:∀C s H fp,TDs (cCx X scope cl C Nc s H fp) c EN' ifs t)(he:∀C s H fp,EV (cCx X scope cl C Nc s H fp) c EN' elt el)(hs:∀x,foldedSetIterable iter X.env x=pure x:=by intro _;rfl):ED X c E (.ListComp elt [⟨tg,iter,ifs,0⟩] scope pos) (compS Nc.length cs T it g t el):=
 ⟨PE.imp (zKh hc cp hi.h (fun C s H fp=>(hg C s H fp).h) (fun C s H fp=>(ht C s H fp).h) (fun C s H fp=>(he C s H fp).h) hs) fun _ _ _ h=>zWj h⟩
end
theorem vYd{w:bX}:jD (CXd P w) X EN' :=fun _ _ _ _ _ _ _ h=>by
 obtain⟨_,_,_,_,_,_,_,_,_,_,_,_,_,_,_,_,h⟩:=h;exact h.elim
noncomputable def evI:Option SV->Ev->Res (Option Int×Ev)
 |none,env=>.ok (none,env)
 |some s,env=>(s env).bind fun r=>(opt (qZd r.1)).bind fun i=>.ok (some i,r.2)
noncomputable def tI(K:aQ)(c:Nat->aV)(E:XK)(s:Option SV):TO:=fun σ H Q=>∃env B W,Cf K c env σ H B W/\(evI s env).wp (fun r=>∀H' W',Step env σ H B W r.2 σ H' W' ->Cf K c r.2 σ H' B W' ->Q r.1 H') (erP K c E H B W)
structure PD(X:Cx)(c:Nat->aV)(E:XK)(e:Option Expr)(s:Option SV):Prop where
 h:PO X e (tI X.K c E s)
theorem PO.imp{e:Option Expr}{t t' :TO}(h:PO X e t)(k:∀σ H Q,t' σ H Q->t σ H Q):PO X e t' :=fun pins s σ H Q I q=>h pins s σ H Q I (k σ H Q q)
theorem qW8:PD X c E none none:=by
 refine⟨PO.imp zKa fun σ H Q=>?_⟩;rintro⟨env,B,W,cf,w⟩;exact w H W .refl cf
theorem yX{s:SV}(h:EV X c E e s):PD X c E (some e) (some s):=by
 refine⟨PO.imp (zY9 h.h) fun σ H Q=>?_⟩;rintro⟨env,B,W,cf,w⟩;refine⟨env,B,W,cf,wp_mono (fun r1 h1 u H1 W1 g=>?_) (fun _ _ he=>he) (qK.mp w)⟩;obtain⟨i,e1,h2⟩:=qG h1;exact⟨i,jL g.at_ e1,h2 H1 W1 g.st g.cf⟩
noncomputable def cutL{α:Type}(xs:List α)(lo hi:Option Int):List α:=(xs.drop (HT.sIx xs.length 0 lo)).take (HT.sIx xs.length xs.length hi - HT.sIx xs.length 0 lo)
theorem vYo{K:aQ}{F:Hp}{ds:List D}{lo hi:Option Int}(h:DsAt K c F vs ds):DsAt K c F (cutV vs lo hi) (cutL ds lo hi):=by
 unfold cutV cutL;rw[h.len];exact(h.drop _).take _
noncomputable def eSlL(o:Oe)(lo hi:Option SV):SE:=fun env=>(evO o env).bind fun r=>(evI lo r.2).bind fun r1=>(evI hi r1.2).bind fun r2=>cond r.1.st ((rsvB r2.2 r.1).bind fun x=>(opt (vVn x.1)).bind fun ds=>.ok (.ow .lst ((cutL ds r1.1 r2.1).map .fz),x.2)) .no
noncomputable def jQu(o:Oe)(lo hi:Option SV):SV:=fun env=>(evO o env).bind fun r=>(evI lo r.2).bind fun r1=>(evI hi r1.2).bind fun r2=>cond r.1.st ((opt (rsv r2.2 r.1)).bind fun x=>(opt (jQq x)).bind fun ds=>cond (qJ4 x &&!(decide (HT.sIx ds.length 0 r1.1=0) && decide (HT.sIx ds.length ds.length r2.1=ds.length))) (.ok (.tup (cutL ds r1.1 r2.1),r2.2)) .no) .no
section
variable{X:Cx}{c:Nat->aV}{E:XK}{e:Expr}{lo hi:Option Expr}{pos p2:Pos}{o:Oe}{sl sh:Option SV}
theorem Vw.lst{K:aQ}{F:Hp}{u:V}{x:D}{ds:List D}(s:Same F H)(h:Vw K c F H u x)(e:vVn x=some ds):∃p vs,u=.ref p/\SqL K H p vs/\DsAt K c F vs ds:=by
 unfold vVn at e;split at e
 ·cases e;exact h.un s
 ·cases e
theorem zX3(he:OD X c E e o)(hl:PD X c E lo sl)(hu:PD X c E hi sh):ED X c E (.Subscript e (.Slice lo hi none p2) pos) (eSlL o sl sh):=by
 refine⟨PE.imp (vQg zYm he.h hl.h hu.h) fun σ H Q=>?_⟩;rintro⟨env,B,W,cf,w⟩;refine qQo cf (qK.mp w) fun r w1 u H1 W1 g=>?_
 refine⟨r.2,B,W1,g.cf,wp_mono (fun r2 h2 H2 W2 st2 cf2=>?_) (fun _ _ he=>he.back g.st) (qK.mp w1)⟩;refine⟨r2.2,B,W2,cf2,wp_mono (fun r3 h3 H3 W3 st3 cf3=>?_) (fun _ _ he=>he.back (g.st.trans st2)) (qK.mp h2)⟩;obtain⟨hs,w4⟩:=vM h3;have ha:=(g.at_.step st2.same hs).step st3.same hs;obtain⟨x,env4,W4,st4,cf4,vw,w5⟩:=zQd cf3 ha (qK.mp w4);obtain⟨ds,e1,w6⟩:=qG w5;obtain⟨p,vs,rfl,b1,b2⟩:=vw.lst hide_sub e1;refine⟨p,vs,rfl,b1,fun q hq=>?_⟩;have sm:Same H3 (upd H3 q (.lst (cutV vs r2.1 r3.1))):=.upd hq;exact w6 (.ref q) _ W4 _ ((Got.lay cf4 hq sm (k:=.lst) upd_same ((vYo b2).same (vXd cf4 hq sm))).back (((g.st.trans st2).trans st3).trans st4))
end
section
variable{K:aQ}{c:Nat->aV}
noncomputable def lenD:List D->Option D
 |[.nd .lst ds]=>some (.int ds.length)
 |[.nd .tup ds]=>some (.int ds.length)
 |[.nd (.dct ks) _]=>some (.int ks.length)
 |[.str z]=>cond (decide (z.length<=aD)) (some (.int z.length)) none
 |_=>none
noncomputable def rLen(K:aQ):List V->Hp->VK->Prop:=fun xs H Q=>(∃p ys,xs=[.ref p]/\(SqL K H p ys\/SqT K H p ys)/\Q (.int ys.length) H)\/(∃z,xs=[.str z]/\z.length<=aD/\Q (.int z.length) H)\/(∃p ws,xs=[.ref p]/\Rd H p (.dK ws)/\Q (.int (ws.length:Nat)) H)
theorem zZj:j8 X (.builtin "len") (fun xs H Q=>∃p ws,xs=[.ref p]/\Rd H p (.dK ws)/\Q (.int (ws.length:Nat)) H):=by
 intro pins s σ H xs us Q I r h;obtain⟨p,ws,rfl,hp,q⟩:=h;obtain⟨u,rfl,ru⟩:=yI r;cases ru;exact jXc I hp fun t s' I' =>⟨.int ws.length,H,I',⟨_,rfl⟩,q⟩
theorem zZk:j8 X (.builtin "len") (rLen X.K):=vJ4.or (vJ3.or zZj)
theorem jZj:PrSN K c (rLen K) lenD:=fun us H xs z Q hv e q=>by
 unfold lenD at e;split at e
 ·cases e;obtain⟨u,rfl,a⟩:=ds1 hv;obtain⟨p,vs,rfl,h1,h2⟩:=a.un;exact .inl ⟨p,vs,rfl,.inl h1,by rw[h2.len];exact q _ fun _=>.int _⟩
 ·cases e;obtain⟨u,rfl,a⟩:=ds1 hv;obtain⟨p,vs,rfl,h1,h2⟩:=a.un;exact .inl ⟨p,vs,rfl,.inr h1,by rw[h2.len];exact q _ fun _=>.int _⟩
 ·cases e;obtain⟨u,rfl,a⟩:=ds1 hv;obtain⟨p,vs,rfl,⟨h1,h2,h3⟩,h4⟩:=a.un;refine .inr (.inr ⟨p,_,rfl,h3,?_⟩);rw[List.length_zip,←h1,Nat.min_self];exact q _ fun _=>.int _
 ·rename_i z';obtain⟨q1,q2⟩:=zM e;cases q2;obtain⟨u,rfl,a⟩:=ds1 hv;cases a;exact .inr (.inl ⟨z',rfl,of_decide_eq_true q1,q _ fun _=>.int _⟩)
 ·cases e
noncomputable def strD:List D->Option D
 |[.int i]=>cond (decide (i.natAbs.log2<1920)) (some (.str (toString i))) none
 |_=>none
theorem jZi:PrSN K c (fun xs H Q=>∃i,xs=[.int i]/\i.natAbs.log2<1920/\Q (.str (toString i)) H) strD:=fun us H xs z Q hv e q=>by
 unfold strD at e;split at e
 ·obtain⟨q1,q2⟩:=zM e;cases q2;obtain⟨u,rfl,a⟩:=ds1 hv;cases a;exact⟨_,rfl,of_decide_eq_true q1,q _ fun _=>.str _⟩
 ·cases e
noncomputable def max2D:List D->Option D
 |[.int i,.int j]=>some (.int (if j > i then j else i))
 |_=>none
theorem zY4:PrSN K c (fun xs H Q=>∃i j,xs=[.int i,.int j]/\Q (.int (if j > i then j else i)) H) max2D:=fun us H xs z Q hv e q=>by
 unfold max2D at e;split at e
 ·cases e;obtain⟨u,w,rfl,a,b⟩:=ds2 hv;cases a;cases b;exact⟨_,_,rfl,q _ fun _=>.int _⟩
 ·cases e
noncomputable def listD:List D->Option (List D)
 |[d]=>qYn d
 |_=>none
theorem vws1{F:Hp}{x:D}(h:Vws K c F H us [x]):∃u,us=[u]/\Vw K c F H u x:=by
 cases us with
 |nil=>exact h.elim
 | cons u us=>
   cases us with
   |nil=>exact⟨u,rfl,h.1⟩
   |cons _ _=>exact h.2.elim
theorem Vw.seq{F:Hp}{u:V}{d:D}{ds:List D}(s:Same F H)(h:Vw K c F H u d)(e:qYn d=some ds):∃p vs,u=.ref p/\(SqL K H p vs\/SqT K H p vs)/\DsAt K c F vs ds:=by
 unfold qYn at e;split at e
 ·cases e;obtain⟨p,vs,a,b,r⟩:=h.un s;exact⟨p,vs,a,.inl b,r⟩
 ·cases e;obtain⟨p,vs,a,b,r⟩:=h.un s;exact⟨p,vs,a,.inr b,r⟩
 ·cases e
theorem zV2{T:Fp}{p:aV}(hn:H p=none)(sm:Same H H'):Same (hide T H) (hide (hd2 T (one p)) H'):=zY fun a o z q=>⟨by
 have np:a≠p:=fun z=>by rw[z,hn]at q;cases q
 have:=xW np;dsimp only[hd2];omega,sm a o q⟩
theorem zY5:PrF K c (fun xs H Q=>∃p ys,xs=[.ref p]/\(SqL K H p ys\/SqT K H p ys)/\∀l,H l=none->Q (.ref l) (upd H l (.lst ys))) listD:=fun us H T xs ds Q hb hv e q=>by
 unfold listD at e;split at e
 ·obtain⟨u,rfl,v⟩:=vws1 hv;obtain⟨p,vs,rfl,h1,h2⟩:=v.seq hide_sub e;exact⟨p,vs,rfl,h1,fun l hl=>q l vs _ hl (.upd hl) upd_same (h2.same (zV2 hl (.upd hl)))⟩
 ·cases e
noncomputable def tupleD:List D->Option D
 |[.nd .lst ds]=>some (.tup ds)
 |_=>none
theorem zW0:PrA K c (fun xs H Q=>∃p ys,xs=[.ref p]/\((SqL K H p ys/\∀l,H l=none->Q (.ref l) (upd H l (.tup ys)))\/(SqT K H p ys/\Q (.ref p) H))) tupleD:=fun us H T xs z Q hb hv e q=>by
 unfold tupleD at e;split at e
 ·cases e;obtain⟨u,rfl,v⟩:=vws1 hv;obtain⟨p,vs,rfl,h1,h2⟩:=v.un hide_sub;refine⟨p,vs,rfl,.inl ⟨h1,fun l hl=>?_⟩⟩;have sm:Same H (upd H l (.tup vs)):=.upd hl;have hp:T l=0:=by
   grind
  exact q _ _ sm (.of (k:=.tup) (SqT.of (by rw[zG hp,upd_same])) (h2.same (zY fun a o z y=>⟨z,sm a o y⟩)))
 ·cases e
end
section
variable{X:Cx}{c:Nat->aV}{E:XK}{e e2:Expr}{pos p:Pos}{o oa:Oe}
theorem wF(hg:Gl X "len")(hm:X.mg "len"=none)(ha:OD X c E e o)(he:aX [e] X.env=[(false,eval e X.env)]:=by rfl)(h0:aX [] X.env=[]:=by rfl):OD X c E (.Call (.Name "len" p) [e] [] pos) (oL lenD [o]):=
 vQi zZk jZj hg hm Boot.«len» (qU ha qJ (by rw[he,h0])) (by decide) (by decide) (by rw[he,h0]) (by rw[h0];rfl)
theorem jWt(hg:Gl X "str")(hm:X.mg "str"=none)(ha:OD X c E e o)(he:aX [e] X.env=[(false,eval e X.env)]:=by rfl)(h0:aX [] X.env=[]:=by rfl):OD X c E (.Call (.Name "str" p) [e] [] pos) (oL strD [o]):=
 vV8 vJ1 jZi hg hm Boot.«str» (qU ha qJ (by rw[he,h0])) (by decide) (by decide) (by rw[he,h0]) (by rw[h0];rfl)
theorem zJr(hc:X.calm=true)(hg:Gl X "max")(hm:X.mg "max"=none)(ha:OD X c E e o)(hb:OD X c E e2 oa)(he:aX [e,e2] X.env=(false,eval e X.env)::aX [e2] X.env:=by rfl)(he2:aX [e2] X.env=(false,eval e2 X.env)::aX [] X.env:=by rfl)(h0:aX [] X.env=[]:=by rfl):OD X c E (.Call (.Name "max" p) [e,e2] [] pos) (oL max2D [o,oa]):=
 vQi (zZi hc) zY4 hg hm Boot.«max» (qU ha (qU hb qJ he2) he) (by decide) (by decide) he (by rw[he2,h0];rfl)
theorem zYc(hg:Gl X "tuple")(hm:X.mg "tuple"=none)(ha:OD X c E e o)(he:aX [e] X.env=[(false,eval e X.env)]:=by rfl)(h0:aX [] X.env=[]:=by rfl):EV X c E (.Call (.Name "tuple" p) [e] [] pos) (svA tupleD [o]):=
 zZb vVh zW0 hg hm Boot.«tuple» (qU ha qJ (by rw[he,h0])) (by decide) (by decide) (by rw[he,h0]) (by rw[h0];rfl)
theorem jJu(hg:Gl X "list")(hm:X.mg "list"=none)(ha:OD X c E e o)(he:aX [e] X.env=[(false,eval e X.env)]:=by rfl)(h0:aX [] X.env=[]:=by rfl):ED X c E (.Call (.Name "list" p) [e] [] pos) (eF listD [o]):=
 zZc vJ2 zY5 hg hm Boot.«list» (qU ha qJ (by rw[he,h0])) (by decide) (by decide) (by rw[he,h0]) (by rw[h0];rfl)
end
structure MethAt(K:aQ)(x qual:Str)(st:Stmt)(ps:List Str)(f:aV)(fd:aH):Prop where
 F:Fun K x qual st f fd
 b:j9 K fd ps []
noncomputable def pOf:Oe->SP
 |.p s=>s
 |.v _=>fun _=>none
theorem fnNo{w:bX}{K:aQ}{k:Nat}{f:aV}:FnOk P w K mg base CX k f fd ps (spD K c n fun _=>.no):=
 ⟨fun vs H Q E z=>(by obtain⟨_,_,_,_,_,z⟩:=z;exact z.elim),fun _ _ _ _ _ _ _ _ _ _ _ _ _ z=>(by obtain⟨_,_,_,_,_,z⟩:=z;exact z.elim)⟩
theorem FnOk.lv{w:bX}{K:aQ}{k:Nat}{f:aV}{sp:Sp}(e:j=k)(h:FnOk P w K mg base CX j f fd ps sp):FnOk P w K mg base CX k f fd ps sp:=by grind
section
variable{X:Cx}{c:Nat->aV}{E:XK}{o k e:Expr}{pos pos' apos cpos:Pos}{oo ok:Oe}{a:SE}{cs:List Nat}{f:Str}
theorem qKl(h:OD X c E e oo)(hp:oo.isP=true:=by rfl):OD X c E e (Am.b (pOf oo)).o :=by
 cases oo with
 |p s=>exact h
 |v s=>cases hp
theorem wJ(ho:OD X c E o oo)(ha:ED X c E e a)(hp:oo.isP=true:=by rfl)(hbase:attributeBase o "append" X.env (eval o X.env)=eval o X.env:=by rfl)(hfew:((cZ cpos (aX [e] X.env)).all (fun x=>!x.1) && (backToKw cpos (keywordEach [] X.env)).all (fun x=>x.1.isSome) && decide (([e]:List Expr).length+([]:List Keyword).length+(if([]:List Keyword).isEmpty then 0 else 1)<30))=true:=by rfl)(hline:(apos.endLine == cpos.line)=true:=by rfl)(hs:aX [e] X.env=(false,eval e X.env)::aX [] X.env:=by rfl)(hplain:(cZ cpos (aX [] X.env)).any (·.1)=false:=by rfl):
  ED X c E (.Call (.Attribute o "append" apos) [e] [] cpos) (eMu1 (pOf oo) a apF):=by
 cases oo with
 |p s=>exact zZd ho ha hbase hfew hline hs hplain
 |v s=>cases hp
theorem qKn(ho:OD X c E o oo)(hp:oo.isP=true:=by rfl)(hbase:attributeBase o "pop" X.env (eval o X.env)=eval o X.env:=by rfl)(hline:(apos.endLine == cpos.line)=true:=by rfl):ED X c E (.Call (.Attribute o "pop" apos) [] [] cpos) (ePop (pOf oo)):=by
 cases oo with
 |p s=>exact jJr ho hbase hline
 |v s=>cases hp
theorem vYa(okF:qZe X.K c cs f)(ho:OD X c E o oo)(hv:ED X c E e a)(hp:oo.isP=true:=by rfl)(hs:swapsWith e (some (.Attribute o f pos')) pos.line X.env=pure false:=by rfl):SD X c E (.Assign [.Attribute o f pos'] e pos) (vWa cs f (pOf oo) a):=by
 cases oo with
 |v s=>cases hp
 |p s=>exact zYp okF ho hv hs
theorem zJh{rd:TIp}{g:D->D->Option D}{t:SV}(okF:qZe X.K c cs f)(ho:OD X c E o oo)(hv:EV X c E e t)(hop:PIp X op rd)(hpr:PrS2 X.K c rd g)(hp:oo.isP=true:=by rfl):SD X c E (.AugAssign (.Attribute o f pos') op e pos) (vKt cs f g (pOf oo) t):=by
 cases oo with
 |v s=>cases hp
 |p s=>exact zYq okF ho hv hop hpr
end
noncomputable def vKs(C:aV)(f:Str):Sp:=fun vs H Q _=>∃ea t v,vs=[.ref ea,v]/\H ea=some (.ext (ExcR ea (.ref C) t none))/\∀dx,H dx=none->Q .non (upd (upd H ea (.ext (ExcR ea (.ref C) t (some dx)))) dx (.xd [(f,v)]))
theorem iniD{w:bX}{K:aQ}{x:Str}{st:Stmt}{C:aV}{a b f:Str}{s0:Stmt}(F:Fun K x qual st fI fd)(S:FnScope [a,b] [a,b] (qW st))(hn:cW K (.ref C) f=some none)(hb:∀(cdv:Value) (A:cB) (outer:List Env) (s:aY) (H:Hp) (E:XK),PS (cxOf (CXd P w) P w K mg base [a,b] qual (qW st) fI cdv A outer s H E) s0 (sXF K C (tVar 0) (tVar 1) f))(hst:z6 st=[s0]):
  FnOk P w K mg base (CXd P w) 1 fI fd [a,b] (vKs C f):=by
 refine F.okD S (fun vs H Q E h=>?_) (fun cdv Ar outer s H vs Q E hr h=>?_)
 ·obtain⟨ea,t,v,rfl,_⟩:=h;rfl
 ·obtain⟨ea,t,v,rfl,he,q⟩:=h;refine⟨_,by rw[hst];exact vW3 (hb cdv Ar outer s H E) zQh,?_⟩;exact⟨v,rfl,.ref ea,rfl,ea,t,rfl,he,hn,fun dx hd=>q dx hd⟩
noncomputable def zR(C:Nat)(f:Str)(s:SV):SS:=fun env=>(s env).bind fun r=>.er C [(f,r.1)]
theorem zVm{x f:Str}{k:Nat}{s:SV}{np cpos:Pos}(ce:IniCls X.K (c C) fI)(F:FnOk X.prog X.w X.K X.mg X.base (CXd X.prog X.w) k fI fd ps (vKs (c C) f))(hr:Room (k+1) X.A)(hb:j9 X.K fd ps [])(hg:Gl X x)(hm:X.mg x=some (.ref (c C)))(hcalm:X.calm=true)(hex:X.ex=[])(he:EV X c E e s)(ht:qKh X (c C) (fun ea dx H1=>E (.ref (c C)) (some dx) (but1 H1 ea)))(hs:aX [e] X.env=[(false,eval e X.env)]:=by rfl)(hdb:(x == ("__debug__":Str))=false:=by decide):SD X c E (.Raise (some (.Call (.Name x np) [e] [] cpos)) none pos) (zR C f s):=by
 refine⟨PS.imp (zVp ce F hr hb hg hm hcalm hex he.h ht hs hdb) fun D σ H=>?_⟩;rintro⟨env,B,W,cf,w⟩;refine⟨env,B,W,cf,wp_mono (fun r w1 u H1 W1 g=>⟨rfl,fun ea t hn=>?_⟩) (fun _ _ he=>he) (qK.mp w)⟩;refine⟨ea,t,u,rfl,upd_same,fun dx hd=>⟨rfl,dx,?_⟩⟩;have ne:ea≠dx:=vU upd_same hd;have hd1:H1 dx=none:=by rw[qH ne.symm]at hd;exact hd
 refine⟨by rw[qH ne,upd_same],?_⟩;have eq:but1 (upd (upd (upd H1 ea (.ext (ExcR ea (.ref (c C)) t none))) ea (.ext (ExcR ea (.ref (c C)) t (some dx)))) dx (.xd [(f,u)])) ea=upd H1 dx (.xd [(f,u)]):=by
  funext b;by_cases z:b=ea
  ·subst z;rw[qYh,qH ne,hn]
  ·rw [qKg z];by_cases y:b=dx
   ·subst y;rw[upd_same,upd_same]
   ·rw[qH y,qH y,qH z,qH z]
 dsimp only;rw[eq];have nw:hd2 B W1 dx=0:=by
  by_cases z:hd2 B W1 dx=0
  ·exact z
  ·obtain⟨o,e1,_⟩:=g.cf.hbs z;grind
 have sm:Same (hide (hd2 B W1) H1) (hide (hd2 B W1) (upd H1 dx (.xd [(f,u)]))):=zY fun a o z q=>⟨z,by rw[qH (vU q hd1)];exact q⟩
 refine w1 _ W1 (some dx) ⟨g.st.same.trans sm,fun a z=>?_,fun a z=>?_⟩ ⟨[(f,u)],upd_same,rfl,.cons (g.at_.same sm) .nil⟩
 ·rw [qH]
  ·exact g.st.by_ a z
  ·grind
 ·by_cases y:a=dx
  ·subst y;rw[upd_same]at z;cases z
  ·rw[qH y]at z;exact g.st.dom a z
section
variable{X:Cx}{c:Nat->aV}{E:XK}{e:Expr}{lo hi:Option Expr}{pos p2:Pos}{o:Oe}{sl sh:Option SV}
theorem zZa(he:OD X c E e o)(hl:PD X c E lo sl)(hu:PD X c E hi sh):EV X c E (.Subscript e (.Slice lo hi none p2) pos) (jQu o sl sh):=by
 refine⟨PE.imp (vQg jV1 he.h hl.h hu.h) fun σ H Q=>?_⟩;rintro⟨env,B,W,cf,w⟩;refine qQo cf (qK.mp w) fun r w1 u H1 W1 g=>?_
 refine⟨r.2,B,W1,g.cf,wp_mono (fun r2 h2 H2 W2 st2 cf2=>?_) (fun _ _ he=>he.back g.st) (qK.mp w1)⟩;refine⟨r2.2,B,W2,cf2,wp_mono (fun r3 h3 H3 W3 st3 cf3=>?_) (fun _ _ he=>he.back (g.st.trans st2)) (qK.mp h2)⟩;obtain⟨hs,w4⟩:=vM h3;have ha:=(g.at_.step st2.same hs).step st3.same hs;obtain⟨x,e0,w5⟩:=qG w4;obtain⟨ds,e1,w6⟩:=qG w5;obtain⟨hc,w7⟩:=vM w6;rw[aE]at hc;have d0:=jC cf3 ha e0;have xe:x=.nd .tup ds:=by unfold jQq at e1;split at e1 <;> cases e1;rfl
 subst xe;have d1:DAt X.K c (hide (hd2 B W3) H3) u (.nd .tup ds):=DAt.flat (fun a o q nb=>by
  unfold hide;rw[if_pos]
  ·exact q
  ·by_cases z:hd2 B W3 a=0
   ·exact z
   ·obtain⟨o',y,yb⟩:=cf3.hbs z;rw[q]at y;cases y;exact absurd yb nb) d0 hc.1
 cases d1 with
 | @nd p _ vs _ h l rr=>
   have dv:DsAt X.K c (hide (hd2 B W3) H3) vs ds:=⟨l,rr⟩
   have hq:SqT X.K H3 p vs:=NdAt.same (c:=c) (k:=.tup) hide_sub h;refine⟨p,vs,rfl,hq,?_,fun q hn=>?_⟩
   ·have:=hc.2;simp only[Bool.not_eq_true',Bool.and_eq_false_iff,decide_eq_false_iff_not]at this;rw[l];rintro⟨z1,z2⟩;rcases this with y|y
    ·exact y z1
    ·exact y z2
   ·have sm:Same H3 (upd H3 q (.tup (cutV vs r2.1 r3.1))):= .upd hn;have z0:hd2 B W3 q=0:=by
     by_cases z:hd2 B W3 q=0
     ·exact z
     ·obtain⟨o',y,_⟩:=cf3.hbs z;rw[hn]at y;cases y
    refine w7 (.ref q) _ W3 ⟨((g.st.trans st2).trans st3).trans (.grow cf3 sm),cf3.grow sm,?_⟩;refine .nd (k:=.tup) (vs:=cutV vs r2.1 r3.1) ?_ (vYo dv).len fun i v d a b=>?_
    ·exact SqT.of (by show hide _ _ q=_;unfold hide;rw[if_pos z0];exact upd_same)
    ·exact((vYo dv).r i v d a b).same (zY fun a o z y=>⟨z,sm a o y⟩)
end
section
variable{X:Cx}{c:Nat->aV}{E:XK}{e:Expr}{es:List Expr}{s:SV}{ss:List SV}{a:SE}{K:aQ}
theorem jQv{F:Hp}(t:TabF c F):∀{us:List V} {xs:List D},DsAt K c F us xs->SlAt K c F H (xs.map fun d=>Slot.s false (.fz d)) (us.map some) fun _=>0
 |us,[],h=>by rw[h.un0];exact⟨⟨rfl,t⟩,fun _=>rfl⟩
 | us,x::xs,h=>by
   obtain⟨u,r,rfl,a,b⟩:=h.un;exact⟨some u,r.map some,fun _=>0,fun _=>0,rfl,(show OAt K c F H (.fz x) u (fun _=>0) from OAt.fz.mpr ⟨a,fun _=>rfl⟩),jQv t b,fun _=>rfl⟩
end
theorem qJt{K:aQ}{x:Str}{st:Stmt}{f:aV}{oc:Value}{od an:Option aV}{osl:Array (Option Value)}{kV doc pm cdv ct:Value}(l:K.lookup f=some ⟨oc,od,.func (bA x qual (jF st) (z6 st) (qW st) .none kV doc pm an cdv ct),osl⟩)(c:PySem.W.codeIn K cdv qual=true)(k:bO K (.ref f)=true)(b:∀(kV doc pm:Value) (an:Option aV) (cdv ct:Value) (us:List Value),us.length=ps.length->bindArgs (bA x qual (jF st) (z6 st) (qW st) .none kV doc pm an cdv ct) ⟨us,[]⟩=pure (ps.zip us)):
  MethAt K x qual st ps f (bA x qual (jF st) (z6 st) (qW st) .none kV doc pm an cdv ct):=⟨vZ1 l c k,(vZ1 l c k).binds b⟩
theorem zK9{K:aQ}{f:Str}:qZe K c [] f:=fun _ h=>nomatch h
theorem zX0{K:aQ}{cs:List Nat}{f:Str}(h:Cls K (c C))(n:x8 K (c C) f)(r:qZe K c cs f):qZe K c (C::cs) f:=fun D hD=>by
 rcases aC.mp hD with rfl|hD
 ·exact⟨h,n⟩
 ·exact r D hD
theorem zQ2{K:aQ}{F:Hp}:∀ns:List Int,DsAt K c F (ns.map V.int) (ns.map D.int)
 |[]=>.nil
 |n::ns=>.cons (.int n) (zQ2 ns)
noncomputable def jVl(K:aQ)(C:aV):Bool:=
 match K.lookup C with
 | some ⟨.type "type",_, .cls kd,zs⟩=>(match zs.toList,kd.mro with
   |[_,_,_,_,some (.builtin m),_],.ref B::rs=>PySem.W.tailIn K vErr rs && (!kd.hasDel && (m == "ValueError.__new__" && B == C))
   |_,_=>false)
 |_=>false
theorem jJk{K:aQ}{C:aV}(q:jVl K C=true):∃nm q N bs bm hdct sn sub ab col dd k0 k1 k2 k3 k5,K.lookup C=some (excClassObj nm q C N bs bm hdct sn sub ab col dd k0 k1 k2 k3 k5 "ValueError.__new__")/\PySem.W.tailIn K vErr bm=true:=by
 unfold jVl at q;split at q
 ·rename_i dd cd sl ho;split at q
  ·rename_i k0 k1 k2 k3 n k5 B bm hs hm;simp only[aE,beq_iff_eq,Bool.not_eq_true']at q;obtain⟨ht,hdel,rfl,rfl⟩:=q;obtain⟨nm,bs,mro,ns,qn,hd,sn,sub,ab,col,del⟩:=cd;dsimp only at hm hdel;subst hm hdel;have hsl:sl=#[k0,k1,k2,k3,some (.builtin "ValueError.__new__"),k5]:=by
    obtain⟨l⟩:=sl;simp only at hs;rw[hs]
   subst hsl;exact⟨nm,qn,ns,bs,bm,hd,sn,sub,ab,col,dd,k0,k1,k2,k3,k5,ho,ht⟩
  ·cases q
 ·cases q
theorem jJy{l:PySem.W.OpenLaw}{q:bZ}{loose:List Str}{XP:(Str->Option Value)->Heap->Prop}{YP:bX->Heap->Prop}{d:DefRec}{K:Params->aQ}{F:Fn}{k:Nat}{x:Str}(hn:l.most=some 63)(hdf:d.params.defaults=[])(hr:Room k callerA)(hY:∀(w:bX) (h:Heap),YP w h->(K w.params).In h)(law:∀ns:List Int,ns.length<=63->∃e,F [.s false (.fz (.nd .lst (ns.map D.int)))]=.ok (.fz (.bl true),e))(hF:∀(w:bX) (mg:Str->Option Value) (fa:aV) (h:Heap),(K w.params).In h->h.Ns cX mg->mg d.name=some (.ref fa)->
   ∃(c:Nat->aV) (fd:aH),c 77=0/\(∀(s:aY) (u:Value),BindsTo s fd ⟨[u],[]⟩ [(x,u)])/\
    ∀base:Heap,(K w.params).In base->base.Ns cX mg->FnOk l.prog w (K w.params) mg base (CXd l.prog w) k fa fd [x] (spD (K w.params) c 1 F)):
  PySem.W.WalkO q loose XP YP l.row.toRowW d [] (fun f vs=>PySem.call f vs):=by
 refine zYb (CX:=fun w=>CXd l.prog w) (sp:=fun w vs H Q E=>∀c:Nat->aV,c 77=0->spD (K w.params) c 1 F vs H Q E) (x:=x) hn (by decide) hdf hr hY (fun w mg fa h hk hN hm=>?_) (fun w H a ns hl hO hS c h77=>?_) fun w H s e s' h=>?_
 ·obtain⟨c,fd,h77,hb,h2⟩:=hF w mg fa h hk hN hm;exact⟨fd,hb,fun base b1 b2=>FnOk.imp (h2 base b1 b2) fun vs H Q E z=>z c h77⟩
 ·obtain⟨e,he⟩:=law ns hl;have h0:hide (hd2 (fun _=>0) fun _=>0) H=H:=by funext a;unfold hide;rw[if_pos (by rfl)]
  have at_:DAt (K w.params) c (hide (hd2 (fun _=>0) fun _=>0) H) (.ref a) (.nd .lst (ns.map D.int)):=by
   exact .nd (k:=.lst) (vs:=ns.map V.int) hS (by rw[aB,aB]) (zQ2 ns).r
  refine⟨[.s false (.fz (.nd .lst (ns.map D.int)))],fun _=>0,fun _=>0,rfl,⟨jQv (fun z=>absurd h77 z) (us:=[.ref a]) (xs:=[.nd .lst (ns.map D.int)]) (.cons at_ .nil),fun a=>by show 0+0<=1;omega,fun a z=>absurd rfl z⟩,?_⟩;rw[he];intro v H' W' Z g;have:=(OAt.fz.mp g.at_).1;cases this;rfl
 ·obtain⟨_,_,_,_,_,_,_,_,_,_,_,_,_,_,_,_,h⟩:=h;exact h
end DX
namespace L2
open PySem PySem.Spec PySem.W PyProof.Rows
theorem zQa{ws:List Str}:∀{its:List Value},Vals (ws.map V.str) its->∃l:List (Str×Tok),its=strValues l/\l.map (·.1)=ws:=by
 induction ws with
 | nil=>
   intro its r;cases r;exact⟨[],rfl,rfl⟩
 | cons w ws ih=>
   intro its r;cases r with
   | cons h t=>
     obtain⟨tk,rfl⟩:=h;obtain⟨l,rfl,e⟩:=ih t;exact⟨(w,tk)::l,rfl,by rw[bD,e]⟩
theorem zKr{X:Cx}:MtR X "str.join" (fun x vs H Q=>∃sep a ws,x=.str sep/\vs=[.ref a]/\SqL X.K H a (ws.map V.str)/\Builtin.Str.tooLong (ws.toArray.foldl (· + ·.length+sep.length) 0)=false/\(Str.join sep ws).length <=aD/\Q (.str (Str.join sep ws)) H):=by
 intro pins s σ H x xs v us Q I rx rs h;obtain⟨sep,a,ws,rfl,rfl,ha,hl,hz,q⟩:=h;obtain⟨t,rfl⟩:=rx;obtain⟨u,rfl,ru⟩:=yI rs;cases(show u=Value.ref a from ru);obtain⟨its,r1,p1,_⟩:=I.list ha;obtain⟨l,rfl,e⟩:=zQa r1;refine call_meets PySem.F.slot_str_join (dD _ _ _) PySem.F.entry_str_join (PySem.F.args_str_join_2 _ _) (meets_str_join_list sep t a l (by rw[e];exact hl)) ⟨p1.isList,?_⟩;match l,e with
 | [p],e=>
   have:ws=[p.1]:=by rw[←e];rfl
   subst this;exact⟨.str p.1,H,I,⟨p.2,rfl⟩,q⟩
 | [],e=>
   have:ws=[]:=by rw[←e];rfl
   subst this;have g:=dJ sep [];refine⟨?_,.str (Builtin.Str.glued sep []),H,I.tok _,⟨_,rfl⟩,?_⟩
   ·show(Builtin.Str.glued sep []).length <=aD;rw[g];exact hz
   ·rw[g];exact q
 | p::p2::r,e=>
   have g:=dJ sep ((p::p2::r).map (·.1));rw[e]at g;refine⟨?_,.str (Builtin.Str.glued sep ((p::p2::r).map (·.1))),H,I.tok _,⟨_,rfl⟩,?_⟩
   ·show(Builtin.Str.glued sep ((p::p2::r).map (·.1))).length <=aD;rw[e,g];exact hz
   ·rw[e,g];exact q
end L2
namespace DX
open PySem L2 PyProof.Rows
variable{es:List Expr}{ss:List (Bool×SV)}{pos apos cpos:Pos}{sep:Str}{j:Nat}{e:Expr}{oe:Oe}{K:aQ}{a:aV}{tb:List (Str×D)}
noncomputable def fmtB(b:Bool):D->Option Str
 |.str y=>cond (decide (y.length<=aD)) (some y) none
 |.int a=>cond (b && decide (a.natAbs.log2<1920)) (some (toString a)) none
 |_=>none
theorem vXg{b:Bool}{d:D}{y:Str}(e:fmtB b d=some y):(d=.str y/\y.length<=aD)\/(b=true/\∃a:Int,d=.int a/\a.natAbs.log2<1920/\y=toString a):=by
 unfold fmtB at e;split at e
 ·rename_i z;cases q:decide (z.length<=aD) <;> rw[q]at e <;> cases e
  exact .inl ⟨rfl,of_decide_eq_true q⟩
 ·rename_i a;cases q:(b && decide (a.natAbs.log2<1920)) <;> rw[q]at e <;> cases e
  obtain⟨q1,q2⟩:=Bool.and_eq_true_iff.mp q;exact .inr ⟨q1,a,rfl,of_decide_eq_true q2,rfl⟩
 ·cases e
noncomputable def evJ:List (Bool×SV)->Str->SV
 |[],out=>fun env=>cond (decide (out.length<=aD)) (.ok (.str out,env)) .no
 |p::r,out=>fun env=>(p.2 env).bind fun q=>(opt (fmtB p.1 q.1)).bind fun y=>cond (decide ((out ++ y).length <=aD)) (evJ r (out ++ y) q.2) .no
noncomputable def svFS(ss:List (Bool×SV)):SV:=evJ ss Str.empty
inductive JD(X:Cx)(c:Nat->aV)(E:XK):List Expr->List (Bool×SV)->Prop
 |nil:JD X c E [] []
 |con {e:Expr} {s:SV} {es:List Expr} {ss:List (Bool×SV)} (h:EV X c E e s) (r:JD X c E es ss):JD X c E (e::es) ((false,s)::ss)
 |fmt {e:Expr} {s:SV} {es:List Expr} {ss:List (Bool×SV)} {pos:Pos} (h:EV X c E e s) (r:JD X c E es ss):JD X c E (.FormattedValue e (-1) none pos::es) ((true,s)::ss)
section
variable{X:Cx}{c:Nat->aV}{E:XK}
theorem jW2(j:JD X c E es ss):∃ts,PJs X es ts/\∀(out:Str) (σ:L2.St) (H:Hp) (Q:VK),tV X.K c E (evJ ss out) σ H Q->vKr ts out σ H Q:=by
 induction j with
 | nil=>
   refine⟨[],.nil,fun out σ H Q h=>?_⟩;obtain⟨env,B,W,cf,w⟩:=h;obtain⟨a,w⟩:=vM w;exact⟨of_decide_eq_true a,w _ H W ⟨.refl,cf,.str _⟩⟩
 | con h _ ih=>
   obtain⟨ts,p,k⟩:=ih;refine⟨_,.cons h.h p,fun out σ H Q hv=>?_⟩;obtain⟨env,B,W,cf,w⟩:=hv;refine⟨env,B,W,cf,wp_mono (fun r w1 u H' W' g=>?_) (fun _ _ q=>q) (qK.mp w)⟩;obtain⟨y,e1,w2⟩:=qG w1;obtain⟨a,w3⟩:=vM w2;have ey:r.1=.str y:=by
    rcases vXg e1 with⟨q,_⟩|⟨q,_⟩
    ·exact q
    ·cases q
   have at_:=g.at_;rw[ey]at at_;cases at_;exact⟨y,rfl,of_decide_eq_true a,k _ _ _ _ (qW6 g.st g.cf w3)⟩
 | fmt h _ ih=>
   obtain⟨ts,p,k⟩:=ih;refine⟨_,.cons (jZs h.h) p,fun out σ H Q hv=>?_⟩;obtain⟨env,B,W,cf,w⟩:=hv;refine⟨env,B,W,cf,wp_mono (fun r w1 u H' W' g=>?_) (fun _ _ q=>q) (qK.mp w)⟩;obtain⟨y,e1,w2⟩:=qG w1;obtain⟨a,w3⟩:=vM w2;have at_:=g.at_;rcases vXg e1 with⟨q,q2⟩|⟨_,i,q,q2,q3⟩
   ·rw [q] at at_;cases at_;exact .inl ⟨y,rfl,q2,_,rfl,of_decide_eq_true a,k _ _ _ _ (qW6 g.st g.cf w3)⟩
   ·rw [q] at at_;cases at_;subst q3;exact .inr ⟨i,rfl,q2,_,rfl,of_decide_eq_true a,k _ _ _ _ (qW6 g.st g.cf w3)⟩
theorem yY{e1 e2:Expr}(j:JD X c E (e1::e2::es) ss):EV X c E (.JoinedStr (e1::e2::es) pos) (svFS ss):=by
 obtain⟨ts,p,k⟩:=jW2 j;exact⟨PE.imp (zKg p) fun σ H Q h=>k _ _ _ _ h⟩
theorem o_sm{name:Str}{id:String}{r:List V->Hp->VK->Prop}{f:List D->Option D}(slot:PySem.Slot "str" name id)(hty:typeOf (.builtin id)=pure (.type "method_descriptor"))(hm:MtR X id fun x vs H Q=>x=.str sep/\r vs H Q)(hp:PrSN X.K c r f)(he:OD X c E e oe)(m:M1 X (.Constant (.str sep) j pos) name apos e cpos)(hs:aX [e] X.env=(false,eval e X.env)::aX [] X.env:=by rfl):OD X c E (.Call (.Attribute (.Constant (.str sep) j pos) name apos) [e] [] cpos) (oL f [oe]):=by
 refine⟨PE.imp (zZv F.plainAttrs_str slot hty hm vYc (qVl he.h qWe hs) m.base m.few m.line hs) fun σ H Q h=>?_⟩;exact⟨rfl,zZn (os:=[oe]) (f:=f) (r:=fun vs H Q=>V.str sep=.str sep/\r vs H Q) (fun us H xs z Q hx e q=>⟨rfl,hp us H xs z Q hx e q⟩) h⟩
noncomputable def vZ3:List D->Option (List Str)
 |[]=>some []
 |d::r=>(vVj d).bind fun i=>(vZ3 r).bind fun xs=>some (i::xs)
theorem qYi{F:Hp}:∀{vs:List V} {ds:List D} {ns:List Str},DsAt K c F vs ds->vZ3 ds=some ns->vs=ns.map V.str
 |vs,[],ns,h,e=>by cases e;rw[h.un0];rfl
 | vs,d::ds,ns,h,e=>by
   obtain⟨v,r,rfl,a,b⟩:=h.un;obtain⟨i,e1,e2⟩:=bnd e;obtain⟨xs,e3,e4⟩:=bnd e2;cases e4;rw[bD,←qYi b e3,qVb a e1]
noncomputable def jnS(sep:Str)(ws:List Str):Option D:=cond (!Builtin.Str.tooLong (ws.toArray.foldl (· + ·.length+sep.length) 0) && decide ((Str.join sep ws).length <=aD)) (some (.str (Str.join sep ws))) none
noncomputable def vVp(sep:Str):List D->Option D
 |[.nd .lst ds]=>(vZ3 ds).bind (jnS sep)
 |[.nd .tup ds]=>(vZ3 ds).bind (jnS sep)
 |_=>none
noncomputable def jQy(K:aQ)(sep:Str):List V->Hp->VK->Prop:=fun vs H Q=>∃a ws,vs=[.ref a]/\(SqL K H a (ws.map V.str)\/SqT K H a (ws.map V.str))/\Builtin.Str.tooLong (ws.toArray.foldl (· + ·.length+sep.length) 0)=false/\(Str.join sep ws).length <=aD/\Q (.str (Str.join sep ws)) H
theorem zQo{ws:List Str}{z:D}(e:jnS sep ws=some z):Builtin.Str.tooLong (ws.toArray.foldl (· + ·.length+sep.length) 0)=false/\(Str.join sep ws).length <=aD/\z=.str (Str.join sep ws):=by
 unfold jnS at e;grind
theorem zY7:PrSN K c (jQy K sep) (vVp sep):=fun us H xs z Q hx e q=>by
 unfold vVp at e;split at e
 ·obtain⟨ws,e1,e2⟩:=bnd e;obtain⟨a,b,rfl⟩:=zQo e2;obtain⟨u,rfl,h⟩:=ds1 hx;obtain⟨p,vs,rfl,h1,h2⟩:=h.un;refine⟨p,ws,rfl,.inl ?_,a,b,q _ fun _=>.str _⟩;rw[←qYi h2 e1];exact h1
 ·obtain⟨ws,e1,e2⟩:=bnd e;obtain⟨a,b,rfl⟩:=zQo e2;obtain⟨u,rfl,h⟩:=ds1 hx;obtain⟨p,vs,rfl,h1,h2⟩:=h.un;refine⟨p,ws,rfl,.inr ?_,a,b,q _ fun _=>.str _⟩;rw[←qYi h2 e1];exact h1
 ·cases e
theorem zXg:MtR X "str.join" (fun x vs H Q=>x=.str sep/\jQy X.K sep vs H Q):=by
 intro pins s σ H x xs v us Q I rx rs h;obtain⟨rfl,a,ws,rfl,ha,hl,hz,q⟩:=h;rcases ha with ha|ha
 ·exact zKr pins s σ H (.str sep) [.ref a] v us Q I rx rs ⟨sep,a,ws,rfl,rfl,ha,hl,hz,q⟩
 obtain⟨t,rfl⟩:=rx;obtain⟨u,rfl,ru⟩:=yI rs;cases(show u=Value.ref a from ru);obtain⟨its,r1,p1,_⟩:=I.tuple ha;obtain⟨l,rfl,e⟩:=zQa r1;refine call_meets PySem.F.slot_str_join (dD _ _ _) PySem.F.entry_str_join (PySem.F.args_str_join_2 _ _) (meets_str_join_tuple sep t a l (by rw[e];exact hl)) ⟨by obtain⟨o,e1,e2,n,e3⟩:=p1;exact⟨o,n,e1,e2,e3⟩,?_⟩;match l,e with
 | [p],e=>
   have:ws=[p.1]:=by rw[←e];rfl
   subst this;exact⟨.str p.1,H,I,⟨p.2,rfl⟩,q⟩
 | [],e=>
   have:ws=[]:=by rw[←e];rfl
   subst this;have g:=dJ sep [];refine⟨?_,.str (Builtin.Str.glued sep []),H,I.tok _,⟨_,rfl⟩,?_⟩
   ·show(Builtin.Str.glued sep []).length <=aD;rw[g];exact hz
   ·rw[g];exact q
 | p::p2::r,e=>
   have g:=dJ sep ((p::p2::r).map (·.1));rw[e]at g;refine⟨?_,.str (Builtin.Str.glued sep ((p::p2::r).map (·.1))),H,I.tok _,⟨_,rfl⟩,?_⟩
   ·show(Builtin.Str.glued sep ((p::p2::r).map (·.1))).length <=aD;rw[e,g];exact hz
   ·rw[e,g];exact q
theorem vYf(he:OD X c E e oe)(m:M1 X (.Constant (.str sep) j pos) "join" apos e cpos)(hs:aX [e] X.env=(false,eval e X.env)::aX [] X.env:=by rfl):OD X c E (.Call (.Attribute (.Constant (.str sep) j pos) "join" apos) [e] [] cpos) (oL (vVp sep) [oe]):=o_sm F.slot_str_join F.type_str_join zXg zY7 he m hs
noncomputable def vWm(w:bX)(K:aQ)(c:Nat->aV)(a:aV)(tb:List (Str×D)):Prop:=∃o es ep,K.lookup a=some o/\o.ExactDict/\o.data=.dict es ep/\(∀P:bZ,KeysOf (zU P w) es)/\∀(P:bZ) (k:Str) (d:D),tb.lookup k=some d->∃u v,findBy (zU P w).is es (.inr k)=some u/\RelV v u/\∀F,DAt K c F v d
noncomputable def kdD(tb:List (Str×D)):D->Option D
 |.str k=>tb.lookup k
 |_=>none
noncomputable abbrev oKd(tb:List (Str×D)):Oe->Oe:=o1 (kdD tb)
theorem jW3(hd:vWm X.w X.K c a tb):IxR X (fun x y H Q=>x=.ref a/\∃k d,y=.str k/\tb.lookup k=some d/\∀v,(∀F,DAt X.K c F v d)->Q v H):=by
 intro value slice pins s σ H x y v u Q I rx ry h hs;obtain⟨rfl,k,d,rfl,l,q⟩:=h;obtain⟨o,es,ep,e1,e2,e3,e4,e5⟩:=hd;cases rx;obtain⟨u',v',f1,f2,f3⟩:=e5 X.prog k d l;have ho:=I.kIn a o e1;refine tail_any ⟨o,ho,e2.1⟩ PySem.F.slot_dict_getitem.lookup (wpAny_getItem_of (vWh (k:=.inr k) ry) ⟨o,es,ep,ho,e2,e3,e4 X.prog,fun _=>rfl⟩ f1 ⟨v',H,I.tok _,f2,q v' f3⟩) hs
theorem o_kd{x:Str}{p:Pos}{b:Expr}{ob:Oe}(hm:X.mg x=some (.ref a))(hd:vWm X.w X.K c a tb)(hb:OD X c E b ob)(hg:Gl X x:=by rfl)(hs:qXd b:=by exact fun _ _=>rfl)(hn:(x == ("__debug__":Str))=false:=by decide):OD X c E (.Subscript (.Name x p) b pos) (oKd tb ob):=by
 refine⟨PE.imp (jQ0 (jW3 hd) (vN (v:=.ref a) hg hm rfl hn) hb.h hs) fun σ H Q h=>?_⟩;exact zZr (r:=fun y H Q=>V.ref a=.ref a/\∃k d,y=.str k/\tb.lookup k=some d/\∀v,(∀F,DAt X.K c F v d)->Q v H) (f:=kdD tb) (fun u H x z Q hx e q=>by
  unfold kdD at e;split at e
  ·cases hx;exact⟨rfl,_,_,rfl,e,q⟩
  ·cases e) h
end
section
variable{X:Cx}{c:Nat->aV}{E:XK}{e:Expr}{lo hi:Option Expr}{pos p2:Pos}{o:Oe}{sl sh:Option SV}
theorem zYl:SlR X (fun x lo hi H Q=>∃z,x=.str z/\z.length<=aD/\Q (.str (Txt.slice z lo hi)) H):=by
 intro pins s σ H x v vl vu lo hi sl Q I rx hs pl pu h;obtain⟨z,rfl,hz,q⟩:=h;obtain⟨t,rfl⟩:=rx;have k:∀(l u:Option (Int×Tok)),l.map (·.1)=lo->u.map (·.1)=hi->∀(t' :Tok) (k:Nat),L2.EP X pins σ Q (.str (Txt.slice z (l.map (·.1)) (u.map (·.1))) t') {s with toks:=k}:=fun l u e1 e2 t' k=>⟨.str (Txt.slice z lo hi),H,I.tok _,⟨_,by rw[e1,e2]⟩,q⟩
 cases pl with
 | none=>
   cases pu with
   |none=>exact⟨"str",_,PySem.F.slot_str_getitem.lookup,dD _ _ _,wpAny_getItem_str_slice (l:=none) (u:=none) (st:=none) hs rfl (post_val_or_str ⟨aG (Txt.slice_le z _ _) hz,k none none rfl rfl⟩)⟩
   |int j tj=>exact⟨"str",_,PySem.F.slot_str_getitem.lookup,dD _ _ _,wpAny_getItem_str_slice (l:=none) (u:=some (j,tj)) (st:=none) hs rfl (post_val_or_str ⟨aG (Txt.slice_le z _ _) hz,k none (some (j,tj)) rfl rfl⟩)⟩
 | int i ti=>
   cases pu with
   |none=>exact⟨"str",_,PySem.F.slot_str_getitem.lookup,dD _ _ _,wpAny_getItem_str_slice (l:=some (i,ti)) (u:=none) (st:=none) hs rfl (post_val_or_str ⟨aG (Txt.slice_le z _ _) hz,k (some (i,ti)) none rfl rfl⟩)⟩
   |int j tj=>exact⟨"str",_,PySem.F.slot_str_getitem.lookup,dD _ _ _,wpAny_getItem_str_slice (l:=some (i,ti)) (u:=some (j,tj)) (st:=none) hs rfl (post_val_or_str ⟨aG (Txt.slice_le z _ _) hz,k (some (i,ti)) (some (j,tj)) rfl rfl⟩)⟩
noncomputable def cutS(lo hi:Option Int):D->Option D
 |.str z=>cond (decide (z.length<=aD)) (some (.str (Txt.slice z lo hi))) none
 |_=>none
noncomputable def qZh(o:Oe)(lo hi:Option SV):SV:=fun env=>(evO o env).bind fun r=>(evI lo r.2).bind fun r1=>(evI hi r1.2).bind fun r2=>cond r.1.st ((opt (rsv r2.2 r.1)).bind fun x=>(opt (cutS r1.1 r2.1 x)).bind fun z=>.ok (z,r2.2)) .no
theorem qVg(he:OD X c E e o)(hl:PD X c E lo sl)(hu:PD X c E hi sh):EV X c E (.Subscript e (.Slice lo hi none p2) pos) (qZh o sl sh):=by
 refine⟨PE.imp (vQg zYl he.h hl.h hu.h) fun σ H Q=>?_⟩;rintro⟨env,B,W,cf,w⟩;refine qQo cf (qK.mp w) fun r w1 u H1 W1 g=>?_
 refine⟨r.2,B,W1,g.cf,wp_mono (fun r2 h2 H2 W2 st2 cf2=>?_) (fun _ _ he=>he.back g.st) (qK.mp w1)⟩;refine⟨r2.2,B,W2,cf2,wp_mono (fun r3 h3 H3 W3 st3 cf3=>?_) (fun _ _ he=>he.back (g.st.trans st2)) (qK.mp h2)⟩;obtain⟨hs,w4⟩:=vM h3;have ha:=(g.at_.step st2.same hs).step st3.same hs;obtain⟨x,e0,w5⟩:=qG w4;obtain⟨y,e1,w6⟩:=qG w5;have d0:=jC cf3 ha e0;unfold cutS at e1;split at e1
 ·rename_i z;cases q:decide (z.length<=aD) <;> rw[q]at e1 <;> cases e1
  cases d0;exact⟨z,rfl,of_decide_eq_true q,w6 _ H3 W3 ⟨(g.st.trans st2).trans st3,cf3,.str _⟩⟩
 ·cases e1
end
end DX
namespace L2
open PySem PySem.Spec PySem.W PyProof.Rows SG
noncomputable def StK(prog:bZ)(w:bX)(a:aV)(l:List L2.Key):HO:=.ext (fun h=>SetK prog w a l h)
theorem jV0{prog:bZ}{w:bX}{H:Hp}{a:aV}{l:List L2.Key}{h:Heap}(p:SetK prog w a l h):zL prog w H h a (StK prog w a l):=by
 refine⟨p,?_,fun _ _ q k=>q.at k⟩;obtain⟨o,_,_,_,e,_⟩:=p;exact⟨o,e⟩
section
variable{X:Cx}
theorem vKn:j8 X (.builtin "len") (fun xs H Q=>∃(a:aV) (l:List L2.Key),xs=[.ref a]/\H a=some (StK X.prog X.w a l)/\Q (.int (l.length:Nat)) H):=by
 intro pins s σ H xs us Q I r h;obtain⟨a,l,rfl,ha,q⟩:=h;obtain⟨u,rfl,ru⟩:=yI r;cases(show u=Value.ref a from ru);obtain⟨⟨o,es,ep,t,e1,hex,hda,hel,hme,hsm,hft,z⟩,_,_⟩:=(show zL X.prog X.w H s.heap a (StK X.prog X.w a l) from I.hok a _ ha)
 refine call_len_set e1 hex hda hft (by have:es.size<4096:=hsm;omega) ?_
 rw[z];exact⟨.int (l.length:Nat),H,I.tok _,⟨_,rfl⟩,q⟩
theorem zV3:∀{k:L2.Key} {u:Value},RelV (kV k) u->yM k u=true
 |.inl _,_,⟨_,e⟩=>by rw[e];exact vZb _ _
 |.inr _,_,⟨_,e⟩=>by rw[e];exact qJv _ _
theorem zQm:∀{its:List Value} {xs:List L2.Key},Vals (xs.map kV) its->zVg its xs
 |[],_,_,i,v,h=>by simp at h
 |u::us,[],r,i,v,h=>by cases r
 | u::us,x::xs,r,0,v,h=>by
   cases h;cases r with
   |cons a _=>exact zV3 a
 | u::us,x::xs,r,i + 1,v,h=>by
   cases r with
   |cons _ b=>exact zQm b i v h
theorem vKm(hc:X.calm=true):j8 X (.type "set") (fun xs H Q=>∃(a:aV) (ts:List L2.Key) (b:Bool),xs=[.ref a]/\cond b (SqL X.K H a (ts.map kV)) (SqT X.K H a (ts.map kV))/\ts.length<=2000/\∀p,H p=none->Q (.ref p) (upd H p (StK X.prog X.w p (fmK (vK ts) ts.length)))):=by
 intro pins s σ H xs us Q I r h;obtain⟨a,ts,b,rfl,hl,few,q⟩:=h;obtain⟨u,rfl,ru⟩:=yI r;cases(show u=Value.ref a from ru);obtain⟨its,rv,pl⟩:∃its:List Value,Vals (ts.map kV) its/\cond b (s.heap.IsList a its.toArray) (s.heap.IsTuple a its.toArray):=by
  cases b with
  |true=>obtain⟨its,rv,pl,_⟩:=I.list hl;exact⟨its,rv,pl.isList⟩
  |false=>obtain⟨its,rv,pl,_⟩:=I.tuple hl;exact⟨its,rv,pl⟩
 have len:=rv.length;rw[aB]at len;refine zZh (I.ok.hd hc) b pl (xs:=ts) (by simpa using zQm rv) (by rw[aR,←len];show ts.length+1<4096;omega) fun h' tk g kept=>?_
 have e:its.toArray.size=ts.length:=by rw[aR,←len]
 rw[e]at g;exact⟨.ref _,_,I.laid (t' :=tk) (a:=s.heap.objs.size) (o:=StK X.prog X.w s.heap.objs.size _) (h' :=h') (fun b o e=>kept b o (aL e) e) (aP _) (jV0 g),rfl,q _ (I.hok.fresh (aP _))⟩
end
end L2
namespace DX
open PySem L2 PyProof.Rows SG
section
variable{X:Cx}{K:aQ}{c:Nat->aV}{E:XK}{e:Expr}{o:Oe}{p pos p2 pos2:Pos}
noncomputable def alK:List D->Option (List L2.Key)
 |[]=>some []
 |d::ds=>(vKx d).bind fun k=>(alK ds).bind fun r=>some (k::r)
theorem zWe{F:Hp}:∀{vs:List V} {ds:List D} {ts:List L2.Key},DsAt K c F vs ds->alK ds=some ts->vs=ts.map kV
 |vs,[],ts,h,e=>by cases e;rw[h.un0];rfl
 | vs,d::ds,ts,h,e=>by
   obtain⟨v,r,rfl,a,b⟩:=h.un;obtain⟨k,e1,e2⟩:=bnd e;obtain⟨xs,e3,e4⟩:=bnd e2;cases e4;rw[bD,←zWe b e3,vQk a e1]
noncomputable def zZz:List D->Option (Bool×List L2.Key)
 |[.nd .lst ds]=>(alK ds).bind fun ts=>some (true,ts)
 |[.nd .tup ds]=>(alK ds).bind fun ts=>some (false,ts)
 |_=>none
theorem vwsK{T:Fp}{H:Hp}{us:List V}{xs:List D}{b:Bool}{ts:List L2.Key}(hv:Vws K c (hide T H) H us xs)(e:zZz xs=some (b,ts)):∃p,us=[.ref p]/\cond b (SqL K H p (ts.map kV)) (SqT K H p (ts.map kV)):=by
 unfold zZz at e;split at e
 all_goals first
  |cases e
  | obtain⟨ts',e1,e2⟩:=bnd e
    cases e2;obtain⟨u,rfl,v⟩:=vws1 hv;obtain⟨p,vs,rfl,h1,h2⟩:=v.un hide_sub;rw[zWe h2 e1]at h1;exact⟨p,rfl,h1⟩
noncomputable abbrev jQ5(ts:List L2.Key):List L2.Key:=fmK (vK ts) ts.length
noncomputable def lenTD(xs:List D):Option D:=match zZz xs with
 |some (_,ts)=>cond (decide (ts.length<=2000)) (some (.int ((jQ5 ts).length :Nat))) none
 |none=>none
noncomputable def zZt(X:Cx):List V->Hp->VK->Prop:=fun xs H Q=>∃(a:aV) (ts:List L2.Key) (b:Bool),xs=[.ref a]/\cond b (SqL X.K H a (ts.map kV)) (SqT X.K H a (ts.map kV))/\ts.length<=2000/\∀p,H p=none->Q (.ref p) (upd H p (StK X.prog X.w p (jQ5 ts)))
noncomputable def rLeT(X:Cx):List V->Hp->VK->Prop:=fun xs H Q=>∃(a:aV) (l:List L2.Key),xs=[.ref a]/\H a=some (StK X.prog X.w a l)/\Q (.int (l.length:Nat)) H
noncomputable def rTw(r1 r2:List V->Hp->VK->Prop):List V->Hp->VK->Prop:=fun xs H Q=>r1 xs H fun x H1=>r2 [x] H1 Q
theorem zY6:PrA X.K c (rTw (zZt X) (rLeT X)) lenTD:=fun us H T xs z Q hb hv e q=>by
 unfold lenTD at e;split at e
 ·rename_i b ts e1;obtain⟨q1,q2⟩:=zM e;cases q2;obtain⟨p,rfl,h1⟩:=vwsK hv e1;exact⟨p,ts,b,rfl,h1,of_decide_eq_true q1,fun P hP=>⟨P,_,rfl,upd_same,q _ _ (.upd hP) (.int _)⟩⟩
 ·cases e
theorem jVs(hc:X.calm=true)(hg:Gl X "set")(hm:X.mg "set"=none)(hg2:Gl X "len")(hm2:X.mg "len"=none)(h1:OD X c E e o)(hs:aX [e] X.env=[(false,eval e X.env)]:=by rfl)(h0:aX [] X.env=[]:=by rfl)(he:aX [Expr.Call (.Name "set" p) [e] [] pos] X.env=(false,eval (.Call (.Name "set" p) [e] [] pos) X.env)::aX [] X.env:=by rfl):
  EV X c E (.Call (.Name "len" p2) [.Call (.Name "set" p) [e] [] pos] [] pos2) (svA lenTD [o]):=by
 have ha:=(qU h1 qJ (by rw[hs,h0])).h;have:PE X (.Call (.Name "len" p2) [.Call (.Name "set" p) [e] [] pos] [] pos2) (tCB (rLeT X) (vVi (tCB (zZt X) _) tNil)):=
  vW5 vKn hg2 hm2 Boot.«len» (qVl (qJs (vKm hc) hg hm Boot.«set» ha (by decide) (by decide) (by rw[hs,h0]) (by rw[h0];rfl)) qWe he) (by decide) (by decide) he (by rw[h0];rfl)
 exact⟨PE.imp this fun _ _ _ h=>jQt (r:=rTw (zZt X) (rLeT X)) zY6 h⟩
end
end DX
namespace L2
open PySem PySem.Spec PyProof.Rows
noncomputable abbrev Cx.mute(X:Cx):Cx:={X with xe:=fun _ _=>False}
section
variable{X:Cx}{pins:List (aV×Obj)}{σ:St}{H:Hp}{s:aY}
theorem Inv.mute(I:Inv X pins σ H s):Inv X.mute pins σ H s:=
 ⟨⟨I.ok.mod,I.ok.kind,I.ok.glob,I.ok.blt,I.ok.above,I.ok.inj,I.ok.has,I.ok.cab,I.ok.hd,I.ok.frames,I.ok.stk,I.ok.exf,I.ok.bs,I.ok.bsz,I.ok.noex,I.ok.exfs,I.ok.funs,I.ok.frf⟩,
   I.os,I.bare,I.base,I.loc,I.cell,I.free,I.freeC,I.pin,I.hok,I.len⟩
theorem Inv.unmute(I:Inv X.mute pins σ H s):Inv X pins σ H s:=
 ⟨⟨I.ok.mod,I.ok.kind,I.ok.glob,I.ok.blt,I.ok.above,I.ok.inj,I.ok.has,I.ok.cab,I.ok.hd,I.ok.frames,I.ok.stk,I.ok.exf,I.ok.bs,I.ok.bsz,I.ok.noex,I.ok.exfs,I.ok.funs,I.ok.frf⟩,
   I.os,I.bare,I.base,I.loc,I.cell,I.free,I.freeC,I.pin,I.hok,I.len⟩
end
end L2
namespace DX
open PySem L2 PyProof.Rows
noncomputable def vVq:Slot->Slot
 |.s _ (.fz d)=>.s false (.fz d)
 |_=>.un
theorem SlAt.drop{K:aQ}{c:Nat->aV}{F F' H H' :Hp}(e:Same F F'):∀{env:Ev} {σ:L2.St} {Z:Fp},SlAt K c F H env σ Z->SlAt K c F' H' (env.map vVq) σ (fun _=>0)
 |[],_,_,h=>⟨⟨h.1.1,h.1.2.same e⟩,fun _=>rfl⟩
 | s::env,_,_,h=>by
   obtain⟨x,r,Z1,Z2,a,b,cc,d⟩:=h;refine⟨x,r,fun _=>0,fun _=>0,a,?_,SlAt.drop e cc,fun _=>rfl⟩;cases s with
   |un=>exact fun _=>rfl
   | s io o=>
     cases o with
     |ow k os=>exact fun _=>rfl
     | fz y=>
       cases x with
       |none=>exact b.elim
       | some v=>
         have b' :OAt K c F H (.fz y) v Z1:=b;exact qY7 (b'.1.same e)
theorem vQw{β:Type}:∀{l:List (Nat×β)} {a:Nat} {b:β},l.lookup a=some b->(a,b)∈l
 |[],_,_,h=>by cases h
 | (x,y)::l,a,b,h=>by
   rw[List.lookup_cons]at h;cases z:a == x with
   |true=>rw[z]at h;cases h;rw[beq_iff_eq.mp z];exact aM
   |false=>rw[z]at h;exact aI _ (vQw h)
end DX
namespace L2
open PySem PySem.Spec PyProof.Rows PySem.Builtin.Str
section
variable{X:Cx}{CX:CXT}{k:Nat}{f:aV}{fd:aH}{ps:List Str}{sp:Sp}{dvs:List V}{ds:List Value}{E:XK}{x:Str}{p pos:Pos}{e:Expr}{es:List Expr}{t:TA}{i:Nat}
theorem zW5(F:FnOk X.prog X.w X.K X.mg X.base CX k f fd ps sp)(hr:Room k X.A)(hk:bO X.K (.ref f)=true)(hb:j9 X.K fd ps ds)(hd:Vals dvs ds)(hx:jD CX X E)(hv:PE X (.Name x p) (tVar i))(ha:PA X (e::es) t)(he:aX (e::es) X.env=(false,eval e X.env)::aX es X.env)(hpl:(cZ pos (aX es X.env)).any (·.1)=false):
  PE X (.Call (.Name x p) (e::es) [] pos) (fun σ H Q=>σ[i]?=some (some (.ref f))/\zZp sp dvs E t σ H Q):=by
 intro pins s σ H Q I h;refine dF (thn (hv pins s σ H (fun v H1=>v=.ref f/\H1=H) I ⟨.ref f,h.1,rfl,rfl⟩) fun u s1 ⟨v,H1,I1,rv,ev,eH⟩=>?_);subst ev eH;cases(show u=Value.ref f from rv);refine PySem.W.callWith_K (h₀:=X.base) I1.ok.mod.kin hk (thn (ha pos pins s1 σ H1 _ I1 h.2) fun us s2 ⟨vs,H2,I2,r,q⟩=>⟨I2.kIn,?_⟩) he hpl;exact vZp F hr hb hd hx I2 r q
theorem zWl{prog:bZ}{w:bX}{A:cB}{Eh:Value->aY->Prop}{s:aY}{z y:Str}{t u:Tok}{Q:Value->aY->Prop}(hy:(y.length == 0)=false)(hz:z.length+2<=aD)(h:∀l o k,l.map (·.1)=Txt.split z y->o=({cls:=.type "list",data:=.seq (strValues l).toArray }:Obj)->Q (.ref s.heap.objs.size) {s with heap:=s.heap.push o,toks:=k}):
  bJ (model prog w) A (call (.builtin "str.split") [.str z t,.str y u]) Q Eh s:=by
 have hn:(partsBetween z (occurrences z y 0 z.length (z.length+1)) y.length).length <=aD:=by
  have:=StrLaws.occ_length_le z y 0 z.length (z.length+1);rw[length_partsBetween];omega
 have hz' :z.length<=aD:=by omega
 by_cases h1:(decide (z.length<y.length) || decide (strKind z<strKind y))=true
 ·exact call_meets F.slot_str_split (dD _ _ _) F.entry_str_split (F.args_str_split_2 _ _) (meets_str_split_cannot_occur z y t u h1) (h [(z,t)] _ s.toks (by unfold Txt.split;rw[if_pos h1];rfl) rfl)
 ·have h2:=Bool.eq_false_iff.mpr h1;by_cases hf:(occurrences z y 0 z.length (z.length+1)).isEmpty =true
  ·exact call_meets F.slot_str_split (dD _ _ _) F.entry_str_split (F.args_str_split_2 _ _) (meets_str_split_not_found z y t u h2 hy hf) (h [(z,t)] _ s.toks (by unfold Txt.split;rw[if_neg h1,if_pos hf];rfl) rfl)
  ·refine call_meets F.slot_str_split (dD _ _ _) F.entry_str_split (F.args_str_split_2 _ _) (meets_str_split_sep z y t u h2 hy (Bool.eq_false_iff.mpr hf) hz' hn) ?_
   have:=h (numbered s.toks (partsBetween z (occurrences z y 0 z.length (z.length+1)) y.length)) {cls:=.type "list",data:=.seq (strsFrom s.toks (partsBetween z (occurrences z y 0 z.length (z.length+1)) y.length)).toArray } (s.toks+(partsBetween z (occurrences z y 0 z.length (z.length+1)) y.length).length) (by rw[numbered_texts];unfold Txt.split;rw[if_neg h1,if_neg hf]) (by rw[strsFrom_eq]);exact this
theorem vVx:∀{l:List (Str×Tok)} {ws:List Str},l.map (·.1)=ws->Vals (ws.map V.str) (strValues l)
 |[],_,e=>by cases e;exact .nil
 | (a,t)::l,_,e=>by
   cases e;exact .cons ⟨t,rfl⟩ (vVx rfl)
theorem zWm(z y:Str):(Txt.split z y).length <=z.length+2:=by
 unfold Txt.split;split
 ·simp
 ·split
  ·simp
  ·have:=StrLaws.occ_length_le z y 0 z.length (z.length + 1);rw[length_partsBetween];omega
theorem zXf:MtR X "str.split" (fun x vs H Q=>∃z y,x=.str z/\vs=[.str y]/\(y.length == 0)=false/\z.length+2<=aD/\∀l,H l=none->Q (.ref l) (upd H l (.lst ((Txt.split z y).map V.str)))):=by
 intro pins s σ H x xs v us Q I rx rs h;obtain⟨z,y,rfl,rfl,hy,hz,q⟩:=h;obtain⟨t,rfl⟩:=rx;obtain⟨u,rfl,ru⟩:=yI rs;obtain⟨t2,rfl⟩:=ru;refine zWl hy hz fun l o k e eo=>?_
 subst eo;exact⟨.ref s.heap.objs.size,_,I.laid (t' :=k) (fun b u e=>aK _ e) (aP _) (show zL X.prog X.w _ _ _ (.lst _) from⟨by rw[aB];exact aG (zWm z y) hz,_,0,vVx e,Heap.get?_push_at rfl rfl⟩),rfl,q _ I.fresh⟩
end
end L2
namespace DX
open PySem L2 PyProof.Rows
variable{j:Nat}{y:Str}
noncomputable def vVr(tb:List (Nat×Fn))(i:Nat)(as:List Am):SE:=fun env=>match env[i]? with
 | some (.s _ (.fz (.fn j)))=>match tb.lookup j with
   |some F=>qY F as env
   |none=>.no
 |_=>.no
noncomputable def FnT(X:Cx)(c:Nat->aV)(n:Nat)(tb:List (Nat×Fn)):Prop:=∀j F,(j,F)∈tb->∃k fd ps,Room k X.A/\FnOk X.prog X.w X.K X.mg X.base (CXd X.prog X.w) k (c j) fd ps (spD X.K c n F)/\bO X.K (.ref (c j))=true/\j9 X.K fd ps []
section
variable{X:Cx}{c:Nat->aV}{E:XK}{n i:Nat}{tb:List (Nat×Fn)}{x:Str}{p pos:Pos}{e:Expr}{es:List Expr}{as:List Am}
theorem zQx:FnT X c n []:=fun _ _ h=>by cases h
theorem zXy{k:Nat}{f:aV}{fd:aH}{ps:List Str}{F:Fn}(e1:X.mg y=some (.ref (c j)))(e2:X.mg y=some (.ref f))(hr:Room k X.A)(G:FnOk X.prog X.w X.K X.mg X.base (CXd X.prog X.w) k f fd ps (spD X.K c n F))(hk:bO X.K (.ref f)=true)(hb:j9 X.K fd ps [])(t:FnT X c n tb):FnT X c n ((j,F)::tb):=fun j' F' h=>by
 have e3:c j=f:=Value.ref.inj (Option.some.inj (e1.symm.trans e2));subst e3;rcases aC.mp h with h|h
 ·cases h;exact⟨k,fd,ps,hr,G,hk,hb⟩
 ·exact t j' F' h
theorem vXj(T:FnT X c as.length tb)(hv:PE X (.Name x p) (tVar i))(hx:jD (CXd X.prog X.w) X E)(ha:OsD X c E (e::es) (as.map Am.o))(he:aX (e::es) X.env=(false,eval e X.env)::aX es X.env:=by rfl)(hpl:(cZ pos (aX es X.env)).any (·.1)=false:=by rfl):
  ED X c E (.Call (.Name x p) (e::es) [] pos) (vVr tb i as):=by
 refine⟨fun pins s σ H Q I h=>?_⟩;obtain⟨env,B,W,cf,w⟩:=h;unfold vVr at w;split at w
 ·rename_i io j e1;split at w
  ·rename_i F e2;obtain⟨v,Z1,R,h1,h2,_⟩:=cf.focus e1;cases v with
   |none=>exact h2.elim
   | some v=>
     have h2' :OAt X.K c (hide (hd2 B W) H) H (.fz (.fn j)) v Z1:=h2;cases h2'.1;obtain⟨k,fd,ps,hr,G,hk,hb⟩:=T j F (vQw e2);exact zW5 G hr hk hb .nil hx hv ha.h he hpl pins s σ H Q I ⟨h1,vWu ⟨env,B,W,cf,w⟩⟩
  ·exact w.elim
 ·exact w.elim
noncomputable def vYm(y:Str)(o:Oe):SE:=fun env=>(evO o env).bind fun r=>(opt (rsv r.2 r.1)).bind fun x=>match x with
 |.str z=>cond (!(y.length == 0) && decide (z.length+2<=1000000)) (.ok (.ow .lst (((Txt.split z y).map D.str).map .fz),r.2)) .no
 |_=>.no
theorem zQ1{K:aQ}{F:Hp}:∀ws:List Str,DsAt K c F (ws.map V.str) (ws.map D.str)
 |[]=>.nil
 |w::ws=>.cons (.str w) (zQ1 ws)
theorem jQg{o:Expr}{oo:Oe}{apos cpos p2:Pos}(ho:OD X c E o oo)(m:M1 X o "split" apos (.Constant (.str y) j p2) cpos)(hs:aX [.Constant (.str y) j p2] X.env=(false,eval (.Constant (.str y) j p2) X.env)::aX [] X.env:=by rfl):ED X c E (.Call (.Attribute o "split" apos) [.Constant (.str y) j p2] [] cpos) (vYm y oo):=by
 refine⟨PE.imp (zZv F.plainAttrs_str F.slot_str_split F.type_str_split zXf ho.h (qVl vYc qWe hs) m.base m.few m.line hs) fun σ H Q h=>?_⟩;obtain⟨env,B,W,cf,w⟩:=h;refine qQo cf (qK.mp w) fun r w1 u H1 W1 g=>?_
 obtain⟨x,e1,w2⟩:=qG w1;cases x with
 | str z=>
   have d0:=jC g.cf g.at_ e1;cases d0;obtain⟨hc,w3⟩:=vM w2;rw[aE,Bool.not_eq_true']at hc;have hz:=of_decide_eq_true hc.2;refine⟨rfl,z,y,rfl,rfl,hc.1,aG hz (by decide),fun l hl=>?_⟩;refine w3 _ _ W1 _ ((Got.lay g.cf hl (.upd hl) (k:=.lst) upd_same (zQ1 _)).back g.st)
 |non=>exact w2.elim
 |int _=>exact w2.elim
 |bl _=>exact w2.elim
 |fn _=>exact w2.elim
 |nd _ _=>exact w2.elim
end
end DX
namespace L2
open PySem PySem.Spec PyProof.Rows
noncomputable def Itsg(x:Str):It:=⟨fun i _=>i<x.cps.size,fun i H v H' =>H' =H/\∃c,x.cps[i]?=some c/\v=.str ⟨#[c]⟩,fun i _=>i=x.cps.size⟩
theorem vWq{P:bZ}{w:bX}{K:aQ}{tg:Expr}{x:Str}{t:Tok}{it:aV}{nm:String}(hnm: ["enumerate","zip","dict_itemiterator","dict_reverseitemiterator","odict_iterator","itertools.zip_longest","itertools.pairwise"].contains nm=false)(W:∀A:cB,A.handled=none->Walks P w A it [it] [it] x.cps.size (SignAt x) fun i h=>h.IsStrIter it nm x t i)(hs:∀(A:cB) (i:Nat) (s:aY) (Q:Value->aY->Prop) (E:Value->aY->Prop),s.heap.IsStrIter it nm x t i->Q (.ref it) s->bJ (model P w) A (pyIter (.ref it)) Q E s):Turn P w K tg (Itsg x) [it] it (fun i h=>h.IsStrIter it nm x t i) where
 mem:=by simp
 obj:=fun i h st b hb=>by
  have e:b=it:=by simpa using hb
  subst e;obtain⟨o,e,c,d⟩:=st;exact⟨o,e,fun v z=>by rw[d]at z;cases z⟩
 keep:=fun i h h' st k=>by
  obtain⟨o,e,c,d⟩:=st;exact⟨o,k it (by simp) o e,c,d⟩
 item:=by
  intro X hP hw hK hc i pins s σ H E I hf st hg;subst hP hw hK;obtain⟨f0,f1,f2,f3,f4,f5⟩:=hf it (by simp);refine(W X.A (I.ok.hd hc)).item i s _ _ hg st fun v h' tk pv st2 keep=>?_
  obtain⟨cc,u,hcc,rfl⟩:=pv;have I1:Inv X pins σ H {s with heap:=h',toks:=tk}:=I.turned (t' :=tk) (fun b o hb e=>keep b o (by simpa using hb) e) f0 f1 f3 f4 f5;obtain⟨o,e,c,d⟩:=id st2;exact⟨_,rfl,vK0 (s:={s with heap:=h',toks:=tk}) e c d hnm ⟨.str ⟨#[cc]⟩,H,I1,⟨u,rfl⟩,⟨rfl,cc,hcc,rfl⟩,st2,fun b hb=>(hf b hb).1⟩⟩
 done:=by
  intro X hP hw hK hc i pins s σ H E I hf st hg;subst hP hw hK;obtain⟨f0,f1,f2,f3,f4,f5⟩:=hf it (by simp);have hg' :i=x.cps.size:=hg;subst hg';exact(W X.A (I.ok.hd hc)).done s _ _ st fun h' tk keep=>⟨rfl,I.turned (t' :=tk) (fun b o hb e=>keep b o (by simpa using hb) e) f0 f1 f3 f4 f5⟩
 self:=hs
section
variable{X:Cx}{tg:Expr}
noncomputable def iStr(tl:TE):TI:=fun σ H R=>tl σ H fun v H1=>∃x,v=.str x/\R (Itsg x) H1
theorem jZk{l:Expr}{tl:TE}(hl:PE X l tl):PI X tg l (iStr tl):=by
 intro pins s σ H R I h;refine thn (hl pins s σ H _ I h) fun v s1 ⟨y,H1,I1,r1,q1⟩=>?_
 obtain⟨x,e,q⟩:=q1;subst e;obtain⟨t,rfl⟩:=r1;have fin:∀b∈ [s1.heap.objs.size],FpOk X pins H1 b:=fun b hb=>by
  have e:b=s1.heap.objs.size:=by simpa using hb
  subst e;exact I1.fpOk (aP _) (I1.hok.fresh (aP _))
 cases ha:x.cps.all (· < 128)
 ·exact wpAny_pyIter_wide ha ⟨s1.heap.objs.size,[s1.heap.objs.size],_,_,H1,rfl,I1.kept (t' :=s1.toks) fun b o e=>aK _ e,vWq (by decide) (fun A' hA=>Walks.strWide hA _ x t) (fun _ _ _ _ _ st h=>wpAny_pyIter_striter_wide st h),⟨_,bW _ rfl,rfl,rfl⟩,fin,q⟩
 ·exact wpAny_pyIter_ascii ha ⟨s1.heap.objs.size,[s1.heap.objs.size],_,_,H1,rfl,I1.kept (t' :=s1.toks) fun b o e=>aK _ e,vWq (by decide) (fun A' hA=>Walks.strAscii hA _ x t) (fun _ _ _ _ _ st h=>wpAny_pyIter_striter_ascii st h),⟨_,bW _ rfl,rfl,rfl⟩,fin,q⟩
theorem zZm{its:List Value}:∀{bs:List Bool},Vals (bs.map V.bl) its->∀(j:Nat) v,its[j]?=some v->v=Value.bool (bs.getD j true):=by
 induction its with
 |nil=>intro bs _ j v h;simp at h
 | cons u its ih=>
   intro bs r j v h;cases bs with
   |nil=>cases r
   | cons b bs=>
     cases r with
     | cons h1 h2=>
       cases j with
       |zero=>simp at h;rw[←h];exact h1
       |succ j=>simpa using ih h2 j v (by simpa using h)
theorem vY3(bs:List Bool):((List.range bs.length).all fun i=>bs.getD i true)=bs.all id:=by
 induction bs with
 |nil=>rfl
 | cons b bs ih=>
   rw[aZ,List.range_succ_eq_map,dQ,List.all_map,dQ,←ih];rfl
theorem zX8(hc:X.calm=true):j8 X (.builtin "all") (fun xs H Q=>∃(p:aV) (bs:List Bool),xs=[.ref p]/\SqL X.K H p (bs.map V.bl)/\Q (.bl (bs.all id)) H):=by
 intro pins s σ H xs us Q I r h;obtain⟨p,bs,rfl,hp,q⟩:=h;obtain⟨u,rfl,ru⟩:=yI r;cases ru;obtain⟨its,rv,pl,_⟩:=I.list hp;have lp:p<s.heap.objs.size:=by obtain⟨_,e,_⟩:=pl.isList;exact aL e
 have le:its.length=bs.length:=by rw[←rv.length,aB]
 refine call_all_walk (wpAny_pyIter_list pl.isList ?_);refine⟨s.heap.objs.size,_,_,_,_,_,fun j=>bs.getD j true,rfl,Walks.list (A:=X.A.in1) (I.ok.hd hc) s.heap.objs.size p (bK lp) its.toArray,⟨⟨_,bW _ rfl,rfl,rfl⟩,pl.isList.at fun o e=>aK _ e⟩,fun j v s' Q' E' hP hQ=>?_,fun h' tk kk=>?_⟩
 ·cases zZm rv j v (by simpa using hP);exact cG hQ
 ·rw [show its.toArray.size=bs.length by rw [aR,le],vY3];refine⟨.bl _,H,I.kept (t' :=tk) fun b o e=>kk b o (fun z=>?_) (aK _ e),rfl,q⟩;have z' :b=s.heap.objs.size:=by simpa using z
  exact absurd (aL e) (by rw[z'];exact cE _)
theorem zZl:j8 X (.type "int") (fun xs H Q=>∃(x:Str) (n:Int),xs=[.str x]/\PySem.intText? x=some n/\x.length<=640/\Q (.int n) H):=by
 intro pins s σ H xs us Q I r h;obtain⟨x,n,rfl,hn,hl,q⟩:=h;obtain⟨u,rfl,ru⟩:=yI r;obtain⟨t,rfl⟩:=ru;exact PySem.W.KIN.call_text hn hl ⟨.int n,H,I.tok _,⟨_,rfl⟩,q⟩
end
end L2
namespace DX
open PySem L2 PyProof.Rows
variable{K:aQ}{c:Nat->aV}{F:Hp}
noncomputable def signsD(x:Str):List D:=x.cps.toList.map fun c=>D.str ⟨#[c]⟩
noncomputable def zJg:D->Option (List D)
 |.str x=>some (signsD x)
 |_=>none
noncomputable def iS(s:SV):SI:=fun env=>(s env).bind fun r=>(opt (zJg r.1)).bind fun ds=>.ok (ds,r.2)
theorem zK0{x:Str}:ItD K c F (Itsg x) (signsD x):=by
 intro i H T sm hb;unfold signsD;refine⟨fun d hd=>?_,fun hi=>by rw[aB,cU]at hi;exact hi⟩;rw[cT,Array.getElem?_toList]at hd;cases q:x.cps[i]? with
 |none=>rw[q]at hd;cases hd
 | some cc=>
   rw[q]at hd;cases hd;refine⟨(Array.getElem?_eq_some_iff.mp q).1,fun y H' z=>?_⟩;obtain⟨rfl,c',e,rfl⟩:=z;rw[q]at e;cases e;exact⟨Same.refl _,.str _⟩
noncomputable def vVt:List D->Option (List Bool)
 |[]=>some []
 |.bl b::r=>(vVt r).bind fun bs=>some (b::bs)
 |_=>none
theorem vXn:∀{vs:List V} {ds:List D} {bs:List Bool},DsAt K c F vs ds->vVt ds=some bs->vs=bs.map V.bl
 |vs,[],bs,h,e=>by cases e;rw[h.un0];rfl
 | vs, .bl b::ds,bs,h,e=>by
   obtain⟨v,r,rfl,a,b⟩:=h.un;obtain⟨xs,e3,e4⟩:=bnd e;cases e4;cases a;rw[vXn b e3];rfl
noncomputable def allD:List D->Option D
 |[.nd .lst ds]=>(vVt ds).bind fun bs=>some (.bl (bs.all id))
 |_=>none
noncomputable def qJ2:List D->Option D
 |[.str x]=>cond (decide (x.length<=640)) ((PySem.intText? x).bind fun n=>some (.int n)) none
 |_=>none
section
variable{X:Cx}{c:Nat->aV}{E:XK}{tg e:Expr}{s:SV}{o:Oe}{p pos:Pos}
theorem jJl(h:EV X c E e s):ID' X c E tg e (iS s):=by
 refine⟨PI.imp (jZk h.h) fun σ H R=>?_⟩;rintro⟨env,B,W,cf,w⟩;refine⟨env,B,W,cf,wp_mono (fun r w1 u H1 W1 g=>?_) (fun _ _ he=>he) (qK.mp w)⟩;obtain⟨ds,e1,w2⟩:=qG w1;unfold zJg at e1;split at e1
 ·rename_i x e2;cases e1;have:=g.at_;rw[e2]at this;cases this;exact⟨x,rfl,w2 _ H1 W1 g.st g.cf zK0⟩
 ·cases e1
theorem jWw(hc:X.calm=true)(hg:Gl X "all")(hm:X.mg "all"=none)(ha:OD X c E e o)(he:aX [e] X.env=[(false,eval e X.env)]:=by rfl)(h0:aX [] X.env=[]:=by rfl):OD X c E (.Call (.Name "all" p) [e] [] pos) (oL allD [o]):=by
 refine vQi (zX8 hc) (fun us H xs z Q hx e q=>?_) hg hm Boot.«all» (qU ha qJ (by rw[he,h0])) (by decide) (by decide) (by rw[he,h0]) (by rw[h0];rfl);unfold allD at e;split at e
 ·obtain⟨u,rfl,h⟩:=ds1 hx;obtain⟨p',vs,rfl,h1,h2⟩:=h.un;obtain⟨bs,e1,e2⟩:=bnd e;cases e2;have:=vXn h2 e1;subst this;exact⟨p',bs,rfl,h1,q _ fun _=>.bl _⟩
 ·cases e
theorem vYg(hg:Gl X "int")(hm:X.mg "int"=none)(ha:OD X c E e o)(he:aX [e] X.env=[(false,eval e X.env)]:=by rfl)(h0:aX [] X.env=[]:=by rfl):OD X c E (.Call (.Name "int" p) [e] [] pos) (oL qJ2 [o]):=by
 refine vV8 zZl (fun us H xs z Q hx e q=>?_) hg hm Boot.«int» (qU ha qJ (by rw[he,h0])) (by decide) (by decide) (by rw[he,h0]) (by rw[h0];rfl);unfold qJ2 at e;split at e
 ·rename_i x;obtain⟨u,rfl,h⟩:=ds1 hx;cases h;cases hl:decide (x.length<=640) with
  |false=>grind
  | true=>
    rw[hl]at e;obtain⟨n,e1,e2⟩:=bnd e;cases e2;exact⟨x,n,rfl,e1,of_decide_eq_true hl,q _ fun _=>.int n⟩
 ·cases e
end
noncomputable def eqFB:D->D->Option Bool
 |.int i,.int j=>some (i == j)
 |.str i,.str j=>some (decide (i=j))
 |.bl i,.bl j=>some (i == j)
 |.non,.int _=>some false
 |.non,.non =>some true
 |_,_=>none
noncomputable def eqF(x y:D):Option D:=(eqFB x y).map .bl
noncomputable def neF(x y:D):Option D:=(eqFB x y).map fun b=>.bl (!b)
section
variable{X:Cx}{K:aQ}{c:Nat->aV}{E:XK}{a b:Expr}{oa ob:Oe}{pos:Pos}
theorem vJj{u w:V}{H:Hp}{x y:D}{z:Bool}(hx:DAt K c H u x)(hy:DAt K c H w y)(e:eqFB x y=some z):scal u w=true/\decide (u=w)=z:=by
 unfold eqFB at e;split at e
 ·cases e;cases hx;cases hy;exact⟨rfl,vJk⟩
 ·cases e;cases hx;cases hy;exact⟨rfl,decide_eq_decide.mpr ⟨fun h=>by cases h;rfl,fun h=>by rw[h]⟩⟩
 ·cases e;cases hx;cases hy;exact⟨rfl,vYn⟩
 ·cases e;cases hx;cases hy;exact⟨rfl,rfl⟩
 ·cases e;cases hx;cases hy;exact⟨rfl,rfl⟩
 ·cases e
theorem zJm:PrS2 K c rEq eqF:=fun u w H x y z Q hx hy e q=>by
 obtain⟨b,e1,rfl⟩:=bY.mp e;obtain⟨h1,h2⟩:=vJj hx hy e1;exact⟨h1,by rw[h2];exact q _ fun _=>.bl _⟩
theorem zJk:PrS2 K c rNe neF:=fun u w H x y z Q hx hy e q=>by
 obtain⟨b,e1,rfl⟩:=bY.mp e;obtain⟨h1,h2⟩:=vJj hx hy e1;exact⟨h1,by rw[h2];exact q _ fun _=>.bl _⟩
theorem zZx(ha:OD X c E a oa)(hb:OD X c E b ob):OD X c E (.Compare a [.Eq] [b] pos) (o2 eqF oa ob):=qKw jQ4 zJm ha hb (qVj _)
theorem jWv(ha:OD X c E a oa)(hb:OD X c E b ob):OD X c E (.Compare a [.NotEq] [b] pos) (o2 neF oa ob):=qKw jQ3 zJk ha hb (qVj _)
theorem zZ(ha:OD X c E a oa)(hb:OD X c E b ob):TD X c E (.Compare a [.Eq] [b] pos) (asB (o2 eqF oa ob)):=qWa jQ4 zJm ha hb (qVj _)
theorem vJ7(ha:OD X c E a oa)(hb:OD X c E b ob):TD X c E (.Compare a [.NotEq] [b] pos) (asB (o2 neF oa ob)):=qWa jQ3 zJk ha hb (qVj _)
end
end DX
namespace RF
open PySem L2 DX PyProof.Rows
noncomputable def qQc:Fn:=fnS 1 1 (sSeq (sSet 1 (owS (oV (oIx (oN 0) (oC (.int 0))))))
  (sSeq (sIf (asB (o2 eqF (oN 1) (oC (.str "if")))) (sRet (eLst [(oV (oIx (oN 0) (oC (.int 1)))),(oV (oIx (oN 0) (oC (.int 2)))),(oV (oIx (oN 0) (oC (.int 3))))])) sNil)
  (sSeq (sIf (asB (o2 inD (oN 1) (.v (vD [(oV (oC (.str "op"))),(oV (oC (.str "bind")))])))) (sRet (eLst [(oV (oIx (oN 0) (oC (.int 2)))),(oV (oIx (oN 0) (oC (.int 3))))])) sNil)
  (sSeq (sIf (asB (o2 inD (oN 1) (.v (vD [(oV (oC (.str "rest"))),(oV (oC (.str "field")))])))) (sRet (eLst [(oV (oIx (oN 0) (oC (.int 1))))])) sNil)
  (sSeq (sIf (asB (o2 eqF (oN 1) (oC (.str "record")))) (sRet (compS 2 [] [0,1] (iV (oV (oIx (oN 0) (oC (.int 1))))) (gT 2 (gCn (gN 0) (gCn (gN 1) gNl))) bTrue (oV (oN 1)))) sNil)
  (sSeq (sIf (asB (o2 eqF (oN 1) (oC (.str "call")))) (sRet (eF listD [(oIx (oN 0) (oC (.int 2)))])) sNil)
  (sRet (eLst []))))))))
noncomputable def wC:Fn:=fnS 1 0 (sSeq (sIf (bOr (asB (oCh leS leS (oC (.str "a")) (oN 0) (oC (.str "z")))) (asB (oCh leS leS (oC (.str "A")) (oN 0) (oC (.str "Z"))))) (sRet (owS (oV (oC (.str "letter"))))) sNil)
  (sSeq (sIf (asB (oCh leS leS (oC (.str "0")) (oN 0) (oC (.str "9")))) (sRet (owS (oV (oC (.str "figure"))))) sNil)
  (sSeq (sIf (asB (o2 eqF (oN 0) (oC (.str " ")))) (sRet (owS (oV (oC (.str "blank"))))) sNil)
  (sRet (owS (oV (oC (.str "single"))))))))
noncomputable def vQ4:SS:=(sAug 3 (i2 fun i j=>i+j) (oV (oC (.int 1))))
noncomputable def qZv:Fn:=fnS 2 2 (sSeq (sSet 2 (qY wC [(.v (oV (oIx (oN 0) (oN 1))))]))
  (sSeq (sSet 3 (owS (oV (oAdd (oN 1) (oC (.int 1))))))
  (sSeq (vS (bAnd (asB (o2 neF (oN 2) (oC (.str "single")))) (bAnd (asB (oLt (oN 3) (oL lenD [(oN 0)]))) (asB (o2 eqF (.v (fzS (qY wC [(.v (oV (oIx (oN 0) (oN 3))))]))) (oN 2))))) vQ4 100000)
  (sRet (eMv 3)))))
noncomputable def yC:SS:=(sSeq (sSet 3 (qY qZv [(.v (oV (oN 0))),(.v (oV (oN 2)))]))
  (sSeq (sIf (asB (o2 neF (oIx (oN 0) (oN 2)) (oC (.str " ")))) (zB (eMu1 (pOf (oN 1)) (owS (qZh (oN 0) (some (oV (oN 2))) (some (oV (oN 3))))) apF)) sNil)
  (sSet 2 (owS (oV (oN 3))))))
noncomputable def qQb:Fn:=fnS 1 3 (sSeq (sSet 1 (eLst []))
  (sSeq (sSet 2 (owS (oV (oC (.int 0)))))
  (sSeq (vS (asB (oLt (oN 2) (oL lenD [(oN 0)]))) yC 100000)
  (sRet (eMv 1)))))
noncomputable def qQm:Fn:=fnS 3 0 (sSeq (vWa [9] "row" (pOf (oN 0)) (owS (oV (oN 1))))
  (sSeq (vWa [9] "words" (pOf (oN 0)) (owS (oV (oN 2))))
  (vWa [9] "place" (pOf (oN 0)) (owS (oV (oC (.int 0)))))))
noncomputable def vW:Fn:=fnS 1 0 (sSeq (sIf (asB (oLt (oFld [9] "place" (oN 0)) (oL lenD [(oFld [9] "words" (oN 0))]))) (sRet (owS (oV (oIx (oFld [9] "words" (oN 0)) (oFld [9] "place" (oN 0)))))) sNil)
  (sRet (owS (oV (oC (.str ""))))))
noncomputable def vQ:Fn:=fnS 1 1 (sSeq (sSet 1 (vE 9 "ahead" vW (.b (pOf (oN 0))) []))
  (sSeq (vKt [9] "place" (i2 fun i j=>i+j) (pOf (oN 0)) (oV (oC (.int 1))))
  (sRet (eMv 1))))
noncomputable def qR:Fn:=fnS 2 0 (sSeq (sIf (asB (o2 neF (.v (fzS (vE 9 "ahead" vW (.b (pOf (oN 0))) []))) (oN 1))) (sRet (owS (oV (oC (.bl false))))) sNil)
  (sSeq (vKt [9] "place" (i2 fun i j=>i+j) (pOf (oN 0)) (oV (oC (.int 1))))
  (sRet (owS (oV (oC (.bl true)))))))
noncomputable def qE:Fn:=fnS 2 0 (sIf (bNot (asB (.v (fzS (vE 9 "passed" qR (.io 0) [(.v (oV (oN 1)))]))))) (zR 23 "row" (oV (oFld [9] "row" (oN 0)))) sNil)
noncomputable def xC:Fn:=fnS 1 0 (sRet (owS (oV (oAnd (oCh (c2 fun i j=>decide (i<=j)) (c2 fun i j=>decide (i<=j)) (oC (.int 1)) (oL lenD [(oN 0)]) (oC (.int 8))) (oL allD [(.v (fzS (compS 1 [] [0] (iS (oV (oN 0))) (gN 0) bTrue (oV (oCh leS leS (oC (.str "a")) (oN 0) (oC (.str "z")))))))])))))
noncomputable def yH:Fn:=fnS 1 0 (sRet (owS (oV (oAnd (.v (fzS (qY xC [(.v (oV (oN 0)))]))) (o2 niD (oN 0) (oC (.tup [(.str "flip"),(.str "pick"),(.str "if"),(.str "rest")])))))))
noncomputable def jR:Fn:=fnS 1 0 (sRet (owS (oV (oAnd (oCh leS leS (oC (.str "0")) (.v (qZh (oN 0) none (some (oV (oC (.int 1)))))) (oC (.str "9"))) (oAnd (oLe (oL lenD [(oN 0)]) (oC (.int 12))) (oOr (o2 eqF (oN 0) (oC (.str "0"))) (o2 neF (oIx (oN 0) (oC (.int 0))) (oC (.str "0")))))))))
noncomputable def zD:Fn:=fnS 1 1 (sSeq (sSet 1 (vE 9 "next_word" vQ (.io 0) []))
  (sSeq (sIf (bNot (asB (.v (fzS (qY yH [(.v (oV (oN 1)))]))))) (zR 23 "row" (oV (oFld [9] "row" (oN 0)))) sNil)
  (sRet (eMv 1))))
noncomputable def vV:Fn:=fnS 3 1 (sSeq (sSet 3 (vE 9 "next_word" vQ (.io 0) []))
  (sSeq (sIf (bOr (bNot (asB (.v (fzS (qY jR [(.v (oV (oN 3)))]))))) (bNot (asB (oCh (c2 fun i j=>decide (i<=j)) (c2 fun i j=>decide (i<=j)) (oN 1) (oL qJ2 [(oN 3)]) (oN 2))))) (zR 23 "row" (oV (oFld [9] "row" (oN 0)))) sNil)
  (sRet (owS (oV (oL qJ2 [(oN 3)]))))))
noncomputable def wR(R_read_term:Fn):Fn:=fnS 1 1 (sSeq (sSet 1 (qY zD [(.io 0)]))
  (sSeq (zB (vE 9 "need" qE (.io 0) [(.v (oV (oC (.str ":"))))]))
  (sRet (owS (vD [(oV (oN 1)),(fzS (qY R_read_term [(.io 0)]))])))))
noncomputable def j5:Fn:=fnS 1 1 (sSeq (sSet 1 (qY vV [(.io 0),(.v (oV (oC (.int 0)))),(.v (oV (oC (.int 999999999999))))]))
  (sSeq (zB (vE 9 "need" qE (.io 0) [(.v (oV (oC (.str ":"))))]))
  (sRet (owS (vD [(oV (oN 1)),(fzS (qY vV [(.io 0),(.v (oV (oC (.int 1)))),(.v (oV (oC (.int 1000000))))]))])))))
noncomputable def wY(R_read_term:Fn):SS:=(zB (eMu1 (pOf (oN 4)) (vVr [(30,R_read_term),(31,j5),(32,(wR R_read_term)),(33,zD)] 3 [(.io 0)]) apF))
noncomputable def jO(R_read_term:Fn):Fn:=fnS 4 1 (sSeq (sIf (asB (.v (fzS (vE 9 "passed" qR (.io 0) [(.v (oV (oN 1)))])))) (sRet (owS (vD []))) sNil)
  (sSeq (sSet 4 (eLst [(fzS (vVr [(30,R_read_term),(31,j5),(32,(wR R_read_term)),(33,zD)] 3 [(.io 0)]))]))
  (sSeq (vS (asB (.v (fzS (vE 9 "passed" qR (.io 0) [(.v (oV (oC (.str ","))))])))) (wY R_read_term) 100000)
  (sSeq (zB (vE 9 "need" qE (.io 0) [(.v (oV (oN 1)))]))
  (sSeq (sIf (asB (oGt (oL lenD [(oN 4)]) (oN 2))) (zR 23 "row" (oV (oFld [9] "row" (oN 0)))) sNil)
  (sRet (owS (svA tupleD [(oN 4)]))))))))
noncomputable def jT:Fn:=fnS 2 0 (sIf (asB (oLt (.v (svA lenTD [(oN 1)])) (oL lenD [(oN 1)]))) (zR 23 "row" (oV (oFld [9] "row" (oN 0)))) sNil)
noncomputable def yB(R_read_term:Fn):Fn:=fnS 3 1 (sSeq (sSet 3 (qY (jO R_read_term) [(.io 0),(.v (oV (oN 1))),(.v (oV (oC (.int 6)))),(.v (oV (oN 2)))]))
  (sSeq (sIf (asB (o2 eqF (oL lenD [(oN 3)]) (oC (.int 0)))) (zR 23 "row" (oV (oFld [9] "row" (oN 0)))) sNil)
  (sSeq (zB (qY jT [(.b (pOf (oN 0))),(.v (fzS (compS 1 [] [0] (iV (oV (oN 3))) (gN 0) bTrue (oV (oIx (oN 0) (oC (.int 0)))))))]))
  (sRet (eMv 3)))))
noncomputable def qYj(R_read_term:Fn):Fn:=fnS 1 1 (sSeq (sSet 1 (qY (jO R_read_term) [(.io 0),(.v (oV (oC (.str ")")))),(.v (oV (oC (.int 3)))),(.v (oV (oC (.fn 30))))]))
  (sSeq (sIf (asB (oLt (oL lenD [(oN 1)]) (oC (.int 3)))) (zR 23 "row" (oV (oFld [9] "row" (oN 0)))) sNil)
  (sRet (owS (vD [(oV (oC (.str "if"))),(oV (oIx (oN 1) (oC (.int 0)))),(oV (oIx (oN 1) (oC (.int 1)))),(oV (oIx (oN 1) (oC (.int 2))))])))))
noncomputable def qZ9:Fn:=fnS 1 2 (sSeq (sSet 1 (qY vV [(.io 0),(.v (oV (oC (.int 1)))),(.v (oV (oC (.int 1000000))))]))
  (sSeq (zB (vE 9 "need" qE (.io 0) [(.v (oV (oC (.str "/"))))]))
  (sSeq (sSet 2 (qY vV [(.io 0),(.v (oV (oAdd (oN 1) (oC (.int 1))))),(.v (oV (oC (.int 1000000))))]))
  (sSeq (zB (vE 9 "need" qE (.io 0) [(.v (oV (oC (.str ")"))))]))
  (sRet (owS (vD [(oV (oC (.str "flip"))),(oV (oN 1)),(oV (oN 2))])))))))
noncomputable def qZ7(R_read_term:Fn):Fn:=fnS 1 2 (sSeq (sSet 1 (qY R_read_term [(.io 0)]))
  (sSeq (zB (vE 9 "need" qE (.io 0) [(.v (oV (oC (.str ","))))]))
  (sSeq (sSet 2 (qY vV [(.io 0),(.v (oV (oC (.int 1)))),(.v (oV (oC (.int 999999999999))))]))
  (sSeq (zB (vE 9 "need" qE (.io 0) [(.v (oV (oC (.str ")"))))]))
  (sRet (owS (vD [(oV (oC (.str "rest"))),(oV (oN 1)),(oV (oN 2))])))))))
noncomputable def qV7(R_read_term:Fn):Fn:=fnS 2 0 (sSeq (zB (vE 9 "need" qE (.io 0) [(.v (oV (oC (.str "("))))]))
  (sSeq (sIf (asB (o2 eqF (oN 1) (oC (.str "if")))) (sRet (qY (qYj R_read_term) [(.io 0)])) sNil)
  (sSeq (sIf (asB (o2 eqF (oN 1) (oC (.str "flip")))) (sRet (qY qZ9 [(.io 0)])) sNil)
  (sSeq (sIf (asB (o2 eqF (oN 1) (oC (.str "pick")))) (sRet (owS (vD [(oV (oC (.str "pick"))),(fzS (qY (yB R_read_term) [(.io 0),(.v (oV (oC (.str ")")))),(.v (oV (oC (.fn 31))))]))]))) sNil)
  (sRet (qY (qZ7 R_read_term) [(.io 0)]))))))
noncomputable def qV6(R_read_term:Fn):Fn:=fnS 2 0 (sSeq (sIf (bNot (asB (.v (fzS (qY yH [(.v (oV (oN 1)))]))))) (zR 23 "row" (oV (oFld [9] "row" (oN 0)))) sNil)
  (sSeq (sIf (asB (.v (fzS (vE 9 "passed" qR (.io 0) [(.v (oV (oC (.str "("))))])))) (sRet (owS (vD [(oV (oC (.str "call"))),(oV (oN 1)),(fzS (qY (jO R_read_term) [(.io 0),(.v (oV (oC (.str ")")))),(.v (oV (oC (.int 3)))),(.v (oV (oC (.fn 30))))]))]))) sNil)
  (sRet (owS (vD [(oV (oC (.str "name"))),(oV (oN 1))])))))
noncomputable def qZ8(R_read_term:Fn):Fn:=fnS 1 2 (sSeq (sSet 1 (vE 9 "next_word" vQ (.io 0) []))
  (sSeq (sIf (asB (o2 eqF (oN 1) (oC (.str "(")))) (sSeq (sSet 2 (qY R_read_term [(.io 0)]))
  (sSeq (zB (vE 9 "need" qE (.io 0) [(.v (oV (oC (.str ")"))))]))
  (sRet (eMv 2)))) sNil)
  (sSeq (sIf (asB (o2 eqF (oN 1) (oC (.str "{")))) (sRet (owS (vD [(oV (oC (.str "record"))),(fzS (qY (yB R_read_term) [(.io 0),(.v (oV (oC (.str "}")))),(.v (oV (oC (.fn 32))))]))]))) sNil)
  (sSeq (sIf (asB (o2 inD (oN 1) (oC (.tup [(.str "flip"),(.str "pick"),(.str "if"),(.str "rest")])))) (sRet (qY (qV7 R_read_term) [(.io 0),(.v (oV (oN 1)))])) sNil)
  (sSeq (sIf (asB (.v (fzS (qY jR [(.v (oV (oN 1)))])))) (sRet (owS (vD [(oV (oC (.str "num"))),(oV (oL qJ2 [(oN 1)]))]))) sNil)
  (sRet (qY (qV6 R_read_term) [(.io 0),(.v (oV (oN 1)))])))))))
noncomputable def vQ9(R_read_term:Fn):SS:=(sSet 1 (owS (vD [(oV (oC (.str "field"))),(oV (oN 1)),(fzS (qY zD [(.io 0)]))])))
noncomputable def yU(R_read_term:Fn):Fn:=fnS 1 1 (sSeq (sSet 1 (qY (qZ8 R_read_term) [(.io 0)]))
  (sSeq (vS (asB (.v (fzS (vE 9 "passed" qR (.io 0) [(.v (oV (oC (.str "."))))])))) (vQ9 R_read_term) 100000)
  (sRet (eMv 1))))
noncomputable def qYm(R_read_term:Fn):SS:=(sSet 1 (owS (vD [(oV (oC (.str "op"))),(oV (oC (.str "*"))),(oV (oN 1)),(fzS (qY (yU R_read_term) [(.io 0)]))])))
noncomputable def xQ(R_read_term:Fn):Fn:=fnS 1 1 (sSeq (sSet 1 (qY (yU R_read_term) [(.io 0)]))
  (sSeq (vS (asB (.v (fzS (vE 9 "passed" qR (.io 0) [(.v (oV (oC (.str "*"))))])))) (qYm R_read_term) 100000)
  (sRet (eMv 1))))
noncomputable def vJ5(R_read_term:Fn):SS:=(sSeq (sSet 2 (vE 9 "next_word" vQ (.io 0) []))
  (sSet 1 (owS (vD [(oV (oC (.str "op"))),(oV (oN 2)),(oV (oN 1)),(fzS (qY (xQ R_read_term) [(.io 0)]))]))))
noncomputable def xB(R_read_term:Fn):Fn:=fnS 1 2 (sSeq (sSet 1 (qY (xQ R_read_term) [(.io 0)]))
  (sSeq (vS (asB (o2 inD (.v (fzS (vE 9 "ahead" vW (.b (pOf (oN 0))) []))) (.v (vD [(oV (oC (.str "+"))),(oV (oC (.str "-")))])))) (vJ5 R_read_term) 100000)
  (sRet (eMv 1))))
noncomputable def zC:Nat->Fn
 | 0=>fun _=>.no
 | h + 1=>fnS 1 2 (sSeq (sSet 1 (qY (xB (zC h)) [(.io 0)]))
   (sSeq (sIf (asB (o2 inD (.v (fzS (vE 9 "ahead" vW (.b (pOf (oN 0))) []))) (.v (vD [(oV (oC (.str "="))),(oV (oC (.str "<")))])))) (sSeq (sSet 2 (vE 9 "next_word" vQ (.io 0) []))
   (sSet 1 (owS (vD [(oV (oC (.str "op"))),(oV (oN 2)),(oV (oN 1)),(fzS (qY (xB (zC h)) [(.io 0)]))])))) sNil)
   (sRet (eMv 1))))
noncomputable def xR:Fn:=fnS 1 0 (sSeq (zB (vE 9 "need" qE (.io 0) [(.v (oV (oC (.str "="))))]))
  (sRet (qY (zC 12) [(.io 0)])))
noncomputable def qW0:Fn:=fnS 1 2 (sSeq (sSet 1 (qY zD [(.io 0)]))
  (sSeq (zB (vE 9 "need" qE (.io 0) [(.v (oV (oC (.str "("))))]))
  (sSeq (sSet 2 (qY (jO (zC 12)) [(.io 0),(.v (oV (oC (.str ")")))),(.v (oV (oC (.int 3)))),(.v (oV (oC (.fn 33))))]))
  (sSeq (zB (qY jT [(.b (pOf (oN 0))),(.v (oV (oN 2)))]))
  (sRet (owS (vD [(oV (oC (.str "def"))),(oV (oN 1)),(oV (oN 2)),(fzS (qY xR [(.io 0)]))])))))))
noncomputable def qWz:Fn:=fnS 1 1 (sSeq (sSet 1 (qY zD [(.io 0)]))
  (sRet (owS (vD [(oV (oC (.str "let"))),(oV (oN 1)),(fzS (qY xR [(.io 0)]))]))))
noncomputable def qV8:Fn:=fnS 1 2 (sSeq (sSet 1 (qY vV [(.io 0),(.v (oV (oC (.int 0)))),(.v (oV (oC (.int 30))))]))
  (sSeq (sSet 2 (qY zD [(.io 0)]))
  (sRet (owS (vD [(oV (oC (.str "again"))),(oV (oN 1)),(oV (oN 2)),(fzS (qY xR [(.io 0)]))])))))
noncomputable def qV5:Fn:=fnS 1 1 (sSeq (sSet 1 (vE 9 "next_word" vQ (.io 0) []))
  (sSeq (sIf (asB (o2 eqF (oN 1) (oC (.str "def")))) (sRet (qY qW0 [(.io 0)])) sNil)
  (sSeq (sIf (asB (o2 eqF (oN 1) (oC (.str "let")))) (sRet (qY qWz [(.io 0)])) sNil)
  (sSeq (sIf (asB (o2 eqF (oN 1) (oC (.str "again")))) (sRet (qY qV8 [(.io 0)])) sNil)
  (sSeq (sIf (asB (o2 inD (oN 1) (.v (vD [(oV (oC (.str "see"))),(oV (oC (.str "ask")))])))) (sRet (owS (vD [(oV (oN 1)),(fzS (qY (zC 12) [(.io 0)]))]))) sNil)
  (zR 23 "row" (oV (oFld [9] "row" (oN 0)))))))))
noncomputable def qQv:SS:=(sSeq (sIf (asB (o2 inD (oN 3) (.v (vD [(oV (oC (.str "("))),(oV (oC (.str "{")))])))) (sAug 1 (i2 fun i j=>i+j) (oV (oC (.int 1)))) (sIf (asB (o2 inD (oN 3) (.v (vD [(oV (oC (.str ")"))),(oV (oC (.str "}")))])))) (sAug 1 (i2 fun i j=>i - j) (oV (oC (.int 1)))) sNil))
  (sSet 2 (owS (oV (oL max2D [(oN 2),(oN 1)])))))
noncomputable def zO:Fn:=fnS 1 3 (sSeq (sSet 1 (owS (oV (oC (.int 0)))))
  (sSeq (sSet 2 (owS (oV (oC (.int 0)))))
  (sSeq (sFor (iV (oV (oN 0))) (gN 3) qQv)
  (sRet (eMv 2)))))
noncomputable def qJz(F_depth_h:Fn):SS:=(sSet 1 (owS (oV (oL max2D [(oN 1),(.v (fzS (qY F_depth_h [(.v (oV (oN 2)))])))]))))
noncomputable def jJ:Nat->Fn
 | 0=>fun _=>.no
 | h + 1=>fnS 1 2 (sSeq (sSet 1 (owS (oV (oC (.int 0)))))
   (sSeq (sFor (iV (fzS (qY qQc [(.v (oV (oN 0)))]))) (gN 2) (qJz (jJ h)))
   (sRet (owS (oV (oAdd (oN 1) (oC (.int 1))))))))
noncomputable def vY:Fn:=fnS 2 3 (sSeq (sIf (asB (oGt (oL lenD [(oN 1)]) (oC (.int 1000)))) (zR 23 "row" (oV (oN 0))) sNil)
  (sSeq (sSet 2 (qY qQb [(.v (oV (oN 1)))]))
  (sSeq (sIf (bOr (asB (oGt (oL lenD [(oN 2)]) (oC (.int 60)))) (asB (oGt (.v (fzS (qY zO [(.v (oV (oN 2)))]))) (oC (.int 10))))) (zR 23 "row" (oV (oN 0))) sNil)
  (sSeq (sSet 3 (vKw 9 qQm [(.v (oV (oN 0))),(.v (oV (oN 2)))]))
  (sSeq (sSet 4 (qY qV5 [(.io 3)]))
  (sSeq (sIf (bOr (asB (o2 neF (.v (fzS (vE 9 "ahead" vW (.b (pOf (oN 3))) []))) (oC (.str "")))) (asB (oGt (.v (fzS (qY (jJ 62) [(.v (oV (oIx (oN 4) (o1 negD (oC (.int 1))))))]))) (oC (.int 10))))) (zR 23 "row" (oV (oN 0))) sNil)
  (sRet (eMv 4))))))))
noncomputable def qXl:SS:=(sSeq (sIf (asB (o2 eqF (oN 3) (oC (.int 40)))) (zR 23 "row" (oV (oN 3))) sNil)
  (sSeq (sSet 5 (qY vY [(.v (oV (oN 3))),(.v (oV (oN 4)))]))
  (sSeq (sIf (asB (o2 neF (o2 eqF (oIx (oN 5) (oC (.int 0))) (oC (.str "ask"))) (o2 eqF (oN 3) (oSub (oL lenD [(oN 1)]) (oC (.int 1)))))) (zR 23 "row" (oV (oN 3))) sNil)
  (zB (eMu1 (pOf (oN 2)) (owS (oV (oN 5))) apF)))))
noncomputable def jI:Fn:=fnS 1 5 (sSeq (sSet 1 (vYm "\n" (oN 0)))
  (sSeq (sSet 2 (eLst []))
  (sSeq (sFor (iL enL [(oV (oN 1))]) (gT 2 (gCn (gN 3) (gCn (gN 4) gNl))) qXl)
  (sRet (eMv 2)))))
noncomputable def xD(R_shown_term:Fn):Fn:=fnS 2 1 (sSeq (sSet 2 (qY R_shown_term [(.v (oV (oN 0)))]))
  (sSeq (sIf (bAnd (asB (o2 eqF (oIx (oN 0) (oC (.int 0))) (oC (.str "op")))) (asB (o2 niD (oIx (oN 0) (oC (.int 1))) (oN 1)))) (sRet (owS (svFS [(false,(oV (oC (.str "(")))),(true,(oV (oN 2))),(false,(oV (oC (.str ")"))))]))) sNil)
  (sRet (eMv 2))))
noncomputable def xU(R_shown_term:Fn):Fn:=fnS 1 3 (sSeq (sSet 1 (owS (oV (oIx (oN 0) (oC (.int 1))))))
  (sSeq (sSet 2 (qY (xD R_shown_term) [(.v (oV (oIx (oN 0) (oC (.int 2))))),(.v (oV (oKd [("=",(.tup [(.str "+"),(.str "-"),(.str "*")])),("<",(.tup [(.str "+"),(.str "-"),(.str "*")])),("+",(.tup [(.str "+"),(.str "-"),(.str "*")])),("-",(.tup [(.str "+"),(.str "-"),(.str "*")])),("*",(.tup [(.str "*")]))] (oN 1))))]))
  (sSeq (sSet 3 (qY (xD R_shown_term) [(.v (oV (oIx (oN 0) (oC (.int 3))))),(.v (oV (oKd [("=",(.tup [(.str "+"),(.str "-"),(.str "*")])),("<",(.tup [(.str "+"),(.str "-"),(.str "*")])),("+",(.tup [(.str "*")])),("-",(.tup [(.str "*")])),("*",(.tup []))] (oN 1))))]))
  (sRet (owS (svFS [(true,(oV (oN 2))),(false,(oV (oC (.str " ")))),(true,(oV (oN 1))),(false,(oV (oC (.str " ")))),(true,(oV (oN 3)))]))))))
noncomputable def wW(R_shown_term:Fn):Fn:=fnS 1 0 (sRet (owS (oV (oL (vVp ", ") [(.v (fzS (compS 1 [] [0] (iV (oV (oN 0))) (gN 0) bTrue (fzS (qY R_shown_term [(.v (oV (oN 0)))])))))]))))
noncomputable def qZg:Fn:=fnS 1 2 (sSeq (sSet 1 (owS (oV (oIx (oN 0) (oC (.int 0))))))
  (sSeq (sSet 2 (owS (oV (oIx (oN 0) (oC (.int 1))))))
  (sRet (owS (svFS [(true,(oV (oN 1))),(false,(oV (oC (.str ":")))),(true,(oV (oN 2)))])))))
noncomputable def qJ9(R_shown_term:Fn):Fn:=fnS 1 2 (sSeq (sSet 1 (owS (oV (oIx (oN 0) (oC (.int 0))))))
  (sSeq (sSet 2 (qY R_shown_term [(.v (oV (oIx (oN 0) (oC (.int 1)))))]))
  (sRet (owS (svFS [(true,(oV (oN 1))),(false,(oV (oC (.str ": ")))),(true,(oV (oN 2)))])))))
noncomputable def wT(R_shown_term:Fn):Fn:=fnS 1 3 (sSeq (sSet 1 (owS (oV (oIx (oN 0) (oC (.int 0))))))
  (sSeq (sIf (asB (o2 eqF (oN 1) (oC (.str "pick")))) (sSeq (sSet 2 (owS (oV (oL (vVp ", ") [(.v (fzS (compS 1 [] [0] (iV (oV (oIx (oN 0) (oC (.int 1))))) (gN 0) bTrue (fzS (qY qZg [(.v (oV (oN 0)))])))))]))))
  (sRet (owS (svFS [(false,(oV (oC (.str "pick(")))),(true,(oV (oN 2))),(false,(oV (oC (.str ")"))))])))) sNil)
  (sSeq (sIf (asB (o2 eqF (oN 1) (oC (.str "record")))) (sSeq (sSet 2 (owS (oV (oL (vVp ", ") [(.v (fzS (compS 1 [] [0] (iV (oV (oIx (oN 0) (oC (.int 1))))) (gN 0) bTrue (fzS (qY (qJ9 R_shown_term) [(.v (oV (oN 0)))])))))]))))
  (sRet (owS (oV (o2 addS (o2 addS (oC (.str "{")) (oN 2)) (oC (.str "}"))))))) sNil)
  (sSeq (sIf (asB (o2 eqF (oN 1) (oC (.str "if")))) (sSeq (sSet 2 (qY (wW R_shown_term) [(.v (jQu (oN 0) (some (oV (oC (.int 1)))) none))]))
  (sRet (owS (svFS [(false,(oV (oC (.str "if(")))),(true,(oV (oN 2))),(false,(oV (oC (.str ")"))))])))) sNil)
  (sSeq (sSet 3 (owS (oV (oIx (oN 0) (oC (.int 1))))))
  (sSeq (sSet 2 (qY (wW R_shown_term) [(.v (oV (oIx (oN 0) (oC (.int 2)))))]))
  (sRet (owS (svFS [(true,(oV (oN 3))),(false,(oV (oC (.str "(")))),(true,(oV (oN 2))),(false,(oV (oC (.str ")"))))])))))))))
noncomputable def vZ:Nat->Fn
 | 0=>fun _=>.no
 | h + 1=>fnS 1 5 (sSeq (sSet 1 (owS (oV (oIx (oN 0) (oC (.int 0))))))
   (sSeq (sIf (asB (o2 eqF (oN 1) (oC (.str "num")))) (sRet (owS (oV (oL strD [(oIx (oN 0) (oC (.int 1)))])))) sNil)
   (sSeq (sIf (asB (o2 eqF (oN 1) (oC (.str "name")))) (sRet (owS (oV (oIx (oN 0) (oC (.int 1)))))) sNil)
   (sSeq (sIf (asB (o2 eqF (oN 1) (oC (.str "op")))) (sRet (qY (xU (vZ h)) [(.v (oV (oN 0)))])) sNil)
   (sSeq (sIf (asB (o2 eqF (oN 1) (oC (.str "field")))) (sRet (owS (oV (o2 addS (o2 addS (.v (fzS (qY (xD (vZ h)) [(.v (oV (oIx (oN 0) (oC (.int 1))))),(.v (vD []))]))) (oC (.str "."))) (oIx (oN 0) (oC (.int 2))))))) sNil)
   (sSeq (sIf (asB (o2 eqF (oN 1) (oC (.str "flip")))) (sSeq (sSet 2 (owS (oV (oIx (oN 0) (oC (.int 1))))))
   (sSeq (sSet 3 (owS (oV (oIx (oN 0) (oC (.int 2))))))
   (sRet (owS (svFS [(false,(oV (oC (.str "flip(")))),(true,(oV (oN 2))),(false,(oV (oC (.str "/")))),(true,(oV (oN 3))),(false,(oV (oC (.str ")"))))]))))) sNil)
   (sSeq (sIf (asB (o2 eqF (oN 1) (oC (.str "rest")))) (sSeq (sSet 4 (qY (vZ h) [(.v (oV (oIx (oN 0) (oC (.int 1)))))]))
   (sSeq (sSet 5 (owS (oV (oIx (oN 0) (oC (.int 2))))))
   (sRet (owS (svFS [(false,(oV (oC (.str "rest(")))),(true,(oV (oN 4))),(false,(oV (oC (.str ", ")))),(true,(oV (oN 5))),(false,(oV (oC (.str ")"))))]))))) sNil)
   (sRet (qY (wT (vZ h)) [(.v (oV (oN 0)))])))))))))
end RF
namespace L2
open PySem PySem.Spec PyProof.Rows
noncomputable def jJ5(K:aQ)(Ch:Value)(j:Nat)(sp:Sp)(t:TA)(ts:TS):TS:=fun D σ H=>t σ H fun vs H1=>sp vs H1 (fun v H2=>D.nx (σ.set j (some v)) H2)
 (fun cls ox H2=>(∃C,cls=.ref C)/\PySem.W.exmOne K cls Ch=some true/\ts D σ H2)
section
variable{X:Cx}{k:Nat}{f:aV}{fd:aH}{ps:List Str}{sp:Sp}{x c y:Str}{p cpos py ap np hpos pos:Pos}{e:Expr}{es:List Expr}{t:TA}{b₀:Stmt}{suite:List Stmt}{ts:TS}{j:Nat}{Ch:Value}
theorem zY2(F:FnOk X.prog X.w X.K X.mg X.base (CXd X.prog X.w) k f fd ps sp)(hr:Room k X.A)(hg:Gl X x)(hm:X.mg x=some (.ref f))(hk:bO X.K (.ref f)=true)(hb:j9 X.K fd ps [])(ha:PA X.mute (e::es) t)(hgc:Gl X c)(hmc:X.mg c=some Ch)(hN:X.N.Nodup)(hj:X.N[j]?=some y)(hy:X.env.scope.names.lookup y=some .local)(hsu:∀ea,PSs (X.marked ea) (b₀::suite) ts)(hex:X.ex=[])(hst:X.stack=X.env::X.outer)(hfr:X.env.frame=some X.env.locals)(hdb:(x == ("__debug__":Str))=false:=by decide)(hdc:(c == ("__debug__":Str))=false:=by decide)(he:aX (e::es) X.env=(false,eval e X.env)::aX es X.env:=by rfl)(hpl:(cZ cpos (aX es X.env)).any (·.1)=false:=by rfl)(hs:swapsWith (.Call (.Name x p) (e::es) [] cpos) (some (.Name y py)) ap.line X.env=pure false:=by rfl):
  PS X (.Try [.Assign [.Name y py] (.Call (.Name x p) (e::es) [] cpos) ap] [.ExceptHandler (some (.Name c np)) none (b₀::suite) hpos] [] [] pos) (jJ5 X.K Ch j sp t ts):=by
 intro pins s σ H D I h;have frm:X.A.frames=some (X.env::X.outer):=by rw[I.ok.frames,hst]
 refine wpAny_Try_except (wpAny_execs_cons (wpAny_Assign_Name ?_ hs));refine dF (qJk I hg hm ?_ hdb);refine PySem.W.callWith_K (h₀:=X.base) I.ok.mod.kin hk (bR (ha cpos pins s σ H _ I.mute h) (fun us s1 hq=>?_) fun _ _ z=>z.elim) he hpl;obtain⟨vs,H1,I0,r,q⟩:=hq;have I1:=I0.unmute;refine⟨I1.kIn,?_⟩;have hl:(us ++ []).length =ps.length:=by rw[bU,←r.length];exact F.len _ _ _ _ q
 have hbd:=hb s1 us I1.kIn hl;rw[bU]at hbd;refine wpAny_call (codeAny_mono (F.run X.A X.stack s1 H1 ⟨us,[]⟩ us vs _ _ hr I1.env0 hbd r q) fun res s' hq=>?_);cases res with
 | ok fl=>
   cases fl with
   | ret u=>
     obtain⟨v,H2,I2,r2,q2⟩:=I1.after hq;exact qXg I2 hN hj (Or.inl hy) r2 (fun s2 I3=>wpAny_execs_nil (wpAny_execs_nil ⟨_,H2,I3,q2⟩)) (.inr hy)
   |next=>exact False.elim hq
   |brk=>exact False.elim hq
   |cont=>exact False.elim hq
 | error ev=>
   obtain⟨ea,cls,a0,H2,B,ox,rfl,hos,bare,un,hok,fl,cov,hea,sea,⟨oe,hoe,hdic⟩,⟨C,rfl⟩,hx,hsuite⟩:=hq;rw[hst]at fl;refine bR ((qXm _ _).any (wpAny_looks_onW (E:=fun _ _=>False) (Q:=fun _ t' =>∃h4,t' ={s' with heap:=h4}/\Heap.HeldW B (X.env::X.outer) ea (.ref C) a0 X.env.locals h4/\s'.heap.UpToSlots h4) frm hfr fl fun h4 held4 sm4=>⟨h4,rfl,held4,sm4⟩)) (fun _ t4 hq4=>?_) fun _ _ z=>z.1.elim
   obtain⟨⟨h4,rfl,held4,sm4⟩,dk4⟩:=hq4;refine bR ((qVr _ _).any (wpAny_landsW (E:=fun _ _=>False) (s:={s' with heap:=h4}) (Q:=fun _ t' =>∃h5,t' ={s' with heap:=h5}/\Heap.FlyingW B (X.env::X.outer) ea (.ref C) a0 h5/\h4.UpToSlots h5) held4 fun h5 fl5 sm5=>⟨h5,rfl,fl5,sm5⟩)) (fun _ t5 hq5=>?_) fun _ _ z=>z.1.elim
   obtain⟨⟨h5,rfl,fl5,sm5⟩,dk5⟩:=hq5;have fl5' :Heap.FlyingW B X.stack ea (.ref C) a0 h5:=by rw[hst];exact fl5
   have I5:Inv X pins σ H2 {s' with heap:=h5}:=vXk I1 hos bare un hok fl5' cov (sm4.trans sm5);refine wpAny_handleBy_cons (codeAny_handlers_test (qJk (I5.marked ea) hgc hmc ?_ hdc)) (by intro q;cases q);obtain⟨ob,hob,hobc⟩:=fl5.there;have LT:PySem.W.Looks (model X.prog X.w) h5 (typeOf (.ref ea)) (.ref C):=hobc▸(PySem.W.Looks.ld hob).andThen .now;refine(PySem.W.exm_one I5.kIn LT hx).here ?_
   refine codeAny_handlers_suite ?_
   refine bR ((qVr _ _).any (lands_againW (E:=fun _ _=>False) (s:={s' with heap:=h5}) (Q:=fun _ t' =>∃h6,t' ={s' with heap:=h6}/\Heap.FlyingW B (X.env::X.outer) ea (.ref C) a0 h6/\h5.UpToSlots h6) fl5 fun h6 fl6 sm6=>⟨h6,rfl,fl6,sm6⟩)) (fun _ t6 hq6=>?_) fun _ _ z=>z.1.elim
   obtain⟨⟨h6,rfl,fl6,sm6⟩,dk6⟩:=hq6;have fl6' :Heap.FlyingW B X.stack ea (.ref C) a0 h6:=by rw[hst];exact fl6
   have I6:Inv X pins σ H2 {s' with heap:=h6}:=vXk I1 hos bare un hok fl6' cov ((sm4.trans sm5).trans sm6);refine bR (hsu ea pins _ _ _ _ (I6.marked ea) hsuite) (fun fw s9 h9=>?_) fun _ _ z=>z.elim
   cases fw with
   | next=>
     obtain⟨σ9,H9,I9,q9⟩:=h9;exact⟨_,H9,I9.unmarked I.ok.hd,q9⟩
   | ret v=>
     obtain⟨v9,σ9,H9,I9,r9,q9⟩:=h9;exact⟨v9,_,H9,I9.unmarked I.ok.hd,r9,q9⟩
   |brk=>obtain⟨σ9,H9,I9,q9⟩:=h9;exact⟨_,H9,I9.unmarked I.ok.hd,q9⟩
   |cont=>obtain⟨σ9,H9,I9,q9⟩:=h9;exact⟨_,H9,I9.unmarked I.ok.hd,q9⟩
end
end L2
namespace DX
open PySem L2 PyProof.Rows
noncomputable def qKi(F:Fn)(as:List Am)(hd:Nat->Bool)(j:Nat)(su:SS):SS:=fun env=>match evOs (as.map Am.o) env with
 | .ok r=>match qVa F as r.1 r.2 with
   |.ok q=>.ok (.nx (q.2.set j (.s false q.1)))
   | .er C _=>cond (hd C) (match su (r.2.map vVq) with
     |.ok (.rt o e)=>.ok (.rt o e)
     |_=>.no) .no
   |.no =>.no
 |_=>.no
section
variable{X:Cx}{c:Nat->aV}{E:XK}{k:Nat}{f:aV}{fd:aH}{ps:List Str}{x cn y:Str}{p cpos py ap np hpos pos:Pos}{e:Expr}{es:List Expr}{b₀:Stmt}{suite:List Stmt}{su:SS}{j:Nat}{Ch:Value}{F:Fn}{as:List Am}{hd:Nat->Bool}
theorem zYo(G:FnOk X.prog X.w X.K X.mg X.base (CXd X.prog X.w) k f fd ps (spD X.K c as.length F))(hr:Room k X.A)(hg:Gl X x)(hm:X.mg x=some (.ref f))(hk:bO X.K (.ref f)=true)(hb:j9 X.K fd ps [])(ha:OsD X.mute c E0 (e::es) (as.map Am.o))(hgc:Gl X cn)(hmc:X.mg cn=some Ch)(hN:X.N.Nodup)(hj:X.N[j]?=some y)(hy:X.env.scope.names.lookup y=some .local)(hx:∀C,hd C=true->PySem.W.exmOne X.K (.ref (c C)) Ch=some true)(hsu:∀ea,SDs (X.marked ea) c E0 (b₀::suite) su)(hex:X.ex=[]:=by rfl)(hst:X.stack=X.env::X.outer:=by rfl)(hfr:X.env.frame=some X.env.locals:=by rfl)(hdb:(x == ("__debug__":Str))=false:=by decide)(hdc:(cn == ("__debug__":Str))=false:=by decide)(he:aX (e::es) X.env=(false,eval e X.env)::aX es X.env:=by rfl)(hpl:(cZ cpos (aX es X.env)).any (·.1)=false:=by rfl)(hs:swapsWith (.Call (.Name x p) (e::es) [] cpos) (some (.Name y py)) ap.line X.env=pure false:=by rfl):
  SD X c E (.Try [.Assign [.Name y py] (.Call (.Name x p) (e::es) [] cpos) ap] [.ExceptHandler (some (.Name cn np)) none (b₀::suite) hpos] [] [] pos) (qKi F as hd j su):=by
 refine⟨PS.len (PS.imp (zY2 G hr hg hm hk hb ha.h hgc hmc hN hj hy (ts:=tS X.K c E0 su) (fun ea=>(hsu ea).h) hex hst hfr hdb hdc he hpl hs) fun D σ H=>?_)⟩;rintro⟨hl,env,B,W,cf,w⟩;unfold qKi at w;cases e0:evOs (as.map Am.o) env with
 |er C fs=>rw[e0]at w;exact w.elim
 |no=>rw[e0]at w;exact w.elim
 |ok r=>
 rw[e0]at w;refine qZl cf (show(evOs (as.map Am.o) env).wp (fun r' =>r' =r) _ by rw[e0];rfl) fun r' hr' us H1 W1 g=>?_
 subst hr';dsimp only at w;refine qJx g.cf g.at_ ?_
 cases e1:qVa F as r'.1 r'.2 with
 |no=>rw[e1]at w;exact w.elim
 | ok q=>
   rw[e1]at w;intro u H' W' Z g2;obtain⟨W2,s2,c2⟩:=g2.r.put (qY8 g2.cf hl hj);exact w _ H' W2 (g.st.trans s2) c2
 | er C fs=>
   rw[e1]at w;obtain⟨hc,w2⟩:=vM w;intro H' Y ox sx er;refine⟨⟨_,rfl⟩,hx C hc,?_⟩;have sm:Same (hide (hd2 B Y) H') (hide (hd2 B fun _=>0) H'):=zY fun a o z q=>⟨by dsimp only[hd2]at *;omega,q⟩
   have hb3:∀a,B a≠0->∃o,H' a=some o/\Hb o:=fun a z=>by rw[sx.by_ a z];exact g.cf.hb a z
   have cf2:Cf X.K c (r'.2.map vVq) σ H' B (fun _=>0):=⟨SlAt.drop (sx.same.trans sm) g.cf.at_,fun a=>by have:=g.cf.nd a;(try dsimp only);omega,fun a z=>hb3 a z⟩
   have st3:Step env σ H B W (r'.2.map vVq) σ H' (fun _=>0):=by
    refine⟨(g.st.same.trans sx.same).trans sm,fun a z=>by rw[sx.by_ a z,g.st.by_ a z],fun a z=>absurd rfl z,fun a z=>g.st.dom a (sx.dom a z),fun a _ z=>absurd rfl z,fun i o z=>?_,by rw[aB,g.st.len]⟩;rw[cT]at z;cases e2:r'.2[i]? with
    |none=>rw[e2]at z;cases z
    | some s=>
      rw[e2]at z;cases s with
      |un=>cases z
      |s io o' =>cases o' <;> cases z
   cases e3:su (r'.2.map vVq) with
   |no=>rw[e3]at w2;exact w2.elim
   |er _ _=>rw[e3]at w2;exact w2.elim
   | ok o=>
     rw[e3]at w2;cases o with
     |nx _=>exact w2.elim
     |bk _=>exact w2.elim
     |ct _=>exact w2.elim
     | rt r e' =>
       refine⟨_,B,_,cf2,?_⟩;rw[e3];exact fun v σ' H2 W2 Z g3=>w2 v σ' H2 W2 Z ⟨st3.trans g3.st,g3.cf,g3.at_⟩
end
noncomputable def alC(c:Nat):Bool:=(decide (65<=c) && decide (c<=90)) || (decide (97<=c) && decide (c<=122))
noncomputable def alD:D->Option D
 | .str z=>match z.cps.toList with
   |[c]=>cond (decide (c<128)) (some (.bl (alC c))) none
   |_=>none
 |_=>none
theorem al1:∀k,k<128->Txt.isalpha ⟨#[k]⟩=alC k:=by decide +kernel
section
variable{X:Cx}{c:Nat->aV}{E:XK}{o:Expr}{oo:Oe}{apos cpos:Pos}
theorem zXh:MtR X "str.isalpha" (fun x vs H Q=>∃k,x=.str ⟨#[k]⟩/\vs=[]/\k<128/\Q (.bl (alC k)) H):=by
 intro pins s σ H x xs v us Q I rx rs h;obtain⟨k,rfl,rfl,hk,q⟩:=h;obtain⟨t,rfl⟩:=rx;cases rs;refine SC.isalpha ?_
 rw[al1 k hk];exact⟨.bl (alC k),H,I,rfl,q⟩
theorem zKo(ho:OD X c E o oo)(hbase:attributeBase o "isalpha" X.env (eval o X.env)=eval o X.env:=by rfl)(hline:(apos.endLine == cpos.line)=true:=by rfl):OD X c E (.Call (.Attribute o "isalpha" apos) [] [] cpos) (o1 alD oo):=by
 refine⟨PE.imp (zJn F.plainAttrs_str F.slot_str_isalpha F.type_str_isalpha zXh ho.h hbase hline) fun σ H Q h=>zZr (r:=fun x H Q=>tyV X.K "str" x H/\∃k,x=.str ⟨#[k]⟩/\([]:List V)=[]/\k<128/\Q (.bl (alC k)) H) (fun u H x z Q d e q=>?_) h⟩;unfold alD at e;split at e
 ·rename_i z;split at e
  ·rename_i k hk;obtain⟨q1,q2⟩:=zM e;cases q2;cases d;have hz:z=⟨#[k]⟩:=by
    obtain⟨cs⟩:=z;have:cs=#[k]:=by apply Array.toList_inj.mp;exact hk
    rw[this]
   subst hz;exact⟨rfl,k,rfl,rfl,of_decide_eq_true q1,q _ fun _=>.bl _⟩
  ·cases e
 ·cases e
end
noncomputable def all2(f:D->D->Option Bool):List D->List D->Option Bool
 |[],[]=>some true
 |d::ds,e::es=>(f d e).bind fun a=>(all2 f ds es).bind fun b=>some (a && b)
 |_,_=>some false
noncomputable def deq:Nat->D->D->Option Bool
 | 0,x,y=>eqFB x y
 | n + 1,x,y=>match x,y with
   |.nd .lst ds,.nd .lst es=>all2 (deq n) ds es
   |.nd .tup ds,.nd .tup es=>all2 (deq n) ds es
   |.int _,.nd .tup _=>some false
   |.nd .tup _,.int _=>some false
   |.str _,.nd .tup _=>some false
   |.nd .tup _,.str _=>some false
   |.int _,.str _=>some false
   |.str _,.int _=>some false
   |x,y=>eqFB x y
noncomputable def neQ(x y:D):Option D:=(deq 30 x y).map fun b=>.bl (!b)
theorem vJp{f:D->D->Option Bool}:∀{ds es:List D} {b:Bool},all2 f ds es=some b->∃g:Nat->Bool,(∀(j:Nat) (d e:D),ds[j]?=some d->es[j]?=some e->f d e=some (g j))/\((List.range (min ds.length es.length)).all g && ds.length == es.length)=b
 |[],[],b,h=>⟨fun _=>true,fun j d e q=>(by cases q),by cases h;rfl⟩
 |[],e::es,b,h=>⟨fun _=>true,fun j d e q=>(by cases q),by cases h;rfl⟩
 |d::ds,[],b,h=>⟨fun _=>true,fun j d e _ q=>(by cases q),by cases h;rfl⟩
 | d::ds,e::es,b,h=>by
   obtain⟨a,h1,h⟩:=Option.bind_eq_some_iff.mp h;obtain⟨b,h2,h⟩:=Option.bind_eq_some_iff.mp h;obtain⟨g,h3,rfl⟩:=vJp h2;cases h;refine⟨fun j=>Nat.rec a (fun j _=>g j) j,fun j x y p q=>?_,?_⟩
   ·cases j with
    |zero=>cases p;cases q;exact h1
    |succ j=>exact h3 j x y p q
   ·rw [aZ,aZ,show min (ds.length + 1) (es.length + 1)=min ds.length es.length + 1 by omega,List.range_succ_eq_map,dQ,List.all_map,Bool.and_assoc];congr 2;rw[bH];simp
section
variable{X:Cx}{c:Nat->aV}{pins:List (aV×Obj)}{σ:L2.St}{H:Hp}{s:aY}{A:cB}
theorem zX5(I:Inv X pins σ H s):∀(n:Nat) {v:V} {d e:D} {b:Bool},DAt X.K c H v d->DAt X.K c H v e->deq n d e=some b->b=true:=by
 have fl:∀{v:V} {d e:D} {b:Bool},DAt X.K c H v d->DAt X.K c H v e->eqFB d e=some b->b=true:=fun hx hy h=>by
  obtain⟨_,h2⟩:=vJj hx hy h;rw[←h2];exact decide_eq_true rfl
 intro n;induction n with
 |zero=>exact fl
 | succ n ih=>
   intro v d e b hx hy h;have go:∀{k:Kd} {ds es:List D} {vs ws:List V},vs=ws->DsAt X.K c H vs ds->DsAt X.K c H ws es->all2 (deq n) ds es=some b->b=true:=fun {_ ds es _ _} q h2 k2 h=>by
    subst q;obtain⟨g,h3,rfl⟩:=vJp h;have l1:=h2.len;have l2:=k2.len;rw[aE,List.all_eq_true];refine⟨fun j hj=>?_,by simp;omega⟩;have hj:=List.mem_range.mp hj;have g1:ds[j]?=some ds[j]:=aF (by omega);have g2:es[j]?=some es[j]:=aF (by omega);obtain⟨x,e1,hx⟩:=h2.get g1;exact ih hx (k2.r j x _ e1 g2) (h3 j _ _ g1 g2)
   unfold deq at h;split at h
   ·obtain⟨p,vs,rfl,h1,h2⟩:=hx.un;obtain⟨q,ws,e1,k1,k2⟩:=hy.un;cases e1;exact go (k:=.lst) (I.list_inj h1 k1) h2 k2 h
   ·obtain⟨p,vs,rfl,h1,h2⟩:=hx.un;obtain⟨q,ws,e1,k1,k2⟩:=hy.un;cases e1;exact go (k:=.tup) (I.tuple_inj h1 k1) h2 k2 h
   ·cases hx;cases hy
   ·cases hy;cases hx
   ·cases hx;cases hy
   ·cases hy;cases hx
   ·cases hx;cases hy
   ·cases hy;cases hx
   ·exact fl hx hy h
theorem zQp{f:D->D->Option Bool}{vs ws:List V}{ds es:List D}{its its2:List Value}{b:Bool}(h:DsAt X.K c H vs ds)(k:DsAt X.K c H ws es)(r1:Vals vs its)(r2:Vals ws its2)(e:all2 f ds es=some b)(hf:∀(d e:D) (x y:V) (u v:Value) (b:Bool),DAt X.K c H x d->DAt X.K c H y e->RelV x u->RelV y v->f d e=some b->dI A.in1 s u v b):
  ∃g:Nat->Bool,(∀(j:Nat) (h1:j<its.toArray.size) (h2:j<its2.toArray.size),dI A.in1 s its.toArray[j] its2.toArray[j] (g j))/\((List.range (min its.toArray.size its2.toArray.size)).all g && its.toArray.size == its2.toArray.size)=b:=by
 obtain⟨g,h3,rfl⟩:=vJp e;have l1:=r1.length;have l2:=r2.length;have m1:=h.len;have m2:=k.len;refine⟨g,fun j h1 h2=>?_,by rw[aR,aR,←l1,←l2,m1,m2]⟩;rw[aR]at h1 h2;have g1:ds[j]?=some ds[j]:=aF (by omega);have g2:es[j]?=some es[j]:=aF (by omega);obtain⟨x,ex,hx⟩:=h.get g1;obtain⟨y,ey,hy⟩:=k.get g2;obtain⟨u,eu,ru⟩:=r1.get ex;obtain⟨v,ev,rv⟩:=r2.get ey;have f1:its.toArray[j]=u:=by simpa using (aW.mp eu).2
 have f2:its2.toArray[j]=v:=by simpa using (aW.mp ev).2
 rw[f1,f2];exact hf _ _ x y u v _ hx hy ru rv (h3 j _ _ g1 g2)
noncomputable def Bo(A:cB)(s:aY)(u v:Value)(b:Bool):Prop:=SeqAt.RcAt A s u v b/\SeqAt.RcNeAt A s u v (!b)
theorem jWc(I:Inv X pins σ H s):∀(n:Nat) (A:cB) (d e:D) (x y:V) (u v:Value) (b:Bool),A.units+n<cLine->DAt X.K c H x d->DAt X.K c H y e->RelV x u->RelV y v->deq n d e=some b->Bo A s u v b/\dI A s u v b:=by
 have fl:∀(A:cB) (d e:D) (x y:V) (u v:Value) (b:Bool),DAt X.K c H x d->DAt X.K c H y e->RelV x u->RelV y v->eqFB d e=some b->Bo A s u v b/\dI A s u v b:=fun A d e x y u v b hx hy ru rv h=>by
  unfold eqFB at h;split at h
  ·cases hx;cases hy;cases h;obtain⟨t,rfl⟩:=ru;obtain⟨t',rfl⟩:=rv;exact⟨⟨SeqAt.RcAt.int_int _ _ _ _,SeqAt.RcNeAt.int_int _ _ _ _⟩,SeqAt.EqAt.int_int _ _ _ _⟩
  ·cases hx;cases hy;cases h;obtain⟨t,rfl⟩:=ru;obtain⟨t',rfl⟩:=rv;exact⟨⟨SeqAt.RcAt.str_str _ _ _ _,SeqAt.RcNeAt.str_str _ _ _ _⟩,SeqAt.EqAt.str_str _ _ _ _⟩
  ·cases hx;cases hy;cases h;cases ru;cases rv;exact⟨⟨SeqAt.RcAt.bool_bool _ _,SeqAt.RcNeAt.bool_bool _ _⟩,SeqAt.EqAt.bool_bool _ _⟩
  ·cases hx;cases hy;cases h;cases ru;obtain⟨t',rfl⟩:=rv;exact⟨⟨SeqAt.RcAt.none_int _ _,SeqAt.RcNeAt.none_int _ _⟩,SeqAt.EqAt.none_int _ _⟩
  ·cases hx;cases hy;cases h;cases ru;cases rv;exact⟨⟨SeqAt.RcAt.none_none,SeqAt.RcNeAt.none_none⟩,SeqAt.EqAt.same _⟩
  ·cases h
 intro n;induction n with
 |zero=>intro A d e x y u v b _;exact fl A d e x y u v b
 | succ n ih=>
   intro A d e x y u v b hu hx hy ru rv h;have hu' :A.units<cLine:=by omega
   have it:∀(d e:D) (x y:V) (u v:Value) (b:Bool),DAt X.K c H x d->DAt X.K c H y e->RelV x u->RelV y v->deq n d e=some b->dI A.in1 s u v b:=fun d e x y u v b q1 q2 q3 q4 q5=>(ih A.in1 d e x y u v b (by show A.units+1+n<cLine;omega) q1 q2 q3 q4 q5).2
   have fin:∀{p q:aV},x=.ref p->y=.ref q->u=.ref p->v=.ref q->Bo A s (.ref p) (.ref q) b->Bo A s u v b/\dI A s u v b:=fun {p q} e1 e2 e3 e4 bo=>by
    subst e1 e2 e3 e4;by_cases z:p=q
    ·subst z;rw[zX5 I (n+1) hx hy h]at bo⊢;exact⟨bo,SeqAt.EqAt.same _⟩
    ·exact⟨bo,SeqAt.EqAt.of_refs z bo.1⟩
   have h0:=h;unfold deq at h;split at h
   ·obtain⟨p,vs,rfl,h1,h2⟩:=hx.un;obtain⟨q,ws,rfl,k1,k2⟩:=hy.un;cases ru;cases rv;obtain⟨its,r1,p1,_⟩:=I.list h1;obtain⟨its2,r2,p2,_⟩:=I.list k1;obtain⟨g,g1,g2⟩:=zQp h2 k2 r1 r2 h it;refine fin rfl rfl rfl rfl ?_
    by_cases hsz:its.toArray.size=its2.toArray.size
    ·rw [hsz,Nat.min_self,beq_self_eq_true,Bool.and_true,←hsz] at g2;subst g2;exact⟨SeqAt.RcAt.lists p1.isList p2.isList hsz hu' g1,SeqAt.RcNeAt.lists p1.isList p2.isList hsz hu' g1⟩
    ·rw [beq_eq_false_iff_ne.mpr hsz,Bool.and_false] at g2;subst g2;exact⟨SeqAt.RcAt.lists_lengths p1.isList p2.isList (by simpa using hsz) hu',SeqAt.RcNeAt.lists_lengths p1.isList p2.isList (by simpa using hsz) hu'⟩
   ·obtain⟨p,vs,rfl,h1,h2⟩:=hx.un;obtain⟨q,ws,rfl,k1,k2⟩:=hy.un;cases ru;cases rv;obtain⟨its,r1,p1,_⟩:=I.tuple h1;obtain⟨its2,r2,p2,_⟩:=I.tuple k1;obtain⟨g,g1,rfl⟩:=zQp h2 k2 r1 r2 h it;exact fin rfl rfl rfl rfl ⟨SeqAt.RcAt.tuples p1 p2 hu' g1,SeqAt.RcNeAt.tuples p1 p2 hu' g1⟩
   ·obtain⟨q,ws,rfl,k1,_⟩:=hy.un;cases hx;cases rv;cases h;obtain⟨t,rfl⟩:=ru;obtain⟨_,_,p2,_⟩:=I.tuple k1;exact⟨⟨SeqAt.RcAt.int_tuple _ _ p2 hu',SeqAt.RcNeAt.int_tuple _ _ p2 hu'⟩,SeqAt.EqAt.int_tuple _ _ p2 hu'⟩
   ·obtain⟨q,ws,rfl,k1,_⟩:=hx.un;cases hy;cases ru;cases h;obtain⟨t,rfl⟩:=rv;obtain⟨_,_,p2,_⟩:=I.tuple k1;exact⟨⟨SeqAt.RcAt.tuple_int _ _ p2 hu',SeqAt.RcNeAt.tuple_int _ _ p2 hu'⟩,SeqAt.EqAt.tuple_int _ _ p2 hu'⟩
   ·obtain⟨q,ws,rfl,k1,_⟩:=hy.un;cases hx;cases rv;cases h;obtain⟨t,rfl⟩:=ru;obtain⟨_,_,p2,_⟩:=I.tuple k1;exact⟨⟨SeqAt.RcAt.str_tuple _ _ p2 hu',SeqAt.RcNeAt.str_tuple _ _ p2 hu'⟩,SeqAt.EqAt.str_tuple _ _ p2 hu'⟩
   ·obtain⟨q,ws,rfl,k1,_⟩:=hx.un;cases hy;cases ru;cases h;obtain⟨t,rfl⟩:=rv;obtain⟨_,_,p2,_⟩:=I.tuple k1;exact⟨⟨SeqAt.RcAt.tuple_str _ _ p2 hu',SeqAt.RcNeAt.tuple_str _ _ p2 hu'⟩,SeqAt.EqAt.tuple_str _ _ p2 hu'⟩
   ·cases hx;cases hy;cases h;obtain⟨t,rfl⟩:=ru;obtain⟨t',rfl⟩:=rv;exact⟨⟨SeqAt.RcAt.int_str _ _ _ _,SeqAt.RcNeAt.int_str _ _ _ _⟩,SeqAt.EqAt.int_str _ _ _ _⟩
   ·cases hx;cases hy;cases h;obtain⟨t,rfl⟩:=ru;obtain⟨t',rfl⟩:=rv;exact⟨⟨SeqAt.RcAt.str_int _ _ _ _,SeqAt.RcNeAt.str_int _ _ _ _⟩,SeqAt.EqAt.str_int _ _ _ _⟩
   ·exact fl A _ _ x y u v b hx hy ru rv h
end
noncomputable def rEqQ(K:aQ)(c:Nat->aV)(t:Bool->Bool):R2:=fun u w H Q=>∃x y b,DAt K c H u x/\DAt K c H w y/\deq 30 x y=some b/\Q (.bl (t b)) H
section
variable{X:Cx}{c:Nat->aV}{E:XK}{a b:Expr}{oa ob:Oe}{pos:Pos}{k:Nat}
theorem zJp(hu:X.A.units+64<cLine):OpR X (bI .NotEq) (rEqQ X.K c not):=fun pins s σ H x y u v Q I ru rv ⟨d,e,b,h1,h2,h3,q⟩=>(jWc I 30 X.A d e x y u v b (by omega) h1 h2 ru rv h3).1.2 _ _ _ _ (vH I q rfl)
theorem zJl{K:aQ}(t:Bool->Bool):PrS2 K c (rEqQ K c t) fun x y=>(deq 30 x y).map fun b=>.bl (t b):=fun u w H x y z Q hx hy e q=>by
 obtain⟨b,e1,rfl⟩:=bY.mp e;exact⟨x,y,b,hx,hy,e1,q _ fun _=>.bl _⟩
theorem jWu(hr:Room k X.A)(ha:OD X c E a oa)(hb:OD X c E b ob):OD X c E (.Compare a [.NotEq] [b] pos) (o2 neQ oa ob):=qKw (zJp hr.units) (zJl not) ha hb (qVj _)
theorem jJ4(hr:Room k X.A)(ha:OD X c E a oa)(hb:OD X c E b ob):TD X c E (.Compare a [.NotEq] [b] pos) (asB (o2 neQ oa ob)):=qWa (zJp hr.units) (zJl not) ha hb (qVj _)
end
end DX
namespace X18
open PySem L2 DX RF PyProof.Rows
noncomputable def qQn:SS:=(sSeq (sSet 3 (owS (oV (oMod (oAdd (oAdd (oMul (oN 3) (oN 3)) (oMul (oC (.int 48271)) (oN 3))) (oMul (oN 4) (oN 4))) (oC (.int 2147483647))))))
  (zB (eMu1 (pOf (oN 2)) (owS (oV (oN 3))) apF)))
noncomputable def j7:Fn:=fnS 2 3 (sSeq (sSet 2 (eLst []))
  (sSeq (sSet 3 (owS (oV (oAdd (oMod (oN 0) (oC (.int 2147483647))) (oC (.int 48271))))))
  (sSeq (sFor (iL rg1 [(oV (oN 1))]) (gN 4) qQn)
  (sRet (eMv 2)))))
noncomputable def jW:Fn:=fnS 1 0 (sRet (owS (oV (o2 addS (oIx (oC (.str "abcdegmnouvwxyz")) (oMod (oN 0) (oC (.int 15)))) (oIx (oC (.str "abcdegmnouvwxyz")) (oMod (oDiv (oN 0) (oC (.int 15))) (oC (.int 15))))))))
noncomputable def jX:Fn:=fnS 1 0 (sSeq (sIf (asB (o2 eqF (oMod (oN 0) (oC (.int 4))) (oC (.int 0)))) (sRet (owS (vD [(oV (oC (.str "num"))),(oV (oMod (oDiv (oN 0) (oC (.int 4))) (oPow (oC (.int 10)) (oC (.int 6)))))]))) sNil)
  (sSeq (sIf (asB (o2 eqF (oMod (oN 0) (oC (.int 4))) (oC (.int 1)))) (sRet (owS (vD [(oV (oC (.str "call"))),(fzS (qY jW [(.v (oV (oDiv (oN 0) (oC (.int 4)))))])),(vD [(vD [(oV (oC (.str "name"))),(fzS (qY jW [(.v (oV (oDiv (oN 0) (oC (.int 900)))))]))])])]))) sNil)
  (sRet (owS (vD [(oV (oC (.str "name"))),(fzS (qY jW [(.v (oV (oDiv (oN 0) (oC (.int 4)))))]))])))))
noncomputable def yD:SS:=(sSeq (sSet 3 (owS (oV (oMod (oN 2) (oC (.int 5))))))
  (sSeq (sSet 4 (owS (oV (oDiv (oN 2) (oC (.int 5))))))
  (sSeq (sSet 5 (owS (oV (oIx (oC (.str "+-*=<")) (oMod (oN 4) (oC (.int 5)))))))
  (sIf (bOr (asB (o2 eqF (oL lenD [(oN 1)]) (oC (.int 0)))) (asB (o2 eqF (oN 3) (oC (.int 0))))) (zB (eMu1 (pOf (oN 1)) (qY jX [(.v (oV (oN 4)))]) apF)) (sIf (asB (o2 eqF (oN 3) (oC (.int 1)))) (zB (eMu1 (pOf (oN 1)) (owS (vD [(oV (oC (.str "field"))),(fzS (ePop (pOf (oN 1)))),(fzS (qY jW [(.v (oV (oN 4)))]))])) apF)) (sIf (asB (oGt (oL lenD [(oN 1)]) (oC (.int 1)))) (sSeq (sSet 6 (ePop (pOf (oN 1))))
  (zB (eMu1 (pOf (oN 1)) (owS (vD [(oV (oC (.str "op"))),(oV (oN 5)),(fzS (ePop (pOf (oN 1)))),(oV (oN 6))])) apF))) (sIf (asB (o2 eqF (oN 3) (oC (.int 2)))) (zB (eMu1 (pOf (oN 1)) (owS (vD [(oV (oC (.str "op"))),(oV (oN 5)),(fzS (qY jX [(.v (oV (oDiv (oN 4) (oC (.int 5)))))])),(fzS (ePop (pOf (oN 1))))])) apF)) (zB (eMu1 (pOf (oN 1)) (owS (vD [(oV (oC (.str "op"))),(oV (oN 5)),(fzS (ePop (pOf (oN 1)))),(fzS (qY jX [(.v (oV (oDiv (oN 4) (oC (.int 5)))))]))])) apF)))))))))
noncomputable def wS:SS:=(sSeq (sSet 6 (ePop (pOf (oN 1))))
  (zB (eMu1 (pOf (oN 1)) (owS (vD [(oV (oC (.str "op"))),(oV (oIx (oC (.str "-*=+<")) (oMod (oL lenD [(oN 1)]) (oC (.int 5))))),(fzS (ePop (pOf (oN 1)))),(oV (oN 6))])) apF)))
noncomputable def wU:Fn:=fnS 1 6 (sSeq (sSet 1 (eLst []))
  (sSeq (sFor (iV (fzS (qY j7 [(.v (oV (oDiv (oN 0) (oC (.int 7))))),(.v (oV (oAdd (oC (.int 2)) (oMod (oN 0) (oC (.int 6))))))]))) (gN 2) yD)
  (sSeq (vS (asB (oGt (oL lenD [(oN 1)]) (oC (.int 1)))) wS 100000)
  (sRet (owS (oV (oIx (oN 1) (oC (.int 0)))))))))
noncomputable def wD:SS:=(sSeq (sIf (asB (o2 eqF (oIx (oN 0) (oN 3)) (oC (.str "(")))) (sSet 2 (owS (oV (oAdd (oN 2) (oC (.int 1)))))) sNil)
  (sSeq (sIf (asB (o2 eqF (oIx (oN 0) (oN 3)) (oC (.str ")")))) (sSet 2 (owS (oV (oSub (oN 2) (oC (.int 1)))))) sNil)
  (sIf (asB (o2 eqF (oN 2) (oC (.int 0)))) (sRet (eMv 3)) sNil)))
noncomputable def qVh:Fn:=fnS 2 2 (sSeq (sSet 2 (owS (oV (oC (.int 0)))))
  (sSeq (sFor (iL rg2 [(oV (oN 1)),(oV (oL lenD [(oN 0)]))]) (gN 3) wD)
  (sRet (owS (oV (o1 negD (oC (.int 1))))))))
noncomputable def qY5:SS:=(sRet (owS (oV (oC (.bl true)))))
noncomputable def wX:Fn:=fnS 2 1 (sSeq (qKi jI [(.v (oV (oN 0)))] (fun C=> [23].contains C) 2 qY5)
  (sRet (owS (oV (o2 neQ (oN 2) (oN 1))))))
noncomputable def yE:SS:=(sIf (bAnd (asB (o2 eqF (oIx (oN 1) (oN 3)) (oC (.str "(")))) (bNot (asB (o1 alD (oIx (oN 1) (oSub (oN 3) (oC (.int 1)))))))) (sSeq (sSet 4 (qY qVh [(.v (oV (oN 1))),(.v (oV (oN 3)))]))
  (sSeq (sIf (asB (oLt (oN 4) (oC (.int 0)))) (sRet (owS (oV (oC (.bl false))))) sNil)
  (sSeq (sSet 5 (owS (oV (o2 addS (o2 addS (.v (qZh (oN 1) none (some (oV (oN 3))))) (.v (qZh (oN 1) (some (oV (oAdd (oN 3) (oC (.int 1))))) (some (oV (oN 4)))))) (.v (qZh (oN 1) (some (oV (oAdd (oN 4) (oC (.int 1))))) none))))))
  (sIf (bNot (asB (.v (fzS (qY wX [(.v (oV (oN 5))),(.v (oV (oN 2)))]))))) (sRet (owS (oV (oC (.bl false))))) sNil)))) sNil)
noncomputable def qQd:Fn:=fnS 1 5 (sSeq (sSet 1 (owS (oV (o2 addS (oC (.str "ask ")) (.v (fzS (qY (vZ 30) [(.v (oV (oN 0)))])))))))
  (sSeq (sSet 2 (eLst [(vD [(oV (oC (.str "ask"))),(oV (oN 0))])]))
  (sSeq (sIf (asB (o2 neQ (.v (fzS (qY jI [(.v (oV (oN 1)))]))) (oN 2))) (sRet (owS (oV (oC (.bl false))))) sNil)
  (sSeq (sFor (iL rg2 [(oV (oC (.int 4))),(oV (oL lenD [(oN 1)]))]) (gN 3) yE)
  (sRet (owS (oV (oC (.bl true)))))))))
noncomputable def vJq:SS:=(sIf (bNot (asB (.v (fzS (qY qQd [(.v (fzS (qY wU [(.v (oV (oAdd (oMod (oN 2) (oPow (oC (.int 10)) (oC (.int 15)))) (oMul (oMul (oC (.int 104729)) (oN 1)) (oN 1)))))])))]))))) (sRet (owS (oV (oC (.bl false))))) sNil)
noncomputable def zZ5:Fn:=fnS 1 2 (sSeq (sFor (iL enL [(fzS (eSlL (oN 0) none (some (oV (oC (.int 16))))))]) (gT 2 (gCn (gN 1) (gCn (gN 2) gNl))) vJq)
  (sRet (qY qQd [(.v (fzS (qY wU [(.v (oV (oL lenD [(oN 0)])))])))])))
end X18
namespace DX
open PySem L2 PyProof.Rows
variable{args env e1 e2 e:Ev}{C n:Nat}{it:SI}{g:SG}{ds xs vs:List D}{h1:Hn}{hs:List Hn}{ss:List SV}{XI:Res (List D×Ev)}{X:Res Out}{as:List Am}{cs:List (Nat×Nat)}{el:SV}
section
variable{env e:Ev}{o:O}{d:D}{X:Res Out}{s t s1 s2:SS}{i n m:Nat}{a:SE}{v:SV}{b:ST}{q:Bool}
noncomputable def finO(n:Nat):Out->Res (O×Ev)
 |.nx e=>.ok (.fz .non,outs n e)
 |.rt r e=>.ok (r,outs n e)
 |_=>.no
theorem vX{o:Out}{X:Res (O×Ev)}(h:s (args ++ List.replicate m .un)=.ok o)(k:finO n o=X):fnS n m s args=X:=by
 unfold fnS;rw[h];cases o <;> exact k
theorem xY{fs:List (Str×D)}(h:s (args ++ List.replicate m .un)=.er C fs):fnS n m s args=.er C fs:=by
 unfold fnS;rw[h];rfl
theorem vG(k:t env=X):sSeq sNil t env=X:=k
theorem qM(h:b env=.ok (q,e))(k:cond q (sSeq s1 t e) (sSeq s2 t e)=X):sSeq (sIf b s1 s2) t env=X:=by
 unfold sSeq sIf;rw[h];cases q <;> exact k
theorem qVk(h:a env=.ok (o,e))(k: .ok (.rt o e)=X):sSeq (sRet a) t env=X:=by
 unfold sSeq sRet;rw[h];exact k
theorem qI(h:a env=.ok (o,e))(k:t (e.set i (.s false o))=X):sSeq (sSet i a) t env=X:=by
 unfold sSeq sSet;rw[h];exact k
theorem qZs(h:a env=.ok (o,e))(k:t e=X):sSeq (zB a) t env=X:=by
 unfold sSeq zB;rw[h];exact k
theorem qL(h:s env=.ok (.nx e))(k:t e=X):sSeq s t env=X:=by
 unfold sSeq;rw[h];exact k
theorem wI{fs:List (Str×D)}(h:s env=.er C fs):sSeq s t env=.er C fs:=by
 unfold sSeq;rw[h];rfl
theorem qWb(h:s env=.ok (.rt o e))(k: .ok (.rt o e)=X):sSeq s t env=X:=by
 unfold sSeq;rw[h];exact k
theorem vR(h:b env=.ok (q,e))(k:cond q (s1 e) (s2 e)=X):sIf b s1 s2 env=X:=by
 unfold sIf;rw[h];exact k
theorem jG(h:a env=.ok (o,e))(k: .ok (.rt o e)=X):sRet a env=X:=by
 unfold sRet;rw[h];exact k
theorem z7(h:a env=.ok (o,e))(k: .ok (.nx (e.set i (.s false o)))=X):sSet i a env=X:=by
 unfold sSet;rw[h];exact k
theorem wK(h:a env=.ok (o,e))(k: .ok (.nx e)=X):zB a env=X:=by
 unfold zB;rw[h];exact k
theorem qQx(h:it env=.ok (ds,e))(k:forS g s ds e=X):sFor it g s env=X:=by
 unfold sFor;rw[h];exact k
end
section
variable{env e e1 e2:Ev}{o:O}{d x y z:D}{a a1 a2:SE}{v v1 v2:SV}{b:ST}{q q1:Bool}{XE:Res (O×Ev)}{XV:Res (D×Ev)}{XB:Res (Bool×Ev)}{oa ob:Oe}
theorem zP(h:v env=.ok (d,e))(k: .ok (.fz d,e)=XE):owS v env=XE:=by
 unfold owS;rw[h];exact k
theorem vL(h:a env=.ok (o,e))(k: .ok (fzO o,e)=XV):fzS a env=XV:=by
 unfold fzS;rw[h];exact k
theorem vT(h:oV oa env=.ok (d,e))(h2:blOf d=some q)(k: .ok (q,e)=XB):asB oa env=XB:=by
 unfold asB;rw[h];show(opt (blOf d)).bind _=_;rw[h2];exact k
theorem qQz{s t:ST}(h:s env=.ok (q,e))(k:cond q (t e) (.ok (false,e))=XB):bAnd s t env=XB:=by
 unfold bAnd;rw[h];exact k
theorem wE{s t:ST}(h:s env=.ok (q,e))(k:cond q (.ok (true,e)) (t e)=XB):bOr s t env=XB:=by
 unfold bOr;rw[h];exact k
theorem wQ{s:ST}(h:s env=.ok (q,e))(k: .ok (!q,e)=XB):bNot s env=XB:=by
 unfold bNot;rw[h];exact k
theorem v8{XH:Res (Hn×Ev)}(h:v env=.ok (d,e))(k: .ok (.d d,e)=XH):evO (.v v) env=XH:=by
 show(v env).bind _=_;rw[h];exact k
theorem j6{os:List Oe}{XH:Res (List Hn×Ev)}(h:evO oa env=.ok (h1,e))(c:(h1.st || os.all Oe.isP)=true)(h2:evOs os e=.ok (hs,e1))(k: .ok (h1::hs,e1)=XH):evOs (oa::os) env=XH:=by
 show(evO oa env).bind _=_;rw[h];show cond (h1.st || os.all Oe.isP) ((evOs os e).bind _) _=_;rw[c,h2];exact k
theorem wZ{XH:Res (List D×Ev)}(k: .ok ([],env)=XH):evVs [] env=XH:=k
theorem qC{XH:Res (List D×Ev)}(h:v env=.ok (d,e))(h2:evVs ss e=.ok (ds,e1))(k: .ok (d::ds,e1)=XH):evVs (v::ss) env=XH:=by
 show(v env).bind _=_;rw[h];show(evVs ss e).bind _=_;rw[h2];exact k
theorem xZ(h:evVs ss env=.ok (ds,e))(c:decide (ds.length<=1000)=true)(k: .ok (.tup ds,e)=XV):vD ss env=XV:=by
 unfold vD;rw[h];show cond (decide (ds.length<=1000)) _ _=_;grind
theorem zJw(h:evVs ss env=.ok (ds,e))(c:decide (ds.length<=1000)=true)(k: .ok (.ow .lst (ds.map .fz),e)=XE):eLst ss env=XE:=by
 unfold eLst;rw[h];show cond (decide (ds.length<=1000)) _ _=_;grind
theorem zJe{f:D->D->Option D}{h2:Hn}(h:evO oa env=.ok (h1,e))(h' :evO ob e=.ok (h2,e1))(c:(h1.st || ob.isP)=true)(r1:rsv e1 h1=some x)(r2:rsv e1 h2=some y)(r3:f x y=some z)(k: .ok (z,e1)=XV):sv2 f oa ob env=XV:=by
 unfold sv2;rw[h];show(evO ob e).bind _=_;rw[h'];show cond (h1.st || ob.isP) ((opt (rsv e1 h1)).bind _) _=_;rw[c,r1];rw[r2];show(opt (f x y)).bind _=_;rw[r3];exact k
theorem jVz{f:D->Option D}(h:evO oa env=.ok (h1,e))(r1:rsv e h1=some x)(r3:f x=some z)(k: .ok (z,e)=XV):sv1 f oa env=XV:=by
 unfold sv1;rw[h];show(opt (rsv e h1)).bind _=_;rw[r1];show(opt (f x)).bind _=_;rw[r3];exact k
theorem jVy{f:List D->Option D}{os:List Oe}(h:evOs os env=.ok (hs,e))(r1:rsvs e hs=some xs)(r3:f xs=some z)(k: .ok (z,e)=XV):svN f os env=XV:=by
 unfold svN;rw[h];show(opt (rsvs e hs)).bind _=_;rw[r1];show(opt (f xs)).bind _=_;rw[r3];exact k
theorem vX8{f:List D->Option D}{os:List Oe}(h:evOs os env=.ok (hs,e))(r1:vVk hs e=.ok (xs,e1))(r3:f xs=some z)(k: .ok (z,e1)=XV):svA f os env=XV:=by
 unfold svA;rw[h];show(vVk hs e).bind _=_;rw[r1];show(opt (f xs)).bind _=_;rw[r3];exact k
theorem vKy(h:v env=.ok (d,e))(r:qYn d=some ds)(k: .ok (ds,e)=XI):iV v env=XI:=by
 unfold iV;rw[h];show(opt (qYn d)).bind _=_;rw[r];exact k
theorem vWi{f:List D->Option (List D)}(h:evVs ss env=.ok (xs,e))(r:f xs=some ds)(k: .ok (ds,e)=XI):iL f ss env=XI:=by
 unfold iL;rw[h];show(opt (f xs)).bind _=_;rw[r];exact k
end
section
variable{env e e1:Ev}{F:Fn}{as:List Am}{hs:List Hn}{XE:Res (O×Ev)}{t0 t:List O×Ev}{args:Ev}{q:O×Ev}{os:List O}
theorem xM(h0:yL (zS as hs) env=some t0)(h1:yL (wG as hs) t0.2=some t)(h2:wP (zS as hs) t0.1 as hs t.1=some args)(h3:F args=.ok q)(h4:qZi as q.2=some os)(h5:vZx t0.1 q.1 os=true)(k: .ok (q.1,putS env (zS as hs) t0.1 (putS env (wG as hs) os t.2))=XE):qVa F as hs env=XE:=by
 unfold qVa;rw[h0];show(opt (yL (wG as hs) t0.2)).bind _=_;rw[h1];show(opt (wP (zS as hs) t0.1 as hs t.1)).bind _=_;rw[h2];show(F args).bind _=_;rw[h3];show(opt (qZi as q.2)).bind _=_;rw[h4];show cond (vZx t0.1 q.1 os) _ _=_;grind
theorem vQq{fs:List (Str×D)}(h0:yL (zS as hs) env=some t0)(h1:yL (wG as hs) t0.2=some t)(h2:wP (zS as hs) t0.1 as hs t.1=some args)(h3:F args=.er C fs):qVa F as hs env=.er C fs:=by
 unfold qVa;rw[h0];show(opt (yL (wG as hs) t0.2)).bind _=_;rw[h1];show(opt (wP (zS as hs) t0.1 as hs t.1)).bind _=_;rw[h2];show(F args).bind _=_;rw[h3];rfl
theorem zW(h:evOs (as.map Am.o) env=.ok (hs,e))(k:qVa F as hs e=XE):qY F as env=XE:=by
 unfold qY;rw[h];exact k
end
section
variable{env e e1:Ev}{s k:SP}{a:SE}{v:SV}{i j:Nat}{π:List Nat}{o x:O}{os:List O}{XE:Res (O×Ev)}{X:Res Out}
theorem xT{f:List O->O->Option (O×List O)}{os0:List O}{z:O×List O}(h:s env=some (.p i π))(h0:qQ8 env i π=some os0)(h1:a env=.ok (x,e))(h2:qQ8 e i π=some os)(c:stab env e i π=true)(h3:f os x=some z)(k: .ok (z.1,setE e i π (.ow .lst z.2))=XE):eMu1 s a f env=XE:=by
 unfold eMu1;rw[h];show(opt (qQ8 env i π)).bind _=_;rw[h0];rw[h1];show(opt (qQ8 e i π)).bind _=_;rw[h2];show cond (stab env e i π) ((opt (f os x)).bind _) _=_;rw[c,h3];exact k
end
theorem jP{body:SS}{d:D}(h1:g d env=some e1)(h2:body e1=.ok (.nx e2))(k:forS g body ds e2=X):forS g body (d::ds) env=X:=by
 show(opt (g d env)).bind _=_;rw[h1];show(body e1).bind _=_;rw[h2];exact k
theorem zK7{body:SS}{d:D}{o:O}(h1:g d env=some e1)(h2:body e1=.ok (.rt o e2))(k: .ok (.rt o e2)=X):forS g body (d::ds) env=X:=by
 show(opt (g d env)).bind _=_;rw[h1];show(body e1).bind _=_;rw[h2];exact k
theorem vJi{body:SS}{d:D}{fs:List (Str×D)}(h1:g d env=some e1)(h2:body e1=.er C fs):forS g body (d::ds) env=.er C fs:=by
 show(opt (g d env)).bind _=_;rw[h1];show(body e1).bind _=_;rw[h2];rfl
section
variable{env e e1 e2:Ev}{o:O}{d x y z:D}{h1 h2 h3:Hn}{oa ob:Oe}{XV:Res (D×Ev)}{XH:Res (Hn×Ev)}{f:D->D->Option D}{f1:D->Option D}
theorem vP(h:evO oa env=.ok (h1,e))(k:hnV e h1=XV):oV oa env=XV:=by
 cases oa with
 | p s=>
   change (opt (s env)).bind _=_ at h;show(opt (s env)).bind _=_;cases q:s env with
   |none=>rw[q]at h;cases h
   |some a=>rw[q]at h;cases h;exact k
 | v s=>
   change (s env).bind _=_ at h;show s env=_;cases q:s env with
   |no=>rw[q]at h;cases h
   |er C fs=>rw[q]at h;cases h
   |ok a=>rw[q]at h;cases h;exact k
theorem qVf{s:SP}(h:s env=some h1)(k: .ok (h1,env)=XH):evO (.p s) env=XH:=by
 show(opt (s env)).bind _=_;rw[h];exact k
theorem qXb{s:SP}(h:evO (.p s) env=.ok (h1,e)):s env=some h1/\e=env:=by
 change (opt (s env)).bind _=_ at h;cases q:s env with
 |none=>rw[q]at h;cases h
 |some a=>rw[q]at h;cases h;exact⟨rfl,rfl⟩
theorem evO_o2(h:evO oa env=.ok (h1,e))(h' :evO ob e=.ok (h2,e1))(c:(h1.st || ob.isP)=true)(r1:rsv e1 h1=some x)(r2:rsv e1 h2=some y)(r3:f x y=some z)(k: .ok (.d z,e1)=XH):evO (o2 f oa ob) env=XH:=by
 cases oa with
 |v s=>exact v8 (zJe h h' c r1 r2 r3 rfl) k
 | p s=>
   cases ob with
   |v t=>exact v8 (zJe h h' c r1 r2 r3 rfl) k
   | p t=>
     obtain⟨q1,rfl⟩:=qXb h;obtain⟨q2,rfl⟩:=qXb h';refine qVf (h1:=.d z) ?_ k;show(s _).bind _=_;grind
theorem zJ5(h:evO oa env=.ok (h1,e))(r1:rsv e h1=some x)(r3:f1 x=some z)(k: .ok (.d z,e)=XH):evO (o1 f1 oa) env=XH:=by
 cases oa with
 |v s=>exact v8 (jVz h r1 r3 rfl) k
 | p s=>
   obtain⟨q1,rfl⟩:=qXb h;refine qVf (h1:=.d z) ?_ k;show(s _).bind _=_;rw[q1];show(rsv _ h1).bind _=_;rw[r1];show(f1 x).bind _=_;rw[r3];rfl
theorem yK(h:evO oa env=.ok (h1,e))(h' :evO ob e=.ok (h2,e1))(c:(h1.st || (oa.isP && ob.isP))=true)(r:rsv e1 h2=some y)(r3:hnIx e1 y h1=some (.d z))(k: .ok (.d z,e1)=XH):evO (oIx oa ob) env=XH:=by
 have vv:∀(hc:h1.st=true),((evO oa env).bind fun r=>(evO ob r.2).bind fun r' =>cond r.1.st ((opt (rsv r'.2 r'.1)).bind fun y=>(opt (hnIx r'.2 y r.1)).bind fun h=>hnV r'.2 h) .no)=.ok (z,e1):=fun hc=>by
  rw[h];show(evO ob e).bind _=_;rw[h'];show cond h1.st ((opt (rsv e1 h2)).bind _) _=_;rw[hc,r];show(opt (hnIx e1 y h1)).bind _=_;rw[r3];rfl
 cases oa with
 |v s=>exact v8 (vv (by simpa[Oe.isP] using c)) k
 | p s=>
   cases ob with
   |v t=>exact v8 (vv (by simpa[Oe.isP] using c)) k
   | p t=>
     obtain⟨q1,rfl⟩:=qXb h;obtain⟨q2,rfl⟩:=qXb h';refine qVf (h1:=.d z) ?_ k;grind
theorem qW4{os:List Oe}{g:List D->Option D}(h:evOs os env=.ok (hs,e))(r1:rsvs e hs=some xs)(r3:g xs=some z)(k: .ok (.d z,e)=XH):evO (oL g os) env=XH:=by
 have vv:=jVy h r1 r3 rfl;unfold oL;split
 ·rename_i s;have h:=h;change ((opt (s env)).bind _).bind _=_ at h;cases q:s env with
  |none=>rw[q]at h;cases h
  | some a=>
    rw[q]at h;change cond (a.st || ([]:List Oe).all Oe.isP) (Res.ok ([a],env)) Res.no=_ at h;cases w:(a.st || ([]:List Oe).all Oe.isP) with
    |false=>rw[w]at h;cases h
    | true=>
      rw[w]at h;cases h;refine qVf (h1:=.d z) ?_ k;rw[q];show(rsv env a).bind _=_;change ((rsv env a).bind _)=some xs at r1;obtain⟨x,e1,r1⟩:=Option.bind_eq_some_iff.mp r1;cases r1;rw[e1];show(g [x]).bind _=_;rw[r3];rfl
 ·exact v8 vv k
theorem qKf{XH:Res (List Hn×Ev)}(k: .ok ([],env)=XH):evOs (([]:List Am).map Am.o) env=XH:=k
theorem xI{s:SV}{XH:Res (List Hn×Ev)}(h:s env=.ok (d,e))(h2:evOs (as.map Am.o) e=.ok (hs,e1))(k: .ok (.d d::hs,e1)=XH):evOs ((Am.v s::as).map Am.o) env=XH:=j6 (v8 h rfl) rfl h2 k
theorem jVo{s:SP}{XH:Res (List Hn×Ev)}(h:s env=some h1)(c:(h1.st || (as.map Am.o).all Oe.isP)=true)(h2:evOs (as.map Am.o) env=.ok (hs,e1))(k: .ok (h1::hs,e1)=XH):evOs ((Am.b s::as).map Am.o) env=XH:=j6 (qVf h rfl) c h2 k
theorem vYl{i:Nat}{XH:Res (List Hn×Ev)}(h:pIo i env=some (.p i []))(h2:evOs (as.map Am.o) env=.ok (hs,e1))(k: .ok (.p i []::hs,e1)=XH):evOs ((Am.io i::as).map Am.o) env=XH:=j6 (qVf h rfl) rfl h2 k
end
theorem zQ7{T:List Nat}{t:ST}{q:Ev}{XE:Res (O×Ev)}(h:it env=.ok (ds,e))(c:(vK2 cs T n e.length && decide (ds.length<=lim))=true)(h2:qQ9 g t el ds (capS cs .un e 0 n)=.ok (vs,q))(k: .ok (.ow .lst (vs.map .fz),putI cs 0 q (qV9 cs 0 n e))=XE):compS n cs T it g t el env=XE:=by
 unfold compS;rw[h];show cond (vK2 cs T n e.length && decide (ds.length<=lim)) ((qQ9 g t el ds (capS cs .un e 0 n)).bind _) _=_;rw[c,h2];exact k
theorem compL_ok{t:ST}(R:Ev->Prop)(p:D->Option D):∀{ds:List D} {env:Ev},(∀d e,d∈ds->R e->∃e1,g d e=some e1/\((∃e2 v e3,t e1=.ok (true,e2)/\el e2=.ok (v,e3)/\p d=some v/\R e3)\/(∃e2,t e1=.ok (false,e2)/\p d=none/\R e2)))->R env->∃e',qQ9 g t el ds env=.ok (ds.filterMap p,e')/\R e'
 |[],env,_,r=>⟨env,rfl,r⟩
 | d::ds,env,h,r=>by
   obtain⟨e1,h1,h2⟩:=h d env (by simp) r;have ih:=fun {env:Ev} (r:R env)=>compL_ok R p (fun d e hd r=>h d e (aI _ hd) r) (env:=env) r
   rcases h2 with⟨e2,v,e3,a1,a2,a3,a4⟩|⟨e2,a1,a3,a4⟩
   ·obtain⟨e',b1,b2⟩:=ih a4;refine⟨e',?_,b2⟩;show(opt (g d env)).bind _=_;rw[h1];show((t e1).ne).bind _=_;rw[a1];show((el e2).ne).bind _=_;rw[a2];show(qQ9 g t el ds e3).bind _=_;rw[b1,List.filterMap_cons,a3];rfl
   ·obtain⟨e',b1,b2⟩:=ih a4;refine⟨e',?_,b2⟩;show(opt (g d env)).bind _=_;rw[h1];show((t e1).ne).bind _=_;rw[a1];show qQ9 g t el ds e2=_;rw[b1,List.filterMap_cons,a3]
theorem compL_map(R:Ev->Prop)(p:D->D)(h:∀d e,d∈ds->R e->∃e1 e3,g d e=some e1/\el e1=.ok (p d,e3)/\R e3)(r:R env):∃e',qQ9 g bTrue el ds env=.ok (ds.map p,e')/\R e' :=by
 obtain⟨e',a,b⟩:=compL_ok (g:=g) (t:=bTrue) (el:=el) R (fun d=>some (p d)) (fun d e hd r=>by
  obtain⟨e1,e3,h1,h2,h3⟩:=h d e hd r;exact⟨e1,h1,.inl ⟨e1,p d,e3,rfl,h2,rfl,h3⟩⟩) r
 refine⟨e',?_,b⟩;rw[a];congr 2;rw[List.filterMap_eq_map' (f:=p)]
theorem xF:∀ds:List D,fzOs (ds.map .fz)=ds
 |[]=>rfl
 |d::ds=>by show fzO (.fz d)::fzOs (ds.map .fz)=_;rw[xF ds];rfl
theorem zQw{k:Kd}(ds:List D):fzO (.ow k (ds.map .fz))=.nd k ds:=by show D.nd k (fzOs _)=_;rw[xF]
theorem qJw{T:List Nat}{t:ST}{q:Ev}{XV:Res (D×Ev)}(h:it env=.ok (ds,e))(c:(vK2 cs T n e.length && decide (ds.length<=lim))=true)(h2:qQ9 g t el ds (capS cs .un e 0 n)=.ok (vs,q))(k: .ok (.nd .lst vs,putI cs 0 q (qV9 cs 0 n e))=XV):fzS (compS n cs T it g t el) env=XV:=vL (zQ7 h c h2 rfl) (by rw[zQw];exact k)
end DX
namespace FW
variable{k c j:Nat}
noncomputable def qD(c:Nat):Nat:=if(97<=c/\c<=122)\/(65<=c/\c<=90) then 0 else if 48<=c/\c<=57 then 1 else if c=32 then 3 else 2
noncomputable def v7(k:Nat):List Nat->Nat
 |[]=>0
 |c::r=>if qD c=k then v7 k r+1 else 0
noncomputable def qF:List Nat->Nat
 |[]=>0
 |c::r=>if qD c=2 then 1 else v7 (qD c) r+1
theorem zQ(k c:Nat)(r:List Nat):v7 k (c::r)=if qD c=k then v7 k r+1 else 0:=rfl
theorem qO(c:Nat)(r:List Nat):qF (c::r)=if qD c=2 then 1 else v7 (qD c) r+1:=rfl
theorem vQb(k:Nat):∀r,v7 k r<=r.length
 |[]=>aP _
 | c::r=>by
   have:=vQb k r;rw[zQ];grind
theorem jQ(c:Nat)(r:List Nat):0<qF (c::r):=by
 rw[qO];grind
theorem qWv:∀r,qF r<=r.length
 |[]=>aP _
 | c::r=>by
   have:=vQb (qD c) r;rw[qO];grind
noncomputable def qWd:Nat->List Nat->List (List Nat)
 | 0,_=> []
 |_,[]=> []
 |n+1,c::r=>(if c=32 then [] else [(c::r).take (qF (c::r))]) ++ qWd n ((c::r).drop (qF (c::r)))
theorem vVd:∀(n m:Nat) (r:List Nat),r.length<=n->r.length<=m->qWd n r=qWd m r:=by
 intro n;induction n with
 | zero=>
   intro m r h1 h2;have:r=[]:=List.length_eq_zero_iff.mp (by omega);subst this;cases m <;> rfl
 | succ n ih=>
   intro m r h1 h2;cases r with
   |nil=>cases m <;> rfl
   | cons c r=>
     cases m with
     |zero=>simp at h2
     | succ m=>
       have h3:=jQ c r;unfold qWd;rw[ih m]
       ·rw[bP];omega
       ·rw[bP];omega
noncomputable def parts(r:List Nat):List (List Nat):=qWd r.length r
theorem yF:parts []=[]:=rfl
theorem vF(c:Nat)(r:List Nat):parts (c::r)=(if c=32 then [] else [(c::r).take (qF (c::r))]) ++ parts ((c::r).drop (qF (c::r))):=by
 have h3:=jQ c r;unfold parts;show qWd (r.length+1) (c::r)=_;rw[qWd,vVd r.length ((c::r).drop (qF (c::r))).length _ (by rw[bP];simp;omega) (aP _)]
theorem qVp(c:Nat):qD c=3↔c=32:=by
 unfold qD;grind
noncomputable def Seam(R S:List Nat):Prop:=∀a b,R.getLast?=some a->S.head?=some b->qD a=qD b->qD a=2\/qD a=3
theorem qV4(k:Nat):∀(r S:List Nat),v7 k (r ++ S)=if v7 k r=r.length then r.length+v7 k S else v7 k r
 |[],S=>by simp[v7]
 | c::r,S=>by
   have ih:=qV4 k r S;show v7 k (c::(r ++ S))=_;rw[zQ,zQ];grind
theorem vV1:∀{r:List Nat},v7 k r=r.length->∀c∈r,qD c=k
 |[],_,c,h=>nomatch h
 | d::r,e,c,h=>by
   rw[zQ]at e;by_cases q:qD d=k
   ·rw [if_pos q] at e;rcases aC.mp h with z|z
    ·grind
    ·exact vV1 (by simpa using e) c z
   ·grind
theorem vXz:∀(S:List Nat),parts (S.drop (v7 3 S))=parts S
 |[]=>rfl
 | c::r=>by
   rw[zQ];by_cases h:qD c=3
   ·rw [if_pos h];have hc:=(qVp c).mp h;have e:qF (c::r)=v7 3 r+1:=by rw[qO,h,if_neg (by decide)]
    rw[vF,if_pos hc,cC,e]
   ·grind
theorem getLast_of_all{R:List Nat}(hne:R≠ [])(h:∀c∈R,qD c=k):∃a,R.getLast?=some a/\qD a=k:=by
 refine⟨R.getLast hne,List.getLast?_eq_some_getLast hne,h _ (List.getLast_mem hne)⟩
theorem qXq:∀(n:Nat) (R S:List Nat),R.length<=n->Seam R S->parts (R ++ S)=parts R ++ parts S:=by
 intro n
 induction n with
 | zero=>
   intro R S h _
   have:R=[]:=List.length_eq_zero_iff.mp (by omega)
   subst this
   rfl
 | succ n ih=>
   intro R S h sm
   cases R with
   |nil=>rfl
   | cons c r=>
     have h3:=jQ c r
     have h4:=qWv (c::r)
     by_cases hw:qF (c::(r ++ S))=qF (c::r)
     · -- the part ends within R,or just at its end
       rw[aA,vF,vF,hw]
       have e1:(c::(r ++ S)).take (qF (c::r))=(c::r).take (qF (c::r)):=by
        grind
       have e2:(c::(r ++ S)).drop (qF (c::r))=(c::r).drop (qF (c::r)) ++ S:=by
        grind
       rw[e1,e2]
       have hlen:((c::r).drop (qF (c::r))).length <=n:=by rw[bP];omega
       rw[ih _ S hlen ?_,bV]
       intro a b ha hb
       refine sm a b ?_ hb
       grind
     · -- R is one part that goes on:blanks
       have hk:qD c≠2:=fun z=>hw (by rw[qO,qO,if_pos z,if_pos z])
       have f1:qF (c::r)=v7 (qD c) r+1:=by rw[qO,if_neg hk]
       have f2:qF (c::(r ++ S))=v7 (qD c) (r ++ S)+1:=by rw[qO,if_neg hk]
       rw[qV4]at f2
       have hall:v7 (qD c) r=r.length:=by
        grind
       rw[if_pos hall]at f2
       have hrun:v7 (qD c) S≠0:=fun z=>hw (by rw[f1,f2,z,hall])
       have hallR:∀d∈c::r,qD d=qD c:=fun d hd=>by
        rcases aC.mp hd with z|z
        ·rw[z]
        ·exact vV1 hall d z
       obtain⟨a,ha,ka⟩:=getLast_of_all (R:=c::r) (by simp) hallR
       cases S with
       |nil=>grind
       | cons b S=>
         have kb:qD b=qD c:=by
          rw[zQ]at hrun
          grind
         have h5:=sm a b ha rfl (ka.trans kb.symm)
         rw[ka]at h5
         have h6:qD c=3:=h5.resolve_left hk
         have hc:=(qVp c).mp h6
         have g1:(c::r).drop (qF (c::r))=[]:=by
          grind
         rw[aA,vF,vF c r,if_pos hc,if_pos hc,g1,f2,yF,cC,cC,cC]
         have g2:(c::(r ++ b::S)).drop (r.length+v7 (qD c) (b::S)+1)=(b::S).drop (v7 (qD c) (b::S)):=by
          simp_all
         rw[g2,h6,vXz]
theorem qXp:∀{r:List Nat},(∀c∈r,qD c=k)->v7 k r=r.length
 |[],_=>rfl
 | c::r,h=>by
   rw[zQ,if_pos (h c (aM ..)),qXp fun d hd=>h d (aI _ hd)];rfl
theorem vY5{w:List Nat}(hne:w≠ [])(h:∀c∈w,qD c=k)(h2:k=2->w.length=1)(h3:k≠3):parts w=[w]:=by
 cases w with
 |nil=>exact absurd rfl hne
 | cons c r=>
   have kc:=h c (aM ..);have nb:c≠32:=fun z=>h3 (by rw[←kc];exact(qVp c).mpr z)
   have e:qF (c::r)=(c::r).length :=by
    rw[qO];by_cases q:qD c=2
    ·rw [if_pos q];exact(h2 (kc.symm.trans q)).symm
    ·rw [if_neg q,kc,qXp fun d hd=>h d (aI _ hd)];rfl
   rw[vF,if_neg nb,e,List.take_length,List.drop_length,yF,bU]
theorem vXf(c:Nat):qD c<=3:=by
 unfold qD;grind
theorem zV9{q:Char}(hq:q.isDigit=true):48<=q.toNat/\q.toNat<=57:=by
 have z:=hq;simp only[Char.isDigit,aE,decide_eq_true_eq]at z;have a1:48<=q.val.toNat:=by simpa using UInt32.le_iff_toNat_le.mp z.1
 have a2:q.val.toNat<=57:=by simpa using UInt32.le_iff_toNat_le.mp z.2
 exact⟨a1,a2⟩
theorem qXi(h:48<=c/\c<=57):qD c=1:=by
 unfold qD;rw[if_neg (by omega),if_pos h]
theorem xP(m:Nat):∀c∈(Nat.toDigits 10 m).map Char.toNat,48<=c/\c<=57:=by
 intro c hc;obtain⟨ch,h1,rfl⟩:=dW.mp hc;exact zV9 (Nat.isDigit_of_mem_toDigits (by decide) (by decide) h1)
theorem qYg(m:Nat):(Nat.toDigits 10 m).map Char.toNat≠ []:=by
 simp_all
theorem vY2{r:List Nat}(h:r[j]?=some c)(hk:qD c=k):v7 k (r.drop j)=v7 k (r.drop (j+1))+1:=by
 have e:r.drop j=c::r.drop (j+1):=by
  have hj:=(aW.mp h).1;rw[bF hj];congr 1;exact(aW.mp h).2
 rw[e,zQ,if_pos hk]
theorem vY1{r:List Nat}(h:r[j]?=some c)(hk:qD c≠k):v7 k (r.drop j)=0:=by
 have e:r.drop j=c::r.drop (j+1):=by
  have hj:=(aW.mp h).1;rw[bF hj];congr 1;exact(aW.mp h).2
 rw[e,zQ,if_neg hk]
theorem vW7{r:List Nat}{b:Nat}(h:r[b]?=some c):parts (r.drop b)=(if c=32 then [] else [(r.drop b).take (qF (r.drop b))]) ++ parts (r.drop (b+qF (r.drop b)))/\0<qF (r.drop b)/\b+qF (r.drop b)<=r.length
  /\qF (r.drop b)=if qD c=2 then 1 else v7 (qD c) (r.drop (b+1))+1:=by
 have hj:=(aW.mp h).1;have e:r.drop b=c::r.drop (b+1):=by
  rw[bF hj];congr 1;exact(aW.mp h).2
 have hl:=qWv (r.drop b);rw[bP]at hl;refine⟨?_,?_,by omega,?_⟩
 ·rw [←List.drop_drop,e];exact vF c _
 ·rw [e];exact jQ c _
 ·rw[e,qO]
end FW
namespace RF
open PySem L2 DX FW PyProof.Rows
variable{e1 e2 env:Ev}{k i m C l:Nat}{row lo hi:Int}{v1 v2 v:SV}{r':List Str}{g:List Str->Pr}{vs:List SV}{us ds:List D}
local macro_rules | `(tactic|array_get_dec)=>`(tactic|first
 |with_reducible refine' vX ?_ ?_
 |with_reducible refine' qM ?_ ?_
 |with_reducible refine' vG ?_
 |with_reducible refine' qVk ?_ ?_
 |with_reducible refine' qI ?_ ?_
 |with_reducible refine' qZs ?_ ?_
 |with_reducible refine' qL ?_ ?_
 |with_reducible refine' vR ?_ ?_
 |with_reducible refine' jG ?_ ?_
 |with_reducible refine' z7 ?_ ?_
 |with_reducible refine' wK ?_ ?_
 |with_reducible refine' qQx ?_ ?_
 |with_reducible refine' xI ?_ ?_ ?_
 |with_reducible refine' jVo ?_ ?_ ?_ ?_
 |with_reducible refine' vYl ?_ ?_ ?_
 |with_reducible refine' qJw ?_ ?_ ?_ ?_
 |with_reducible refine' zW ?_ ?_
 |with_reducible refine' xM ?_ ?_ ?_ ?_ ?_ ?_ ?_
 |with_reducible refine' vKy ?_ ?_ ?_
 |with_reducible refine' vWi ?_ ?_ ?_
 |rfl
 |with_reducible refine' zP ?_ ?_
 |with_reducible refine' vL ?_ ?_
 |with_reducible refine' vT ?_ ?_ ?_
 |with_reducible refine' qQz ?_ ?_
 |with_reducible refine' wE ?_ ?_
 |with_reducible refine' wQ ?_ ?_
 |with_reducible refine' xZ ?_ ?_ ?_
 |with_reducible refine' zJw ?_ ?_ ?_
 |with_reducible refine' qC ?_ ?_ ?_
 |with_reducible refine' vP ?_ ?_
 |with_reducible refine' v8 ?_ ?_
 |with_reducible refine' evO_o2 ?_ ?_ ?_ ?_ ?_ ?_ ?_
 |with_reducible refine' zJ5 ?_ ?_ ?_ ?_
 |with_reducible refine' yK ?_ ?_ ?_ ?_ ?_ ?_
 |with_reducible refine' qW4 ?_ ?_ ?_ ?_
 |with_reducible refine' j6 ?_ ?_ ?_ ?_
 |with_reducible refine' vX8 ?_ ?_ ?_ ?_
 |with_reducible refine' xT ?_ ?_ ?_ ?_ ?_ ?_ ?_
 |with_reducible refine' zQ7 ?_ ?_ ?_ ?_)
noncomputable abbrev S(r:List Nat):Str:=⟨r.toArray⟩
theorem xV(r:List Nat):(S r).length =r.length:=by show r.toArray.size=_;simp
theorem qKq(r:List Nat):(S r).cps.toList=r:=rfl
noncomputable abbrev sS(x:Str):Slot:=.s false (.fz (.str x))
noncomputable abbrev sN(n:Int):Slot:=.s false (.fz (.int n))
noncomputable def kS:Nat->Str
 | 0=>"letter"
 | 1=>"figure"
 | 3=>"blank"
 |_=>"single"
theorem zZ0:∀{a b:Nat},a<=3->b<=3->decide (kS a=kS b)=decide (a=b):=by
 have:∀a,a<=3->∀b,b<=3->decide (kS a=kS b)=decide (a=b):=by decide +kernel
 grind
noncomputable def jQ6(x:Str):Res (O×Ev)->Bool
 |.ok (.fz (.str y),[.un])=>decide (x=y)
 |_=>false
theorem zXc{x:Str}:∀{r:Res (O×Ev)},jQ6 x r=true->r=.ok (.fz (.str x),[.un])
 |.ok (.fz (.str y),[.un]),h=>by rw[of_decide_eq_true h]
theorem zXo:(List.range 128).all (fun c=>jQ6 (kS (qD c)) (wC [.s false (.fz (.str ⟨#[c]⟩))]))=true:=by decide +kernel
theorem zKv{c:Nat}(h:c<128):wC [.s false (.fz (.str ⟨#[c]⟩))]=.ok (.fz (.str (kS (qD c))),[.un]):=
 zXc (List.all_eq_true.mp zXo c (List.mem_range.mpr h))
section
variable{R:List Nat}{env:Ev}{i j k c e n:Nat}{b:Int}
theorem qKm(h:R[k]?=some c)(hl:R.length<=1000):ixD (.str (S R)) (.int k)=some (.str ⟨#[c]⟩):=by
 show((atI R (k:Int)).bind fun ch=>cond (decide ((S R).length <=aD)) (some (D.str ⟨#[ch]⟩)) none)=_;rw[zVe h,xV];rw[decide_eq_true (aG hl (show 1000<=aD by decide))];rfl
theorem ixc(h0:env[i]?=some (sS (S R)))(h1:env[j]?=some (sN k))(hx:R[k]?=some c)(hl:R.length<=1000):oV (oIx (oN i) (oN j)) env=.ok (.str ⟨#[c]⟩,env):=by
 show(opt (((qZb i) env).bind fun h=>((qZb j) env).bind fun h' =>(rsv env h').bind fun y=>hnIx env y h)).bind _=_;unfold qZb;rw[h0,h1];show(opt ((ixD (.str (S R)) (.int k)).map Hn.d)).bind _=_;rw[qKm hx hl];rfl
theorem jVi(h0:env[i]?=some (sS (S R)))(h1:env[j]?=some (sN k))(hx:R[k]?=some c)(hc:c<128)(hl:R.length<=1000):qY wC [.v (oV (oIx (oN i) (oN j)))] env=.ok (.fz (.str (kS (qD c))),env):=by
 show((evO (.v (oV (oIx (oN i) (oN j)))) env).bind fun r=>cond (r.1.st || true) ((evOs [] r.2).bind _) _).bind _=_;rw[v8 (ixc h0 h1 hx hl) rfl];show(wC [.s false (.fz (.str ⟨#[c]⟩))]).bind _=_;rw[zKv hc];rfl
theorem qWh(hl:R.length<=1000):lenD [.str (S R)]=some (.int R.length):=by
 show cond (decide ((S R).length <=aD)) (some (D.int (S R).length)) _=_;rw[xV,decide_eq_true (aG hl (show 1000<=aD by decide))];rfl
noncomputable abbrev endT:ST:=bAnd (asB (o2 neF (oN 2) (oC (.str "single")))) (bAnd (asB (oLt (oN 3) (oL lenD [(oN 0)]))) (asB (o2 eqF (.v (fzS (qY wC [(.v (oV (oIx (oN 0) (oN 3))))]))) (oN 2))))
theorem lenx(hl:R.length<=1000){s:Slot}:asB (oLt (oN 3) (oL lenD [(oN 0)])) [sS (S R),sN b,s,sN e]=.ok (decide ((e:Int)<R.length),[sS (S R),sN b,s,sN e]):=by
 repeat' (first|array_get_dec|exact qWh hl)
theorem zQ0(hl:R.length<=1000)(hk:k<=3)(h2:k≠2)(hx:R[e]?=some c)(hc:c<128):endT [sS (S R),sN b,sS (kS k),sN e]=.ok (decide (qD c=k),[sS (S R),sN b,sS (kS k),sN e]):=by
 have hlt:=(aW.mp hx).1;refine qQz (q:=true) (e:=[sS (S R),sN b,sS (kS k),sN e]) ?_ (qQz (q:=true) (e:=[sS (S R),sN b,sS (kS k),sN e]) ?_ ?_)
 ·show Res.ok (!decide (kS k=kS 2),_)=_;rw[zZ0 hk (by decide),decide_eq_false h2];rfl
 ·rw[lenx hl,decide_eq_true (by omega)]
 ·refine vT (d:= .bl (decide (kS (qD c)=kS k))) (vP (h1:= .d (.bl (decide (kS (qD c)=kS k)))) (evO_o2 (h1:= .d (.str (kS (qD c)))) (h2:= .d (.str (kS k))) (v8 (vL (jVi rfl rfl hx hc hl) rfl) rfl) rfl rfl rfl rfl rfl rfl) rfl) rfl ?_
  rw[zZ0 (vXf c) hk]
theorem zX2(hl:R.length<=1000)(h:R.length<=e)(hk:k<=3)(h2:k≠2):endT [sS (S R),sN b,sS (kS k),sN e]=.ok (false,[sS (S R),sN b,sS (kS k),sN e]):=by
 refine qQz (q:=true) (e:=[sS (S R),sN b,sS (kS k),sN e]) ?_ (qQz (q:=false) (e:=[sS (S R),sN b,sS (kS k),sN e]) ?_ rfl)
 ·show Res.ok (!decide (kS k=kS 2),_)=_;rw[zZ0 hk (by decide),decide_eq_false h2];rfl
 ·rw[lenx hl,decide_eq_false (by omega)]
theorem qY6{t:ST}{s:SS}(h:t env=.ok (true,e1))(h2:s e1=.ok (.nx e2)):vS t s (n+1) env=vS t s n e2:=by
 show(t env).bind _=_;rw[h];show(s e1).bind _=_;rw[h2];rfl
theorem qW5{t:ST}{s:SS}(h:t env=.ok (false,e1)):vS t s (n+1) env=.ok (.nx e1):=by
 show(t env).bind _=_;rw[h];rfl
theorem end_loop(hl:R.length<=1000)(ha:∀c∈R,c<128)(hk:k<=3)(h2:k≠2):∀(n e:Nat),R.length<n+e->e<=R.length->vS endT vQ4 n [sS (S R),sN b,sS (kS k),sN e]=.ok (.nx [sS (S R),sN b,sS (kS k),sN ((e+v7 k (R.drop e):Nat):Int)])
 | 0,e,h,_=>by omega
 | n + 1,e,h,he=>by
   cases hx:R[e]? with
   | none=>
     have hle:R.length<=e:=List.getElem?_eq_none_iff.mp hx;rw[qW5 (zX2 hl hle hk h2),List.drop_of_length_le hle];rfl
   | some c=>
     have hc:=ha c (List.mem_of_getElem? hx);by_cases hq:qD c=k
     ·have t:=zQ0 (b:=b) hl hk h2 hx hc;rw[decide_eq_true hq]at t;rw[qY6 t (e2:=[sS (S R),sN b,sS (kS k),sN ((e+1:Nat):Int)]) rfl,end_loop hl ha hk h2 n (e+1) (by omega) (aW.mp hx).1,vY2 hx hq];grind
     ·have t:=zQ0 (b:=b) hl hk h2 hx hc;rw[decide_eq_false hq]at t;rw[qW5 t,vY1 hx hq];rfl
theorem end_ok(hl:R.length<=1000)(ha:∀c∈R,c<128)(hx:R[e]?=some c):qZv [sS (S R),sN e]=.ok (.fz (.int ((e+qF (R.drop e):Nat):Int)),[.un,.un]):=by
 have hc:=ha c (List.mem_of_getElem? hx);have hd:R.drop e=c::R.drop (e+1):=by
  have hlt:=(aW.mp hx)
  rw[bF hlt.1,hlt.2]
 have k1:=jVi (env:=[sS (S R),sN e,.un,.un]) (i:=0) (j:=1) rfl rfl hx hc hl;rw[hd,qO];refine vX (qI k1 (qI (o:=.fz (.int ((e+1:Nat):Int))) (e:=[sS (S R),sN e,sS (kS (qD c)),.un]) rfl ?_)) (o:=.rt (.fz (.int ((e+(if qD c=2 then 1 else v7 (qD c) (R.drop (e+1))+1):Nat):Int))) [sS (S R),sN e,sS (kS (qD c)),.un]) rfl;by_cases h2:qD c=2
 ·rw [if_pos h2,h2];rfl
 ·rw [if_neg h2];refine qL (end_loop hl ha (vXf c) h2 100000 (e+1) (by omega) (aW.mp hx).1) ?_
  rw[show e+1+v7 (qD c) (R.drop (e+1))=e+(v7 (qD c) (R.drop (e+1))+1) by omega];rfl
end

theorem vZ8(R:List Nat){a b:Nat}(hab:a<=b)(hb:b<=R.length):Txt.slice (S R) (some (a:Int)) (some (b:Int))=S ((R.drop a).take (b - a)):=by
 have hb' :b<=(S R).length :=by rw[xV];exact hb
 have h:=StrLaws.sliced_plain (S R) hab hb';unfold Txt.slice;split
 ·rename_i hw;rw[StrLaws.strSliceIndices_plain hab hb',xV]at hw;have e2:b - a=R.length:=by simpa using hw
  have e3:a=0:=by omega
  grind
 ·rw[h]
noncomputable abbrev wO(ws:List (List Nat)):List O:=ws.map fun w=>.fz (.str (S w))
section
variable{R:List Nat}{c b n:Nat}{ws:List (List Nat)}{y q:Slot}
theorem jVf(hl:R.length<=1000):asB (oLt (oN 2) (oL lenD [(oN 0)])) [sS (S R),q,sN b,y]=.ok (decide ((b:Int)<R.length),[sS (S R),q,sN b,y]):=by
 repeat' (first|array_get_dec|exact qWh hl)
theorem jQk(hl:R.length<=1000)(ha:∀c∈R,c<128)(hx:R[b]?=some c)(hw:ws.length<=1000):yC [sS (S R),.s false (.ow .lst (wO ws)),sN b,y]=
  .ok (.nx [sS (S R),.s false (.ow .lst (wO (ws ++ if c=32 then [] else [(R.drop b).take (qF (R.drop b))]))),sN ((b+qF (R.drop b):Nat):Int),sN ((b+qF (R.drop b):Nat):Int)]):=by
 have hp:=vW7 hx;have e1:qY qZv [(.v (oV (oN 0))),(.v (oV (oN 2)))] [sS (S R),.s false (.ow .lst (wO ws)),sN b,y]=.ok (.fz (.int ((b+qF (R.drop b):Nat):Int)),[sS (S R),.s false (.ow .lst (wO ws)),sN b,y]):=by
  unfold qY;show(qZv [sS (S R),sN b]).bind _=_;rw[end_ok hl ha hx];rfl
 generalize hE:b+qF (R.drop b)=E at *;have i1:=ixc (env:=[sS (S R),.s false (.ow .lst (wO ws)),sN b,sN (E:Int)]) (i:=0) (j:=2) rfl rfl hx hl;unfold yC;refine qI e1 (qL (e:=[sS (S R),.s false (.ow .lst (wO (ws ++ if c=32 then [] else [(R.drop b).take (qF (R.drop b))]))),sN b,sN (E:Int)]) ?_ rfl);have t1:asB (o2 neF (oIx (oN 0) (oN 2)) (oC (.str " "))) [sS (S R),.s false (.ow .lst (wO ws)),sN b,sN (E:Int)]=.ok (!decide (c=32),[sS (S R),.s false (.ow .lst (wO ws)),sN b,sN (E:Int)]):=by
  refine vT (d:=.bl (!decide (c=32))) (vP (h1:=.d (.bl (!decide (c=32)))) (evO_o2 (h1:=.d (.str ⟨#[c]⟩)) (h2:=.d (.str ⟨#[32]⟩)) (yK (h1:=.d (.str (S R))) (h2:=.d (.int b)) rfl rfl rfl rfl ?_ rfl) rfl rfl rfl rfl ?_ rfl) rfl) rfl rfl
  ·show(ixD (.str (S R)) (.int b)).map Hn.d=_;rw[qKm hx hl];rfl
  ·show some (D.bl (!decide (Str.mk #[c]=Str.mk #[32])))=_;have:decide (Str.mk #[c]=Str.mk #[32])=decide (c=32):=by rw[bH];simp
   rw[this]
 refine vR t1 ?_
 by_cases h32:c=32
 ·rw[if_pos h32,h32,bU];rfl
 ·rw [if_neg h32,decide_eq_false h32];have sl:qZh (oN 0) (some (oV (oN 2))) (some (oV (oN 3))) [sS (S R),.s false (.ow .lst (wO ws)),sN b,sN (E:Int)]=.ok (.str (S ((R.drop b).take (qF (R.drop b)))),[sS (S R),.s false (.ow .lst (wO ws)),sN b,sN (E:Int)]):=by
   show(opt (cond (decide ((S R).length <=aD)) (some (D.str (Txt.slice (S R) (some (b:Int)) (some (E:Int))))) none)).bind _=_;rw[xV,decide_eq_true (aG hl (show 1000<=aD by decide)),vZ8 R (by omega) (by omega),show E - b=qF (R.drop b) by omega];rfl
  show zB _ _=_;refine wK (xT (i:=1) (π:=[]) (os:=wO ws) (os0:=wO ws) rfl rfl (zP sl rfl) rfl rfl (z:=(.fz .non,wO ws ++ [.fz (.str (S ((R.drop b).take (qF (R.drop b)))))])) ?_ rfl) ?_
  ·unfold apF;rw[decide_eq_true (show(wO ws).length <=lim from by rw[aB];exact aG hw (by decide))];rfl
  ·rw[show wO (ws ++ [(R.drop b).take (qF (R.drop b))])=wO ws ++ [.fz (.str (S ((R.drop b).take (qF (R.drop b)))))] from bL];rfl
theorem vQr(hl:R.length<=1000)(ha:∀c∈R,c<128):∀(n b:Nat) (ws:List (List Nat)) (y:Slot),R.length<n+b->b<=R.length->ws.length<=b->
  ∃y',vS (asB (oLt (oN 2) (oL lenD [(oN 0)]))) yC n [sS (S R),.s false (.ow .lst (wO ws)),sN b,y]=.ok (.nx [sS (S R),.s false (.ow .lst (wO (ws ++ parts (R.drop b)))),sN (R.length:Int),y'])
 | 0,b,ws,y,h,hb,_=>by omega
 | n + 1,b,ws,y,h,hb,hw=>by
   cases hx:R[b]? with
   | none=>
     have hle:R.length<=b:=List.getElem?_eq_none_iff.mp hx;have t:=jVf (b:=b) (y:=y) (q:=.s false (.ow .lst (wO ws))) hl;rw[decide_eq_false (by omega)]at t;refine⟨y,?_⟩;rw[qW5 t,List.drop_of_length_le hle,yF,bU,show R.length=b by omega]
   | some c=>
     obtain⟨p1,p2,p3,p4⟩:=vW7 hx;have t:=jVf (b:=b) (y:=y) (q:=.s false (.ow .lst (wO ws))) hl;rw[decide_eq_true (by omega)]at t;obtain⟨y',hy⟩:=vQr hl ha n (b+qF (R.drop b)) (ws ++ if c=32 then [] else [(R.drop b).take (qF (R.drop b))]) (sN ((b+qF (R.drop b):Nat):Int)) (by omega) p3 (by rw[aJ];split <;> simp <;> omega);refine⟨y',?_⟩;rw[qY6 t (jQk hl ha hx (by omega)),hy,p1,bV]
theorem zWf(hl:R.length<=1000)(ha:∀c∈R,c<128):qQb [sS (S R)]=.ok (.ow .lst (wO (parts R)),[.un]):=by
 obtain⟨y',hy⟩:=vQr hl ha 100000 0 [] .un (by omega) (cJ _) (cJ _);refine vX (qI (o:=.ow .lst []) (e:=[sS (S R),.un,.un,.un]) rfl (qI (o:=.fz (.int 0)) (e:=[sS (S R),.s false (.ow .lst []),.un,.un]) rfl (qL hy rfl))) rfl
end

noncomputable def cu(row:Int)(ws:List Str)(k:Nat):O:=.ow (.obj 9 ["row","words","place"]) [.fz (.int row),.fz (.nd .lst (ws.map D.str)),.fz (.int k)]
noncomputable abbrev fz(d:D):Slot:=.s false (.fz d)
noncomputable abbrev er(row:Int){α:Type}:Res α:=.er 23 [("row",.int row)]
theorem getS{ws:List Str}(h:k<ws.length):ixD (.nd .lst (ws.map D.str)) (.int k)=some (.str (ws.getD k "")):=by
 show(ixN (ws.map D.str).length (k:Int)).bind (fun j=>(ws.map D.str)[j]?)=_;have e:ixN (ws.map D.str).length (k:Int)=some k:=by
  unfold ixN;rw[aB,if_pos (by omega),if_pos (by omega)];rfl
 rw[e];show(ws.map D.str)[k]?=_;rw[cT,aF h,bM,aF h];rfl
section
variable{row:Int}{ws:List Str}{k:Nat}{x:Str}{b:Bool}{e:Ev}
theorem vXo:vW [.s false (.fz (fzO (cu row ws k)))]=.ok (.fz (.str (ws.getD k "")),[.un]):=by
 have t:asB (oLt (oFld [9] "place" (oN 0)) (oL lenD [(oFld [9] "words" (oN 0))])) [.s false (.fz (fzO (cu row ws k)))]=.ok (decide ((k:Int)<((ws.map D.str).length :Nat)),[.s false (.fz (fzO (cu row ws k)))]):=rfl;by_cases h:k<ws.length
 ·rw [decide_eq_true (by rw [aB];omega)] at t;refine vX (qM t (qVk (zP (d:=.str (ws.getD k "")) (vP (h1:=.d (.str (ws.getD k ""))) (yK (h1:=.d (.nd .lst (ws.map D.str))) (h2:=.d (.int k)) rfl rfl rfl rfl ?_ rfl) rfl) rfl) rfl)) rfl;show(ixD _ _).map Hn.d=_;rw[getS h];rfl
 ·rw [decide_eq_false (by rw [aB];omega)] at t;rw[show ws.getD k ""="" by rw[bM,List.getElem?_eq_none (by omega)];rfl];exact vX (qM t rfl) rfl
theorem vJf:vE 9 "ahead" vW (.b (pOf (oN 0))) [] (.s b (cu row ws k)::e)=.ok (.fz (.str (ws.getD k "")),.s b (cu row ws k)::e):=by
 show(vW [.s false (.fz (fzO (cu row ws k)))]).bind _=_;rw[vXo];rfl
theorem zKq:vQ [.s true (cu row ws k)]=.ok (.fz (.str (ws.getD k "")),[.s true (cu row ws (k+1))]):=by
 exact vX (qI (vJf (e:=[.un])) rfl) rfl
theorem qKz:vE 9 "next_word" vQ (.io 0) [] (.s b (cu row ws k)::e)=.ok (.fz (.str (ws.getD k "")),.s b (cu row ws (k+1))::e):=by
 show(vQ [.s true (cu row ws k)]).bind _=_;rw[zKq];rfl
theorem vV3:qR [.s true (cu row ws k),sS x]=.ok (.fz (.bl (decide (ws.getD k ""=x))),[.s true (cu row ws (if ws.getD k ""=x then k+1 else k)),.un]):=by
 have t:asB (o2 neF (.v (fzS (vE 9 "ahead" vW (.b (pOf (oN 0))) []))) (oN 1)) [.s true (cu row ws k),sS x]=.ok (!decide (ws.getD k ""=x),[.s true (cu row ws k),sS x]):=
  vT (d:=.bl (!decide (ws.getD k ""=x))) (vP (h1:=.d (.bl (!decide (ws.getD k ""=x)))) (evO_o2 (h1:=.d (.str (ws.getD k ""))) (h2:=.d (.str x)) (v8 (vL vJf rfl) rfl) rfl rfl rfl rfl rfl rfl) rfl) rfl rfl
 unfold qR;by_cases h:ws.getD k ""=x
 ·rw [decide_eq_true h] at t⊢;rw[if_pos h];exact vX (qM t rfl) rfl
 ·rw [decide_eq_false h] at t⊢;rw[if_neg h];exact vX (qM t (qVk rfl rfl)) rfl
theorem vQj:vE 9 "passed" qR (.io 0) [.v (oV (oC (.str x)))] (.s b (cu row ws k)::e)=.ok (.fz (.bl (decide (ws.getD k ""=x))),.s b (cu row ws (if ws.getD k ""=x then k+1 else k))::e):=by
 show(qR [.s true (cu row ws k),sS x]).bind _=_;rw[vV3];rfl
theorem qYc:vE 9 "passed" qR (.io 0) [.v (oV (oN 1))] (.s b (cu row ws k)::sS x::e)=.ok (.fz (.bl (decide (ws.getD k ""=x))),.s b (cu row ws (if ws.getD k ""=x then k+1 else k))::sS x::e):=by
 show(qR [.s true (cu row ws k),sS x]).bind _=_;rw[vV3];rfl
theorem zJu(h:ws.getD k ""=x):qE [.s true (cu row ws k),sS x]=.ok (.fz .non,[.s true (cu row ws (k+1)),.un]):=by
 have t:=qYc (row:=row) (b:=true) (e:=[]) (ws:=ws) (k:=k) (x:=x);rw[decide_eq_true h,if_pos h]at t;exact vX (vR (q:=false) (wQ (vT (vP (v8 (vL t rfl) rfl) rfl) rfl rfl) rfl) rfl) rfl
theorem zJv(h:ws.getD k ""≠x):qE [.s true (cu row ws k),sS x]=er row:=by
 have t:=qYc (row:=row) (b:=true) (e:=[]) (ws:=ws) (k:=k) (x:=x);rw[decide_eq_false h,if_neg h]at t;exact xY (vR (q:=true) (wQ (vT (vP (v8 (vL t rfl) rfl) rfl) rfl rfl) rfl) rfl)
theorem zXj(h:ws.getD k ""=x):vE 9 "need" qE (.io 0) [.v (oV (oC (.str x)))] (.s b (cu row ws k)::e)=.ok (.fz .non,.s b (cu row ws (k+1))::e):=by
 show(qE [.s true (cu row ws k),sS x]).bind _=_;rw[zJu h];rfl
theorem zXk(h:ws.getD k ""≠x):vE 9 "need" qE (.io 0) [.v (oV (oC (.str x)))] (.s b (cu row ws k)::e)=er row:=by
 show(qE [.s true (cu row ws k),sS x]).bind _=_;rw[zJv h];rfl
theorem zVz(h:ws.getD k ""=x):vE 9 "need" qE (.io 0) [.v (oV (oN 1))] (.s b (cu row ws k)::sS x::e)=.ok (.fz .non,.s b (cu row ws (k+1))::sS x::e):=by
 show(qE [.s true (cu row ws k),sS x]).bind _=_;rw[zJu h];rfl
theorem zV0(h:ws.getD k ""≠x):vE 9 "need" qE (.io 0) [.v (oV (oN 1))] (.s b (cu row ws k)::sS x::e)=er row:=by
 show(qE [.s true (cu row ws k),sS x]).bind _=_;rw[zJv h];rfl
end

section
variable{s t:Oe}{env:Ev}{p q:Bool}
theorem vAnd(h:asB s env=.ok (p,env))(k:p=true->oV t env=.ok (.bl q,env)):oV (oAnd s t) env=.ok (.bl (p && q),env):=by
 show(asB s env).bind _=_;rw[h];cases p with
 |true=>exact k rfl
 |false=>rfl
theorem vOr(h:asB s env=.ok (p,env))(k:p=false->oV t env=.ok (.bl q,env)):oV (oOr s t) env=.ok (.bl (p || q),env):=by
 show(asB s env).bind _=_;rw[h];cases p with
 |false=>exact k rfl
 |true=>rfl
theorem qKp(h:oV s env=.ok (.bl p,env)):asB s env=.ok (p,env):=by
 show(oV s env).bind _=_;rw[h];rfl
end
theorem leS1(a b:Nat):leS (.str ⟨#[a]⟩) (.str ⟨#[b]⟩)=some (.bl (decide (a<=b))):=by
 show some (D.bl (!decide ([b] < [a])))=_;have:(!decide ([b] < [a]))=decide (a<=b):=by rw[bH];simp[List.cons_lt_cons_iff]
 rw[this]
theorem chA{a c z:Nat}{m:Oe}(hm:evO m env=.ok (.d (.str ⟨#[c]⟩),env)):oV (oCh leS leS (oC (.str ⟨#[a]⟩)) m (oC (.str ⟨#[z]⟩))) env=.ok (.bl (decide (a<=c) && decide (c<=z)),env):=by
 show(evO m env).bind _=_;rw[hm];simp only[Res.bind,Hn.st,Bool.true_or,cond_true,rsv,opt,leS1,blOf];cases decide (a<=c) with
 |false=>rfl
 | true=>
   show Res.bind (opt (leS (.str ⟨#[c]⟩) (.str ⟨#[z]⟩))) (fun w=>Res.ok (w,env))=_;rw[leS1];rfl
theorem zYk(c:Nat)(l:List Nat):Txt.slice (S (c::l)) none (some 1)=S [c]:=by
 have h:=vZ8 (c::l) (a:=0) (b:=1) (by omega) (by rw[aZ];omega);rw[show Txt.slice (S (c::l)) none (some 1)=Txt.slice (S (c::l)) (some ((0:Nat):Int)) (some ((1:Nat):Int)) from ?_]
 ·exact h
 ·unfold Txt.slice Builtin.Str.strSliceIndices;have:max (0:Int) (min 0 ((S (c::l)).length :Int))=0:=by omega
  simp[this]
noncomputable def x6(R:List Nat):Bool:=match R with
 |[]=>false
 |c::l=>(decide (48<=c) && decide (c<=57)) && (decide ((l.length:Int)+1<=12) && (decide (S (c::l)=S [48]) ||!decide (c=48)))
theorem jZ3{R:List Nat}(hl:R.length<=1000):jR [sS (S R)]=.ok (.fz (.bl (x6 R)),[.un]):=by
 unfold jR;cases R with
 |nil=>rfl
 | cons c l=>
   have sl:qZh (oN 0) none (some (oV (oC (.int 1)))) [sS (S (c::l))]=.ok (.str ⟨#[c]⟩,[sS (S (c::l))]):=by
    show(opt (cond (decide ((S (c::l)).length <=aD)) (some (D.str (Txt.slice (S (c::l)) none (some 1)))) none)).bind _=_;rw[xV,decide_eq_true (aG hl (show 1000<=aD by decide)),zYk];rfl
   have t1:=chA (a:=48) (z:=57) (v8 (XH:=.ok (.d (.str ⟨#[c]⟩),[sS (S (c::l))])) sl rfl);have t2:oV (oLe (oL lenD [(oN 0)]) (oC (.int 12))) [sS (S (c::l))]=.ok (.bl (decide ((l.length:Int)+1<=12)),[sS (S (c::l))]):=by
    have:lenD [.str (S (c::l))]=some (.int ((l.length:Int)+1)):=qWh hl;repeat' (first|array_get_dec|exact this)
   have t4:oV (o2 neF (oIx (oN 0) (oC (.int 0))) (oC (.str "0"))) [sS (S (c::l))]=.ok (.bl (!decide (c=48)),[sS (S (c::l))]):=by
    refine vP (h1:=.d (.bl (!decide (c=48)))) (evO_o2 (h1:=.d (.str ⟨#[c]⟩)) (h2:=.d (.str ⟨#[48]⟩)) (yK (h1:=.d (.str (S (c::l)))) (h2:=.d (.int (0:Nat))) rfl rfl rfl rfl ?_ rfl) rfl rfl rfl rfl ?_ rfl) rfl
    ·show(ixD (.str (S (c::l))) (.int (0:Nat))).map Hn.d=_;rw[qKm (c:=c) rfl hl];rfl
    ·show some (D.bl (!decide (Str.mk #[c]=Str.mk #[48])))=_;have:decide (Str.mk #[c]=Str.mk #[48])=decide (c=48):=by rw[bH];simp
     rw[this]
   exact vX (jG (zP (vAnd (qKp t1) fun _=>vAnd (qKp t2) fun _=>vOr (p:=decide (S (c::l)=S [48])) rfl fun _=>t4) rfl) rfl) rfl
noncomputable def qVd(R:List Nat):Bool:=(decide (1<=(R.length:Int)) && decide ((R.length:Int)<=8)) && R.all fun c=>decide (97<=c) && decide (c<=122)
theorem vZn{α:Type}(f:α->Bool):∀l:List α,vVt (l.map fun c=>D.bl (f c))=some (l.map f)
 |[]=>rfl
 | c::l=>by
   show(vVt (l.map fun c=>D.bl (f c))).bind _=_;rw[vZn f l];rfl
theorem zWo{R:List Nat}(hl:R.length<=1000):xC [sS (S R)]=.ok (.fz (.bl (qVd R)),[.un]):=by
 unfold xC;have hD:lenD [.str (S R)]=some (.int (R.length:Int)):=qWh hl;have t1:oV (oCh (c2 fun i j=>decide (i<=j)) (c2 fun i j=>decide (i<=j)) (oC (.int 1)) (oL lenD [(oN 0)]) (oC (.int 8))) [sS (S R)]=.ok (.bl (decide (1<=(R.length:Int)) && decide ((R.length:Int)<=8)),[sS (S R)]):=by
  have hm:evO (oL lenD [(oN 0)]) [sS (S R)]=.ok (.d (.int (R.length:Int)),[sS (S R)]):=by
   repeat' (first|array_get_dec|exact hD)
  show(evO (oL lenD [(oN 0)]) [sS (S R)]).bind _=_;rw[hm];show cond (decide (1<=(R.length:Int))) _ _=_;cases decide (1<=(R.length:Int)) <;> rfl
 have t2:oV (oL allD [(.v (fzS (compS 1 [] [0] (iS (oV (oN 0))) (gN 0) bTrue (oV (oCh leS leS (oC (.str "a")) (oN 0) (oC (.str "z")))))))]) [sS (S R)]=.ok (.bl (R.all fun c=>decide (97<=c) && decide (c<=122)),[sS (S R)]):=by
  obtain⟨e',h1,h2⟩:=compL_map (g:=gN 0) (el:=oV (oCh leS leS (oC (.str "a")) (oN 0) (oC (.str "z")))) (ds:=signsD (S R)) (env:=[.un]) (fun e=>e.length=1) (fun d=>match d with
   |.str ⟨⟨c::_⟩⟩=>.bl (decide (97<=c) && decide (c<=122))
   | _=> .non) (fun d e hd he=>by
     obtain⟨c,_,rfl⟩:=dW.mp hd;match e,he with
     |[y],_=>exact⟨[sS ⟨#[c]⟩],[sS ⟨#[c]⟩],rfl,chA rfl,rfl⟩) rfl
  match e',h2 with
  |[y],_=>
  have hv:(signsD (S R)).map (fun d=>match d with
   |.str ⟨⟨c::_⟩⟩=>D.bl (decide (97<=c) && decide (c<=122))
   |_=>.non)=R.map fun c=>D.bl (decide (97<=c) && decide (c<=122)):=by
   unfold signsD;rw[cS,qKq];rfl
  rw[hv]at h1;have hc:fzS (compS 1 [] [0] (iS (oV (oN 0))) (gN 0) bTrue (oV (oCh leS leS (oC (.str "a")) (oN 0) (oC (.str "z"))))) [sS (S R)]=.ok (.nd .lst (R.map fun c=>D.bl (decide (97<=c) && decide (c<=122))),[sS (S R)]):=by
   refine qJw (ds:=signsD (S R)) (e:=[sS (S R)]) rfl ?_ h1 rfl;show(true && decide ((signsD (S R)).length <=lim))=true;rw[decide_eq_true];rfl;unfold signsD;rw[aB,qKq];exact aG hl (by decide)
  refine vP (h1:=.d (.bl (R.all fun c=>decide (97<=c) && decide (c<=122)))) (qW4 (hs:=[.d (.nd .lst (R.map fun c=>D.bl (decide (97<=c) && decide (c<=122))))]) (j6 (v8 hc rfl) rfl rfl rfl) rfl ?_ rfl) rfl;show(vVt _).bind _=_;rw[vZn];show some (D.bl ((R.map _).all id))=_;rw[List.all_map];rfl
 exact vX (jG (zP (vAnd (qKp t1) fun _=>t2) rfl) rfl) rfl
noncomputable def jZ:List Str:=["flip","pick","if","rest"]
theorem qXj(x:Str):∀ys:List Str,inV (.str x) (ys.map V.str)=ys.contains x
 |[]=>rfl
 | y::ys=>by
   show(eqV (.str y) (.str x) || inV (.str x) (ys.map V.str))=_;rw[qXj x ys,List.contains_cons];congr 1;unfold eqV;grind
theorem qJy:∀ys:List Str,allV (ys.map D.str)=some (ys.map V.str)
 |[]=>rfl
 | y::ys=>by
   show(toV (.str y)).bind _=_;rw[qJy ys];rfl
theorem inSS(x:Str)(ys:List Str):inD (.str x) (.tup (ys.map D.str))=some (.bl (ys.contains x)):=by
 show((((allV (ys.map D.str)).bind fun vs=>some (inV (.str x) vs)))).map D.bl=_;rw[qJy];show some (D.bl (inV (.str x) (ys.map V.str)))=_;rw[qXj]
theorem niSS(x:Str)(ys:List Str):niD (.str x) (.tup (ys.map D.str))=some (.bl (!ys.contains x)):=by
 show((((allV (ys.map D.str)).bind fun vs=>some (inV (.str x) vs)))).map (fun b=>D.bl (!b))=_;rw[qJy];show some (D.bl (!inV (.str x) (ys.map V.str)))=_;rw[qXj]
noncomputable def qJl(R:List Nat):Bool:=qVd R &&!jZ.contains (S R)
theorem name_ok{R:List Nat}(hl:R.length<=1000):yH [sS (S R)]=.ok (.fz (.bl (qJl R)),[.un]):=by
 have t1:asB (.v (fzS (qY xC [(.v (oV (oN 0)))]))) [sS (S R)]=.ok (qVd R,[sS (S R)]):=by
  refine qKp (vL (o:=.fz (.bl (qVd R))) ?_ rfl);show(xC [sS (S R)]).bind _=_;rw[zWo hl];rfl
 refine vX (jG (zP (vAnd t1 fun _=>?_) rfl) rfl) rfl;exact vP (h1:=.d (.bl (!jZ.contains (S R)))) (evO_o2 (h1:=.d (.str (S R))) (h2:=.d (.tup [.str "flip",.str "pick",.str "if",.str "rest"])) rfl rfl rfl rfl rfl (niSS _ jZ) rfl) rfl

inductive Pr where
 |ok (d:D) (r:List Str)|er|no
noncomputable def Pr.bind(x:Pr)(f:D->List Str->Pr):Pr:=match x with
 |.ok d r=>f d r
 |.er =>.er
 |.no =>.no
noncomputable def hd(r:List Str):Str:=r.headD ""
noncomputable def jV(w:Str):Bool:=x6 w.cps.toList
noncomputable def v6(w:Str):Bool:=qJl w.cps.toList
noncomputable def valS(w:Str):Int:=(PySem.intText? w).getD 0
noncomputable def okW(ws:List Str):Prop:=ws.length<=100/\∀w∈ws,w.length<=1000/\(jV w=true->∃n,PySem.intText? w=some n)
theorem S_of(z:Str):S z.cps.toList=z:=by grind
section
variable{ws:List Str}{k:Nat}
theorem zH:ws.getD k ""=hd (ws.drop k):=by
 unfold hd;simp_all
theorem zE:ws.drop (k+1)=(ws.drop k).tail :=by simp_all
theorem okW.at(h:okW ws)(k:Nat):(ws.getD k "").length <=1000/\(jV (ws.getD k "")=true->∃n,PySem.intText? (ws.getD k "")=some n):=by
 by_cases z:k<ws.length
 ·rw [bM,aF z];exact h.2 _ (List.getElem_mem z)
 ·rw [bM,List.getElem?_eq_none (by omega)];exact⟨by decide,fun q=>by cases q⟩
theorem qYv{w:Str}(hw:w.length<=1000)(h:env[i]?=some (sS w)):asB (.v (fzS (qY yH [(.v (oV (oN i)))]))) env=.ok (v6 w,env):=by
 refine qKp (vL (o:=.fz (.bl (v6 w))) ?_ rfl);have v:oV (oN i) env=.ok (.str w,env):=by
  show(opt (qZb i env)).bind _=_;unfold qZb;rw[h];rfl
 refine zW (xI v rfl rfl) ?_
 show(yH [sS w]).bind _=_;have:=name_ok (R:=w.cps.toList) (by rw[cU];exact hw);rw[this];rfl
theorem vQx{w:Str}(hw:w.length<=1000)(h:env[i]?=some (sS w)):asB (.v (fzS (qY jR [(.v (oV (oN i)))]))) env=.ok (jV w,env):=by
 refine qKp (vL (o:=.fz (.bl (jV w))) ?_ rfl);have v:oV (oN i) env=.ok (.str w,env):=by
  show(opt (qZb i env)).bind _=_;unfold qZb;rw[h];rfl
 refine zW (xI v rfl rfl) ?_
 show(jR [sS w]).bind _=_;have:=jZ3 (R:=w.cps.toList) (by rw[cU];exact hw);rw[this];rfl
end
noncomputable def Told(F:Ev->Res (O×Ev))(mk:O->Ev)(out:O->Ev)(row:Int)(ws:List Str)(k:Nat):Pr->Prop
 |.ok d r=>∃k',ws.drop k' =r/\F (mk (cu row ws k))=.ok (.fz d,out (cu row ws k'))
 |.er =>F (mk (cu row ws k))=er row
 |.no =>True
noncomputable def Rd(F:Fn)(p:List Str->Pr):Prop:=∀row ws k,okW ws->Told F (fun o=> [.s true o]) (fun o=> [.s true o]) row ws k (p (ws.drop k))
noncomputable def pName'(r:List Str):Pr:=cond (v6 (hd r)) (.ok (.str (hd r)) r.tail) .er
noncomputable def pNum(lo hi:Int)(r:List Str):Pr:=cond (jV (hd r) && (decide (lo<=valS (hd r)) && decide (valS (hd r)<=hi))) (.ok (.int (valS (hd r))) r.tail) .er
theorem qJi:Rd zD pName' :=by
 intro row ws k hw;have h1:=(hw.at k).1;rw[zH]at h1;have m:=qKz (row:=row) (ws:=ws) (k:=k) (b:=true) (e:=[.un]);rw[zH]at m;have t:=qYv (env:=[.s true (cu row ws (k+1)),sS (hd (ws.drop k))]) (i:=1) h1 rfl;unfold pName';cases q:v6 (hd (ws.drop k)) with
 | true=>
   rw[q]at t;refine⟨k+1,zE,?_⟩;exact vX (qI m (qM (q:=false) (wQ t rfl) rfl)) rfl
 | false=>
   rw[q]at t;exact xY (qI m (qM (q:=true) (wQ t rfl) rfl))
theorem jZ4{ws:List Str}(hw:okW ws):Told vV (fun o=> [.s true o,sN lo,sN hi]) (fun o=> [.s true o,.un,.un]) row ws k (pNum lo hi (ws.drop k)):=by
 have h1:=hw.at k;rw[zH]at h1;have m:=qKz (row:=row) (ws:=ws) (k:=k) (b:=true) (e:=[sN lo,sN hi,.un]);rw[zH]at m;have t:=vQx (env:=[.s true (cu row ws (k+1)),sN lo,sN hi,sS (hd (ws.drop k))]) (i:=3) h1.1 rfl;unfold pNum;cases q:jV (hd (ws.drop k)) with
 | false=>
   rw[q]at t;show vV _=_;unfold vV;exact xY (qI m (qM (q:=true) (wE (wQ t rfl) rfl) rfl))
 | true=>
   rw[q]at t;obtain⟨n,hn⟩:=h1.2 q;have hv:valS (hd (ws.drop k))=n:=by unfold valS;rw[hn];rfl
   have hl:(hd (ws.drop k)).length <=640:=by
    have:x6 (hd (ws.drop k)).cps.toList=true:=q;unfold x6 at this;show(hd (ws.drop k)).cps.size<=640;rw[←cU];split at this
    ·cases this
    ·rename_i c l e;simp only[aE,decide_eq_true_eq]at this;rw[e,aZ];omega
   have iv:qJ2 [.str (hd (ws.drop k))]=some (.int n):=by
    show cond (decide ((hd (ws.drop k)).length <=640)) _ _=_;rw[decide_eq_true hl,hn];rfl
   have t2:asB (oCh (c2 fun i j=>decide (i<=j)) (c2 fun i j=>decide (i<=j)) (oN 1) (oL qJ2 [(oN 3)]) (oN 2)) [.s true (cu row ws (k+1)),sN lo,sN hi,sS (hd (ws.drop k))]=.ok (decide (lo<=n) && decide (n<=hi),[.s true (cu row ws (k+1)),sN lo,sN hi,sS (hd (ws.drop k))]):=by
    refine qKp ?_
    have hm:evO (oL qJ2 [(oN 3)]) [.s true (cu row ws (k+1)),sN lo,sN hi,sS (hd (ws.drop k))]=.ok (.d (.int n),[.s true (cu row ws (k+1)),sN lo,sN hi,sS (hd (ws.drop k))]):=by
     repeat' (first|array_get_dec|exact iv)
    show(evO (oL qJ2 [(oN 3)]) [.s true (cu row ws (k+1)),sN lo,sN hi,sS (hd (ws.drop k))]).bind _=_;rw[hm];show cond (decide (lo<=n)) _ _=_;cases decide (lo<=n) <;> rfl
   rw[hv];cases q2:decide (lo<=n) && decide (n<=hi) with
   | true=>
     rw[q2]at t2;refine⟨k+1,zE,?_⟩;unfold vV;refine vX (qI m (qM (q:=false) (wE (wQ t rfl) (wQ t2 rfl)) (vG (jG (zP (vP (h1:=.d (.int n)) (qW4 (hs:=[.d (.str (hd (ws.drop k)))]) rfl rfl iv rfl) rfl) rfl) rfl)))) rfl
   | false=>
     rw[q2]at t2;show vV _=_;unfold vV;exact xY (qI m (qM (q:=true) (wE (wQ t rfl) (wQ t2 rfl)) rfl))

section
variable{env:Ev}{a:SE}{v:SV}{ss:List SV}{i C:Nat}{fs:List (Str×D)}{d:D}{e:Ev}
theorem qZm(h:a env=.er C fs):sSet i a env=.er C fs:=by unfold sSet;rw[h];rfl
theorem qXa(h:a env=.er C fs):zB a env=.er C fs:=by unfold zB;rw[h];rfl
theorem zJi(h:a env=.er C fs):sRet a env=.er C fs:=by unfold sRet;rw[h];rfl
theorem jQ2(h:v env=.er C fs):owS v env=.er C fs:=by unfold owS;rw[h];rfl
theorem zZ2(h:a env=.er C fs):fzS a env=.er C fs:=by unfold fzS;rw[h];rfl
theorem zZ7(h:v env=.er C fs):evVs (v::ss) env=.er C fs:=by show(v env).bind _=_;rw[h];rfl
theorem jJ0(h:v env=.ok (d,e))(k:evVs ss e=.er C fs):evVs (v::ss) env=.er C fs:=by
 show(v env).bind _=_;rw[h];show(evVs ss e).bind _=_;rw[k];rfl
theorem zZ9(h:evVs ss env=.er C fs):vD ss env=.er C fs:=by unfold vD;rw[h];rfl
end
section
variable{F:Fn}{p:List Str->Pr}{row:Int}{ws:List Str}{k:Nat}{b:Bool}{e:Ev}
theorem Rd.call(h:Rd F p)(hw:okW ws):Told (qY F [.io 0]) (fun o=>.s b o::e) (fun o=>.s b o::e) row ws k (p (ws.drop k)):=by
 have:=h row ws k hw;unfold Told at this⊢;split at this
 ·obtain⟨k',h1,h2⟩:=this;refine⟨k',h1,?_⟩;unfold qY;show(F [.s true (cu row ws k)]).bind _=_;rw[h2];rfl
 ·unfold qY;show(F [.s true (cu row ws k)]).bind _=_;rw[this];rfl
 ·trivial
theorem qVc(hw:okW ws)(h1:v1 (.s b (cu row ws k)::e)=.ok (.int lo,.s b (cu row ws k)::e))(h2:v2 (.s b (cu row ws k)::e)=.ok (.int hi,.s b (cu row ws k)::e)):
  Told (qY vV [.io 0,.v v1,.v v2]) (fun o=>.s b o::e) (fun o=>.s b o::e) row ws k (pNum lo hi (ws.drop k)):=by
 have:=jZ4 (row:=row) (k:=k) (lo:=lo) (hi:=hi) hw;have ev:evOs (([.io 0,.v v1,.v v2]:List Am).map Am.o) (.s b (cu row ws k)::e)=.ok ([.p 0 [],.d (.int lo),.d (.int hi)],.s b (cu row ws k)::e):=vYl rfl (xI h1 (xI h2 rfl rfl) rfl) rfl;unfold Told at this⊢;split at this
 ·obtain⟨k',h3,h4⟩:=this;refine⟨k',h3,zW ev ?_⟩;show(vV [.s true (cu row ws k),sN lo,sN hi]).bind _=_;rw[h4];rfl
 ·refine zW ev ?_
  show(vV [.s true (cu row ws k),sN lo,sN hi]).bind _=_;rw[this];rfl
 ·trivial
end
noncomputable def pSk(x:Str)(r:List Str)(f:List Str->Pr):Pr:=cond (decide (hd r=x)) (f r.tail) .er
theorem zW9{r:List Str}{d:D}(h:pNum lo hi r=.ok d r'):d=.int (valS (hd r))/\r' =r.tail:=by
 unfold pNum at h;cases q:jV (hd r) && (decide (lo<=valS (hd r)) && decide (valS (hd r)<=hi)) <;> rw[q]at h <;> cases h
 exact⟨rfl,rfl⟩
noncomputable abbrev tg(x:Str)(ds:List D):D:=.tup (.str x::ds)
noncomputable def jW4:D->Int
 |.int i=>i
 |_=>0
noncomputable def okE(n:Nat)(e:Ev):Prop:=e.length=n/\∀s∈e,vZz s=.un
theorem okE.outs:∀{j n:Nat} {e:Ev},okE n e->j<=n->outs j e=List.replicate j .un
 | 0,_,_,_,_=>rfl
 |j+1,n,[],h,hj=>by have:=h.1;simp at this;omega
 | j + 1,n,s::e,h,hj=>by
   show vZz s::DX.outs j e=_;rw[h.2 s (aM ..),okE.outs (n:=e.length) ⟨rfl,fun z hz=>h.2 z (aI _ hz)⟩ (by have:=h.1;rw[aZ]at this;omega)];rfl
noncomputable def okB(e:Ev):Bool:=e.all fun s=>match vZz s with
 |.un =>true
 |_=>false
theorem yO{e:Ev}(h:okB e=true):okE e.length e:=⟨rfl,fun s hs=>by
 have:=List.all_eq_true.mp h s hs;cases s with
 |un=>rfl
 |s b o=>cases b <;> first|rfl|cases this⟩
noncomputable def z9(s:SS)(e:Ev)(row:Int)(ws:List Str)(k:Nat):Pr->Prop
 |.ok d r=>∃k' e',ws.drop k' =r/\okE e.length e' /\s (.s true (cu row ws k)::e)=.ok (.rt (.fz d) (.s true (cu row ws k')::e'))
 |.er =>s (.s true (cu row ws k)::e)=er row
 |.no =>True
section
variable{s t:SS}{e:Ev}{row:Int}{ws:List Str}{k i:Nat}{x:Pr}{f:D->List Str->Pr}{a:SE}{w:Str}{d:D}{vs:List SV}{ds:List D}{q:Bool}{b:ST}{y:Pr}
theorem fnTn{zs:Ev}(h:z9 s (zs ++ List.replicate m .un) row ws k x):Told (fnS (zs.length+1) m s) (fun o=>.s true o::zs) (fun o=>.s true o::List.replicate zs.length .un) row ws k x:=by
 cases x with
 | ok d r=>
   obtain⟨k',e',h1,h0,h2⟩:=h;refine⟨k',h1,vX h2 ?_⟩;show Res.ok (_,_::outs zs.length e')=_;rw[h0.outs (by rw[aJ];omega)];rfl
 |er=>exact xY h
 |no=>trivial
theorem fnT(h:z9 s (List.replicate m .un) row ws k x):Told (fnS 1 m s) (fun o=> [.s true o]) (fun o=> [.s true o]) row ws k x:=fnTn (zs:=[]) h
theorem goT{s' :SS}{k2:Nat}(h:∀z,s' (.s true (cu row ws k2)::e2)=z->s (.s true (cu row ws k)::e)=z)(hl:e2.length=e.length)(c:z9 s' e2 row ws k2 x):z9 s e row ws k x:=by
 cases x with
 |ok d r=>obtain⟨k',e',h1,h0,h2⟩:=c;exact⟨k',e',h1,hl▸h0,h _ h2⟩
 |er=>exact h _ c
 |no=>trivial
theorem setT(h:Told a (fun o=>.s true o::e) (fun o=>.s true o::e) row ws k x)(c:∀d k',x=.ok d (ws.drop k')->z9 t (e.set i (fz d)) row ws k' (f d (ws.drop k'))):z9 (sSeq (sSet (i+1) a) t) e row ws k (x.bind f):=by
 cases x with
 | ok d r=>
   obtain⟨k',rfl,h2⟩:=h;exact goT (fun z hz=>qI h2 hz) cR (c d k' rfl)
 |er=>exact wI (qZm h)
 |no=>trivial
theorem qJ0(c:hd (ws.drop k)=w->z9 t e row ws (k+1) (g (ws.drop (k+1)))):z9 (sSeq (zB (vE 9 "need" qE (.io 0) [.v (oV (oC (.str w)))])) t) e row ws k (pSk w (ws.drop k) g):=by
 unfold pSk;by_cases h:hd (ws.drop k)=w
 ·rw [decide_eq_true h,←zE];exact goT (fun z hz=>qZs (zXj (zH.trans h)) hz) rfl (c h)
 ·rw [decide_eq_false h];exact wI (qXa (zXk fun z=>h (zH.symm.trans z)))
theorem retT(h:a (.s true (cu row ws k)::e)=.ok (.fz d,.s true (cu row ws k)::e))(ho:okB e=true:=by rfl):z9 (sRet a) e row ws k (.ok d (ws.drop k)):=⟨k,e,rfl,yO ho,jG h rfl⟩
theorem retC(h:Told a (fun o=>.s true o::e) (fun o=>.s true o::e) row ws k x)(ho:okB e=true:=by rfl):z9 (sRet a) e row ws k x:=by
 cases x with
 |ok d r=>obtain⟨k',h1,h2⟩:=h;exact⟨k',e,h1,yO ho,jG h2 rfl⟩
 |er=>exact zJi h
 |no=>trivial
theorem qYf:∀{vs:List SV} {env e1 e2:Ev} {us:List D} {d:D},evVs vs env=.ok (us,e1)->v e1=.ok (d,e2)->evVs (vs ++ [v]) env=.ok (us ++ [d],e2)
 |[],env,e1,e2,us,d,h,k=>by cases h;exact qC k rfl rfl
 | u::vs,env,e1,e2,us,d,h,k=>by
   change (u env).bind _=_ at h;cases q:u env with
   |no=>rw[q]at h;cases h
   |er C fs=>rw[q]at h;cases h
   | ok r=>
     rw[q]at h;change (evVs vs r.2).bind _=_ at h;cases q2:evVs vs r.2 with
     |no=>rw[q2]at h;cases h
     |er C fs=>rw[q2]at h;cases h
     |ok r2=>rw[q2]at h;cases h;exact qC q (qYf q2 k) rfl
theorem qWw{fs:List (Str×D)}:∀{vs:List SV} {env e1:Ev} {us:List D},evVs vs env=.ok (us,e1)->v e1=.er C fs->evVs (vs ++ [v]) env=.er C fs
 |[],env,e1,us,h,k=>by cases h;exact zZ7 k
 | u::vs,env,e1,us,h,k=>by
   change (u env).bind _=_ at h;cases q:u env with
   |no=>rw[q]at h;cases h
   |er C fs=>rw[q]at h;cases h
   | ok r=>
     rw[q]at h;change (evVs vs r.2).bind _=_ at h;cases q2:evVs vs r.2 with
     |no=>rw[q2]at h;cases h
     |er C fs=>rw[q2]at h;cases h
     |ok r2=>rw[q2]at h;cases h;exact jJ0 q (qWw q2 k)
theorem qVi(h:Told a (fun o=>.s true o::e) (fun o=>.s true o::e) row ws k x)(hv:evVs vs (.s true (cu row ws k)::e)=.ok (us,.s true (cu row ws k)::e):=by rfl)(hl:us.length<=100:=by simp)(ho:okB e=true:=by rfl):
  z9 (sRet (owS (vD (vs ++ [fzS a])))) e row ws k (x.bind fun d r=>.ok (.tup (us ++ [d])) r):=by
 cases x with
 | ok d r=>
   obtain⟨k',h1,h2⟩:=h;exact⟨k',e,h1,yO ho,jG (zP (xZ (qYf hv (vL h2 rfl)) (decide_eq_true (by rw[aJ];show us.length+1<=1000;omega)) rfl) rfl) rfl⟩
 |er=>exact zJi (jQ2 (zZ9 (qWw hv (zZ2 h))))
 |no=>trivial
theorem tupT(h:Told a (fun o=>.s true o::e) (fun o=>.s true o::e) row ws k x)(hv:evVs vs (.s true (cu row ws k)::e)=.ok (us,.s true (cu row ws k)::e))(hl:us.length<=100):
  Told (owS (vD (vs ++ [fzS a]))) (fun o=>.s true o::e) (fun o=>.s true o::e) row ws k (x.bind fun d r=>.ok (.tup (us ++ [d])) r):=by
 cases x with
 | ok d r=>
   obtain⟨k',h1,h2⟩:=h;exact⟨k',h1,zP (xZ (qYf hv (vL h2 rfl)) (decide_eq_true (by rw[aJ];show us.length+1<=1000;omega)) rfl) rfl⟩
 |er=>exact jQ2 (zZ9 (qWw hv (zZ2 h)))
 |no=>trivial
theorem ifT(h:b (.s true (cu row ws k)::e)=.ok (q,.s true (cu row ws k)::e))(c1:q=true->z9 s e row ws k x)(c2:q=false->z9 t e row ws k y):z9 (sSeq (sIf b s sNil) t) e row ws k (cond q x y):=by
 cases q with
 | true=>
   have:=c1 rfl;cases x with
   |ok d r=>obtain⟨k',e',h1,h0,h2⟩:=this;exact⟨k',e',h1,h0,qM h (qWb h2 rfl)⟩
   |er=>exact qM h (wI this)
   |no=>trivial
 |false=>exact goT (fun z hz=>qM h (vG hz)) rfl (c2 rfl)
theorem qWc:z9 (zR 23 "row" (oV (oFld [9] "row" (oN 0)))) e row ws k .er :=rfl
theorem jVa(c:z9 t (e.set i (sS (hd (ws.drop k)))) row ws (k+1) y):z9 (sSeq (sSet (i+1) (vE 9 "next_word" vQ (.io 0) [])) t) e row ws k y:=by
 have m:=qKz (row:=row) (ws:=ws) (k:=k) (b:=true) (e:=e);rw[zH]at m;exact goT (fun z hz=>qI m hz) cR c
theorem jWk(c1:hd (ws.drop k)=w->z9 s e row ws (k+1) (g (ws.drop (k+1))))(c2:hd (ws.drop k)≠w->z9 t e row ws k y):z9 (sSeq (sIf (asB (.v (fzS (vE 9 "passed" qR (.io 0) [(.v (oV (oC (.str w))))])))) s sNil) t) e row ws k (cond (decide (hd (ws.drop k)=w)) (g (ws.drop k).tail) y):=by
 have m:=vQj (row:=row) (ws:=ws) (k:=k) (b:=true) (e:=e) (x:=w);rw[zH]at m;by_cases h:hd (ws.drop k)=w
 ·rw [decide_eq_true h,if_pos h] at m;rw[decide_eq_true h,←zE];have tt:=vT (q:=true) (XB:=.ok (true,.s true (cu row ws (k+1))::e)) (vP (v8 (vL m rfl) rfl) rfl) rfl rfl;have:=c1 h;show z9 _ _ _ _ _ (g (ws.drop (k+1)));cases z:g (ws.drop (k+1)) with
  |ok d r=>rw[z]at this;obtain⟨k',e',h1,h0,h2⟩:=this;exact⟨k',e',h1,h0,qM tt (qWb h2 rfl)⟩
  |er=>rw[z]at this;exact qM tt (wI this)
  |no=>trivial
 ·rw [decide_eq_false h,if_neg h] at m;rw[decide_eq_false h];have tt:=vT (q:=false) (XB:=.ok (false,.s true (cu row ws k)::e)) (vP (v8 (vL m rfl) rfl) rfl) rfl rfl;exact goT (fun z hz=>qM tt (vG hz)) rfl (c2 h)
end
noncomputable def pFlip(r:List Str):Pr:=(pNum 1 1000000 r).bind fun a r=>pSk "/" r fun r=>(pNum (jW4 a+1) 1000000 r).bind fun c r=>pSk ")" r fun r=>.ok (tg "flip" [a,c]) r
theorem zYw:Rd qZ9 pFlip:=fun row ws k hw=>fnT (setT (qVc hw rfl rfl) fun d k1 q1=>by
 obtain⟨rfl,_⟩:=zW9 q1;exact qJ0 fun _=>setT (qVc hw rfl rfl) fun d k2 q2=>qJ0 fun _=>retT rfl)
noncomputable def pOut(r:List Str):Pr:=(pNum 0 999999999999 r).bind fun a r=>pSk ":" r fun r=>(pNum 1 1000000 r).bind fun c r=>.ok (.tup [a,c]) r
theorem jV6:Rd j5 pOut:=fun row ws k hw=>fnT (setT (qVc hw rfl rfl) fun d k1 q1=>qJ0 fun _=>qVi (vs:=[oV (oN 1)]) (us:=[d]) (qVc hw rfl rfl))
noncomputable def jQ1(T:List Str->Pr)(r:List Str):Pr:=(T r).bind fun t r=>pSk "," r fun r=>(pNum 1 999999999999 r).bind fun c r=>pSk ")" r fun r=>.ok (tg "rest" [t,c]) r
noncomputable def vZr(T:List Str->Pr)(r:List Str):Pr:=(pName' r).bind fun n r=>pSk ":" r fun r=>(T r).bind fun t r=>.ok (.tup [n,t]) r
section
variable{R:Fn}{T:List Str->Pr}
theorem zYu(h:Rd R T):Rd (qZ7 R) (jQ1 T):=fun row ws k hw=>fnT (setT (h.call hw) fun d k1 q1=>qJ0 fun _=>setT (qVc hw rfl rfl) fun d k2 q2=>qJ0 fun _=>retT rfl)
theorem zWw(h:Rd R T):Rd (wR R) (vZr T):=fun row ws k hw=>fnT (setT (qJi.call hw) fun d k1 q1=>qJ0 fun _=>qVi (vs:=[oV (oN 1)]) (us:=[d]) (h.call hw))
end

noncomputable def lenT:D->Int
 |.nd _ ds=>ds.length
 |_=>0
noncomputable def qQp(p:List Str->Pr):Nat->List D->List Str->Pr
 | 0,_,_=>.no
 |n+1,ds,r=>cond (decide (hd r=",")) ((p r.tail).bind fun d r=>qQp p n (ds ++ [d]) r) (.ok (.tup ds) r)
noncomputable def qQ7(p:List Str->Pr)(close:Str)(most:Int)(r:List Str):Pr:=cond (decide (hd r=close)) (.ok (.tup []) r.tail)
 ((p r).bind fun d r=>(qQp p 100 [d] r).bind fun t r=>pSk close r fun r=>cond (decide (lenT t > most)) .er (.ok t r))
noncomputable abbrev tbl(R:Fn):List (Nat×Fn):=[(30,R),(31,j5),(32,(wR R)),(33,zD)]
section
variable{R G:Fn}{p:List Str->Pr}{row:Int}{ws:List Str}{k j:Nat}{close:Str}{most:Int}{y:Slot}
noncomputable abbrev le(close:Str)(most:Int)(j:Nat)(y:Slot):Ev:=[sS close,sN most,fz (.fn j),y]
theorem zVa(hG:(tbl R).lookup j=some G)(h:Rd G p)(hw:okW ws):Told (vVr (tbl R) 3 [.io 0]) (fun o=>.s true o::le close most j y) (fun o=>.s true o::le close most j y) row ws k (p (ws.drop k)):=by
 have:=h.call (row:=row) (k:=k) (b:=true) (e:=le close most j y) hw;have e1:∀o,vVr (tbl R) 3 [.io 0] (.s true o::le close most j y)=qY G [.io 0] (.s true o::le close most j y):=fun o=>by
  show(match(tbl R).lookup j with
   |some F=>qY F [.io 0] (.s true o::le close most j y)
   |none=>.no)=_
  rw[hG]
 unfold Told at this⊢;rw[e1];exact this
noncomputable abbrev fl(ds:List D):Slot:=.s false (.ow .lst (ds.map .fz))
theorem jZ5{s:SP}{a:SE}{f:List O->O->Option (O×List O)}{π:List Nat}{os:List O}{fs:List (Str×D)}(h:s env=some (.p i π))(h0:qQ8 env i π=some os)(h1:a env=.er C fs):eMu1 s a f env=.er C fs:=by
 unfold eMu1;rw[h];show(opt (qQ8 env i π)).bind _=_;rw[h0];rw[h1];rfl
theorem vWp{t:ST}{s:SS}{n:Nat}{fs:List (Str×D)}(h:t env=.ok (true,e1))(h2:s e1=.er C fs):vS t s (n+1) env=.er C fs:=by
 show(t env).bind _=_;rw[h];show(s e1).bind _=_;rw[h2];rfl
noncomputable abbrev vVl(w:Str):ST:=asB (.v (fzS (vE 9 "passed" qR (.io 0) [(.v (oV (oC (.str w))))])))
theorem qKb{e:Ev}{w:Str}(h:hd (ws.drop k)=w):vVl w (.s true (cu row ws k)::e)=.ok (true,.s true (cu row ws (k+1))::e):=by
 have m:=vQj (row:=row) (ws:=ws) (k:=k) (b:=true) (e:=e) (x:=w);rw[zH,decide_eq_true h,if_pos h]at m;exact vT (vP (v8 (vL m rfl) rfl) rfl) rfl rfl
theorem vJd{e:Ev}{w:Str}(h:hd (ws.drop k)≠w):vVl w (.s true (cu row ws k)::e)=.ok (false,.s true (cu row ws k)::e):=by
 have m:=vQj (row:=row) (ws:=ws) (k:=k) (b:=true) (e:=e) (x:=w);rw[zH,decide_eq_false h,if_neg h]at m;exact vT (vP (v8 (vL m rfl) rfl) rfl) rfl rfl
theorem zJx(hG:(tbl R).lookup j=some G)(h:Rd G p)(hw:okW ws):∀(n m:Nat) (ds:List D) (k:Nat),n<=m->ds.length+n<=1000->(match qQp p n ds (ws.drop k) with
  |.ok t r=>∃ds' k',t=.tup ds' /\ds'.length<=1000/\ws.drop k' =r/\vS (vVl ",") (wY R) m (.s true (cu row ws k)::le close most j (fl ds))=.ok (.nx (.s true (cu row ws k')::le close most j (fl ds')))
  |.er =>vS (vVl ",") (wY R) m (.s true (cu row ws k)::le close most j (fl ds))=er row
  |.no =>True)
 | 0,m,ds,k,_,_=>trivial
 |n+1,0,ds,k,hm,_=>by omega
 | n + 1,m + 1,ds,k,hm,hd' =>by
   unfold qQp;by_cases hc:hd (ws.drop k)=","
   ·rw [decide_eq_true hc,←zE];have c1:=zVa (row:=row) (k:=k+1) (close:=close) (most:=most) (y:=fl ds) hG h hw;cases q:p (ws.drop (k+1)) with
    |no=>trivial
    | er=>
      rw[q]at c1;exact vWp (qKb hc) (qXa (jZ5 (i:=4) (π:=[]) (os:=ds.map .fz) rfl rfl c1))
    | ok d r=>
      rw[q]at c1;obtain⟨k1,rfl,c1⟩:=c1;have ih:=zJx hG h hw n m (ds ++ [d]) k1 (by omega) (by rw[aJ];show ds.length+1+n<=1000;omega);have step:vS (vVl ",") (wY R) (m+1) (.s true (cu row ws k)::le close most j (fl ds))=vS (vVl ",") (wY R) m (.s true (cu row ws k1)::le close most j (fl (ds ++ [d]))):=by
       refine qY6 (qKb hc) ?_
       refine wK (xT (i:=4) (π:=[]) (os0:=ds.map .fz) (os:=ds.map .fz) rfl rfl c1 rfl rfl (z:=(.fz .non,ds.map .fz ++ [.fz d])) ?_ rfl) ?_
       ·unfold apF;rw[decide_eq_true (show(ds.map O.fz).length <=lim from by rw[aB];exact aG (show ds.length<=1000 by omega) (by decide))];rfl
       ·show Res.ok (Out.nx [_,_,_,_, .s false (.ow .lst (ds.map .fz ++ [.fz d]))])=Res.ok (Out.nx [_,_,_,_, .s false (.ow .lst ((ds ++ [d]).map .fz))]);rw[bL];rfl
      rw[step];exact ih
   ·rw [decide_eq_false hc];exact⟨ds,k,rfl,by omega,rfl,qW5 (vJd hc)⟩
theorem zKu(hG:(tbl R).lookup j=some G)(h:Rd G p)(hw:okW ws):Told (jO R) (fun o=> [.s true o,sS close,sN most,fz (.fn j)]) (fun o=> [.s true o,.un,.un,.un]) row ws k (qQ7 p close most (ws.drop k)):=by
 refine fnTn (zs:=[sS close,sN most,fz (.fn j)]) (m:=1) ?_
 unfold qQ7;have m:=qYc (row:=row) (ws:=ws) (k:=k) (b:=true) (e:=[sN most,fz (.fn j),.un]) (x:=close);rw[zH]at m;by_cases hc:hd (ws.drop k)=close
 ·rw [decide_eq_true hc,if_pos hc] at m;rw[decide_eq_true hc,←zE];have tt:=vT (q:=true) (XB:=.ok (true,.s true (cu row ws (k+1))::le close most j .un)) (vP (v8 (vL m rfl) rfl) rfl) rfl rfl;exact⟨k+1,le close most j .un,rfl,yO rfl,qM tt (qWb rfl rfl)⟩
 ·rw [decide_eq_false hc,if_neg hc] at m;rw[decide_eq_false hc];have tt:=vT (q:=false) (XB:=.ok (false,.s true (cu row ws k)::le close most j .un)) (vP (v8 (vL m rfl) rfl) rfl) rfl rfl;refine goT (fun z hz=>qM tt (vG hz)) rfl ?_
  have c1:=zVa (row:=row) (k:=k) (close:=close) (most:=most) (y:=.un) hG h hw;cases q:p (ws.drop k) with
  |no=>trivial
  |er=>rw[q]at c1;exact wI (qZm (show eLst [_] _=_ by unfold eLst;rw[zZ7 (zZ2 c1)];rfl))
  | ok d r=>
    rw[q]at c1;obtain⟨k1,rfl,c1⟩:=c1;refine goT (e2:=le close most j (fl [d])) (k2:=k1) (fun z hz=>qI (zJw (ds:=[d]) (qC (vL c1 rfl) rfl rfl) rfl rfl) hz) rfl ?_
    have lp:=zJx (row:=row) (close:=close) (most:=most) hG h hw 100 100000 [d] k1 (by decide) (by show 1+100<=1000;decide);show z9 _ _ _ _ _ ((qQp p 100 [d] (ws.drop k1)).bind _);cases q2:qQp p 100 [d] (ws.drop k1) with
    |no=>trivial
    |er=>rw[q2]at lp;exact wI lp
    | ok t r=>
      rw[q2]at lp;obtain⟨ds',k2,rfl,hl,rfl,lp⟩:=lp;refine goT (e2:=le close most j (fl ds')) (k2:=k2) (fun z hz=>qL lp hz) rfl ?_
      dsimp only[Pr.bind,pSk];by_cases hx:hd (ws.drop k2)=close
      ·rw [decide_eq_true hx,←zE];refine goT (e2:=le close most j (fl ds')) (k2:=k2+1) (fun z hz=>qZs (zVz (zH.trans hx)) hz) rfl ?_
       refine ifT (q:=decide (lenT (.tup ds') > most)) ?_ (fun _=>qWc) fun _=>retT ?_
       ·show Res.ok (decide (((fzOs (ds'.map .fz)).length :Int) > most),_)=_;rw[xF];rfl
       ·refine zP (d:= .tup ds') (e:= .s true (cu row ws (k2 + 1))::le close most j (fl ds')) ?_ rfl;have e1:(ds'.map O.fz).map (fun o=>O.fz (fzO o))=ds'.map .fz :=by rw[cS];rfl
        show((opt (tupleD [.nd .lst (fzOs (ds'.map .fz))])).bind fun z=>Res.ok (z,Slot.s true (cu row ws (k2+1)):: [sS close,sN most,fz (.fn j),.s false (.ow .lst ((ds'.map O.fz).map fun o=>O.fz (fzO o)))]))=_;rw[xF,e1];rfl
      ·rw [decide_eq_false hx];exact wI (qXa (zV0 fun z=>hx (zH.symm.trans z)))
end

section
variable{R G:Fn}{p:List Str->Pr}{row:Int}{ws:List Str}{k j:Nat}{close:Str}{most:Int}{e:Ev}
theorem vWl{F:Fn}{zs:List D}{x:Pr}{b:Bool}(hv:∀o,evOs ((vs.map Am.v).map Am.o) (.s b o::e)=.ok (zs.map .d,.s b o::e))(hl:vs.length=zs.length)(h:Told F (fun o=>.s true o::zs.map fz) (fun o=>.s true o::List.replicate zs.length .un) row ws k x):
  Told (qY F (.io 0::vs.map .v)) (fun o=>.s b o::e) (fun o=>.s b o::e) row ws k x:=by
 have key:∀(vs:List SV) (zs:List D),vs.length=zs.length->zS (.io 0::vs.map .v) (.p 0 []::zs.map .d)=[]/\wG (.io 0::vs.map .v) (.p 0 []::zs.map .d)=[0]/\∀o,wP [] [] (.io 0::vs.map .v) (.p 0 []::zs.map .d) [o]=some (.s true o::zs.map fz):=by
  have k1:∀(vs:List SV) (zs:List D),vs.length=zs.length->zS (vs.map .v) (zs.map .d)=[]/\wG (vs.map .v) (zs.map .d)=[]/\wP [] [] (vs.map .v) (zs.map .d) []=some (zs.map fz):=by
   intro vs;induction vs with
   |nil=>intro zs h;cases zs <;> first|exact⟨rfl,rfl,rfl⟩|cases h
   | cons v vs ih=>
     intro zs h;cases zs with
     |nil=>cases h
     | cons z zs=>
       obtain⟨a,b,c⟩:=ih zs (Nat.succ.inj h);refine⟨a,b,?_⟩;show(wP [] [] (vs.map .v) (zs.map .d) []).bind _=_;rw[c];rfl
  intro vs zs h;obtain⟨a,b,c⟩:=k1 vs zs h;refine⟨a,by show 0::wG _ _=_;rw[b],fun o=>?_⟩;show(wP [] [] (vs.map .v) (zs.map .d) []).bind _=_;rw[c];rfl
 have out:∀(vs:List SV) (zs:List D),vs.length=zs.length->∀o,qZi (.io 0::vs.map .v) (.s true o::List.replicate zs.length .un)=some [o]:=by
  have k2:∀(vs:List SV) (zs:List D),vs.length=zs.length->qZi (vs.map .v) (List.replicate zs.length .un)=some []:=by
   intro vs;induction vs with
   |nil=>intro zs h;cases zs <;> first|rfl|cases h
   | cons v vs ih=>
     intro zs h;cases zs with
     |nil=>cases h
     |cons z zs=>exact ih zs (Nat.succ.inj h)
  intro vs zs h o;show(qZi (vs.map .v) (List.replicate zs.length .un)).bind _=_;rw[k2 vs zs h];rfl
 obtain⟨k1,k2,k3⟩:=key vs zs hl;have ev:∀o,evOs ((.io 0::vs.map Am.v).map Am.o) (.s b o::e)=.ok (.p 0 []::zs.map .d,.s b o::e):=fun o=>vYl rfl (hv o) rfl
 cases x with
 | ok d r=>
   obtain⟨k',h1,h2⟩:=h;refine⟨k',h1,zW (ev _) ?_⟩;refine xM (t0:=([],.s b (cu row ws k)::e)) (t:=([cu row ws k],.un ::e)) (q:=(.fz d,.s true (cu row ws k')::List.replicate zs.length .un)) (os:=[cu row ws k']) (by rw[k1];rfl) (by rw[k2];rfl) (by rw[k1];exact k3 _) h2 (out vs zs hl _) rfl ?_
   rw[k1,k2];rfl
 | er=>
   refine zW (ev _) (vQq (t0:=([],.s b (cu row ws k)::e)) (t:=([cu row ws k],.un ::e)) (by rw[k1];rfl) (by rw[k2];rfl) (by rw[k1];exact k3 _) h)
 |no=>trivial
theorem qJu{v3:SV}(hG:(tbl R).lookup j=some G)(h:Rd G p)(hw:okW ws)(h1:∀o,v1 (.s true o::e)=.ok (.str close,.s true o::e))(h2:∀o,v2 (.s true o::e)=.ok (.int most,.s true o::e))(h3:∀o,v3 (.s true o::e)=.ok (.fn j,.s true o::e)):
  Told (qY (jO R) [.io 0,.v v1,.v v2,.v v3]) (fun o=>.s true o::e) (fun o=>.s true o::e) row ws k (qQ7 p close most (ws.drop k)):=
 vWl (vs:=[v1,v2,v3]) (zs:=[.str close,.int most,.fn j]) (fun o=>xI (h1 o) (xI (h2 o) (xI (h3 o) rfl rfl) rfl) rfl) rfl (zKu hG h hw)
end
theorem vV6{p:List Str->Pr}(P:D->Prop)(hp:∀r d r',p r=.ok d r' ->P d):∀{n:Nat} {ds:List D} {r:List Str} {t:D} {r' :List Str},(∀d∈ds,P d)->qQp p n ds r=.ok t r' ->∃ds',t=.tup ds' /\∀d∈ds',P d
 | 0,ds,r,t,r',_,h=>by cases h
 | n + 1,ds,r,t,r',ho,h=>by
   unfold qQp at h;cases q:decide (hd r=",") with
   |false=>rw[q]at h;cases h;exact⟨ds,rfl,ho⟩
   | true=>
     rw[q]at h;change (p r.tail).bind _=_ at h;cases q2:p r.tail with
     |no=>rw[q2]at h;cases h
     |er=>rw[q2]at h;cases h
     | ok d r1=>
       rw[q2]at h;exact vV6 P hp (fun z hz=>by rcases cV.mp hz with y|y;exact ho z y;rw[bG.mp y];exact hp _ _ _ q2) h
theorem qYa{p:List Str->Pr}(P:D->Prop)(hp:∀r d r',p r=.ok d r' ->P d){close:Str}{most:Int}(hm:0<=most){r:List Str}{t:D}(h:qQ7 p close most r=.ok t r'):∃ds,t=.tup ds/\(∀d∈ds,P d)/\(ds.length:Int)<=most:=by
 unfold qQ7 at h;cases q:decide (hd r=close) with
 |true=>rw[q]at h;cases h;exact⟨[],rfl,fun d hd=>(by cases hd),hm⟩
 | false=>
   rw[q]at h;change (p r).bind _=_ at h;cases q1:p r with
   |no=>rw[q1]at h;cases h
   |er=>rw[q1]at h;cases h
   | ok d r1=>
     rw[q1]at h;change (qQp p 100 [d] r1).bind _=_ at h;cases q2:qQp p 100 [d] r1 with
     |no=>rw[q2]at h;cases h
     |er=>rw[q2]at h;cases h
     | ok t2 r2=>
       rw[q2]at h;obtain⟨ds,rfl,hP⟩:=vV6 P hp (fun z hz=>by rw[bG.mp hz];exact hp _ _ _ q1) q2;dsimp only[Pr.bind,pSk]at h;cases q3:decide (hd r2=close) with
       |false=>rw[q3]at h;cases h
       | true=>
         rw[q3]at h;cases q4:decide (lenT (.tup ds) > most) with
         |true=>rw[q4]at h;cases h
         | false=>
           rw[q4]at h;cases h;exact⟨ds,rfl,hP,by have:=of_decide_eq_false q4;simp only[lenT]at this;omega⟩
noncomputable def fst1:D->D
 |.nd _ (x::_)=>x
 |_=>.non
noncomputable def kids:D->List D
 |.nd _ ds=>ds
 |_=> []
noncomputable def qK2(ds:List D):Option Bool:=match lenTD [.nd .lst ds] with
 |some (.int n)=>some (decide (n<ds.length))
 |_=>none
noncomputable def vYe(p:List Str->Pr)(close:Str)(r:List Str):Pr:=(qQ7 p close 6 r).bind fun t r=>cond (decide (lenT t=0)) .er (match qK2 ((kids t).map fst1) with
 |some b=>cond b .er (.ok t r)
 |none=>.no)
theorem jQm{ws:List Str}{b:Bool}(h:qK2 ds=some b):jT [fz (fzO (cu row ws k)),fz (.nd .lst ds)]=cond b (er row) (.ok (.fz .non,[.un,.un])):=by
 unfold qK2 at h;split at h
 ·rename_i n hn;cases h;have t:asB (oLt (.v (svA lenTD [(oN 1)])) (oL lenD [(oN 1)])) [fz (fzO (cu row ws k)),fz (.nd .lst ds)]=.ok (decide (n<ds.length),[fz (fzO (cu row ws k)),fz (.nd .lst ds)]):=by
   refine vT (d:=.bl (decide (n<ds.length))) (vP (h1:=.d (.bl (decide (n<ds.length)))) (evO_o2 (h1:=.d (.int n)) (h2:=.d (.int ds.length)) (v8 (vX8 (hs:=[.d (.nd .lst ds)]) rfl rfl hn rfl) rfl) rfl rfl rfl rfl rfl rfl) rfl) rfl rfl
  cases q:decide (n<(ds.length:Int)) with
  |true=>rw[q]at t;exact xY (vR t rfl)
  |false=>rw[q]at t;exact vX (vR t rfl) rfl
 ·cases h
section
variable{R G:Fn}{p:List Str->Pr}{row:Int}{ws:List Str}{k j:Nat}{close:Str}{T:List Str->Pr}
theorem jJp(hP:∀d∈ds,∃a b,d=.tup [a,b]){o:O}{e:Ev}(hl:ds.length<=1000):fzS (compS 1 [] [0] (iV (oV (oN 3))) (gN 0) bTrue (oV (oIx (oN 0) (oC (.int 0))))) [.s true o,sS close,fz (.fn j),fz (.tup ds)]=.ok (.nd .lst (ds.map fst1),[.s true o,sS close,fz (.fn j),fz (.tup ds)]):=by
 obtain⟨e',h1,h2⟩:=compL_map (g:=gN 0) (el:=oV (oIx (oN 0) (oC (.int 0)))) (ds:=ds) (env:=[.un]) (fun e=>e.length=1) fst1 (fun d e hd he=>by
  obtain⟨a,b,rfl⟩:=hP d hd;match e,he with
  |[y],_=>exact⟨[fz (.tup [a,b])],[fz (.tup [a,b])],rfl,rfl,rfl⟩) rfl
 match e',h2 with
 |[y],_=>
 refine qJw (ds:=ds) (e:=[.s true o,sS close,fz (.fn j),fz (.tup ds)]) rfl ?_ h1 rfl;rw[decide_eq_true (aG hl (by decide))];rfl
theorem vW8(hG:(tbl R).lookup j=some G)(h:Rd G p)(hp:∀r d r',p r=.ok d r' ->∃a b,d=.tup [a,b])(hw:okW ws):Told (yB R) (fun o=> [.s true o,sS close,fz (.fn j)]) (fun o=> [.s true o,.un,.un]) row ws k (vYe p close (ws.drop k)):=by
 refine fnTn (zs:=[sS close,fz (.fn j)]) (m:=1) (setT (i:=2) (qJu (most:=6) hG h hw (fun _=>rfl) (fun _=>rfl) (fun _=>rfl)) fun t k1 q1=>?_);obtain⟨ds,rfl,hP,hl⟩:=qYa _ hp (by decide) q1;refine ifT (q:=decide (lenT (.tup ds)=0)) ?_ (fun _=>qWc) fun _=>?_
 ·show Res.ok (((ds.length:Int) == 0),_)=_;have:((ds.length:Int) == 0)=decide (lenT (.tup ds)=0):=by rw[bH];simp[lenT]
  rw[this]
 ·show z9 _ [sS close,fz (.fn j),fz (.tup ds)] _ _ _ _;have c1:=jJp (close:=close) (j:=j) (o:=cu row ws k1) (e:=[]) hP (by omega);show z9 _ _ _ _ _ (match qK2 (ds.map fst1) with
   |some b=>cond b .er (.ok (.tup ds) (ws.drop k1))
   |none=>.no)
  cases q2:qK2 (ds.map fst1) with
  |none=>trivial
  | some b=>
    have a1:=jQm (row:=row) (ws:=ws) (k:=k1) q2;have ev:evOs (([(.b (pOf (oN 0))),(.v (fzS (compS 1 [] [0] (iV (oV (oN 3))) (gN 0) bTrue (oV (oIx (oN 0) (oC (.int 0)))))))]:List Am).map Am.o) [.s true (cu row ws k1),sS close,fz (.fn j),fz (.tup ds)]=.ok ([.p 0 [],.d (.nd .lst (ds.map fst1))],[.s true (cu row ws k1),sS close,fz (.fn j),fz (.tup ds)]):=jVo rfl rfl (xI c1 rfl rfl) rfl;cases b with
    |true=>exact wI (qXa (zW ev (vQq (t0:=([cu row ws k1],[.un,sS close,fz (.fn j),fz (.tup ds)])) (t:=([],[.un,sS close,fz (.fn j),fz (.tup ds)])) rfl rfl rfl a1)))
    | false=>
      refine⟨k1,[sS close,fz (.fn j),.un],rfl,yO rfl,qZs (zW ev (xM (t0:=([cu row ws k1],[.un,sS close,fz (.fn j),fz (.tup ds)])) (t:=([],[.un,sS close,fz (.fn j),fz (.tup ds)])) rfl rfl rfl a1 rfl rfl rfl)) rfl⟩
end

noncomputable def pIf(T:List Str->Pr)(r:List Str):Pr:=(qQ7 T ")" 3 r).bind fun t r=>match kids t with
 |[a,b,c]=>.ok (tg "if" [a,b,c]) r
 |_=>.er
noncomputable def zJo(T:List Str->Pr)(w:Str)(r:List Str):Pr:=pSk "(" r fun r=>cond (decide (w="if")) (pIf T r) (cond (decide (w="flip")) (pFlip r) (cond (decide (w="pick")) ((vYe pOut ")" r).bind fun t r=>.ok (tg "pick" [t]) r) (jQ1 T r)))
noncomputable def qZo(T:List Str->Pr)(w:Str)(r:List Str):Pr:=cond (v6 w) (cond (decide (hd r="(")) ((qQ7 T ")" 3 r.tail).bind fun t r=>.ok (tg "call" [.str w,t]) r) (.ok (tg "name" [.str w]) r)) .er
noncomputable def xH(T:List Str->Pr)(r:List Str):Pr:=cond (decide (hd r="(")) ((T r.tail).bind fun t r=>pSk ")" r fun r=>.ok t r)
 (cond (decide (hd r="{")) ((vYe (vZr T) "}" r.tail).bind fun t r=>.ok (tg "record" [t]) r)
 (cond (jZ.contains (hd r)) (zJo T (hd r) r.tail)
 (cond (jV (hd r)) (.ok (tg "num" [.int (valS (hd r))]) r.tail) (qZo T (hd r) r.tail))))
theorem zW8(r:List Str)(d:D)(r' :List Str)(h:pOut r=.ok d r'):∃a b,d=.tup [a,b]:=by
 unfold pOut at h;cases q:pNum 0 999999999999 r with
 |no=>rw[q]at h;cases h
 |er=>rw[q]at h;cases h
 | ok x r1=>
   rw[q]at h;dsimp only[Pr.bind,pSk]at h;grind
theorem vY7(T:List Str->Pr)(r:List Str)(d:D)(r' :List Str)(h:vZr T r=.ok d r'):∃a b,d=.tup [a,b]:=by
 unfold vZr at h;cases q:pName' r with
 |no=>rw[q]at h;cases h
 |er=>rw[q]at h;cases h
 | ok x r1=>
   rw[q]at h;dsimp only[Pr.bind,pSk]at h;grind
section
variable{R:Fn}{T:List Str->Pr}{row:Int}{ws:List Str}{k:Nat}{w:Str}
theorem jWb(h:Rd R T):Rd (qYj R) (pIf T):=fun row ws k hw=>fnT (setT (i:=0) (qJu (R:=R) (j:=30) (most:=3) rfl h hw (fun _=>rfl) (fun _=>rfl) (fun _=>rfl)) fun t k1 q1=>by
 obtain⟨ds,rfl,_,hl⟩:=qYa (fun _=>True) (fun _ _ _ _=>trivial) (by decide) q1;match ds,hl with
 |[a,b,c],_=>exact ifT (q:=false) (x:=.er) rfl (fun z=>by cases z) fun _=>retT rfl
 |[a,b],_=>exact ifT (q:=true) (y:=.er) rfl (fun _=>qWc) fun z=>by cases z
 |[a],_=>exact ifT (q:=true) (y:=.er) rfl (fun _=>qWc) fun z=>by cases z
 |[],_=>exact ifT (q:=true) (y:=.er) rfl (fun _=>qWc) fun z=>by cases z
 |a::b::c::d::ds,hl=>simp at hl;omega)
theorem zX9(h:Rd R T)(hw:okW ws):Told (qV7 R) (fun o=> [.s true o,sS w]) (fun o=> [.s true o,.un]) row ws k (zJo T w (ws.drop k)):=
 fnTn (zs:=[sS w]) (m:=0) (qJ0 fun _=>ifT (q:=decide (w="if")) rfl (fun _=>retC ((jWb h).call hw)) fun _=>ifT (q:=decide (w="flip")) rfl (fun _=>retC (zYw.call hw)) fun _=>
  ifT (q:=decide (w="pick")) rfl (fun _=>qVi (vs:=[oV (oC (.str "pick"))]) (us:=[.str "pick"]) (vWl (vs:=[oV (oC (.str ")")),oV (oC (.fn 31))]) (zs:=[.str ")",.fn 31]) (fun _=>rfl) rfl (vW8 (R:=R) (j:=31) rfl jV6 zW8 hw))) fun _=>retC ((zYu h).call hw))
theorem zXe(h:Rd R T)(hw:okW ws)(hl:w.length<=1000):Told (qV6 R) (fun o=> [.s true o,sS w]) (fun o=> [.s true o,.un]) row ws k (qZo T w (ws.drop k)):=by
 refine fnTn (zs:=[sS w]) (m:=0) ?_
 unfold qZo;have t:=qYv (env:=[.s true (cu row ws k),sS w]) (i:=1) hl rfl;cases q:v6 w with
 | true=>
   rw[q]at t;refine ifT (q:=false) (x:=.er) (wQ t rfl) (fun z=>by cases z) fun _=>jWk (g:=fun r=>(qQ7 T ")" 3 r).bind fun t r=>.ok (tg "call" [.str w,t]) r) (fun _=>?_) fun _=>retT rfl
   exact qVi (vs:=[oV (oC (.str "call")),oV (oN 1)]) (us:=[.str "call",.str w]) (qJu (R:=R) (j:=30) (most:=3) rfl h hw (fun _=>rfl) (fun _=>rfl) (fun _=>rfl))
 |false=>rw[q]at t;exact ifT (q:=true) (y:=.er) (wQ t rfl) (fun _=>qWc) fun z=>by cases z
theorem zYv(h:Rd R T):Rd (qZ8 R) (xH T):=fun row ws k hw=>by
 have h1:=hw.at k;rw[zH]at h1;unfold xH;rw[←zE];generalize hx:hd (ws.drop k)=w at *;refine fnT (jVa (i:=0) ?_);rw[hx];refine ifT (q:=decide (w="(")) rfl (fun _=>setT (i:=1) (h.call hw) fun d k1 q1=>qJ0 fun _=>⟨k1+1,[sS w,.un],rfl,yO rfl,rfl⟩) fun _=>ifT (q:=decide (w="{")) rfl (fun _=>?_) fun _=>ifT (q:=jZ.contains w) ?_ (fun _=>?_) fun _=>ifT (q:=jV w) (vQx h1.1 rfl) (fun q=>retT ?_) fun _=>?_
 ·exact qVi (vs:=[oV (oC (.str "record"))]) (us:=[.str "record"]) (vWl (vs:=[oV (oC (.str "}")),oV (oC (.fn 32))]) (zs:=[.str "}",.fn 32]) (fun _=>rfl) rfl (vW8 (R:=R) (j:=32) rfl (zWw h) (vY7 T) hw))
 ·exact vT (d:=.bl (jZ.contains w)) (vP (h1:=.d (.bl (jZ.contains w))) (evO_o2 (h1:=.d (.str w)) (h2:=.d (.tup (jZ.map .str))) rfl rfl rfl rfl rfl (inSS w jZ) rfl) rfl) rfl rfl
 ·exact retC (vWl (vs:=[oV (oN 1)]) (zs:=[.str w]) (fun _=>rfl) rfl (zX9 h hw))
 ·obtain⟨n,hn⟩:=h1.2 q;have hl:w.length<=640:=by
   have:x6 w.cps.toList=true:=q;unfold x6 at this;show w.cps.size<=640;rw[←cU];grind
  have iv:qJ2 [.str w]=some (.int (valS w)):=by
   show cond (decide (w.length<=640)) _ _=_;rw[decide_eq_true hl,hn];unfold valS;rw[hn];rfl
  exact zP (xZ (qC (d:=.str "num") rfl (qC (d:=.int (valS w)) (vP (h1:=.d (.int (valS w))) (qW4 (hs:=[.d (.str w)]) rfl rfl iv rfl) rfl) rfl rfl) rfl) rfl rfl) rfl
 ·exact retC (vWl (vs:=[oV (oN 1)]) (zs:=[.str w]) (fun _=>rfl) rfl (zXe h hw h1.1))
end

noncomputable def z8(test:Str->Bool)(step:D->List Str->Pr):Nat->D->List Str->Pr
 | 0,_,_=>.no
 |n+1,t,r=>cond (test (hd r)) ((step t r).bind fun d r=>z8 test step n d r) (.ok t r)
section
variable{test:Str->Bool}{step:D->List Str->Pr}{row:Int}{ws:List Str}{tst:ST}{body:SS}
noncomputable def jVp(test:Str->Bool)(step:D->List Str->Pr)(row:Int)(ws:List Str)(tst:ST)(body:SS)(l:Nat):Prop:=∀(t:D) (k:Nat) (y:Ev),okE l y->
 (test (hd (ws.drop k))=false->tst (.s true (cu row ws k)::fz t::y)=.ok (false,.s true (cu row ws k)::fz t::y))/\
 (test (hd (ws.drop k))=true->∃e1,tst (.s true (cu row ws k)::fz t::y)= .ok (true,e1)/\match step t (ws.drop k) with
  |.ok d r=>∃k' y',ws.drop k' =r/\okE l y' /\body e1=.ok (.nx (.s true (cu row ws k')::fz d::y'))
  |.er =>body e1=er row
  |.no =>True)
theorem zQ9(ht:jVp test step row ws tst body l):∀(n m:Nat) (t:D) (k:Nat) (y:Ev),n<=m->okE l y->(match z8 test step n t (ws.drop k) with
  |.ok d r=>∃k' y',ws.drop k' =r/\okE l y' /\vS tst body m (.s true (cu row ws k)::fz t::y)=.ok (.nx (.s true (cu row ws k')::fz d::y'))
  |.er =>vS tst body m (.s true (cu row ws k)::fz t::y)=er row
  |.no =>True)
 | 0,m,t,k,y,_,_=>trivial
 |n+1,0,t,k,y,hm,_=>by omega
 | n + 1,m + 1,t,k,y,hm,hy=>by
   obtain⟨h1,h2⟩:=ht t k y hy;unfold z8;cases q:test (hd (ws.drop k)) with
   |false=>exact⟨k,y,rfl,hy,qW5 (h1 q)⟩
   | true=>
     obtain⟨e1,h3,h4⟩:=h2 q;cases q2:step t (ws.drop k) with
     |no=>trivial
     |er=>rw[q2]at h4;exact vWp h3 h4
     | ok d r=>
       rw[q2]at h4;obtain⟨k1,y1,rfl,o1,h4⟩:=h4;rw[qY6 h3 h4];exact zQ9 ht n m d k1 y1 (by omega) o1
theorem vYp{a:SE}{x:Pr}(h:Told a (fun o=>.s true o:: .un ::List.replicate l .un) (fun o=>.s true o:: .un ::List.replicate l .un) row ws k x)(ht:jVp test step row ws tst body l):
  Told (fnS 1 (l+1) (sSeq (sSet 1 a) (sSeq (vS tst body 100000) (sRet (eMv 1))))) (fun o=> [.s true o]) (fun o=> [.s true o]) row ws k (x.bind fun d r=>z8 test step 100 d r):=by
 refine fnT (setT (i:=0) h fun d k1 q1=>?_);have c:=zQ9 ht 100 100000 d k1 (List.replicate l .un) (by decide) ⟨List.length_replicate,fun s hs=>by rw[List.eq_of_mem_replicate hs];rfl⟩;show z9 _ (fz d::List.replicate l .un) _ _ _ (z8 test step 100 d (ws.drop k1));cases q:z8 test step 100 d (ws.drop k1) with
 |no=>trivial
 |er=>rw[q]at c;exact wI c
 | ok d2 r=>
   rw[q]at c;obtain⟨k2,y2,h1,h0,c⟩:=c;refine⟨k2,.un ::y2,h1,⟨by rw[aZ,aZ,h0.1,List.length_replicate],fun s hs=>?_⟩,qL c rfl⟩;rcases aC.mp hs with z|z
   ·rw[z];rfl
   ·exact h0.2 s z
end
noncomputable def qW7(t:D)(r:List Str):Pr:=(pName' r.tail).bind fun d r=>.ok (tg "field" [t,d]) r
noncomputable def xS(T:List Str->Pr)(r:List Str):Pr:=(xH T r).bind fun d r=>z8 (fun w=>decide (w=".")) qW7 100 d r
noncomputable def qKt(T:List Str->Pr)(t:D)(r:List Str):Pr:=(xS T r.tail).bind fun d r=>.ok (tg "op" [.str "*",t,d]) r
noncomputable def qW1(T:List Str->Pr)(r:List Str):Pr:=(xS T r).bind fun d r=>z8 (fun w=>decide (w="*")) (qKt T) 100 d r
noncomputable def vJ9(T:List Str->Pr)(t:D)(r:List Str):Pr:=(qW1 T r.tail).bind fun d r' =>.ok (tg "op" [.str (hd r),t,d]) r'
noncomputable def pSum(T:List Str->Pr)(r:List Str):Pr:=(qW1 T r).bind fun d r=>z8 (fun w=> [("+":Str),"-"].contains w) (vJ9 T) 100 d r
noncomputable def qX0(T:List Str->Pr)(r:List Str):Pr:=(pSum T r).bind fun t r=>cond ([("=":Str),"<"].contains (hd r)) ((pSum T r.tail).bind fun d r' =>.ok (tg "op" [.str (hd r),t,d]) r') (.ok t r)
noncomputable def zJ:Nat->List Str->Pr
 | 0,_=>.no
 |h+1,r=>qX0 (zJ h) r
section
variable{R:Fn}{T:List Str->Pr}{row:Int}{ws:List Str}{k:Nat}{e:Ev}{b:Bool}
theorem vWz(h:Rd R T):Rd (yU R) (xS T):=fun row ws k hw=>vYp (l:=0) ((zYv h).call hw) fun t k y hy=>by
 cases dY hy.1;refine⟨fun q=>vJd (of_decide_eq_false q),fun q=>⟨_,qKb (of_decide_eq_true q),?_⟩⟩;have c:=tupT (vs:=[oV (oC (.str "field")),oV (oN 1)]) (us:=[.str "field",t]) (qJi.call (row:=row) (k:=k+1) (b:=true) (e:=[fz t]) hw) rfl (by simp);unfold qW7;rw[←zE];cases q2:pName' (ws.drop (k+1)) with
 |no=>trivial
 |er=>rw[q2]at c;exact qZm c
 |ok d r=>rw[q2]at c;obtain⟨k1,h1,c⟩:=c;exact⟨k1,[],h1,yO rfl,z7 c rfl⟩
theorem zQe(h:Rd R T):Rd (xQ R) (qW1 T):=fun row ws k hw=>vYp (l:=0) ((vWz h).call hw) fun t k y hy=>by
 cases dY hy.1;refine⟨fun q=>vJd (of_decide_eq_false q),fun q=>⟨_,qKb (of_decide_eq_true q),?_⟩⟩;have c:=tupT (vs:=[oV (oC (.str "op")),oV (oC (.str "*")),oV (oN 1)]) (us:=[.str "op",.str "*",t]) ((vWz h).call (row:=row) (k:=k+1) (b:=true) (e:=[fz t]) hw) rfl (by simp);unfold qKt;rw[←zE];cases q2:xS T (ws.drop (k+1)) with
 |no=>trivial
 |er=>rw[q2]at c;exact qZm c
 |ok d r=>rw[q2]at c;obtain⟨k1,h1,c⟩:=c;exact⟨k1,[],h1,yO rfl,z7 c rfl⟩
theorem qK3{x y:Str}:asB (o2 inD (.v (fzS (vE 9 "ahead" vW (.b (pOf (oN 0))) []))) (.v (vD [(oV (oC (.str x))),(oV (oC (.str y)))]))) (.s true (cu row ws k)::e)=.ok ([x,y].contains (hd (ws.drop k)),.s true (cu row ws k)::e):=by
 have m:=vJf (row:=row) (ws:=ws) (k:=k) (b:=true) (e:=e);rw[zH]at m;exact vT (d:=.bl ([x,y].contains (hd (ws.drop k)))) (vP (h1:=.d (.bl ([x,y].contains (hd (ws.drop k))))) (evO_o2 (h1:=.d (.str (hd (ws.drop k)))) (h2:=.d (.tup [.str x,.str y])) (v8 (vL m rfl) rfl) rfl rfl rfl rfl (inSS _ [x,y]) rfl) rfl) rfl rfl
theorem zJj(h:Rd R T):Rd (xB R) (pSum T):=fun row ws k hw=>vYp (l:=1) ((zQe h).call hw) fun t k y hy=>by
 match y,hy with
 |[y],hy=>
 refine⟨fun q=>by rw[qK3,q],fun q=>⟨_,by rw[qK3,q],?_⟩⟩;have m:=qKz (row:=row) (ws:=ws) (k:=k) (b:=true) (e:=[fz t,y]);rw[zH]at m;have c:=tupT (vs:=[oV (oC (.str "op")),oV (oN 2),oV (oN 1)]) (us:=[.str "op",.str (hd (ws.drop k)),t]) ((zQe h).call (row:=row) (k:=k+1) (b:=true) (e:=[fz t,sS (hd (ws.drop k))]) hw) rfl (by simp);unfold vJ9;rw[←zE];cases q2:qW1 T (ws.drop (k+1)) with
 |no=>trivial
 |er=>rw[q2]at c;exact qI m (qZm c)
 |ok d r=>rw[q2]at c;obtain⟨k1,h1,c⟩:=c;exact⟨k1,[sS (hd (ws.drop k))],h1,yO rfl,qI m (z7 c rfl)⟩
end
theorem vJb:∀h:Nat,Rd (zC h) (zJ h)
 | 0=>fun _ _ _ _=>trivial
 | h + 1=>fun row ws k hw=>by
   have ih:=vJb h;refine fnT (setT (i:=0) ((zJj ih).call hw) fun t k1 q1=>?_);show z9 _ [fz t,.un] _ _ _ _;cases q: [("=":Str),"<"].contains (hd (ws.drop k1)) with
   |false=>exact⟨k1,[.un,.un],rfl,yO rfl,qM (q:=false) (e:=[.s true (cu row ws k1),fz t,.un]) (by rw[qK3,q]) (vG rfl)⟩
   | true=>
     have m:=qKz (row:=row) (ws:=ws) (k:=k1) (b:=true) (e:=[fz t,.un]);rw[zH]at m;have c:=tupT (vs:=[oV (oC (.str "op")),oV (oN 2),oV (oN 1)]) (us:=[.str "op",.str (hd (ws.drop k1)),t]) ((zJj ih).call (row:=row) (k:=k1+1) (b:=true) (e:=[fz t,sS (hd (ws.drop k1))]) hw) rfl (by simp);rw[←zE];cases q2:pSum (zJ h) (ws.drop (k1+1)) with
     |no=>trivial
     | er=>
       rw[q2]at c;have c' :owS (vD [oV (oC (.str "op")),oV (oN 2),oV (oN 1),fzS (qY (xB (zC h)) [.io 0])]) [.s true (cu row ws (k1+1)),fz t,sS (hd (ws.drop k1))]=er row:=c;exact qM (q:=true) (e:=[.s true (cu row ws k1),fz t,.un]) (by rw[qK3,q]) (wI (qI m (qZm c')))
     | ok d r=>
       rw[q2]at c;obtain⟨k2,h1,c⟩:=c;have c' :owS (vD [oV (oC (.str "op")),oV (oN 2),oV (oN 1),fzS (qY (xB (zC h)) [.io 0])]) [.s true (cu row ws (k1+1)),fz t,sS (hd (ws.drop k1))]=.ok (.fz (tg "op" [.str (hd (ws.drop k1)),t,d]),[.s true (cu row ws k2),fz t,sS (hd (ws.drop k1))]):=c;exact⟨k2,[.un,sS (hd (ws.drop k1))],h1,yO rfl,qM (q:=true) (e:=[.s true (cu row ws k1),fz t,.un]) (by rw[qK3,q]) (qL (e:=[.s true (cu row ws k2),fz (tg "op" [.str (hd (ws.drop k1)),t,d]),sS (hd (ws.drop k1))]) (qI m (z7 c' rfl)) rfl)⟩

noncomputable def pTold(r:List Str):Pr:=pSk "=" r fun r=>zJ 12 r
theorem vJa:Rd xR pTold:=fun row ws k hw=>fnT (qJ0 fun _=>retC ((vJb 12).call hw))
noncomputable def vZ4(t:D):Option Bool:=match lenTD [t] with
 |some (.int n)=>some (decide (n<lenT t))
 |_=>none
noncomputable def pDef(r:List Str):Pr:=(pName' r).bind fun n r=>pSk "(" r fun r=>(qQ7 pName' ")" 3 r).bind fun t r=>match vZ4 t with
 |some b=>cond b .er ((pTold r).bind fun d r=>.ok (tg "def" [n,t,d]) r)
 |none=>.no
noncomputable def pLet(r:List Str):Pr:=(pName' r).bind fun n r=>(pTold r).bind fun d r=>.ok (tg "let" [n,d]) r
noncomputable def pAgain(r:List Str):Pr:=(pNum 0 30 r).bind fun n r=>(pName' r).bind fun x r=>(pTold r).bind fun d r=>.ok (tg "again" [n,x,d]) r
noncomputable def pWords(r:List Str):Pr:=cond (decide (hd r="def")) (pDef r.tail) (cond (decide (hd r="let")) (pLet r.tail) (cond (decide (hd r="again")) (pAgain r.tail) (cond ([("see":Str),"ask"].contains (hd r)) ((zJ 12 r.tail).bind fun t r' =>.ok (.tup [.str (hd r),t]) r') .er)))
theorem zYa{ws:List Str}{b:Bool}(h:vZ4 (.tup ds)=some b):jT [fz (fzO (cu row ws k)),fz (.tup ds)]=cond b (er row) (.ok (.fz .non,[.un,.un])):=by
 unfold vZ4 at h;split at h
 ·rename_i n hn;cases h;have t:asB (oLt (.v (svA lenTD [(oN 1)])) (oL lenD [(oN 1)])) [fz (fzO (cu row ws k)),fz (.tup ds)]=.ok (decide (n<ds.length),[fz (fzO (cu row ws k)),fz (.tup ds)]):=by
   refine vT (d:=.bl (decide (n<ds.length))) (vP (h1:=.d (.bl (decide (n<ds.length)))) (evO_o2 (h1:=.d (.int n)) (h2:=.d (.int ds.length)) (v8 (vX8 (hs:=[.d (.tup ds)]) rfl rfl hn rfl) rfl) rfl rfl rfl rfl rfl rfl) rfl) rfl rfl
  show fnS 2 0 _ _=cond (decide (n<(ds.length:Int))) _ _;cases q:decide (n<(ds.length:Int)) with
  |true=>rw[q]at t;exact xY (vR t rfl)
  |false=>rw[q]at t;exact vX (vR t rfl) rfl
 ·cases h
theorem jV8:Rd qW0 pDef:=fun row ws k hw=>fnT (setT (i:=0) (qJi.call hw) fun n k1 q1=>qJ0 fun _=>setT (i:=1) (qJu (R:=zC 12) (j:=33) (most:=3) rfl qJi hw (fun _=>rfl) (fun _=>rfl) (fun _=>rfl)) fun t k2 q2=>by
 obtain⟨ds,rfl,_,hl⟩:=qYa (fun _=>True) (fun _ _ _ _=>trivial) (by decide) q2;cases q3:vZ4 (.tup ds) with
 |none=>trivial
 | some b=>
   have a1:=zYa (row:=row) (ws:=ws) (k:=k2) q3;have ev:evOs (([(.b (pOf (oN 0))),(.v (oV (oN 2)))]:List Am).map Am.o) [.s true (cu row ws k2),fz n,fz (.tup ds)]=.ok ([.p 0 [],.d (.tup ds)],[.s true (cu row ws k2),fz n,fz (.tup ds)]):=rfl;cases b with
   |true=>exact wI (qXa (zW ev (vQq (t0:=([cu row ws k2],[.un,fz n,fz (.tup ds)])) (t:=([],[.un,fz n,fz (.tup ds)])) rfl rfl rfl a1)))
   | false=>
     refine goT (e2:=[fz n,fz (.tup ds)]) (k2:=k2) (fun z hz=>qZs (zW ev (xM (t0:=([cu row ws k2],[.un,fz n,fz (.tup ds)])) (t:=([],[.un,fz n,fz (.tup ds)])) rfl rfl rfl a1 rfl rfl rfl)) hz) rfl ?_
     exact qVi (vs:=[oV (oC (.str "def")),oV (oN 1),oV (oN 2)]) (us:=[.str "def",n,.tup ds]) (vJa.call hw))
theorem jV7:Rd qWz pLet:=fun row ws k hw=>fnT (setT (i:=0) (qJi.call hw) fun n k1 q1=>qVi (vs:=[oV (oC (.str "let")),oV (oN 1)]) (us:=[.str "let",n]) (vJa.call hw))
theorem zWx:Rd qV8 pAgain:=fun row ws k hw=>fnT (setT (i:=0) (qVc hw rfl rfl) fun n k1 q1=>setT (i:=1) (qJi.call hw) fun x k2 q2=>qVi (vs:=[oV (oC (.str "again")),oV (oN 1),oV (oN 2)]) (us:=[.str "again",n,x]) (vJa.call hw))
theorem zWv:Rd qV5 pWords:=fun row ws k hw=>by
 unfold pWords;rw[←zE];generalize hx:hd (ws.drop k)=w at *;refine fnT (jVa (i:=0) ?_);rw[hx];refine ifT (q:=decide (w="def")) rfl (fun _=>retC (jV8.call hw)) fun _=>ifT (q:=decide (w="let")) rfl (fun _=>retC (jV7.call hw)) fun _=>ifT (q:=decide (w="again")) rfl (fun _=>retC (zWx.call hw)) fun _=>ifT (q:=[("see":Str),"ask"].contains w) ?_ (fun _=>?_) fun _=>qWc
 ·exact vT (d:=.bl ([("see":Str),"ask"].contains w)) (vP (h1:=.d (.bl ([("see":Str),"ask"].contains w))) (evO_o2 (h1:=.d (.str w)) (h2:=.d (.tup [.str "see",.str "ask"])) rfl rfl rfl rfl rfl (inSS w ["see","ask"]) rfl) rfl) rfl rfl
 ·exact qVi (vs:=[oV (oN 1)]) (us:=[.str w]) ((vJb 12).call hw)

theorem vWx(k:Nat):∀(r:List Nat),∀c∈r.take (v7 k r),qD c=k
 |[],c,h=>by simp at h
 | x::r,c,h=>by
   rw[zQ]at h;by_cases z:qD x=k
   ·rw [if_pos z,List.take_succ_cons] at h;rcases aC.mp h with y|y
    ·grind
    ·exact vWx k r c y
   ·grind
theorem vV5:∀(n:Nat) (R:List Nat),R.length<=n->∀w∈parts R,w≠ []/\w.length<=R.length/\((∃c,w.head?=some c/\qD c=1)->∀c∈w,qD c=1)
 |n,[],_,w,h=>by rw[yF]at h;cases h
 | 0,c::R,hn,w,h=>by simp at hn
 | n + 1,c::R,hn,w,h=>by
   rw[vF]at h;have hp:=jQ c R;have hl:=qWv (c::R);rcases cV.mp h with z|z
   ·by_cases h32:c=32
    ·rw[if_pos h32]at z;cases z
    ·rw [if_neg h32] at z;cases bG.mp z;refine⟨fun q=>?_,by rw[cY];omega,fun⟨c',e1,e2⟩=>?_⟩
     ·have:=congrArg List.length q;rw[cY]at this;simp at this;omega
     ·have hc:c' =c:=by
       cases hq:qF (c::R) with
       |zero=>omega
       |succ m=>rw[hq]at e1;simpa using e1.symm
      subst hc;rw[qO,if_neg (by omega),List.take_succ_cons];intro x hx;rcases aC.mp hx with y|y
      ·rw[y];exact e2
      ·rw[←e2];exact vWx _ R x y
   ·obtain⟨a,b,d⟩:=vV5 n ((c::R).drop (qF (c::R))) (by rw [bP];rw [aZ] at *;omega) w z;exact⟨a,by rw[bP]at b;omega,d⟩
theorem jW0{c:Nat}(h:qD c=1):48<=c/\c<=57:=by
 unfold qD at h;grind
theorem zVx{R:List Nat}(hl:R.length<=1000)(hn:(parts R).length <=60):okW ((parts R).map S):=by
 refine⟨by rw[aB];omega,fun w hw=>?_⟩;obtain⟨q,hq,rfl⟩:=dW.mp hw;obtain⟨h1,h2,h3⟩:=vV5 R.length R (aP _) q hq;refine⟨by rw[xV];omega,fun hnum=>?_⟩;have:x6 q=true:=hnum;unfold x6 at this;split at this
 ·cases this
 ·rename_i c l;simp only[aE,decide_eq_true_eq]at this;have hk:qD c=1:=qXi this.1;have ad:=h3 ⟨c,rfl,hk⟩;exact⟨_,PySem.intText_digits (x:=S (c::l)) (fun x hx=>jW0 (ad x hx)) h1 (by show(S (c::l)).length <=_;rw[xV,aZ];omega)⟩
noncomputable def mx(a b:Int):Int:=if b > a then b else a
noncomputable def mbS(s:Int×Int)(w:Str):Int×Int:=(fun d=>(d,mx s.2 d)) (cond ([("(":Str),"{"].contains w) (s.1+1) (cond ([(")":Str),"}"].contains w) (s.1 - 1) s.1))
noncomputable def mb(ws:List Str):Int:=(ws.foldl mbS (0,0)).2
theorem inB2{x y:Str}{w:Str}{a b c:Slot}:asB (o2 inD (oN 3) (.v (vD [(oV (oC (.str x))),(oV (oC (.str y)))]))) [a,b,c,sS w]=.ok ([x,y].contains w,[a,b,c,sS w]):=
 vT (d:=.bl ([x,y].contains w)) (vP (h1:=.d (.bl ([x,y].contains w))) (evO_o2 (h1:=.d (.str w)) (h2:=.d (.tup [.str x,.str y])) rfl rfl rfl rfl rfl (inSS w [x,y]) rfl) rfl) rfl rfl
theorem mb_loop{a:Slot}:∀(ws:List Str) (s:Int×Int) (y:Slot),∃y',forS (gN 3) qQv (ws.map D.str) [a,sN s.1,sN s.2,y]=.ok (.nx [a,sN (ws.foldl mbS s).1,sN (ws.foldl mbS s).2,y'])
 |[],s,y=>⟨y,rfl⟩
 | w::ws,s,y=>by
   obtain⟨y',h⟩:=mb_loop (a:=a) ws (mbS s w) (sS w);refine⟨y',jP (e1:=[a,sN s.1,sN s.2,sS w]) (e2:=[a,sN (mbS s w).1,sN (mbS s w).2,sS w]) rfl ?_ h⟩;have st:∀d:Int,sSet 2 (owS (oV (oL max2D [(oN 2),(oN 1)]))) [a,sN d,sN s.2,sS w]=.ok (.nx [a,sN d,sN (mx s.2 d),sS w]):=fun d=>rfl
   cases q1: [("(":Str),"{"].contains w with
   | true=>
     have e1:mbS s w=(s.1+1,mx s.2 (s.1+1)):=by unfold mbS;rw[q1];rfl
     rw[e1];exact qL (e:=[a,sN (s.1+1),sN s.2,sS w]) (vR (q:=true) (e:=[a,sN s.1,sN s.2,sS w]) (by rw[inB2,q1]) rfl) (st _)
   | false=>
     cases q2: [(")":Str),"}"].contains w with
     | true=>
       have e1:mbS s w=(s.1 - 1,mx s.2 (s.1 - 1)):=by unfold mbS;rw[q1,q2];rfl
       rw[e1];exact qL (e:=[a,sN (s.1 - 1),sN s.2,sS w]) (vR (q:=false) (e:=[a,sN s.1,sN s.2,sS w]) (by rw[inB2,q1]) (vR (q:=true) (e:=[a,sN s.1,sN s.2,sS w]) (by rw[inB2,q2]) rfl)) (st _)
     | false=>
       have e1:mbS s w=(s.1,mx s.2 s.1):=by unfold mbS;rw[q1,q2];rfl
       rw[e1];exact qL (e:=[a,sN s.1,sN s.2,sS w]) (vR (q:=false) (e:=[a,sN s.1,sN s.2,sS w]) (by rw[inB2,q1]) (vR (q:=false) (e:=[a,sN s.1,sN s.2,sS w]) (by rw[inB2,q2]) rfl)) (st _)
theorem jWy(ws:List Str):zO [fz (.nd .lst (ws.map D.str))]=.ok (.fz (.int (mb ws)),[.un]):=by
 obtain⟨y',h⟩:=mb_loop (a:=fz (.nd .lst (ws.map D.str))) ws (0,0) .un;exact vX (qI (o:=.fz (.int 0)) (e:=[fz (.nd .lst (ws.map D.str)),.un,.un,.un]) rfl (qI (o:=.fz (.int 0)) (e:=[fz (.nd .lst (ws.map D.str)),sN 0,.un,.un]) rfl (qL (qQx (ds:=ws.map D.str) (e:=[fz (.nd .lst (ws.map D.str)),sN 0,sN 0,.un]) rfl h) rfl))) rfl
noncomputable def depD(t:D):Option Int:=match jJ 62 [fz t] with
 |.ok (.fz (.int n),[.un])=>some n
 |_=>none
theorem jQe{t:D}{n:Int}(h:depD t=some n):jJ 62 [fz t]=.ok (.fz (.int n),[.un]):=by
 unfold depD at h;grind
noncomputable def qYp:D->D
 |.nd .tup ds=>ds.getLastD .non
 |_=>.non
noncomputable def rowW(ws:List Str):Pr:=cond (decide ((ws.length:Int) > 60) || decide (mb ws > 10)) .er (match pWords ws with
 | .ok d r=>cond (!decide (hd r="")) .er (match depD (qYp d) with
   |some n=>cond (decide (n > 10)) .er (.ok d [])
   |none=>.no)
 |.er =>.er
 |.no =>.no)

theorem zI{x:Pr}{f:D->List Str->Pr}{d:D}{r:List Str}(h:x.bind f=.ok d r):∃d1 r1,x=.ok d1 r1/\f d1 r1=.ok d r:=by
 cases x with
 |ok d1 r1=>exact⟨d1,r1,rfl,h⟩
 |er=>cases h
 |no=>cases h
theorem jQw{x:Str}{r:List Str}{f:List Str->Pr}{d:D}(h:pSk x r f=.ok d r'):f r.tail=.ok d r' :=by
 unfold pSk at h;grind
noncomputable def Lst(d:D):Prop:=∃ds x,d=.tup (ds ++ [x])/\ds.length<=10
theorem Lst.two{a b:D}:Lst (.tup [a,b]):=⟨[a],b,rfl,by simp⟩
theorem Lst.three{a b c:D}:Lst (.tup [a,b,c]):=⟨[a,b],c,rfl,by simp⟩
theorem Lst.four{a b c e:D}:Lst (.tup [a,b,c,e]):=⟨[a,b,c],e,rfl,by simp⟩
theorem vY6{r:List Str}{d:D}(h:pWords r=.ok d r'):Lst d:=by
 unfold pWords at h;cases q1:decide (hd r="def") <;> rw[q1]at h
 ·cases q2:decide (hd r="let") <;> rw [q2] at h
  ·cases q3:decide (hd r="again") <;> rw [q3] at h
   ·cases q4: [("see":Str),"ask"].contains (hd r) <;> rw [q4] at h
    ·cases h
    ·obtain⟨_,_,_,h⟩:=zI h;cases h;exact .two
   ·obtain⟨_,_,_,h⟩:=zI h;obtain⟨_,_,_,h⟩:=zI h;obtain⟨_,_,_,h⟩:=zI h;cases h;exact .four
  ·obtain⟨_,_,_,h⟩:=zI h;obtain⟨_,_,_,h⟩:=zI h;cases h;exact .three
 ·obtain⟨_,_,_,h⟩:=zI h;have h:=jQw h;obtain⟨_,_,_,h⟩:=zI h;split at h
  ·rename_i b _;cases b with
   |true=>cases h
   |false=>obtain⟨_,_,_,h⟩:=zI h;cases h;exact .four
  ·cases h
theorem Lst.ix{d:D}(h:Lst d):ixD d (.int (-1))=some (qYp d):=by
 obtain⟨ds,x,rfl,hl⟩:=h;show(ixN (ds ++ [x]).length (-1)).bind (fun j=>(ds ++ [x])[j]?)=some ((ds ++ [x]).getLastD .non);have:ixN (ds ++ [x]).length (-1)=some ds.length:=by
  unfold ixN;rw[aJ,if_neg (by omega),if_pos (by simp;omega)];congr 1;simp;omega
 rw[this];show(ds ++ [x])[ds.length]?=_;rw[cL (aP _),Nat.sub_self,List.getLastD_eq_getLast?,List.getLast?_append];rfl
noncomputable abbrev wL(R:List Nat):List Str:=(parts R).map S
section
variable{R:List Nat}{n:Int}{ws:List Str}{k:Nat}{a b c y:Slot}{F:Fn}{p:List Str->Pr}
theorem vK5:fzOs (wO (parts R))=(wL R).map D.str:=by rw[vQm,cS,cS];rfl
theorem Rd.call3(h:Rd F p)(hw:okW ws):match p (ws.drop k) with
  |.ok d r=>∃k',ws.drop k' =r/\qY F [.io 3] [a,b,c,.s false (cu n ws k),y]=.ok (.fz d,[a,b,c,.s false (cu n ws k'),y])
  |.er =>qY F [.io 3] [a,b,c,.s false (cu n ws k),y]=er n
  |.no =>True:=by
 have:=h n ws k hw;unfold Told at this;split at this
 ·rename_i e;obtain⟨k',h1,h2⟩:=this;try simp only[e]
  refine⟨k',h1,?_⟩;unfold qY;show(F [.s true (cu n ws k)]).bind _=_;rw[h2];rfl
 ·rename_i e;try simp only[e]
  unfold qY;show(F [.s true (cu n ws k)]).bind _=_;rw[this];rfl
 ·rename_i e;try simp only[e]
set_option maxHeartbeats 4000000 in
theorem jV5(hl:R.length<=1000)(ha:∀c∈R,c<128):match rowW (wL R) with
  |.ok d _=>vY [sN n,sS (S R)]=.ok (.fz d,[.un,.un])
  |.er =>vY [sN n,sS (S R)]=er n
  |.no =>True:=by
 have t0:asB (oGt (oL lenD [(oN 1)]) (oC (.int 1000))) [sN n,sS (S R),.un,.un,.un]=.ok (false,[sN n,sS (S R),.un,.un,.un]):=by
  have hD:lenD [.str (S R)]=some (.int (R.length:Int)):=qWh hl;have:asB (oGt (oL lenD [(oN 1)]) (oC (.int 1000))) [sN n,sS (S R),.un,.un,.un]=.ok (decide ((R.length:Int) > 1000),[sN n,sS (S R),.un,.un,.un]):=by
   repeat' (first|array_get_dec|exact hD)
  rw[this,decide_eq_false (by omega)]
 have t1:qY qQb [(.v (oV (oN 1)))] [sN n,sS (S R),.un,.un,.un]=.ok (.ow .lst (wO (parts R)),[sN n,sS (S R),.un,.un,.un]):=by
  unfold qY;show(qQb [sS (S R)]).bind _=_;rw[zWf hl ha];rfl
 have t2:asB (oGt (oL lenD [(oN 2)]) (oC (.int 60))) [sN n,sS (S R),.s false (.ow .lst (wO (parts R))),.un,.un]=.ok (decide (((wL R).length :Int) > 60),[sN n,sS (S R),.s false (.ow .lst (wO (parts R))),.un,.un]):=by
  show Res.ok (decide (((fzOs (wO (parts R))).length :Int) > 60),_)=_;rw[vK5,aB]
 have t3:asB (oGt (.v (fzS (qY zO [(.v (oV (oN 2)))]))) (oC (.int 10))) [sN n,sS (S R),.s false (.ow .lst (wO (parts R))),.un,.un]=.ok (decide (mb (wL R) > 10),[sN n,sS (S R),fz (.nd .lst ((wL R).map D.str)),.un,.un]):=by
  have m:qY zO [(.v (oV (oN 2)))] [sN n,sS (S R),.s false (.ow .lst (wO (parts R))),.un,.un]=.ok (.fz (.int (mb (wL R))),[sN n,sS (S R),fz (.nd .lst ((wL R).map D.str)),.un,.un]):=by
   refine zW (xI (d:=.nd .lst ((wL R).map D.str)) (e:=[sN n,sS (S R),fz (.nd .lst ((wL R).map D.str)),.un,.un]) ?_ rfl rfl) ?_
   ·show Res.ok (D.nd .lst (fzOs (wO (parts R))),[sN n,sS (S R), .s false (.fz (D.nd .lst (fzOs (wO (parts R))))), .un, .un])=_;rw[vK5]
   ·show(zO [fz (.nd .lst ((wL R).map D.str))]).bind _=_;rw[jWy];rfl
  exact vT (d:=.bl (decide (mb (wL R) > 10))) (vP (h1:=.d (.bl (decide (mb (wL R) > 10)))) (evO_o2 (h1:=.d (.int (mb (wL R)))) (h2:=.d (.int 10)) (v8 (vL m rfl) rfl) rfl rfl rfl rfl rfl rfl) rfl) rfl rfl
 unfold rowW;cases q1:decide (((wL R).length :Int) > 60) with
 | true=>
   rw[q1]at t2;show vY _=_;unfold vY;exact xY (qM t0 (vG (qI t1 (qM (wE t2 rfl) rfl))))
 | false=>
   rw[q1]at t2;cases q2:decide (mb (wL R) > 10) with
   | true=>
     rw[q2]at t3;show vY _=_;unfold vY;exact xY (qM t0 (vG (qI t1 (qM (wE t2 t3) rfl))))
   | false=>
     rw[q2]at t3;have hw:okW (wL R):=zVx hl (by have:=of_decide_eq_false q1;rw[aB]at this;omega);have mk:vKw 9 qQm [(.v (oV (oN 0))),(.v (oV (oN 2)))] [sN n,sS (S R),fz (.nd .lst ((wL R).map D.str)),.un,.un]=.ok (cu n (wL R) 0,[sN n,sS (S R),fz (.nd .lst ((wL R).map D.str)),.un,.un]):=rfl;have c1:=zWv.call3 (k:=0) (n:=n) (a:=sN n) (b:=sS (S R)) (c:=fz (.nd .lst ((wL R).map D.str))) (y:=.un) hw;rw[List.drop_zero]at c1;dsimp only[Bool.or_false,cond];cases q3:pWords (wL R) with
     |no=>trivial
     | er=>
       rw[q3]at c1;show vY _=_;unfold vY;exact xY (qM t0 (vG (qI t1 (qM (wE t2 t3) (vG (qI mk (wI (qZm c1))))))))
     | ok d r=>
       rw[q3]at c1;obtain⟨k',rfl,c1⟩:=c1;have hL:=vY6 q3;have t4:asB (o2 neF (.v (fzS (vE 9 "ahead" vW (.b (pOf (oN 3))) []))) (oC (.str ""))) [sN n,sS (S R),fz (.nd .lst ((wL R).map D.str)),.s false (cu n (wL R) k'),fz d]=.ok (!decide (hd ((wL R).drop k')=""),[sN n,sS (S R),fz (.nd .lst ((wL R).map D.str)),.s false (cu n (wL R) k'),fz d]):=by
        have m:vE 9 "ahead" vW (.b (pOf (oN 3))) [] [sN n,sS (S R),fz (.nd .lst ((wL R).map D.str)),.s false (cu n (wL R) k'),fz d]=.ok (.fz (.str (hd ((wL R).drop k'))),[sN n,sS (S R),fz (.nd .lst ((wL R).map D.str)),.s false (cu n (wL R) k'),fz d]):=by
         unfold vE;show(vW [.s false (.fz (fzO (cu n (wL R) k')))]).bind _=_;rw[vXo,zH];rfl
        exact vT (d:=.bl (!decide (hd ((wL R).drop k')=""))) (vP (h1:=.d (.bl (!decide (hd ((wL R).drop k')="")))) (evO_o2 (h1:=.d (.str (hd ((wL R).drop k')))) (h2:=.d (.str "")) (v8 (vL m rfl) rfl) rfl rfl rfl rfl rfl rfl) rfl) rfl rfl
       dsimp only;cases q4:decide (hd ((wL R).drop k')="") with
       | false=>
         rw[q4]at t4;show vY _=_;unfold vY;exact xY (qM t0 (vG (qI t1 (qM (wE t2 t3) (vG (qI mk (qI c1 (qM (wE t4 rfl) rfl))))))))
       | true=>
         rw[q4]at t4;simp only[Bool.not_true,cond_false];cases q5:depD (qYp d) with
         |none=>trivial
         | some m=>
           have t5:asB (oGt (.v (fzS (qY (jJ 62) [(.v (oV (oIx (oN 4) (o1 negD (oC (.int 1))))))]))) (oC (.int 10))) [sN n,sS (S R),fz (.nd .lst ((wL R).map D.str)),.s false (cu n (wL R) k'),fz d]=.ok (decide (m > 10),[sN n,sS (S R),fz (.nd .lst ((wL R).map D.str)),.s false (cu n (wL R) k'),fz d]):=by
            have c2:qY (jJ 62) [(.v (oV (oIx (oN 4) (o1 negD (oC (.int 1))))))] [sN n,sS (S R),fz (.nd .lst ((wL R).map D.str)),.s false (cu n (wL R) k'),fz d]=.ok (.fz (.int m),[sN n,sS (S R),fz (.nd .lst ((wL R).map D.str)),.s false (cu n (wL R) k'),fz d]):=by
             refine zW (xI (d:=qYp d) (vP (h1:=.d (qYp d)) (yK (h1:=.d d) (h2:=.d (.int (-1))) rfl rfl rfl rfl ?_ rfl) rfl) rfl rfl) ?_
             ·show(ixD d (.int (-1))).map Hn.d=_;rw[hL.ix];rfl
             ·show(jJ 62 [fz (qYp d)]).bind _=_;rw[jQe q5];rfl
            exact vT (d:=.bl (decide (m > 10))) (vP (h1:=.d (.bl (decide (m > 10)))) (evO_o2 (h1:=.d (.int m)) (h2:=.d (.int 10)) (v8 (vL c2 rfl) rfl) rfl rfl rfl rfl rfl rfl) rfl) rfl rfl
           dsimp only;cases q6:decide (m > 10) with
           | true=>
             rw[q6]at t5;show vY _=_;unfold vY;exact xY (qM t0 (vG (qI t1 (qM (wE t2 t3) (vG (qI mk (qI c1 (qM (wE t4 t5) rfl))))))))
           | false=>
             rw[q6]at t5;show vY _=_;unfold vY;exact vX (qM t0 (vG (qI t1 (qM (wE t2 t3) (vG (qI mk (qI c1 (qM (wE t4 t5) (vG rfl))))))))) rfl
end

noncomputable def jn:List (List Nat)->List Nat
 |[]=> []
 |[a]=>a
 |a::b::r=>a ++ 10::jn (b::r)
theorem zVf{c:Nat}:∀{a b x y:List Nat},c∉a->c∉b->a ++ c::x=b ++ c::y->a=b/\x=y
 |[],[],x,y,_,_,h=>by cases h;exact⟨rfl,rfl⟩
 | [],u::b,x,y,_,hb,h=>by
   rw[cC,aA,bC]at h;exact absurd (by rw[h.1];exact aM ..) hb
 | u::a,[],x,y,ha,_,h=>by
   rw[cC,aA,bC]at h;exact absurd (by rw[h.1];exact aM ..) ha
 | u::a,v::b,x,y,ha,hb,h=>by
   rw[aA,aA,bC]at h;obtain⟨h1,h2⟩:=zVf (fun z=>ha (aI _ z)) (fun z=>hb (aI _ z)) h.2;exact⟨by rw[h.1,h1],h2⟩
theorem zJ1:∀{as bs:List (List Nat)},as≠ []->bs≠ []->(∀a∈as,10∉a)->(∀b∈bs,10∉b)->jn as=jn bs->as=bs
 |[],_,h,_,_,_,_=>absurd rfl h
 |_::_,[],_,h,_,_,_=>absurd rfl h
 |[a],[b],_,_,_,_,h=>by rw[show a=b from h]
 |[a],b::c::r,_,_,ha,_,h=>absurd (show 10∈a by rw[show a=b ++ 10::jn (c::r) from h];simp) (ha a (by simp))
 |a::c::r,[b],_,_,_,hb,h=>absurd (show 10∈b by rw[←show a ++ 10::jn (c::r)=b from h];simp) (hb b (by simp))
 | a::c::r,b::d::s,_,_,ha,hb,h=>by
   obtain⟨h1,h2⟩:=zVf (ha a (by simp)) (hb b (by simp)) (show a ++ 10::jn (c::r)=b ++ 10::jn (d::s) from h);rw[h1,zJ1 (by simp) (by simp) (fun z hz=>ha z (aI _ hz)) (fun z hz=>hb z (aI _ hz)) h2]
theorem zQn:∀ws:List Str,(Str.join ⟨#[10]⟩ ws).cps.toList=jn (ws.map fun w=>w.cps.toList)
 |[]=>rfl
 |[a]=>rfl
 | a::b::r=>by
   show((a.cps ++ #[10]) ++ (Str.join ⟨#[10]⟩ (b::r)).cps).toList =_;rw[Array.toList_append,Array.toList_append,zQn (b::r),bV];rfl
theorem zWn{rows:List (List Nat)}(hne:rows≠ [])(hf:∀r∈rows,10∉r):Txt.split (S (jn rows)) "\n"=rows.map S:=by
 have e0:("\n":Str)=⟨#[10]⟩:=by decide +kernel
 rw[e0];have h1:=StrLaws.join_split (S (jn rows)) ⟨#[10]⟩;have h2:=StrLaws.split_free (S (jn rows)) 10;have h3:=split_pos (S (jn rows)) ⟨#[10]⟩;generalize Txt.split (S (jn rows)) ⟨#[10]⟩=ws at *;have h4:jn (ws.map fun w=>w.cps.toList)=jn rows:=by rw[←zQn,h1]
 have h5:=zJ1 (by intro z;have:=congrArg List.length z;simp at this;subst this;simp at h3) hne (fun a ha=>by obtain⟨w,hw,rfl⟩:=dW.mp ha;exact h2 w hw) hf h4;rw[←h5,cS];conv=>lhs;rw[←List.map_id ws]
 exact List.map_congr_left fun w _=>(S_of w).symm
inductive Rr where
 |ok (ds:List D)|er (n:Int)|no
noncomputable def jVh:D->Str
 |.nd _ (.str w::_)=>w
 |_=>""
noncomputable def qZa(tot:Int):Nat->List D->List (List Nat)->Rr
 |_,acc,[]=>.ok acc
 | i,acc,R::rs=>cond (decide ((i:Int)=40)) (.er i) (match rowW (wL R) with
   |.ok d _=>cond (!(decide (jVh d="ask") == decide ((i:Int)=tot - 1))) (.er i) (qZa tot (i+1) (acc ++ [d]) rs)
   |.er =>.er i
   |.no =>.no)
theorem ix0{a:D}{x:List D}:ixD (.tup (a::x)) (.int ((0:Nat):Int))=some a:=by
 exact zVe rfl
theorem vXu{r:List Str}{d:D}(h:pWords r=.ok d r'):∃w x,d=.tup (.str w::x):=by
 unfold pWords at h;cases q1:decide (hd r="def") <;> rw[q1]at h
 ·cases q2:decide (hd r="let") <;> rw [q2] at h
  ·cases q3:decide (hd r="again") <;> rw [q3] at h
   ·cases q4: [("see":Str),"ask"].contains (hd r) <;> rw [q4] at h
    ·cases h
    ·obtain⟨_,_,_,h⟩:=zI h;cases h;exact⟨_,_,rfl⟩
   ·obtain⟨_,_,_,h⟩:=zI h;obtain⟨_,_,_,h⟩:=zI h;obtain⟨_,_,_,h⟩:=zI h;cases h;exact⟨_,_,rfl⟩
  ·obtain⟨_,_,_,h⟩:=zI h;obtain⟨_,_,_,h⟩:=zI h;cases h;exact⟨_,_,rfl⟩
 ·obtain⟨_,_,_,h⟩:=zI h;have h:=jQw h;obtain⟨_,_,_,h⟩:=zI h;split at h
  ·rename_i b _;cases b with
   |true=>cases h
   |false=>obtain⟨_,_,_,h⟩:=zI h;cases h;exact⟨_,_,rfl⟩
  ·cases h
theorem zVo{ws:List Str}{d:D}{r:List Str}(h:rowW ws=.ok d r):∃w x,d=.tup (.str w::x):=by
 unfold rowW at h;cases q:(decide ((ws.length:Int) > 60) || decide (mb ws > 10)) <;> rw[q]at h
 ·dsimp only [cond] at h;split at h
  ·rename_i d' r' e;split at h
   ·cases h
   ·split at h
    ·split at h
     ·cases h
     ·cases h;exact vXu e
    ·cases h
  ·cases h
  ·cases h
 ·cases h
section
variable{t:Slot}{rows:List (List Nat)}
noncomputable abbrev rD(rows:List (List Nat)):D:=.nd .lst (rows.map fun r=>.str (S r))
theorem vV2(hr:∀R∈rows,R.length<=1000/\∀c∈R,c<128)(hl:rows.length<=100):∀(rs:List (List Nat)) (i:Nat) (acc:List D) (y3 y4 y5:Slot),(∀R∈rs,R∈rows)->acc.length+rs.length<=100->(match qZa rows.length i acc rs with
  |.ok ds=>∃z3 z4 z5,forS (gT 2 (gCn (gN 3) (gCn (gN 4) gNl))) qXl (yN i (rs.map fun r=>.str (S r))) [t,fz (rD rows),fl acc,y3,y4,y5]=.ok (.nx [t,fz (rD rows),fl ds,z3,z4,z5])
  |.er n=>forS (gT 2 (gCn (gN 3) (gCn (gN 4) gNl))) qXl (yN i (rs.map fun r=>.str (S r))) [t,fz (rD rows),fl acc,y3,y4,y5]=er n
  |.no =>True)
 |[],i,acc,y3,y4,y5,_,_=>⟨y3,y4,y5,rfl⟩
 | R::rs,i,acc,y3,y4,y5,hm,hn=>by
   unfold qZa;have hR:=hr R (hm R (by simp));have g1:(gT 2 (gCn (gN 3) (gCn (gN 4) gNl))) (D.tup [.int (i:Int),.str (S R)]) [t,fz (rD rows),fl acc,y3,y4,y5]=some [t,fz (rD rows),fl acc,sN (i:Int),sS (S R),y5]:=rfl;have t0:asB (o2 eqF (oN 3) (oC (.int 40))) [t,fz (rD rows),fl acc,sN (i:Int),sS (S R),y5]=.ok (decide ((i:Int)=40),[t,fz (rD rows),fl acc,sN (i:Int),sS (S R),y5]):=by
    show Res.ok (((i:Int) == 40),_)=_;rw[show((i:Int) == 40)=decide ((i:Int)=40) by rw[bH];simp]
   cases q0:decide ((i:Int)=40) with
   |true=>rw[q0]at t0;exact vJi g1 (qM t0 rfl)
   | false=>
     rw[q0]at t0;have rf:=jV5 (R:=R) (n:=(i:Int)) hR.1 hR.2;dsimp only[cond];cases q1:rowW (wL R) with
     |no=>trivial
     | er=>
       rw[q1]at rf;have c1:qY vY [(.v (oV (oN 3))),(.v (oV (oN 4)))] [t,fz (rD rows),fl acc,sN (i:Int),sS (S R),y5]=er (i:Int):=by
        unfold qY;show(vY [sN (i:Int),sS (S R)]).bind _=_;rw[rf];rfl
       exact vJi g1 (qM t0 (vG (wI (qZm c1))))
     | ok d r=>
       rw[q1]at rf;obtain⟨w,x,rfl⟩:=zVo q1;have c1:qY vY [(.v (oV (oN 3))),(.v (oV (oN 4)))] [t,fz (rD rows),fl acc,sN (i:Int),sS (S R),y5]=.ok (.fz (.tup (.str w::x)),[t,fz (rD rows),fl acc,sN (i:Int),sS (S R),y5]):=by
        unfold qY;show(vY [sN (i:Int),sS (S R)]).bind _=_;rw[rf];rfl
       have t2:asB (o2 neF (o2 eqF (oIx (oN 5) (oC (.int 0))) (oC (.str "ask"))) (o2 eqF (oN 3) (oSub (oL lenD [(oN 1)]) (oC (.int 1))))) [t,fz (rD rows),fl acc,sN (i:Int),sS (S R),fz (.tup (.str w::x))]=.ok (!(decide (w="ask") == decide ((i:Int)=rows.length - 1)),[t,fz (rD rows),fl acc,sN (i:Int),sS (S R),fz (.tup (.str w::x))]):=by
        have e1:((i:Int) == ((rows.map fun r=>D.str (S r)).length :Int) - 1)=decide ((i:Int)=rows.length - 1):=by rw[aB,bH];simp
        refine vT (d:=.bl (!(decide (w="ask") == decide ((i:Int)=rows.length - 1)))) (vP (h1:=.d (.bl (!(decide (w="ask") == decide ((i:Int)=rows.length - 1))))) (evO_o2 (h1:=.d (.bl (decide (w="ask")))) (h2:=.d (.bl (decide ((i:Int)=rows.length - 1)))) (evO_o2 (h1:=.d (.str w)) (h2:=.d (.str "ask")) (yK (h1:=.d (.tup (.str w::x))) (h2:=.d (.int 0)) rfl rfl rfl rfl ?_ rfl) rfl rfl rfl rfl rfl rfl) (evO_o2 (h1:=.d (.int i)) (h2:=.d (.int (((rows.map fun r=>D.str (S r)).length :Int) - 1))) rfl rfl rfl rfl rfl ?_ rfl) rfl rfl rfl rfl rfl) rfl) rfl rfl
        ·show(ixD (.tup (.str w::x)) (.int ((0:Nat):Int))).map Hn.d=_;rw[ix0];rfl
        ·show some (D.bl ((i:Int) == ((rows.map fun r=>D.str (S r)).length :Int) - 1))=_;rw[e1]
       show(match cond (!(decide (w="ask") == decide ((i:Int)=rows.length - 1))) (Rr.er i) (qZa rows.length (i+1) (acc ++ [.tup (.str w::x)]) rs) with
        |.ok ds=>_
        |.er n=>_
        |.no =>True)
       cases q2:(!(decide (w="ask") == decide ((i:Int)=rows.length - 1))) with
       |true=>rw[q2]at t2;exact vJi g1 (qM t0 (vG (qI c1 (qM t2 rfl))))
       | false=>
         rw[q2]at t2;have ih:=vV2 hr hl rs (i+1) (acc ++ [.tup (.str w::x)]) (sN (i:Int)) (sS (S R)) (fz (.tup (.str w::x))) (fun z hz=>hm z (aI _ hz)) (by rw[aJ];rw[aZ]at hn;show acc.length+1+rs.length<=100;omega);have bd:qXl [t,fz (rD rows),fl acc,sN (i:Int),sS (S R),y5]=.ok (.nx [t,fz (rD rows),fl (acc ++ [.tup (.str w::x)]),sN (i:Int),sS (S R),fz (.tup (.str w::x))]):=by
          refine qM t0 (vG (qI c1 (qM t2 (vG (wK (xT (i:=2) (π:=[]) (os0:=acc.map .fz) (os:=acc.map .fz) rfl rfl (zP (d:=.tup (.str w::x)) rfl rfl) rfl rfl (z:=(.fz .non,acc.map .fz ++ [.fz (.tup (.str w::x))])) ?_ rfl) ?_)))))
          ·unfold apF;rw[decide_eq_true (show(acc.map O.fz).length <=lim from by rw[aB];exact aG (show acc.length<=100 by omega) (by decide))];rfl
          ·rw [show fl (acc ++ [.tup (.str w::x)])= .s false (.ow .lst (acc.map .fz ++ [.fz (.tup (.str w::x))])) by show Slot.s false (.ow .lst ((acc ++ [_]).map O.fz))=_;rw [bL];rfl];rfl
         dsimp only[cond];cases q3:qZa rows.length (i+1) (acc ++ [.tup (.str w::x)]) rs with
         |no=>trivial
         |er n=>rw[q3]at ih;exact jP g1 bd ih
         |ok ds=>rw[q3]at ih;obtain⟨z3,z4,z5,ih⟩:=ih;exact⟨z3,z4,z5,jP g1 bd ih⟩
theorem zYs(hne:rows≠ [])(hf:∀r∈rows,10∉r)(hr:∀R∈rows,R.length<=1000/\∀c∈R,c<128)(hl:rows.length<=100)(hj:(jn rows).length <=100000):(match qZa rows.length 0 [] rows with
  |.ok ds=>jI [sS (S (jn rows))]=.ok (.ow .lst (ds.map .fz),[.un])
  |.er n=>jI [sS (S (jn rows))]=er n
  |.no =>True):=by
 have s1:vYm "\n" (oN 0) [sS (S (jn rows)),.un,.un,.un,.un,.un]=.ok (.ow .lst ((rows.map fun r=>D.str (S r)).map .fz),[sS (S (jn rows)),.un,.un,.un,.un,.un]):=by
  show cond (!(("\n":Str).length == 0) && decide ((S (jn rows)).length+2<=1000000)) (Res.ok (O.ow .lst (((Txt.split (S (jn rows)) "\n").map D.str).map .fz),_)) _=_;rw[zWn hne hf,show decide ((S (jn rows)).length+2<=1000000)=true from decide_eq_true (by rw[xV];omega),cS (f:=S)];rfl
 have it:iL enL [(oV (oN 1))] [sS (S (jn rows)),.s false (.ow .lst ((rows.map fun r=>D.str (S r)).map .fz)),fl [],.un,.un,.un]=.ok (yN 0 (rows.map fun r=>.str (S r)),[sS (S (jn rows)),fz (rD rows),fl [],.un,.un,.un]):=by
  show Res.ok (yN 0 (fzOs ((rows.map fun r=>D.str (S r)).map .fz)),[sS (S (jn rows)),fz (.nd .lst (fzOs ((rows.map fun r=>D.str (S r)).map .fz))),fl [],.un,.un,.un])=_;rw[xF]
 have lp:=vV2 (t:=sS (S (jn rows))) hr hl rows 0 [] .un .un .un (fun _ h=>h) (by simpa using hl);cases q:qZa rows.length 0 [] rows with
 |no=>trivial
 | er n=>
   rw[q]at lp;exact xY (qI s1 (qI (o:=.ow .lst []) (e:=[sS (S (jn rows)),.s false (.ow .lst ((rows.map fun r=>D.str (S r)).map .fz)),.un,.un,.un,.un]) rfl (wI (qQx it lp))))
 | ok ds=>
   rw[q]at lp;obtain⟨z3,z4,z5,lp⟩:=lp;exact vX (qI s1 (qI (o:=.ow .lst []) (e:=[sS (S (jn rows)),.s false (.ow .lst ((rows.map fun r=>D.str (S r)).map .fz)),.un,.un,.un,.un]) rfl (qL (qQx it lp) rfl))) rfl
end
end RF
namespace X18
open PySem L2 DX RF FW PyProof.Rows
variable{l m k n s h j i:Nat}{t:T}{p:List Str->Pr}{q v u:List Str}{Ψ:D->Nat->Prop}{ds:List D}{y d2:D}{test:Str->Bool}{F:Fn}{E e env:Ev}{f:List Nat}
inductive T where
 |num (n:Nat)|name (w:List Nat)|call (f x:List Nat)|op (s:Nat) (a b:T)|fld (a:T) (w:List Nat)
noncomputable abbrev dg(m:Nat):List Nat:=(Nat.toDigits 10 m).map Char.toNat
noncomputable def T.d:T->D
 |.num n=>tg "num" [.int (n:Int)]
 |.name w=>tg "name" [.str (S w)]
 |.call f x=>tg "call" [.str (S f),.tup [tg "name" [.str (S x)]]]
 |.op s a b=>tg "op" [.str (S [s]),a.d,b.d]
 |.fld a w=>tg "field" [a.d,.str (S w)]
noncomputable def lv(s:Nat):Nat:=if s=61\/s=60 then 0 else if s=42 then 2 else 1
noncomputable def T.lev:T->Nat
 |.op s _ _=>lv s
 |_=>3
noncomputable def wr(b:Bool)(ws:List Str):List Str:=cond b (S [40]::(ws ++ [S [41]])) ws
noncomputable def T.body:T->List Str
 |.num n=> [S (dg n)]
 |.name w=> [S w]
 |.call f x=> [S f,S [40],S x,S [41]]
 |.op s a b=>wr (decide (a.lev<max 1 (lv s))) a.body ++ S [s]::wr (decide (b.lev<lv s+1)) b.body
 |.fld a w=>wr (decide (a.lev<3)) a.body ++ [S [46],S w]
noncomputable def T.w(l:Nat)(t:T):List Str:=wr (decide (t.lev<l)) t.body
theorem jZ9(b:Bool)(ws:List Str):(wr b ws).length =ws.length+cond b 2 0:=by cases b <;> simp[wr]
theorem qW3:(t.w l).length =t.body.length+cond (decide (t.lev<l)) 2 0:=jZ9 _ _
theorem w_up(h:l<=m):(t.w l).length <=(t.w m).length :=by
 rw[qW3,qW3];by_cases q:t.lev<l
 ·rw[decide_eq_true q,decide_eq_true (aN q h)];exact aP _
 ·rw[decide_eq_false q];exact Nat.add_le_add_left (cJ _) _
theorem vKq:(t.w 0).length =t.body.length:=by rw[qW3,decide_eq_false (Nat.not_lt_zero _)];rfl
theorem jJz:(t.w l).length <=2+(t.w 0).length :=by rw[vKq,qW3];cases decide (t.lev<l) <;> (dsimp only[cond];omega)
noncomputable def brk(w:Str):Int:=cond ([("(":Str),"{"].contains w) 1 (cond ([(")":Str),"}"].contains w) (-1) 0)
noncomputable def net(r:List Str):Int:=(r.map brk).sum
noncomputable def Dp(a:Int)(r:List Str):Prop:=∀p q,r=p ++ q->a+net p<=10
noncomputable def Al(r:List Str):Prop:=r.length<=90/\∀w∈r,w≠"{"/\w≠","/\jZ.contains w=false
theorem qKc(p q:List Str):net (p ++ q)=net p+net q:=by unfold net;rw[bL,List.sum_append]
theorem y8(w:Str)(q:List Str):net (w::q)=brk w+net q:=by unfold net;rw[bD,List.sum_cons]
theorem Dp.drop{a:Int}{p:List Str}(h:Dp a (p ++ q)):Dp (a+net p) q:=fun x y e=>by
 have:=h (p ++ x) y (by rw[e,bV]);rw[qKc]at this;omega
theorem Dp.tail{a:Int}{w:Str}(h:Dp a (w::q)):Dp (a+brk w) q:=by
 have:=Dp.drop (p:=[w]) h;rwa [y8,show net []=0 from rfl,cH]at this
theorem Al.drop{p:List Str}(h:Al (p ++ q)):Al q:=⟨by have:=h.1;rw[aJ]at this;omega,fun w hw=>h.2 w (bE _ hw)⟩
theorem Al.tail{w:Str}(h:Al (w::q)):Al q:=Al.drop (p:=[w]) h
theorem wM{r:List Str}{x:Str}(h:hd r=x)(n:x≠""):r=x::r.tail:=by
 cases r with
 |nil=>exact absurd h.symm n
 |cons y r=>rw[show y=x from h];rfl
noncomputable def Ok(Φ:D->Nat->Prop)(r:List Str):Pr->Prop
 |.ok d r' =>∃p,r=p ++ r' /\net p=0/\Φ d p.length
 |.er =>True
 |.no =>False
theorem Ok.imp{Φ:D->Nat->Prop}{r:List Str}{x:Pr}(h:Ok Φ r x)(k:∀d n,Φ d n->Ψ d n):Ok Ψ r x:=by
 cases x with
 |ok d r' =>obtain⟨p,a,b,c⟩:=h;exact⟨p,a,b,k _ _ c⟩
 |er=>trivial
 |no=>exact h
theorem Ok.bind{Φ:D->Nat->Prop}{r:List Str}{x:Pr}{f:D->List Str->Pr}(h:Ok Φ r x)(k:∀d p r',r=p ++ r' ->net p=0->Φ d p.length->Ok (fun e n=>Ψ e (p.length+n)) r' (f d r')):Ok Ψ r (x.bind f):=by
 cases x with
 | ok d r' =>
   obtain⟨p,a,b,c⟩:=h;have:=k d p r' a b c;show Ok Ψ r (f d r');cases e:f d r' with
   | ok d2 r2=>
     rw[e]at this;obtain⟨p2,a2,b2,c2⟩:=this;exact⟨p ++ p2,by rw[a,a2,bV],by rw[qKc,b,b2];rfl,by rw[aJ];exact c2⟩
   |er=>trivial
   |no=>rw[e]at this;exact this
 |er=>trivial
 |no=>exact h
theorem Ok.word{Φ:D->Nat->Prop}{w:Str}{r:List Str}{x:Pr}(hb:brk w=0)(h:Ok (fun d n=>Φ d (n+1)) r x):Ok Φ (w::r) x:=by
 cases x with
 | ok d r' =>
   obtain⟨p,a,b,c⟩:=h;exact⟨w::p,by rw[a,aA],by rw[y8,hb,b];rfl,c⟩
 |er=>trivial
 |no=>exact h
theorem Ok.ret{Φ:D->Nat->Prop}{d:D}{r:List Str}(h:Φ d 0):Ok Φ r (.ok d r):=⟨[],rfl,rfl,h⟩
theorem y9{w:Str}(h:v6 w=true):brk w=0:=by
 unfold brk;have k:∀x:Str,v6 x=false->w≠x:=fun x hx q=>by rw[q,hx]at h;cases h
 have k1:=k "(" (by decide +kernel);have k2:=k ")" (by decide +kernel);have k3:=k "{" (by decide +kernel);have k4:=k "}" (by decide +kernel);rw[show [("(":Str),"{"].contains w=false by simp[k1,k3],show [(")":Str),"}"].contains w=false by simp[k2,k4]];rfl
theorem zVb{w:Str}(h:jV w=true):brk w=0:=by
 unfold brk;have k:∀x:Str,jV x=false->w≠x:=fun x hx q=>by rw[q,hx]at h;cases h
 have k1:=k "(" (by decide +kernel);have k2:=k ")" (by decide +kernel);have k3:=k "{" (by decide +kernel);have k4:=k "}" (by decide +kernel);rw[show [("(":Str),"{"].contains w=false by simp[k1,k3],show [(")":Str),"}"].contains w=false by simp[k2,k4]];rfl
inductive Gd:Nat->D->Prop
 |num {k:Nat} (n:Int):Gd (k+1) (tg "num" [.int n])
 |name {k:Nat} (w:Str):Gd (k+1) (tg "name" [.str w])
 |call0 {k:Nat} (w:Str):Gd (k+1) (tg "call" [.str w,.tup []])
 |call1 {k:Nat} (w:Str) {d:D} (h:Gd k d):Gd (k+1) (tg "call" [.str w,.tup [d]])
 |op {k:Nat} (s:Str) {a b:D} (ha:Gd k a) (hb:Gd k b):Gd (k+1) (tg "op" [.str s,a,b])
 |fld {k:Nat} (w:Str) {a:D} (ha:Gd k a):Gd (k+1) (tg "field" [a,.str w])
theorem Gd.mono{d:D}(h:Gd k d):∀{m:Nat},k<=m->Gd m d:=by
 induction h with
 |num n=>intro m hm;obtain⟨m,rfl⟩:∃j,m=j+1:=⟨m - 1,by omega⟩;exact .num n
 |name w=>intro m hm;obtain⟨m,rfl⟩:∃j,m=j+1:=⟨m - 1,by omega⟩;exact .name w
 |call0 w=>intro m hm;obtain⟨m,rfl⟩:∃j,m=j+1:=⟨m - 1,by omega⟩;exact .call0 w
 |call1 w _ ih=>intro m hm;obtain⟨m,rfl⟩:∃j,m=j+1:=⟨m - 1,by omega⟩;exact .call1 w (ih (by omega))
 |op s _ _ ia ib=>intro m hm;obtain⟨m,rfl⟩:∃j,m=j+1:=⟨m - 1,by omega⟩;exact .op s (ia (by omega)) (ib (by omega))
 |fld w _ ia=>intro m hm;obtain⟨m,rfl⟩:∃j,m=j+1:=⟨m - 1,by omega⟩;exact .fld w (ia (by omega))
noncomputable def Φ(l:Nat)(d:D)(n:Nat):Prop:=(∀t:T,t.d=d->(t.w l).length <=n)/\Gd n d
theorem jW5{x:Pr}{A B:D->Nat->Prop}(h:Ok A q x)(k:∀d n,A d n->B d (n+2)):
  Ok B ("("::q) (x.bind fun t r=>pSk ")" r fun r=>.ok t r):=by
 cases x with
 |er=>trivial
 |no=>exact h
 | ok d r=>
   obtain⟨p,e,n,c⟩:=h;show Ok B _ (pSk ")" r fun r=>.ok d r);unfold pSk;cases z:decide (hd r=")") with
   |false=>trivial
   | true=>
     have er:=wM (of_decide_eq_true z) (by decide);refine⟨"("::(p ++ [(")":Str)]),?_,?_,?_⟩
     ·rw[e,aA,bV];congr 2
     ·rw[y8,qKc,n,y8];decide +kernel
     ·rw[aZ,aJ];exact k _ _ c
noncomputable def Rds(h:Nat)(Φ:D->Nat->Prop)(p:List Str->Pr):Prop:=∀(a:Int) (r:List Str),Dp a r->Al r->a+(h:Nat)≥11->Ok Φ r (p r)
theorem noN{r:List Str}(h:Al r):jZ.contains (hd r)=false:=by
 cases r with
 |nil=>decide +kernel
 |cons w r=>exact(h.2 w (aM ..)).2.2
theorem noC{r:List Str}(h:Al r):decide (hd r=",")=false:=by
 cases r with
 |nil=>decide +kernel
 |cons w r=>exact decide_eq_false (h.2 w (aM ..)).2.1
theorem noB{r:List Str}(h:Al r):decide (hd r="{")=false:=by
 cases r with
 |nil=>decide +kernel
 |cons w r=>exact decide_eq_false (h.2 w (aM ..)).1
theorem zQj{r:List Str}(h:v6 (hd r)=true):r=hd r::r.tail:=wM rfl fun q=>by rw[q]at h;exact absurd h (by decide +kernel)
theorem zKp{r:List Str}(h:jV (hd r)=true):r=hd r::r.tail:=wM rfl fun q=>by rw[q]at h;exact absurd h (by decide +kernel)
theorem sg1{c:Nat}{x:Str}(h:S [c]=x)(hx:x=S [k]):c=k:=by
 have:=congrArg (fun s:Str=>s.cps.toList) (h.trans hx);simpa using this
noncomputable def T.kd:T->Nat
 |.num _=>0
 |.name _=>1
 |.call _ _=>2
 |.op _ _ _=>3
 |.fld _ _=>4
noncomputable def kS5:List Str:=["num","name","call","op","field"]
theorem kd_of{w:Str}(h:t.d=tg w ds):kS5.idxOf w=t.kd:=by
 have e:jVh t.d=w:=by rw[h];rfl
 rw[←e];cases t with
 |num _=>show kS5.idxOf ("num":Str)=0;decide +kernel
 |name _=>show kS5.idxOf ("name":Str)=1;decide +kernel
 |call _ _=>show kS5.idxOf ("call":Str)=2;decide +kernel
 |op _ _ _=>show kS5.idxOf ("op":Str)=3;decide +kernel
 |fld _ _=>show kS5.idxOf ("field":Str)=4;decide +kernel
theorem jXb{n:Int}(h:t.d=tg "num" [.int n]):∃m,t=.num m:=by
 have k:0=t.kd:=by rw[←kd_of h];decide +kernel
 cases t <;> first|exact⟨_,rfl⟩|cases k
theorem jJt{w:Str}(h:t.d=tg "name" [.str w]):∃m,t=.name m:=by
 have k:1=t.kd:=by rw[←kd_of h];decide +kernel
 cases t <;> first|exact⟨_,rfl⟩|cases k
theorem zWa{w:Str}(h:t.d=tg "call" [.str w,.tup ds]):∃f x,t=.call f x/\ds=[(T.name x).d]:=by
 have k:2=t.kd:=by rw[←kd_of h];decide +kernel
 cases t with
 |call f x=>refine⟨f,x,rfl,?_⟩;simp only[T.d,D.nd.injEq,bC,D.str.injEq,true_and,and_true]at h;exact h.2.symm
 |_=>cases k
theorem d_op{s:Str}{x:D}(h:t.d=tg "op" [.str s,x,y]):∃c a b,t=.op c a b/\S [c]=s/\a.d=x/\b.d=y:=by
 have k:3=t.kd:=by rw[←kd_of h];decide +kernel
 cases t with
 |op c a b=>simp only[T.d,D.nd.injEq,bC,D.str.injEq,true_and,and_true]at h;exact⟨c,a,b,rfl,h⟩
 |_=>cases k
theorem jXe{w:Str}{x:D}(h:t.d=tg "field" [x,.str w]):∃a z,t=.fld a z/\a.d=x:=by
 have k:4=t.kd:=by rw[←kd_of h];decide +kernel
 cases t with
 |fld a z=>simp only[T.d,D.nd.injEq,bC,D.str.injEq,true_and,and_true]at h;exact⟨a,z,rfl,h.1⟩
 |_=>cases k
section
variable{h:Nat}{T0:List Str->Pr}
theorem zK2(hT:Rds h (Φ 0) T0):Rds (h+1) (Φ 3) (xH T0):=fun a r hd0 al ha=>by
 unfold xH;cases q1:decide (hd r="(") with
 | true=>
   have er:=wM (of_decide_eq_true q1) (by decide);rw[er]at hd0 al⊢;have:=hT (a+1) r.tail (by have:=hd0.tail;rwa [show brk "("=1 by decide +kernel]at this) al.tail (by omega);exact jW5 this fun d n k=>⟨fun t ht=>aG jJz (by have:=k.1 t ht;omega),k.2.mono (by omega)⟩
 |false=>
 dsimp only[cond];rw[noB al,noN al];dsimp only[cond];cases q2:jV (hd r) with
 | true=>
   have er:=zKp q2;generalize hd r=w at *;rw[er];refine Ok.word (zVb q2) (Ok.ret ⟨fun t ht=>?_,.num _⟩);obtain⟨m,rfl⟩:=jXb ht;exact aP _
 |false=>
 dsimp only[cond];unfold qZo;cases q3:v6 (hd r) with
 |false=>trivial
 | true=>
   have er:=zQj q3;have al1:Al r.tail:=by rw[er]at al;exact al.tail
   have dp1:Dp a r.tail:=by rw[er]at hd0;have:=hd0.tail;rwa [y9 q3,cH]at this
   generalize hd r=w at *;generalize r.tail=r1 at *;rw[er];refine Ok.word (y9 q3) ?_
   dsimp only[cond];cases q4:decide (hd r1="(") with
   | false=>
     refine Ok.ret ⟨fun t ht=>?_,.name _⟩;obtain⟨m,rfl⟩:=jJt ht;exact aP _
   | true=>
     have er:=wM (of_decide_eq_true q4) (by decide);have al2:Al r1.tail:=by rw[er]at al1;exact al1.tail
     have dp2:Dp (a+1) r1.tail:=by rw[er]at dp1;have:=dp1.tail;rwa [show brk "("=1 by decide +kernel]at this
     generalize r1.tail=r2 at *;rw[er];dsimp only[cond];unfold qQ7;cases q5:decide (hd r2=")") with
     | true=>
       have er:=wM (of_decide_eq_true q5) (by decide);refine⟨["(",")"],by rw[er];rfl,by decide +kernel,fun t ht=>?_,.call0 _⟩;obtain⟨f,x,_,e⟩:=zWa ht;cases e
     | false=>
       have hx:=hT (a+1) r2 dp2 al2 (by omega);dsimp only[cond];cases e1:T0 r2 with
       |er=>trivial
       |no=>rw[e1]at hx;exact hx.elim
       | ok d r3=>
         rw[e1]at hx;obtain⟨p,er3,n0,c⟩:=hx;have al3:Al r3:=by rw[er3]at al2;exact al2.drop
         show Ok _ _ (((qQp T0 100 [d] r3).bind fun t r=>pSk ")" r fun r=>cond (decide (lenT t > 3)) .er (.ok t r)).bind _);rw[show qQp T0 100 [d] r3=cond (decide (hd r3=",")) _ _ from rfl,noC al3];show Ok _ _ ((pSk ")" r3 fun r=>cond (decide (lenT (.tup [d]) > 3)) .er (.ok (.tup [d]) r)).bind _);unfold pSk;cases q6:decide (hd r3=")") with
         |false=>trivial
         | true=>
           have er4:=wM (of_decide_eq_true q6) (by decide);refine⟨"("::(p ++ [(")":Str)]),?_,?_,fun t ht=>?_,.call1 _ (c.2.mono (by rw[aZ,aJ];omega))⟩
           ·rw[er3,aA,bV];congr 2
           ·rw[y8,qKc,n0,y8];decide +kernel
           ·obtain⟨f,x,rfl,e⟩:=zWa ht;have hx:=c.1 (.name x) (by cases e;rfl);rw[aZ,aJ];show 4<=_;have hx:1<=p.length:=hx;show 4<=p.length+1+1+1;omega
theorem vXl{step:D->List Str->Pr}{a:Int}(hs:∀d r m,Dp a r->Al r->Ψ d m->test (hd r)=true->Ok (fun e n=>1<=n/\Ψ e (m+n)) r (step d r)):∀(f:Nat) (d:D) (r:List Str) (m:Nat),r.length<f->Dp a r->Al r->Ψ d m->Ok (fun e n=>Ψ e (m+n)) r (z8 test step f d r)
 | 0,d,r,m,hf,_,_,_=>absurd hf (Nat.not_lt_zero _)
 | f + 1,d,r,m,hf,dp,al,h=>by
   unfold z8;cases q:test (hd r) with
   |false=>exact Ok.ret h
   | true=>
     refine Ok.bind (hs d r m dp al h q) fun d2 p r' e n k=>?_
     subst e;have:=vXl hs f d2 r' (m+p.length) (by rw[aJ]at hf;have:=k.1;omega) (by have:=dp.drop;rwa [n,cH]at this) al.drop k.2;exact this.imp fun e n q=>by rwa [Nat.add_assoc]at q
theorem vJl{step:D->List Str->Pr}(hp:Rds h Ψ p)(hs:∀a d r m,Dp a r->Al r->a+(h:Nat)≥11->Ψ d m->test (hd r)=true->Ok (fun e n=>1<=n/\Ψ e (m+n)) r (step d r)):Rds h Ψ fun r=>(p r).bind fun d r=>z8 test step 100 d r:=fun a r dp al ha=>
 Ok.bind (hp a r dp al ha) fun d q r' e n k=>by
  subst e;have dp' :Dp a r' :=by have:=dp.drop;rwa [n,cH]at this
  exact vXl (fun d r m d1 a1=>hs a d r m d1 a1 ha) 100 d r' q.length (by have:=al.drop.1;omega) dp' al.drop k
theorem Rds.up(h1:Rds h (Φ m) p)(hl:l<=m):Rds h (Φ l) p:=fun a r dp al ha=>(h1 a r dp al ha).imp fun _ _ k=>⟨fun t ht=>aG (w_up hl) (k.1 t ht),k.2⟩
theorem vWr(hT:Rds h (Φ 0) T0):Rds (h+1) (Φ 3) (xS T0):=vJl (zK2 hT) fun a d r m dp al ha k q=>by
 have er:=wM (of_decide_eq_true q) (by decide);unfold qW7;generalize r.tail=r1 at *;rw[er];refine Ok.word (by decide +kernel) ?_
 unfold pName';cases q2:v6 (hd r1) with
 |false=>trivial
 | true=>
   have er:=zQj q2;generalize hd r1=w at *;rw[er];refine Ok.word (y9 q2) (Ok.ret ⟨by omega,fun t ht=>?_,.fld _ (k.2.mono (by omega))⟩);obtain⟨a,z,rfl,e⟩:=jXe ht;have:=k.1 a e;show((wr (decide (a.lev<3)) a.body) ++ [S [46],S z]).length <=_;rw[aJ];show(a.w 3).length+2<=_;omega
theorem zQi(hT:Rds h (Φ 0) T0):Rds (h+1) (Φ 2) (qW1 T0):=vJl ((vWr hT).up (by decide)) fun a d r m dp al ha k q=>by
 have er:=wM (of_decide_eq_true q) (by decide);unfold qKt;generalize r.tail=r1 at *;rw[er]at dp al⊢;refine Ok.word (by decide +kernel) (Ok.bind (vWr hT a r1 (by have:=dp.tail;rwa [show brk "*"=0 by decide +kernel,cH]at this) al.tail ha) fun d2 p r' e n k2=>Ok.ret ⟨by omega,fun t ht=>?_,.op _ (k.2.mono (cI _ _)) (k2.2.mono (Nat.le_add_left _ _))⟩);obtain⟨c,x,y,rfl,e1,e2,e3⟩:=d_op ht;have hc:c=42:=sg1 e1 (by decide +kernel);subst hc;have h1:=k.1 x e2;have h2:=k2.1 y e3;show(x.w 2 ++ S [42]::y.w 3).length <=_;rw[aJ,aZ];omega
theorem zJf(hT:Rds h (Φ 0) T0):Rds (h+1) (Φ 1) (pSum T0):=vJl ((zQi hT).up (by decide)) fun a d r m dp al ha k q=>by
 have hw:hd r="+"\/hd r="-":=by simpa using q
 have er:r=hd r::r.tail:=wM rfl fun z=>by rw[z]at hw;rcases hw with w|w <;> exact absurd w (by decide)
 unfold vJ9;generalize hd r=w at *;generalize r.tail=r1 at *;have hb:brk w=0:=by rcases hw with rfl|rfl <;> decide +kernel
 rw[er]at dp al⊢;refine Ok.word hb (Ok.bind (zQi hT a r1 (by have:=dp.tail;rwa [hb,cH]at this) al.tail ha) fun d2 p r' e n k2=>Ok.ret ⟨by omega,fun t ht=>?_,.op _ (k.2.mono (cI _ _)) (k2.2.mono (Nat.le_add_left _ _))⟩);obtain⟨c,x,y,rfl,e1,e2,e3⟩:=d_op ht;have hc:lv c=1:=by
  have:c=43\/c=45:=by
   rcases hw with rfl|rfl
   ·exact .inl (sg1 e1 (by decide +kernel))
   ·exact .inr (sg1 e1 (by decide +kernel))
  rcases this with rfl|rfl <;> decide
 have h1:=k.1 x e2;have h2:=k2.1 y e3;rw[show T.w 1 (T.op c x y)=x.w 1 ++ S [c]::y.w 2 by show wr (decide (lv c<1)) (wr (decide (x.lev<max 1 (lv c))) x.body ++ S [c]::wr (decide (y.lev<lv c+1)) y.body)=_;rw[hc];rfl,aJ,aZ];omega
theorem zWh(hT:Rds h (Φ 0) T0):Rds (h+1) (Φ 0) (qX0 T0):=fun a r dp al ha=>Ok.bind (zJf hT a r dp al ha) fun d p r1 e n k=>by
 subst e;have dp1:Dp a r1:=by have:=dp.drop;rwa [n,cH]at this
 have al1:=al.drop;cases q: [("=":Str),"<"].contains (hd r1) with
 |false=>exact Ok.ret ⟨fun t ht=>aG (w_up (by decide)) (k.1 t ht),k.2⟩
 | true=>
   have hw:hd r1="="\/hd r1="<":=by simpa using q
   have er:r1=hd r1::r1.tail:=wM rfl fun z=>by rw[z]at hw;rcases hw with w|w <;> exact absurd w (by decide)
   dsimp only[cond];generalize hd r1=w at *;generalize r1.tail=r2 at *;have hb:brk w=0:=by rcases hw with rfl|rfl <;> decide +kernel
   rw[er]at dp1 al1⊢;refine Ok.word hb (Ok.bind (zJf hT a r2 (by have:=dp1.tail;rwa [hb,cH]at this) al1.tail ha) fun d2 p2 r' e n k2=>Ok.ret ⟨fun t ht=>?_,.op _ (k.2.mono (cI _ _)) (k2.2.mono (Nat.le_add_left _ _))⟩);obtain⟨c,x,y,rfl,e1,e2,e3⟩:=d_op ht;have hc:lv c=0:=by
    have:c=61\/c=60:=by
     rcases hw with rfl|rfl
     ·exact .inl (sg1 e1 (by decide +kernel))
     ·exact .inr (sg1 e1 (by decide +kernel))
    rcases this with rfl|rfl <;> decide
   have h1:=k.1 x e2;have h2:=k2.1 y e3;rw[vKq];show(wr (decide (x.lev<max 1 (lv c))) x.body ++ S [c]::wr (decide (y.lev<lv c+1)) y.body).length <=_;rw[hc];show(x.w 1 ++ S [c]::y.w 1).length <=_;rw[aJ,aZ];omega
end
theorem vK7:∀h,Rds h (Φ 0) (zJ h)
 | 0=>fun a r dp _ ha=>absurd (dp [] r rfl) (by rw[show net []=0 from rfl];omega)
 |h+1=>zWh (vK7 h)
theorem jQd:∀m:Nat,0<m->∃c l,dg m=c::l/\c≠48:=by
 intro m;induction m using Nat.strongRecOn with
 | _ m ih=>
   intro h;by_cases hb:m<10
   ·refine⟨(Nat.digitChar m).toNat,[],by show(Nat.toDigits 10 m).map _=_;rw [Nat.toDigits_of_lt_base hb];rfl,?_⟩;rw[Nat.toNat_digitChar_of_lt_ten hb];omega
   ·obtain⟨c,l,e,hc⟩:=ih (m / 10) (by omega) (by omega);refine⟨c,l ++ [(Nat.digitChar (m % 10)).toNat],?_,hc⟩;show(Nat.toDigits 10 m).map _=_;rw[Nat.toDigits_of_base_le (by decide) (by omega),bL,show(Nat.toDigits 10 (m / 10)).map Char.toNat=c::l from e];rfl
theorem zJ8(h:m<10 ^ 6):(dg m).length <=6:=by
 rw[aB];exact(Nat.length_toDigits_le_iff (by decide) (by decide)).mpr h
theorem zJs(h:m<10 ^ 6):jV (S (dg m))=true/\valS (S (dg m))=(m:Int):=by
 have hl:=zJ8 h;refine⟨?_,?_⟩
 ·show x6 (dg m)=true;by_cases h0:m=0
  ·subst h0;rw[show dg 0=[48] by decide +kernel];decide +kernel
  ·obtain⟨c,l,e,hc⟩:=jQd m (by omega);have hf:=xP m c (by show c∈dg m;rw[e];exact aM ..);rw[e]at hl⊢;rw[aZ]at hl;unfold x6;dsimp only;rw[decide_eq_true hf.1,decide_eq_true hf.2,decide_eq_false hc,decide_eq_true (show(l.length:Int)+1<=12 by omega)];simp
 ·unfold valS;rw[PySem.intText_digits (x:=S (dg m)) (fun c hc=>xP m c hc) (qYg m) (by rw[xV];omega),qKq,PySem.W.KIN.val_back];rfl
noncomputable def T.good:T->Prop
 |.num n=>n<10 ^ 6
 |.name w=>v6 (S w)=true
 |.call f x=>v6 (S f)=true/\v6 (S x)=true
 |.op s a b=>s∈ [43,45,42,61,60]/\a.good/\b.good
 |.fld a w=>a.good/\v6 (S w)=true
noncomputable def T.nb:T->Nat
 |.num _=>0
 |.name _=>0
 |.call _ _=>1
 |.op _ a b=>1+max a.nb b.nb
 |.fld a _=>1+a.nb
theorem vWe{w x:Str}(h:v6 w=true)(hx:v6 x=false):w≠x:=fun q=>by rw[q,hx]at h;cases h
theorem jQ9{w x:Str}(h:jV w=true)(hx:jV x=false):w≠x:=fun q=>by rw[q,hx]at h;cases h
theorem vKv{w:Str}(h:v6 w=true):jZ.contains w=false/\jV w=false:=by
 obtain⟨a⟩:=w;have h:qJl a.toList=true:=h;unfold qJl at h;rw[aE,Bool.not_eq_true']at h;refine⟨h.2,?_⟩;show x6 a.toList=false;cases e:a.toList with
 |nil=>rfl
 | cons c l=>
   have:=h.1;rw[e]at this;unfold qVd at this;simp only[dQ,aE,decide_eq_true_eq]at this;unfold x6;dsimp only;rw[decide_eq_false (show¬c<=57 by omega)];simp
theorem jWx{w:Str}(h:jV w=true):jZ.contains w=false:=by
 have k:∀x∈jZ,jV x=false:=by decide +kernel
 rw[Bool.eq_false_iff];intro q;have:=k w (List.contains_iff_mem.mp q);rw[h]at this;cases this
noncomputable abbrev dS(w:Str):Bool:=decide (w=".")
noncomputable abbrev sS'(w:Str):Bool:=decide (w="*")
noncomputable abbrev pS(w:Str):Bool:=[("+":Str),"-"].contains w
noncomputable abbrev eS(w:Str):Bool:=[("=":Str),"<"].contains w
noncomputable def wrp(t:T)(l:Nat):Nat:=if t.lev<l then 1 else 0
section
variable{t:T}{h n:Nat}{T0:List Str->Pr}{r:List Str}
noncomputable def A3(t:T):Prop:=∀h r,t.nb+wrp t 3<=h->hd r≠"("->∃n,100<=n+(t.w 3).length /\xS (zJ h) (t.w 3 ++ r)=z8 dS qW7 n t.d r
noncomputable def A2(t:T):Prop:=∀h r,t.nb+wrp t 2<=h->hd r≠"("->dS (hd r)=false->∃n,100<=n+(t.w 2).length /\qW1 (zJ h) (t.w 2 ++ r)=z8 sS' (qKt (zJ h)) n t.d r
noncomputable def A1(t:T):Prop:=∀h r,t.nb+wrp t 1<=h->hd r≠"("->dS (hd r)=false->sS' (hd r)=false->∃n,100<=n+(t.w 1).length /\pSum (zJ h) (t.w 1 ++ r)=z8 pS (vJ9 (zJ h)) n t.d r
noncomputable def A0(t:T):Prop:=∀h r,t.nb<=h->hd r≠"("->dS (hd r)=false->sS' (hd r)=false->pS (hd r)=false->eS (hd r)=false->zJ (h+1) (t.body ++ r)=.ok t.d r
theorem xK{step:D->List Str->Pr}{d:D}(h:test (hd r)=false):z8 test step (n+1) d r=.ok d r:=by unfold z8;rw[h];rfl
theorem vQo{step:D->List Str->Pr}{d:D}{r2:List Str}(h:test (hd r)=true)(k:step d r=.ok d2 r2):z8 test step (n+1) d r=z8 test step n d2 r2:=by
 conv=>lhs;unfold z8
 rw[h,k];rfl
theorem w_in(h:¬t.lev<l):t.w l=t.body:=by unfold T.w;rw[decide_eq_false h];rfl
theorem w_br(h:t.lev<l):t.w l=S [40]::(t.body ++ [S [41]]):=by unfold T.w;rw[decide_eq_true h];rfl
theorem zZ6(h:t.lev<l↔t.lev<m):t.w l=t.w m:=by unfold T.w;rw[decide_eq_decide.mpr h]
theorem vWo(h:t.lev<l↔t.lev<m):wrp t l=wrp t m:=by
 unfold wrp;by_cases q:t.lev<l
 ·rw[if_pos q,if_pos (h.mp q)]
 ·rw[if_neg q,if_neg fun z=>q (h.mpr z)]
theorem lb:S [40]="(":=by decide +kernel
theorem rb:S [41]=")":=by decide +kernel
theorem up3(hl:(t.w 3).length <=90)(h:A3 t)(e:t.lev<2↔t.lev<3):A2 t:=fun k r hk h1 h2=>by
 obtain⟨n,hn,q⟩:=h k r (by rw[←vWo e];exact hk) h1;refine⟨100,by omega,?_⟩;unfold qW1;rw[zZ6 e,q];obtain⟨m,rfl⟩:∃m,n=m+1:=⟨n - 1,by omega⟩
 rw[xK h2];rfl
theorem up2(hl:(t.w 2).length <=90)(h:A2 t)(e:t.lev<1↔t.lev<2):A1 t:=fun k r hk h1 h2 h3=>by
 obtain⟨n,hn,q⟩:=h k r (by rw[←vWo e];exact hk) h1 h2;refine⟨100,by omega,?_⟩;unfold pSum;rw[zZ6 e,q];obtain⟨m,rfl⟩:∃m,n=m+1:=⟨n - 1,by omega⟩
 rw[xK h3];rfl
theorem up1(hl:(t.w 1).length <=90)(h:A1 t)(e:¬t.lev<1):A0 t:=fun k r hk h1 h2 h3 h4 h5=>by
 obtain⟨n,hn,q⟩:=h k r (by unfold wrp;rw[if_neg e];exact hk) h1 h2 h3;show qX0 (zJ k) _=_;unfold qX0;rw[←w_in e,q];obtain⟨m,rfl⟩:∃m,n=m+1:=⟨n - 1,by omega⟩
 rw[xK h4];show cond (eS (hd r)) _ _=_;rw[h5];rfl
theorem up0(h:A0 t)(e:t.lev<3):A3 t:=fun k r hk h1=>by
 refine⟨100,by omega,?_⟩;unfold wrp at hk;rw[if_pos e]at hk;obtain⟨k,rfl⟩:∃m,k=m+1:=⟨k - 1,by omega⟩
 have:=h k (S [41]::r) (by omega) (by show S [41]≠_;decide +kernel) (by show dS (S [41])=_;decide +kernel) (by show sS' (S [41])=_;decide +kernel) (by show pS (S [41])=_;decide +kernel) (by show eS (S [41])=_;decide +kernel);unfold xS;have e2:xH (zJ (k+1)) (t.w 3 ++ r)=.ok t.d r:=by
  rw[w_br e,aA,bV,lb];unfold xH;rw[show hd ("("::(t.body ++ ([S [41]] ++ r)))="(" from rfl,decide_eq_true rfl];show(zJ (k+1) (t.body ++ (S [41]::r))).bind _=_;rw[this,rb];show pSk ")" (")"::r) _=_;unfold pSk;rw[show hd (")"::r)=")" from rfl,decide_eq_true rfl];rfl
 rw[e2];rfl
theorem vZe{w:Str}{k:Nat}(hw:v6 w=true)(hr:hd r≠"("):xH T0 (w::r)=.ok (tg "name" [.str w]) r:=by
 unfold xH;rw[show hd (w::r)=w from rfl,decide_eq_false (vWe hw (by decide +kernel)),decide_eq_false (vWe hw (by decide +kernel)),(vKv hw).1,(vKv hw).2];show qZo T0 w r=_;unfold qZo;rw[hw,decide_eq_false hr];rfl
theorem zXb(h:s∈ [43,45,42,61,60]):(lv s=0/\eS (S [s])=true/\pS (S [s])=false)\/(lv s=1/\pS (S [s])=true)\/(lv s=2/\S [s]="*"):=by
 have:∀s∈ [43,45,42,61,60],(lv s=0/\eS (S [s])=true/\pS (S [s])=false)\/(lv s=1/\pS (S [s])=true)\/(lv s=2/\S [s]="*"):=by decide +kernel
 exact this s h
theorem jWn(h:s∈ [43,45,42,61,60]):S [s]≠"("/\dS (S [s])=false/\(lv s≠2->sS' (S [s])=false):=by
 have:∀s∈ [43,45,42,61,60],S [s]≠"("/\dS (S [s])=false/\(lv s≠2->sS' (S [s])=false):=by decide +kernel
 exact this s h
theorem jXh(hs:t.good)(hl:t.body.length<=80):A0 t/\A1 t/\A2 t/\A3 t:=by
 have l:∀{t:T} {m:Nat},t.body.length<=80->(t.w m).length <=90:=fun {t m} h=>by rw[qW3];cases decide (t.lev<m) <;> (dsimp only[cond];omega)
 have hi:∀{t:T},t.body.length<=80->t.lev=3->A3 t->A0 t/\A1 t/\A2 t/\A3 t:=fun {t} hl e h=>by
  have h2:=up3 (l hl) h (by omega)
  have h1:=up2 (l hl) h2 (by omega)
  exact⟨up1 (l hl) h1 (by omega),h1,h2,h⟩
 induction t with
 | num n=>
   refine hi hl rfl fun k r _ hr=>⟨100,by omega,?_⟩
   obtain⟨h1,h2⟩:=zJs hs
   unfold xS
   have:xH (zJ k) ((T.num n).w 3 ++ r)=.ok (T.num n).d r:=by
    show xH (zJ k) (S (dg n)::r)=_
    unfold xH
    rw[show hd (S (dg n)::r)=S (dg n) from rfl,decide_eq_false (jQ9 h1 (by decide +kernel)),decide_eq_false (jQ9 h1 (by decide +kernel)),jWx h1,h1,h2]
    rfl
   rw[this];rfl
 | name w=>
   refine hi hl rfl fun k r _ hr=>⟨100,by omega,?_⟩
   unfold xS
   rw[show xH (zJ k) ((T.name w).w 3 ++ r)=.ok (T.name w).d r from vZe (k:=0) hs hr];rfl
 | call f x=>
   refine hi hl rfl fun k r hk hr=>⟨100,by omega,?_⟩
   obtain⟨k,rfl⟩:∃m,k=m+1:=⟨k - 1,by have:1<=k:=aG (cI 1 _) hk;omega⟩
   have nm:=(hi (t:=.name x) (by show 1<=80;omega) rfl fun k r _ hr=>⟨100,by omega,by
    unfold xS
    rw[show xH (zJ k) ((T.name x).w 3 ++ r)=.ok (T.name x).d r from vZe (k:=0) hs.2 hr];rfl⟩).1 k (")"::r) (cJ _) (by show(")":Str)≠_;decide +kernel) (by show dS ")"=_;decide +kernel) (by show sS' ")"=_;decide +kernel) (by show pS ")"=_;decide +kernel) (by show eS ")"=_;decide +kernel)
   have nm:zJ (k+1) (S x::")"::r)=.ok (tg "name" [.str (S x)]) (")"::r):=nm
   have:xH (zJ (k+1)) ((T.call f x).w 3 ++ r)=.ok (T.call f x).d r:=by
    show xH (zJ (k+1)) (S f::S [40]::S x::S [41]::r)=_
    rw[lb,rb]
    unfold xH
    rw[show hd (S f::"("::S x::")"::r)=S f from rfl,decide_eq_false (vWe hs.1 (by decide +kernel)),decide_eq_false (vWe hs.1 (by decide +kernel)),(vKv hs.1).1,(vKv hs.1).2]
    show qZo (zJ (k+1)) (S f) ("("::S x::")"::r)=_
    unfold qZo
    rw[hs.1,show hd ("("::S x::")"::r)="(" from rfl,decide_eq_true rfl]
    show(qQ7 (zJ (k+1)) ")" 3 (S x::")"::r)).bind _=_
    unfold qQ7
    rw[show hd (S x::")"::r)=S x from rfl,decide_eq_false (vWe hs.2 (by decide +kernel)),nm]
    dsimp only[cond,Pr.bind]
    rw[show qQp (zJ (k+1)) 100 [tg "name" [.str (S x)]] (")"::r)=.ok (.tup [tg "name" [.str (S x)]]) (")"::r) by unfold qQp;rw[show decide (hd (")"::r)=",")=false from by show decide ((")":Str)=",")=false;decide +kernel];rfl]
    dsimp only[Pr.bind]
    unfold pSk
    rw[show hd (")"::r)=")" from rfl,decide_eq_true rfl];rfl
   unfold xS
   rw[this];rfl
 | fld a w ih=>
   have e0:(T.fld a w).body =a.w 3 ++ [S [46],S w]:=rfl
   rw[e0,aJ]at hl
   have ha:a.body.length<=80:=by rw[qW3]at hl;omega
   obtain⟨_,_,_,ia⟩:=ih hs.1 ha
   refine hi (by rw[e0,aJ];exact hl) rfl fun k r hk hr=>?_
   have hk:1+a.nb<=k:=aG (cI _ _) hk
   obtain⟨n,hn,q⟩:=ia k (S [46]::S w::r) (by unfold wrp;split <;> omega) (by show S [46]≠_;decide +kernel)
   have hl3:(a.w 3).length <=90:=l ha
   obtain⟨n,rfl⟩:∃m,n=m+1:=⟨n - 1,by omega⟩
   refine⟨n,by show 100<=n+(a.w 3 ++ [S [46],S w]).length;rw[aJ];show 100<=n+((a.w 3).length+2);omega,?_⟩
   rw[show(T.fld a w).w 3 ++ r=a.w 3 ++ (S [46]::S w::r) by show(a.w 3 ++ [S [46],S w]) ++ r=_;rw[bV];rfl,q]
   refine vQo (by show dS (S [46])=true;decide +kernel) ?_
   unfold qW7
   show(pName' (S w::r)).bind _=_
   unfold pName'
   rw[show hd (S w::r)=S w from rfl,hs.2];rfl
 | op s a b iha ihb=>
   obtain⟨h1,ga,gb⟩:=hs
   have e0:(T.op s a b).body =a.w (max 1 (lv s)) ++ S [s]::b.w (lv s+1):=rfl
   have hl0:=hl
   rw[e0,aJ,aZ]at hl
   have la:a.body.length<=80:=by rw[qW3]at hl;omega
   have lb' :b.body.length<=80:=by rw[qW3 (t:=b)]at hl;omega
   obtain⟨_,a1,a2,_⟩:=iha ga la
   obtain⟨_,b1,b2,b3⟩:=ihb gb lb'
   obtain⟨n1,n2,n3⟩:=jWn h1
   have na:∀{k l},(T.op s a b).nb <=k->a.nb+wrp a l<=k:=fun {k l} hk=>by
    have hk:1+max a.nb b.nb<=k:=hk
    unfold wrp;split <;> omega
   have nb:∀{k l},(T.op s a b).nb <=k->b.nb+wrp b l<=k:=fun {k l} hk=>by
    have hk:1+max a.nb b.nb<=k:=hk
    unfold wrp;split <;> omega
   rcases zXb h1 with⟨e,q1,q2⟩|⟨e,q1⟩|⟨e,q1⟩
   · -- = <
     rw[e]at e0 hl
     have h0:A0 (T.op s a b):=fun k r hk r1 r2 r3 r4 r5=>by
      show qX0 (zJ k) _=_
      rw[e0,bV]
      obtain⟨n,hn,q⟩:=a1 k (S [s]::b.w 1 ++ r) (na hk) n1 n2 (n3 (by omega))
      obtain⟨m,hm,q'⟩:=b1 k r (nb hk) r1 r2 r3
      have l1:(a.w 1).length <=90:=l la
      have l2:(b.w 1).length <=90:=l lb'
      obtain⟨n,rfl⟩:∃m,n=m+1:=⟨n - 1,by omega⟩
      obtain⟨m,rfl⟩:∃n,m=n+1:=⟨m - 1,by omega⟩
      unfold qX0
      show(pSum (zJ k) (a.w 1 ++ (S [s]::b.w 1 ++ r))).bind _=_
      rw[q,xK (show pS (S [s])=false from q2)]
      show cond (eS (S [s])) ((pSum (zJ k) (b.w 1 ++ r)).bind _) _=_
      rw[q1,q',xK r4]
      rfl
     have hlev:(T.op s a b).lev =0:=e
     have h3:=up0 h0 (by omega)
     have h2:=up3 (l hl0) h3 (by omega)
     exact⟨h0,up2 (l hl0) h2 (by omega),h2,h3⟩
   · -- + -
     have hlev:(T.op s a b).lev =1:=e
     rw[e]at e0 hl
     have h1' :A1 (T.op s a b):=fun k r hk r1 r2 r3=>by
      have hk:(T.op s a b).nb <=k:=aG (cI _ _) hk
      obtain⟨n,hn,q⟩:=a1 k (S [s]::b.w 2 ++ r) (na hk) n1 n2 (n3 (by omega))
      obtain⟨m,hm,q'⟩:=b2 k r (nb hk) r1 r2
      have l1:(a.w 1).length <=90:=l la
      have l2:(b.w 2).length <=90:=l lb'
      obtain⟨n,rfl⟩:∃m,n=m+1:=⟨n - 1,by omega⟩
      obtain⟨m,rfl⟩:∃n,m=n+1:=⟨m - 1,by omega⟩
      rw[w_in (by omega),e0]
      refine⟨n,by rw[aJ,aZ];show 100<=n+((a.w 1).length+_);omega,?_⟩
      rw[bV]
      show pSum (zJ k) (a.w 1 ++ (S [s]::b.w 2 ++ r))=_
      rw[q]
      refine vQo q1 ?_
      unfold vJ9
      show(qW1 (zJ k) (b.w 2 ++ r)).bind _=_
      rw[q',xK r3]
      rfl
     have h0:=up1 (l hl0) h1' (by omega)
     have h3:=up0 h0 (by omega)
     exact⟨h0,h1',up3 (l hl0) h3 (by omega),h3⟩
   · -- *
     have hlev:(T.op s a b).lev =2:=e
     rw[e]at e0 hl
     have h2:A2 (T.op s a b):=fun k r hk r1 r2=>by
      have hk:(T.op s a b).nb <=k:=aG (cI _ _) hk
      obtain⟨n,hn,q⟩:=a2 k (S [s]::b.w 3 ++ r) (na hk) n1 n2
      obtain⟨m,hm,q'⟩:=b3 k r (nb hk) r1
      have l1:(a.w 2).length <=90:=l la
      have l2:(b.w 3).length <=90:=l lb'
      obtain⟨n,rfl⟩:∃m,n=m+1:=⟨n - 1,by omega⟩
      obtain⟨m,rfl⟩:∃n,m=n+1:=⟨m - 1,by omega⟩
      rw[w_in (by omega),e0]
      refine⟨n,by rw[aJ,aZ];show 100<=n+((a.w 2).length+_);omega,?_⟩
      rw[bV]
      show qW1 (zJ k) (a.w 2 ++ (S [s]::b.w 3 ++ r))=_
      rw[q]
      refine vQo (by show sS' (S [s])=true;rw[q1];decide +kernel) ?_
      unfold qKt
      show(xS (zJ k) (b.w 3 ++ r)).bind _=_
      rw[q',xK r2]
      show Pr.ok (tg "op" [.str "*",a.d,b.d]) r=.ok (tg "op" [.str (S [s]),a.d,b.d]) r
      rw[q1]
     have h1' :=up2 (l hl0) h2 (by omega)
     have h0:=up1 (l hl0) h1' (by omega)
     exact⟨h0,h1',h2,up0 h0 (by omega)⟩
end

noncomputable def wx(b:Bool)(l:List Nat):List Nat:=cond b (40::(l ++ [41])) l
noncomputable def T.tx:T->List Nat
 |.num n=>dg n
 |.name w=>w
 |.call f x=>f ++ 40::(x ++ [41])
 |.op s a b=>wx (decide (a.lev<max 1 (lv s))) a.tx ++ 32::s::32::wx (decide (b.lev<lv s+1)) b.tx
 |.fld a w=>wx (decide (a.lev<3)) a.tx ++ 46::w
noncomputable def Cl(r:List Nat):Prop:=∀c,r.head?=some c->qD c≠0/\qD c≠1
theorem qJq{c:Nat}{r:List Nat}(h:qD c≠0/\qD c≠1:=by decide):Cl (c::r):=fun x e=>by cases e;exact h
theorem jE{w:List Nat}(h:v6 (S w)=true):w≠ []/\∀c∈w,qD c=0:=by
 have h:qJl w=true:=h;unfold qJl qVd at h;simp only[aE,decide_eq_true_eq,List.all_eq_true]at h;refine⟨fun e=>by rw[e]at h;exact absurd h.1.1.1 (by decide),fun c hc=>?_⟩;have:=h.1.2 c hc;unfold qD;rw[if_pos (.inl this)]
theorem qXz{w r:List Nat}(hne:w≠ [])(h:∀c∈w,qD c=k)(hk:k=0\/k=1)(hr:Cl r):wL (w ++ r)=S w::wL r:=by
 show(parts (w ++ r)).map S=_;rw[qXq w.length w r (aP _) (fun a b ha hb e=>by
  have h1:=h a (List.mem_of_getLast? ha);have h2:=hr b hb;rcases hk with rfl|rfl <;> omega),vY5 hne h (by omega) (by omega)]
 rfl
theorem qWf{c:Nat}{r:List Nat}(h:qD c=2):wL (c::r)=S [c]::wL r:=by
 show(parts (c::r)).map S=_;rw[vF,qO,if_pos h,if_neg (fun e=>by rw[e]at h;exact absurd h (by decide))];rfl
theorem vJe{c:Nat}{r:List Nat}(h:qD c≠3):wL (32::c::r)=wL (c::r):=by
 show(parts (32::c::r)).map S=_;rw[vF,if_pos rfl,qO,if_neg (by decide),show qD 32=3 from by decide,zQ,if_neg h];rfl
def Wt(t:T):Prop:=∀r,Cl r->wL (t.tx ++ r)=t.body ++ wL r
noncomputable def Hd3(l:List Nat):Prop:=∃c r,l=c::r/\qD c≠3
theorem wx_w(h:Wt t){r:List Nat}(hr:Cl r)(b:Bool):wL (wx b t.tx ++ r)=wr b t.body ++ wL r:=by
 cases b with
 |false=>exact h r hr
 | true=>
   show wL (40::((t.tx ++ [41]) ++ r))=S [40]::(t.body ++ [S [41]]) ++ wL r;rw[qWf (by decide),bV];show S [40]::wL (t.tx ++ 41::r)=_;rw[h _ qJq];show S [40]::(t.body ++ wL (41::r))=_;rw[qWf (by decide),aA,bV];rfl
theorem hd3:∀{t:T},t.good->Hd3 t.tx
 | .num n,_=>by
   have h1:=qYg n;have h2:=xP n;show Hd3 (dg n);cases e:dg n with
   |nil=>exact absurd e h1
   |cons c l=>exact⟨c,l,rfl,by rw[qXi (h2 c (by show c∈dg n;rw[e];exact aM ..))];decide⟩
 | .name w,h=>by
   have:=jE h;cases w with
   |nil=>exact absurd rfl this.1
   |cons c l=>exact⟨c,l,rfl,by rw[this.2 c (aM ..)];decide⟩
 | .call f x,h=>by
   have:=jE h.1;cases f with
   |nil=>exact absurd rfl this.1
   |cons c l=>exact⟨c,_,rfl,by rw[this.2 c (aM ..)];decide⟩
 | .op s a b,h=>by
   obtain⟨c,r,e,k⟩:=hd3 h.2.1;show Hd3 (wx _ a.tx ++ _);cases decide (a.lev<max 1 (lv s)) with
   |true=>exact⟨40,_,rfl,by decide⟩
   |false=>exact⟨c,_,by show a.tx ++ _=_;rw[e];rfl,k⟩
 | .fld a w,h=>by
   obtain⟨c,r,e,k⟩:=hd3 h.1;show Hd3 (wx _ a.tx ++ _);cases decide (a.lev<3) with
   |true=>exact⟨40,_,rfl,by decide⟩
   |false=>exact⟨c,_,by show a.tx ++ _=_;rw[e];rfl,k⟩
theorem jJx(h:t.good)(b:Bool):Hd3 (wx b t.tx):=by
 cases b with
 |true=>exact⟨40,_,rfl,by decide⟩
 |false=>exact hd3 h
theorem tx_w:∀{t:T},t.good->Wt t
 |.num n,_=>fun r hr=>qXz (qYg n) (fun c hc=>qXi (xP n c hc)) (.inr rfl) hr
 |.name w,h=>fun r hr=>qXz (jE h).1 (jE h).2 (.inl rfl) hr
 | .call f x,h=>fun r hr=>by
   show wL ((f ++ 40::(x ++ [41])) ++ r)=_;simp only[bV,aA,cC];rw[qXz (jE h.1).1 (jE h.1).2 (.inl rfl) qJq,qWf (by decide),qXz (jE h.2).1 (jE h.2).2 (.inl rfl) qJq,qWf (by decide)];rfl
 | .op s a b,h=>fun r hr=>by
   have sg:qD s=2:=by
    have:∀s∈ [43,45,42,61,60],qD s=2:=by decide
    exact this s h.1
   show wL ((wx (decide (a.lev<max 1 (lv s))) a.tx ++ 32::s::32::wx (decide (b.lev<lv s+1)) b.tx) ++ r)=_;obtain⟨c,q,e,k⟩:=jJx h.2.2 (decide (b.lev<lv s+1));simp only[bV,aA];rw[wx_w (tx_w h.2.1) qJq];show _ ++ wL (32::s::32::(wx (decide (b.lev<lv s+1)) b.tx ++ r))=_;rw[vJe (by omega),qWf sg,show wL (32::(wx (decide (b.lev<lv s+1)) b.tx ++ r))=wL (wx (decide (b.lev<lv s+1)) b.tx ++ r) by rw[e];exact vJe k,wx_w (tx_w h.2.2) hr];show _=(wr (decide (a.lev<max 1 (lv s))) a.body ++ S [s]::wr (decide (b.lev<lv s+1)) b.body) ++ wL r;rw[bV];rfl
 | .fld a w,h=>fun r hr=>by
   show wL ((wx (decide (a.lev<3)) a.tx ++ 46::w) ++ r)=_;simp only[bV,aA];rw[wx_w (tx_w h.1) qJq];show _ ++ wL (46::(w ++ r))=_;rw[qWf (by decide),qXz (jE h.2).1 (jE h.2).2 (.inl rfl) hr];show _=(wr (decide (a.lev<3)) a.body ++ [S [46],S w]) ++ wL r;rw[bV];rfl

theorem qXy:100000<=aD:=by decide
theorem jVq(a b:List Nat):S a ++ S b=S (a ++ b):=by show Str.mk (a.toArray ++ b.toArray)=Str.mk _;simp
section
variable{env e e1:Ev}{a b:List Nat}{oa ob:Oe}
theorem fs_S{s:SV}{r:List (Bool×SV)}{bo:Bool}{x:Str}{X:Res (D×Ev)}(h:s env=.ok (.str x,e))(hx:x=S b)(l:a.length+b.length<=90000)(k:evJ r (S (a ++ b)) e=X):evJ ((bo,s)::r) (S a) env=X:=by
 subst hx;show(s env).bind _=_;rw[h];show(opt (cond (decide ((S b).length <=aD)) (some (S b)) none)).bind _=_;rw[xV,decide_eq_true (aG (show b.length<=100000 by omega) qXy)];show cond (decide ((S a ++ S b).length <=aD)) _ _=_;rw[jVq,xV,decide_eq_true (aG (show(a ++ b).length <=100000 by rw[aJ];omega) qXy)];exact k
theorem vYk(l:a.length<=90000):evJ [] (S a) env=.ok (.str (S a),env):=by
 show cond (decide ((S a).length <=aD)) _ _=_;rw[xV,decide_eq_true (aG (show a.length<=100000 by omega) qXy)];rfl
theorem jJv(l:a.length+b.length<=90000):addS (.str (S a)) (.str (S b))=some (.str (S (a ++ b))):=by
 rw[←jVq];exact if_pos (by rw[xV,xV];exact aG (show a.length+b.length<=100000 by omega) qXy)
theorem aS(ha:evO oa env=.ok (.d (.str (S a)),e))(hb:evO ob e=.ok (.d (.str (S b)),e1))(l:a.length+b.length<=90000):evO (o2 addS oa ob) env=.ok (.d (.str (S (a ++ b))),e1):=evO_o2 ha hb rfl rfl rfl (jJv l) rfl
end
theorem jZ7{v:Nat}(h:v<10 ^ 44):v.log2<1920:=by
 by_cases z:v=0
 ·subst z;decide +kernel
 ·exact(Nat.log2_lt z).mpr (aN h (by decide +kernel))
theorem zYj(h:m<10 ^ 6):strD [.int (m:Int)]=some (.str (S (dg m))):=by
 show cond (decide (m.log2<1920)) (some (D.str (Str.ofString (toString (m:Int))))) _=_;rw[decide_eq_true (jZ7 (Nat.lt_trans h (by decide)))];show some (D.str (Str.ofString (toString (m:Int))))=_;rw[←S_of (Str.ofString (toString (m:Int))),PySem.W.KIN.signs_num]
theorem call1{d:D}{s:SV}(h:F [fz d]=.ok (.fz y,[.un]))(hs:s E=.ok (d,e)):qY F [(.v s)] E=.ok (.fz y,e):=zW (xI hs (qKf rfl) rfl) (xM (t0:=([],e)) (t:=([],e)) rfl rfl rfl h rfl rfl rfl)
theorem vVs{d1:D}{e2:Ev}{s1 s2:SV}(h:F [fz d1,fz d2]=.ok (.fz y,[.un,.un]))(h1:s1 E=.ok (d1,e))(h2:s2 e=.ok (d2,e2)):qY F [(.v s1),(.v s2)] E=.ok (.fz y,e2):=zW (xI h1 (xI h2 (qKf rfl) rfl) rfl) (xM (t0:=([],e2)) (t:=([],e2)) rfl rfl rfl h rfl rfl rfl)
noncomputable def T.isOp:T->Bool
 |.op _ _ _=>true
 |_=>false
theorem zJ2:asB (o2 eqF (oIx (oN 0) (oC (.int 0))) (oC (.str "op"))) (fz t.d::E)=.ok (t.isOp,fz t.d::E):=by
 cases t <;> kernel_rfl
noncomputable def sgs(l:List Nat):List Str:=l.map fun c=>S [c]
theorem zKs{l:List Nat}:S [s]∈sgs l↔s∈l:=by
 unfold sgs;rw[dW];constructor
 ·rintro⟨c,h,e⟩;rw[←sg1 e rfl];exact h
 ·exact fun h=>⟨s,h,rfl⟩
section
variable{R:Fn}{t:T}
theorem vQf{bare:List Nat}(hR:R [fz t.d]=.ok (.fz (.str (S t.tx)),[.un]))(hl:t.tx.length<=80000)(hk:k<=3)(hb:∀s a b,t=.op s a b->(s∈bare↔¬lv s<k)):xD R [fz t.d,fz (.tup ((sgs bare).map .str))]=.ok (.fz (.str (S (wx (decide (t.lev<k)) t.tx))),[.un,.un]):=by
 have s1:sSet 2 (qY R [(.v (oV (oN 0)))]) [fz t.d,fz (.tup ((sgs bare).map .str)),.un]=.ok (.nx [fz t.d,fz (.tup ((sgs bare).map .str)),fz (.str (S t.tx))]):=z7 (call1 hR (by rfl)) rfl;unfold xD;by_cases z:t.isOp=true
 ·obtain⟨s,a,b,rfl⟩:∃s a b,t= .op s a b:=by cases t <;> first | exact⟨_,_,_,rfl⟩ | cases z
  generalize (T.op s a b).tx =x at *;have h2:asB (o2 niD (oIx (oN 0) (oC (.int 1))) (oN 1)) [fz (T.op s a b).d,fz (.tup ((sgs bare).map .str)),fz (.str (S x))]=.ok (decide (lv s<k),[fz (T.op s a b).d,fz (.tup ((sgs bare).map .str)),fz (.str (S x))]):=by
   have q:niD (.str (S [s])) (.tup ((sgs bare).map .str))=some (.bl (decide (lv s<k))):=by
    unfold niD;rw[show inB (.str (S [s])) (.tup ((sgs bare).map .str))=some (!decide (lv s<k)) from by
     show(toV (.str (S [s]))).bind (fun v=>(allV ((sgs bare).map D.str)).bind fun vs=>some (inV v vs))=_;rw[qJy];show some (inV (.str (S [s])) ((sgs bare).map V.str))=_;rw[qXj,show(sgs bare).contains (S [s])= !decide (lv s<k) from by
      have:=hb s a b rfl;rw[bH,List.contains_iff_mem,zKs,this];simp]]
    show some (D.bl (!(!decide (lv s<k))))=_;rw[Bool.not_not]
   show asB (o2 niD (oIx (oN 0) (oC (.int 1))) (oN 1)) [fz (tg "op" [.str (S [s]),a.d,b.d]),_,_]=_;exact vT (vP (evO_o2 (h1:=.d (.str (S [s]))) (h2:=.d (.tup ((sgs bare).map .str))) rfl rfl rfl rfl rfl q rfl) rfl) rfl rfl
  have tt:bAnd (asB (o2 eqF (oIx (oN 0) (oC (.int 0))) (oC (.str "op")))) (asB (o2 niD (oIx (oN 0) (oC (.int 1))) (oN 1))) [fz (T.op s a b).d,fz (.tup ((sgs bare).map .str)),fz (.str (S x))]=.ok (decide (lv s<k),[fz (T.op s a b).d,fz (.tup ((sgs bare).map .str)),fz (.str (S x))]):=qQz (q:=true) (zJ2 (t:=.op s a b)) h2;show fnS 2 1 _ _=Res.ok (O.fz (.str (S (wx (decide (lv s<k)) x))),_);generalize (T.op s a b).d =td at *;cases m:decide (lv s<k) with
  | true=>
    rw[m]at tt;refine vX (o:=.rt (.fz (.str (S (40::(x ++ [41]))))) [fz td,fz (.tup ((sgs bare).map .str)),fz (.str (S x))]) ?_ rfl;refine qL s1 (qM tt ?_);have f:svFS [(false,(oV (oC (.str "(")))),(true,(oV (oN 2))),(false,(oV (oC (.str ")"))))] [fz td,fz (.tup ((sgs bare).map .str)),fz (.str (S x))]=.ok (.str (S (40::(x ++ [41]))),[fz td,fz (.tup ((sgs bare).map .str)),fz (.str (S x))]):=by
     unfold svFS;exact fs_S (a:=[]) (b:=[40]) rfl (by decide +kernel) (by simp) (fs_S (b:=x) rfl rfl (by rw[aJ];simp;omega) (fs_S (b:=[41]) rfl (by decide +kernel) (by simp;omega) (vYk (by simp;omega))))
    exact qVk (zP f rfl) rfl
  | false=>
    rw[m]at tt;refine vX (o:=.rt (.fz (.str (S x))) [fz td,fz (.tup ((sgs bare).map .str)),.un]) ?_ rfl;exact qL s1 (qM tt rfl)
 ·have z:t.isOp=false:=by simpa using z
  have lv3:t.lev=3:=by cases t <;> first|rfl|cases z
  have tt:bAnd (asB (o2 eqF (oIx (oN 0) (oC (.int 0))) (oC (.str "op")))) (asB (o2 niD (oIx (oN 0) (oC (.int 1))) (oN 1))) [fz t.d,fz (.tup ((sgs bare).map .str)),fz (.str (S t.tx))]=.ok (false,[fz t.d,fz (.tup ((sgs bare).map .str)),fz (.str (S t.tx))]):=qQz zJ2 (by rw[z];rfl);rw[lv3,decide_eq_false (show¬3<k by omega)];show _=Res.ok (O.fz (.str (S t.tx)),_);generalize t.d=td at *;generalize t.tx=x at *;refine vX (o:=.rt (.fz (.str (S x))) [fz td,fz (.tup ((sgs bare).map .str)),.un]) ?_ rfl;exact qL s1 (qM tt rfl)
end
noncomputable def zZ4(s:Nat):List Nat:=if s=42 then [42] else [43,45,42]
noncomputable def zZ3(s:Nat):List Nat:=if s=42 then [] else if lv s=1 then [42] else [43,45,42]
theorem zVd:∀s∈ [43,45,42,61,60],∀q∈ [43,45,42,61,60],(q∈zZ4 s↔¬lv q<max 1 (lv s))/\(q∈zZ3 s↔¬lv q<lv s+1):=by decide
theorem qKr(b:Bool)(x:List Nat):(wx b x).length <=x.length+2:=by cases b <;> simp[wx]
theorem jWm{R:Fn}{a b:T}(hs:(T.op s a b).good)(ha:R [fz a.d]=.ok (.fz (.str (S a.tx)),[.un]))(hb:R [fz b.d]=.ok (.fz (.str (S b.tx)),[.un]))(la:a.tx.length<=20000)(lb:b.tx.length<=20000):xU R [fz (T.op s a b).d]=.ok (.fz (.str (S (T.op s a b).tx)),[.un]):=by
 obtain⟨h1,ga,gb⟩:=hs;have p1:=vQf (t:=a) (bare:=zZ4 s) (k:=max 1 (lv s)) ha (by omega) (by unfold lv;split <;> first|decide|(split <;> decide)) (fun q _ _ e=>(zVd s h1 q (by rw[e]at ga;exact ga.1)).1);have p2:=vQf (t:=b) (bare:=zZ3 s) (k:=lv s+1) hb (by omega) (by unfold lv;split <;> first|decide|(split <;> decide)) (fun q _ _ e=>(zVd s h1 q (by rw[e]at gb;exact gb.1)).2);have l1:=qKr (decide (a.lev<max 1 (lv s))) a.tx;have l2:=qKr (decide (b.lev<lv s+1)) b.tx;show xU R [fz (.tup [.str "op",.str (S [s]),a.d,b.d])]=Res.ok (O.fz (.str (S (wx (decide (a.lev<max 1 (lv s))) a.tx ++ 32::s::32::wx (decide (b.lev<lv s+1)) b.tx))),_);generalize wx (decide (a.lev<max 1 (lv s))) a.tx=A at *;generalize wx (decide (b.lev<lv s+1)) b.tx=B at *;generalize a.d=ad at *;generalize b.d=bd at *;have k1:∀x0 x2 x3:Slot,oV (oKd [("=",(.tup [(.str "+"),(.str "-"),(.str "*")])),("<",(.tup [(.str "+"),(.str "-"),(.str "*")])),("+",(.tup [(.str "+"),(.str "-"),(.str "*")])),("-",(.tup [(.str "+"),(.str "-"),(.str "*")])),("*",(.tup [(.str "*")]))] (oN 1)) [x0,fz (.str (S [s])),x2,x3]=.ok (.tup ((sgs (zZ4 s)).map .str),[x0,fz (.str (S [s])),x2,x3]):=fun _ _ _=>by
  simp only[aC,bS,or_false]at h1;rcases h1 with rfl|rfl|rfl|rfl|rfl <;> kernel_rfl
 have k2:∀x0 x2 x3:Slot,oV (oKd [("=",(.tup [(.str "+"),(.str "-"),(.str "*")])),("<",(.tup [(.str "+"),(.str "-"),(.str "*")])),("+",(.tup [(.str "*")])),("-",(.tup [(.str "*")])),("*",(.tup []))] (oN 1)) [x0,fz (.str (S [s])),x2,x3]=.ok (.tup ((sgs (zZ3 s)).map .str),[x0,fz (.str (S [s])),x2,x3]):=fun _ _ _=>by
  simp only[aC,bS,or_false]at h1;rcases h1 with rfl|rfl|rfl|rfl|rfl <;> kernel_rfl
 unfold xU;refine vX (o:=.rt (.fz (.str (S (A ++ 32::s::32::B)))) [fz (.tup [.str "op",.str (S [s]),ad,bd]),fz (.str (S [s])),fz (.str (S A)),fz (.str (S B))]) ?_ rfl;refine qL (e:=[fz (.tup [.str "op",.str (S [s]),ad,bd]),fz (.str (S [s])),.un,.un]) (by kernel_rfl) ?_
 refine qL (z7 (vVs p1 (by rfl) (k1 _ _ _)) rfl) ?_
 refine qL (z7 (vVs p2 (by rfl) (k2 _ _ _)) rfl) ?_
 refine jG (zP (d:=.str (S (A ++ 32::s::32::B))) (e:=[fz (.tup [.str "op",.str (S [s]),ad,bd]),fz (.str (S [s])),fz (.str (S A)),fz (.str (S B))]) ?_ rfl) rfl;unfold svFS;rw[show A ++ 32::s::32::B=A ++ [32] ++ [s] ++ [32] ++ B by simp];refine fs_S (a:=[]) (b:=A) rfl rfl (by simp;omega) (fs_S (b:=[32]) rfl (by decide +kernel) (by simp;omega) (fs_S (b:=[s]) rfl rfl (by simp;omega) (fs_S (b:=[32]) rfl (by decide +kernel) (by simp;omega) (fs_S (b:=B) rfl rfl (by simp;omega) (vYk (by simp;omega))))))

theorem jQi{R:Fn}{x:List Nat}(p:R [fz (.tup [.str "name",.str (S x)])]=.ok (.fz (.str (S x)),[.un]))(hl:(f ++ 40::(x ++ [41])).length <=10000):wT R [fz (.tup [.str "call",.str (S f),.tup [.tup [.str "name",.str (S x)]]])]=.ok (.fz (.str (S (f ++ 40::(x ++ [41])))),[.un]):=by
 have l0:=hl;simp only[aJ,aZ,List.length_nil]at l0;have c1:wW R [fz (.tup [.tup [.str "name",.str (S x)]])]=.ok (.fz (.str (S x)),[.un]):=by
  have cc:qY R [(.v (oV (oN 0)))] [fz (.tup [.str "name",.str (S x)])]=.ok (.fz (.str (S x)),[fz (.tup [.str "name",.str (S x)])]):=call1 p (by rfl);have cm:fzS (compS 1 [] [0] (iV (oV (oN 0))) (gN 0) bTrue (fzS (qY R [(.v (oV (oN 0)))]))) [fz (.tup [.tup [.str "name",.str (S x)]])]=.ok (.nd .lst [.str (S x)],[fz (.tup [.tup [.str "name",.str (S x)]])]):=by
   have c:qQ9 (gN 0) bTrue (fzS (qY R [(.v (oV (oN 0)))])) [.tup [.str "name",.str (S x)]] (.un :: [])=.ok ([.str (S x)],[fz (.tup [.str "name",.str (S x)])]):=by
    show((fzS (qY R [(.v (oV (oN 0)))]) [fz (.tup [.str "name",.str (S x)])]).ne.bind fun v=>(qQ9 (gN 0) bTrue (fzS (qY R [(.v (oV (oN 0)))])) [] v.2).bind fun q=>.ok (v.1::q.1,q.2))=_;rw[vL cc rfl];rfl
   exact qJw (ds:=[.tup [.str "name",.str (S x)]]) (e:=[fz (.tup [.tup [.str "name",.str (S x)]])]) (vKy (by rfl) rfl rfl) rfl c rfl
  unfold wW;refine vX (jG (zP (vP (qW4 (hs:=[.d (.nd .lst [.str (S x)])]) (xs:=[.nd .lst [.str (S x)]]) (j6 (v8 cm rfl) rfl rfl rfl) rfl (z:=.str (S x)) ?_ rfl) rfl) rfl) rfl) rfl;show jnS ", " [S x]=_;unfold jnS;have e2:Builtin.Str.tooLong (([S x]:List Str).toArray.foldl (· + ·.length+(Str.ofString ", ").length) 0)=false:=by
   refine decide_eq_false ?_
   show¬_<0+(S x).length+2;rw[xV];have:=qXy;omega
  rw[e2,show decide ((Str.join (Str.ofString ", ") [S x]).length <=aD)=true from decide_eq_true (by show(S x).length <=_;rw[xV];exact aG (show x.length<=100000 by omega) qXy)];rfl
 unfold wT;generalize hd0:D.tup [.tup [.str "name",.str (S x)]]=d0 at *;refine vX (o:=.rt (.fz (.str (S (f ++ 40::(x ++ [41]))))) [fz (.tup [.str "call",.str (S f),d0]),fz (.str "call"),fz (.str (S x)),fz (.str (S f))]) ?_ rfl;refine qL (e:=[fz (.tup [.str "call",.str (S f),d0]),fz (.str "call"),.un,.un]) (by kernel_rfl) ?_
 refine qL (e:=[fz (.tup [.str "call",.str (S f),d0]),fz (.str "call"),.un,.un]) (by kernel_rfl) ?_
 refine qL (e:=[fz (.tup [.str "call",.str (S f),d0]),fz (.str "call"),.un,.un]) (by kernel_rfl) ?_
 refine qL (e:=[fz (.tup [.str "call",.str (S f),d0]),fz (.str "call"),.un,.un]) (by kernel_rfl) ?_
 refine qL (e:=[fz (.tup [.str "call",.str (S f),d0]),fz (.str "call"),.un,fz (.str (S f))]) (by kernel_rfl) ?_
 refine qL (z7 (call1 c1 (by rfl)) rfl) ?_
 refine jG (zP (d:=.str (S (f ++ 40::(x ++ [41])))) (e:=[fz (.tup [.str "call",.str (S f),d0]),fz (.str "call"),fz (.str (S x)),fz (.str (S f))]) ?_ rfl) rfl;unfold svFS;rw[show f ++ 40::(x ++ [41])=f ++ [40] ++ x ++ [41] by simp];exact fs_S (a:=[]) (b:=f) rfl rfl (by simp;omega) (fs_S (b:=[40]) rfl (by decide +kernel) (by simp;omega) (fs_S (b:=x) rfl rfl (by simp;omega) (fs_S (b:=[41]) rfl (by decide +kernel) (by simp;omega) (vYk (by simp;omega)))))
theorem vWw:∀(h:Nat) (t:T),t.nb<h->t.good->t.tx.length<=10000->vZ h [fz t.d]=.ok (.fz (.str (S t.tx)),[.un])
 | 0,t,hh,_,_=>absurd hh (Nat.not_lt_zero _)
 | h + 1,t,hh,ok,hl=>by
   have ih:=vWw h;cases t with
   | num n=>
     show vZ (h+1) [fz (.tup [.str "num",.int (n:Int)])]=Res.ok (O.fz (.str (S (dg n))),_);refine vX (o:=.rt (.fz (.str (S (dg n)))) [fz (.tup [.str "num",.int (n:Int)]),fz (.str "num"),.un,.un,.un,.un]) ?_ rfl;refine qL (e:=[fz (.tup [.str "num",.int (n:Int)]),fz (.str "num"),.un,.un,.un,.un]) (by kernel_rfl) ?_
     refine qM (q:=true) (e:=[fz (.tup [.str "num",.int (n:Int)]),fz (.str "num"),.un,.un,.un,.un]) (by kernel_rfl) ?_
     exact qVk (zP (vP (qW4 (hs:=[.d (.int (n:Int))]) (xs:=[.int (n:Int)]) (j6 (by rfl) rfl rfl rfl) rfl (zYj ok) rfl) rfl) rfl) rfl
   | name x=>
     show vZ (h+1) [fz (.tup [.str "name",.str (S x)])]=Res.ok (O.fz (.str (S x)),_);kernel_rfl
   | call f x=>
     have hh:1<h+1:=hh;obtain⟨h,rfl⟩:∃m,h=m+1:=⟨h - 1,by omega⟩
     have p:vZ (h+1) [fz (.tup [.str "name",.str (S x)])]=.ok (.fz (.str (S x)),[.un]):=by kernel_rfl
     have c2:=jQi (f:=f) p hl;show vZ (h+1+1) [fz (.tup [.str "call",.str (S f),.tup [.tup [.str "name",.str (S x)]]])]=Res.ok (O.fz (.str (S (f ++ 40::(x ++ [41])))),_);generalize S (f ++ 40::(x ++ [41]))=X at *;generalize D.tup [.tup [.str "name",.str (S x)]]=d0 at *;refine vX (o:=.rt (.fz (.str X)) [fz (.tup [.str "call",.str (S f),d0]),fz (.str "call"),.un,.un,.un,.un]) ?_ rfl;iterate 7 refine qL (e:=[fz (.tup [.str "call",.str (S f),d0]),fz (.str "call"),.un,.un,.un,.un]) (by kernel_rfl) ?_
     exact jG (call1 c2 (by rfl)) rfl
   | op s a b=>
     have hh:1+max a.nb b.nb<h+1:=hh;have l0:(wx (decide (a.lev<max 1 (lv s))) a.tx ++ 32::s::32::wx (decide (b.lev<lv s+1)) b.tx).length <=10000:=hl;have wl:∀(b:Bool) (x:List Nat),x.length<=(wx b x).length :=fun b x=>by cases b <;> simp[wx] <;> omega
     have w1:=wl (decide (a.lev<max 1 (lv s))) a.tx;have w2:=wl (decide (b.lev<lv s+1)) b.tx;rw[aJ,aZ,aZ,aZ]at l0;have c:=jWm (R:=vZ h) ok (ih a (by omega) ok.2.1 (by omega)) (ih b (by omega) ok.2.2 (by omega)) (by omega) (by omega);generalize (T.op s a b).tx =X at *;have c:xU (vZ h) [fz (.tup [.str "op",.str (S [s]),a.d,b.d])]=.ok (.fz (.str (S X)),[.un]):=c;show vZ (h+1) [fz (.tup [.str "op",.str (S [s]),a.d,b.d])]=_;refine vX (o:=.rt (.fz (.str (S X))) [fz (.tup [.str "op",.str (S [s]),a.d,b.d]),fz (.str "op"),.un,.un,.un,.un]) ?_ rfl;refine qL (e:=[fz (.tup [.str "op",.str (S [s]),a.d,b.d]),fz (.str "op"),.un,.un,.un,.un]) (by kernel_rfl) ?_
     refine qL (e:=[fz (.tup [.str "op",.str (S [s]),a.d,b.d]),fz (.str "op"),.un,.un,.un,.un]) (by kernel_rfl) ?_
     refine qL (e:=[fz (.tup [.str "op",.str (S [s]),a.d,b.d]),fz (.str "op"),.un,.un,.un,.un]) (by kernel_rfl) ?_
     refine qM (q:=true) (e:=[fz (.tup [.str "op",.str (S [s]),a.d,b.d]),fz (.str "op"),.un,.un,.un,.un]) (by kernel_rfl) ?_
     exact qVk (call1 c (by rfl)) rfl
   | fld a x=>
     have hh:1+a.nb<h+1:=hh;have l0:(wx (decide (a.lev<3)) a.tx ++ 46::x).length <=10000:=hl;have w1:a.tx.length<=(wx (decide (a.lev<3)) a.tx).length :=by cases decide (a.lev<3) <;> simp[wx] <;> omega
     rw[aJ,aZ]at l0;have p:=vQf (R:=vZ h) (t:=a) (bare:=[]) (k:=3) (ih a (by omega) ok.1 (by omega)) (by omega) (by decide) (fun s _ _ e=>⟨fun m=>(by cases m),fun m=>(m (by
      have:∀s∈ [43,45,42,61,60],lv s<3:=by decide
      have k:=ok.1;rw[e]at k;exact this s k.1)).elim⟩)
     show vZ (h+1) [fz (.tup [.str "field",a.d,.str (S x)])]=Res.ok (O.fz (.str (S (wx (decide (a.lev<3)) a.tx ++ 46::x))),_);generalize wx (decide (a.lev<3)) a.tx=A at *;rw[show A ++ 46::x=A ++ [46] ++ x by simp];refine vX (o:=.rt (.fz (.str (S (A ++ [46] ++ x)))) [fz (.tup [.str "field",a.d,.str (S x)]),fz (.str "field"),.un,.un,.un,.un]) ?_ rfl;refine qL (e:=[fz (.tup [.str "field",a.d,.str (S x)]),fz (.str "field"),.un,.un,.un,.un]) (by kernel_rfl) ?_
     refine qL (e:=[fz (.tup [.str "field",a.d,.str (S x)]),fz (.str "field"),.un,.un,.un,.un]) (by kernel_rfl) ?_
     refine qL (e:=[fz (.tup [.str "field",a.d,.str (S x)]),fz (.str "field"),.un,.un,.un,.un]) (by kernel_rfl) ?_
     refine qL (e:=[fz (.tup [.str "field",a.d,.str (S x)]),fz (.str "field"),.un,.un,.un,.un]) (by kernel_rfl) ?_
     refine qM (q:=true) (e:=[fz (.tup [.str "field",a.d,.str (S x)]),fz (.str "field"),.un,.un,.un,.un]) (by kernel_rfl) ?_
     exact qVk (zP (vP (aS (aS (a:=A) (b:=[46]) (v8 (vL (vVs p (by rfl) (by rfl)) rfl) rfl) (by rw[show S [46]="." by decide +kernel];rfl) (by simp;omega)) (b:=x) (by rfl) (by simp;omega)) rfl) rfl) rfl

theorem zX6{d:D}{n:Int}{e:Ev}(hd0:jJ h [fz d]=.ok (.fz (.int n),[.un])){x:D}{m:Int}{y:Slot}:qJz (jJ h) [fz x,sN m,fz d]=.ok (.nx [fz x,sN (mx m n),fz d]):=by
 unfold qJz;refine z7 (zP (d:=.int (mx m n)) (e:=[fz x,sN m,fz d]) (vP (qW4 (hs:=[.d (.int m),.d (.int n)]) (xs:=[.int m,.int n]) (j6 rfl rfl (j6 (v8 (vL (call1 hd0 rfl) rfl) rfl) rfl rfl rfl) rfl) rfl rfl rfl) rfl) rfl) rfl
theorem qX2{d:D}(hp:qQc [fz d]=.ok (.ow .lst (ds.map .fz),[.un]))(hs:∀x∈ds,∃m:Nat,m<=h/\∀k,h<=k->jJ k [fz x]=.ok (.fz (.int (m:Nat)),[.un])):∃m:Nat,m<=h+1/\∀k,h+1<=k->jJ k [fz d]=.ok (.fz (.int (m:Nat)),[.un]):=by
 have lp:∀(ds:List D) (m:Nat),m<=h->(∀x∈ds,∃m:Nat,m<=h/\∀k,h<=k->jJ k [fz x]=.ok (.fz (.int (m:Nat)),[.un]))->∃m2:Nat,m2<=h/\∀k,h<=k->∀y,∃y',forS (gN 2) (qJz (jJ k)) ds [fz d,sN (m:Nat),y]=.ok (.nx [fz d,sN (m2:Nat),y']):=by
  intro ds;induction ds with
  |nil=>exact fun m hm _=>⟨m,hm,fun k _ y=>⟨y,rfl⟩⟩
  | cons x ds ih=>
    intro m hm hs;obtain⟨n,hn,hx⟩:=hs x (aM ..);have e0:mx (m:Int) (n:Int)=((max m n:Nat):Int):=by unfold mx;split <;> omega
    obtain⟨m2,h2,q⟩:=ih (max m n) (by omega) fun z hz=>hs z (aI _ hz)
    refine⟨m2,h2,fun k hk y=>?_⟩;obtain⟨y',q⟩:=q k hk (fz x);exact⟨y',jP (e1:=[fz d,sN (m:Nat),fz x]) rfl (by rw[zX6 (e:=[]) (y:=y) (hx k hk),e0]) q⟩
 obtain⟨m,hm,q⟩:=lp ds 0 (cJ _) hs;refine⟨m+1,by omega,fun k hk=>?_⟩;obtain⟨k,rfl⟩:∃j,k=j+1:=⟨k - 1,by omega⟩
 obtain⟨y',q⟩:=q k (by omega) .un;have it:iV (fzS (qY qQc [(.v (oV (oN 0)))])) [fz d,sN 0,.un]=.ok (ds,[fz d,sN 0,.un]):=by
  have c:qY qQc [(.v (oV (oN 0)))] [fz d,sN 0,.un]=.ok (.ow .lst (ds.map .fz),[fz d,sN 0,.un]):=zW (xI (by rfl) (qKf rfl) rfl) (xM (t0:=([],[fz d,sN 0,.un])) (t:=([],[fz d,sN 0,.un])) rfl rfl rfl hp rfl rfl rfl);refine vKy (vL c rfl) ?_ rfl;show some (fzOs (ds.map .fz))=_;rw[xF]
 show fnS 1 2 _ _=_;exact vX (qI (o:=.fz (.int 0)) (e:=[fz d,.un,.un]) rfl (qL (qQx it q) rfl)) rfl
theorem jJs{d:D}(h:Gd n d):∃m:Nat,m<=n/\∀k,n<=k->jJ k [fz d]=.ok (.fz (.int (m:Nat)),[.un]):=by
 induction h with
 |num n=>exact qX2 (ds:=[]) (by kernel_rfl) (fun x hx=>by cases hx)
 |name w=>exact qX2 (ds:=[]) (by kernel_rfl) (fun x hx=>by cases hx)
 |call0 w=>exact qX2 (ds:=[]) (by kernel_rfl) (fun x hx=>by cases hx)
 |@call1 k w d _ ih=>exact qX2 (ds:=[d]) (by kernel_rfl) (fun x hx=>by cases bG.mp hx;exact ih)
 | @op k s a b _ _ ia ib=>exact qX2 (ds:=[a,b]) (by kernel_rfl) (fun x hx=>by
   simp only[aC,bS,or_false]at hx;rcases hx with rfl|rfl
   ·exact ia
   ·exact ib)
 |@fld k w a _ ia=>exact qX2 (ds:=[a]) (by kernel_rfl) (fun x hx=>by cases bG.mp hx;exact ia)
theorem zQ3{d:D}(h:Gd n d)(hn:n<=62):∃m:Nat,m<=n/\depD d=some (m:Int):=by
 obtain⟨m,h1,h2⟩:=jJs h;refine⟨m,h1,?_⟩;unfold depD;rw[h2 62 hn]
theorem gd_of:∀t:T,Gd (t.nb+1) t.d
 |.num n=>.num _
 |.name w=>.name _
 |.call f x=>.call1 _ (.name _)
 |.op s a b=>.op _ ((gd_of a).mono (by show _<=1+max a.nb b.nb;omega)) ((gd_of b).mono (by show _<=1+max a.nb b.nb;omega))
 |.fld a w=>.fld _ ((gd_of a).mono (by show _<=1+a.nb;omega))
inductive Pl:Nat->D->Prop
 |int {k:Nat} (n:Int):Pl k (.int n)
 |str {k:Nat} (s:Str):Pl k (.str s)
 |tup {k:Nat} {ds:List D} (h:∀d∈ds,Pl k d):Pl (k+1) (.tup ds)
theorem all2_ok{f:D->D->Option Bool}:∀{xs ys:List D},(∀x∈xs,∀y∈ys,∃b,f x y=some b/\(b=true↔x=y))->∃b,all2 f xs ys=some b/\(b=true↔xs=ys)
 |[],[],_=>⟨true,rfl,by simp⟩
 |[],_::_,_=>⟨false,rfl,by simp⟩
 |_::_,[],_=>⟨false,rfl,by simp⟩
 | x::xs,y::ys,h=>by
   obtain⟨b,h1,h2⟩:=h x (aM ..) y (aM ..);obtain⟨c,h3,h4⟩:=all2_ok (f:=f) (xs:=xs) (ys:=ys) fun u hu v hv=>h u (aI _ hu) v (aI _ hv)
   refine⟨b && c,?_,?_⟩
   ·show(f x y).bind _=_;rw[h1];show(all2 f xs ys).bind _=_;rw[h3];rfl
   ·rw[aE,h2,h4,bC]
theorem deq_ok:∀(k:Nat) {j:Nat} {x y:D},Pl j x->Pl k y->∃b,deq (k+1) x y=some b/\(b=true↔x=y):=by
 intro k;induction k with
 | zero=>
   intro j x y hx hy;cases hx <;> cases hy <;> refine⟨_,rfl,?_⟩ <;> simp
 | succ k ih=>
   intro j x y hx hy;cases hx with
   |int n=>cases hy <;> refine⟨_,rfl,?_⟩ <;> simp
   |str s=>cases hy <;> refine⟨_,rfl,?_⟩ <;> simp
   | tup h=>
     cases hy with
     |int n=>refine⟨_,rfl,?_⟩;simp
     |str n=>refine⟨_,rfl,?_⟩;simp
     | tup g=>
       rename_i ds es;obtain⟨b,h1,h2⟩:=all2_ok (f:=deq (k+1)) (xs:=ds) (ys:=es) fun u hu v hv=>ih (h u hu) (g v hv)
       exact⟨b,h1,by rw[h2];simp⟩
theorem Pl.up{d:D}(h:Pl k d):∀{m:Nat},k<=m->Pl m d:=by
 induction h with
 |int n=>exact fun _=>.int n
 |str s=>exact fun _=>.str s
 |tup _ ih=>intro m hm;obtain⟨m,rfl⟩:∃j,m=j+1:=⟨m - 1,by omega⟩;exact .tup fun d hd=>ih d hd (by omega)
theorem jQz{d:D}(h:Gd n d):Pl (2 * n) d:=by
 have c:∀{k:Nat} {ds:List D},(∀d∈ds,Pl k d)->∀s:Str,∀d∈D.str s::ds,Pl k d:=fun h s d hd=>by
  rcases aC.mp hd with rfl|hd
  ·exact .str s
  ·exact h d hd
 have o:∀{k:Nat} {x:D},Pl k x->∀d∈ [x],Pl k d:=fun h d hd=>by cases bG.mp hd;exact h
 induction h with
 |@num k n=>exact(Pl.tup (k:=2 * k+1) (c (o (.int n)) _)).up (by omega)
 |@name k w=>exact(Pl.tup (k:=2 * k+1) (c (o (.str w)) _)).up (by omega)
 |@call0 k w=>exact(Pl.tup (k:=2 * k+1) (c (c (o (.tup fun _ h=>(by cases h))) _) _)).up (by omega)
 |@call1 k w d h ih=>exact(Pl.tup (k:=2 * k+1) (c (c (o (.tup (o ih))) _) _)).up (by omega)
 | @op k s a b _ _ ia ib=>exact(Pl.tup (k:=2 * k + 1) (c (c (fun d hd=>by
   simp only[aC,bS,or_false]at hd;rcases hd with rfl|rfl
   ·exact ia.up (by omega)
   ·exact ib.up (by omega)) _) _)).up (by omega)
 | @fld k w a _ ia=>exact(Pl.tup (k:=2 * k + 1) (c (fun d hd=>by
   simp only[aC,bS,or_false]at hd;rcases hd with rfl|rfl
   ·exact ia.up (by omega)
   ·exact .str _) _)).up (by omega)
theorem neq_ok{x:D}(hx:Gd n x)(ht:t.nb<=12):∃b,neQ (.nd .lst [tg "ask" [x]]) (.nd .lst [tg "ask" [t.d]])=some (.bl b)/\(b=false↔x=t.d):=by
 obtain⟨b,h1,h2⟩:=deq_ok 28 (j:=2 * n+1) (x:=tg "ask" [x]) (y:=tg "ask" [t.d]) (.tup fun d hd=>by
  simp only[aC,bS,or_false]at hd;rcases hd with rfl|rfl
  ·exact .str _
  ·exact jQz hx) (.tup fun d hd=>by
  simp only[aC,bS,or_false]at hd;rcases hd with rfl|rfl
  ·exact .str _
  ·exact(jQz (gd_of t)).up (by omega))
 refine⟨!b,?_,?_⟩
 ·show(all2 (deq 29) [tg "ask" [x]] [tg "ask" [t.d]]).map _=_;show((deq 29 (tg "ask" [x]) (tg "ask" [t.d])).bind fun a=>(all2 (deq 29) [] []).bind fun b=>some (a && b)).map _=_;rw[h1];show some (D.bl (!(b && true)))=_;rw[Bool.and_true]
 ·rw[Bool.not_eq_false',h2];simp
theorem qWg(s:Int×Int)(w:Str):mbS s w=(s.1+brk w,mx s.2 (s.1+brk w)):=by
 unfold mbS brk;cases [("(":Str),"{"].contains w with
 |true=>rfl
 | false=>cases [(")":Str),"}"].contains w with
   |true=>rfl
   |false=>show(s.1,mx s.2 s.1)=(s.1+0,mx s.2 (s.1+0));rw[cH]
theorem vWf(a b:Int):a<=mx a b/\b<=mx a b/\(mx a b=a\/mx a b=b):=by unfold mx;split <;> omega
theorem jVb:∀(ws:List Str) (s:Int×Int),s.2<=(ws.foldl mbS s).2
 |[],_=>Int.le_refl _
 | w::ws,s=>by
   have:=jVb ws (mbS s w);rw[qWg]at this;have:=(vWf s.2 (s.1+brk w)).1;rw[List.foldl_cons,qWg];dsimp only at *;omega
theorem jVc:∀(ws:List Str) (a m:Int),(ws.foldl mbS (a,m)).2<=10->a<=10->Dp a ws
 | [],a,_,_,h=>fun p q e=>by
   rw[(List.append_eq_nil_iff.mp e.symm).1,show net []=0 from rfl];omega
 | w::ws,a,m,h,ha=>fun p q e=>by
   rw[List.foldl_cons,qWg]at h;have h1:=jVb ws (a+brk w,mx m (a+brk w));have h2:=vWf m (a+brk w);dsimp only at h h1;have ih:=jVc ws (a+brk w) _ h (by omega);cases p with
   |nil=>rw[show net []=0 from rfl];omega
   | cons v p=>
     rw[aA,bC]at e;have:=ih p q e.2;rw[e.1,y8]at *;omega
noncomputable def Mb(k:Nat)(ws:List Str):Prop:=∀a m:Int,a<=m->∃m2,ws.foldl mbS (a,m)=(a,m2)/\m<=m2/\(m2<=m\/m2<=a+(k:Nat))
theorem vYh(h:Mb k u)(g:Mb k v):Mb k (u ++ v):=fun a m l=>by
 obtain⟨m1,e1,h1,h2⟩:=h a m l;obtain⟨m2,e2,h3,h4⟩:=g a m1 (by omega);exact⟨m2,by rw[List.foldl_append,e1,e2],by omega,by omega⟩
theorem qKy{w:Str}(h:brk w=0):Mb k [w]:=fun a m l=>by
 have:=vWf m a;exact⟨mx m a,by show mbS (a,m) w=_;rw[qWg,h,cH],by omega,by omega⟩
theorem mb_cons{w:Str}(h:brk w=0)(g:Mb k v):Mb k (w::v):=vYh (qKy h) g
theorem jVd(h:Mb k u):Mb (k+1) (S [40]::(u ++ [S [41]])):=fun a m l=>by
 have b1:brk (S [40])=1:=by decide +kernel
 have b2:brk (S [41])= -1:=by decide +kernel
 have q1:=vWf m (a+1);obtain⟨m1,e1,h1,h2⟩:=h (a+1) (mx m (a+1)) (by omega);have q2:=vWf m1 (a+1 + -1);refine⟨mx m1 (a+1 + -1),?_,by omega,by omega⟩;rw[List.foldl_cons,qWg,b1,List.foldl_append,e1];show mbS (a+1,m1) (S [41])=_;rw[qWg,b2];show(a+1 + -1,_)=_;rw[show a+1 + -1=a by omega]
theorem vZv(h:Mb k u)(l:k<=j):Mb j u:=fun a m q=>by
 obtain⟨m2,e,h1,h2⟩:=h a m q;exact⟨m2,e,h1,by omega⟩
theorem zZy(h:Mb k u)(b:Bool):Mb (k+1) (wr b u):=by
 cases b with
 |true=>exact jVd h
 |false=>exact vZv h (Nat.le_succ _)
theorem vZw:∀{t:T},t.good->Mb t.nb t.body
 |.num n,h=>qKy (zVb (zJs h).1)
 |.name w,h=>qKy (y9 h)
 |.call f x,h=>mb_cons (y9 h.1) (jVd (qKy (y9 h.2)))
 | .op s a b,h=>by
   have hs:brk (S [s])=0:=by
    have:∀s∈ [43,45,42,61,60],brk (S [s])=0:=by decide +kernel
    exact this s h.1
   exact vYh (vZv (zZy (vZw h.2.1) _) (by show a.nb+1<=1+max a.nb b.nb;omega)) (mb_cons hs (vZv (zZy (vZw h.2.2) _) (by show b.nb+1<=1+max a.nb b.nb;omega)))
 |.fld a w,h=>vYh (vZv (zZy (vZw h.1) _) (by show a.nb+1<=1+a.nb;omega)) (mb_cons (by decide +kernel) (qKy (y9 h.2)))

noncomputable def okC(c:Nat):Bool:=decide (c<128) &&!([10,123,44,102,105,112,114].contains c)
theorem jZ2{c:Nat}(h:okC c=true):c<128/\c≠10/\c≠123/\c≠44/\c≠102/\c≠105/\c≠112/\c≠114:=by
 unfold okC at h;simp at h;exact h
theorem vV4:∀(n:Nat) (R:List Nat),R.length<=n->∀w∈parts R,∀c∈w,c∈R
 |n,[],_,w,h=>by rw[yF]at h;cases h
 | 0,c::R,hn,w,h=>by simp at hn
 | n + 1,c::R,hn,w,h=>fun x hx=>by
   rw[vF]at h;have hp:=jQ c R;rcases cV.mp h with z|z
   ·by_cases h32:c=32
    ·rw[if_pos h32]at z;cases z
    ·rw [if_neg h32] at z;cases bG.mp z;exact List.mem_of_mem_take hx
   ·have:=vV4 n ((c::R).drop (qF (c::R))) (by rw [bP];rw [aZ] at *;omega) w z x hx;exact List.mem_of_mem_drop this
theorem zW7(X:List Nat):wL (32::X)=wL X:=by
 cases X with
 |nil=>decide +kernel
 | cons c Y=>
   by_cases h:qD c=3
   ·rw [show c=32 from(qVp c).mp h];show(parts (32::32::Y)).map S=(parts (32::Y)).map S;rw[vF,if_pos rfl,qO,if_neg (by decide),vF 32 Y,if_pos rfl,qO,if_neg (by decide),show qD 32=3 from by decide,zQ,if_pos (by decide)];rfl
   ·exact vJe h
noncomputable abbrev ask(X:List Nat):List Nat:=97::115::107::32::X
theorem vJn(X:List Nat):wL (ask X)=("ask":Str)::wL X:=by
 have:=qXz (k:=0) (w:=[97,115,107]) (r:=32::X) (by simp) (by decide) (.inl rfl) qJq;show wL ([97,115,107] ++ 32::X)=_;rw[this,zW7,show S [97,115,107]="ask" by decide +kernel]
theorem jXi{X:List Nat}(h:∀c∈X,okC c=true)(hn:(wL X).length <=90):Al (wL X):=by
 refine⟨hn,fun w hw=>?_⟩;obtain⟨l,hl,rfl⟩:=dW.mp hw;have k:∀c∈l,okC c=true:=fun c hc=>h c (vV4 X.length X (aP _) l hl c hc)
 have ne:∀(x:Str) (c:Nat),c∈x.cps.toList->okC c=false->S l≠x:=fun x c hc ho q=>by
  have:c∈l:=by have e:=congrArg (fun s:Str=>s.cps.toList) q;rw[show l=x.cps.toList from e];exact hc
  rw[k c this]at ho;cases ho
 refine⟨ne "{" 123 (by decide +kernel) (by decide),ne "," 44 (by decide +kernel) (by decide),?_⟩;have n1:=ne "flip" 102 (by decide +kernel) (by decide);have n2:=ne "pick" 112 (by decide +kernel) (by decide);have n3:=ne "if" 105 (by decide +kernel) (by decide);have n4:=ne "rest" 114 (by decide +kernel) (by decide);unfold jZ;simp[n1,n2,n3,n4]
theorem vWy{R:List Nat}(hl:R.length<=1000)(hc:∀c∈R,c<128/\c≠10):match qZa (([R]:List (List Nat)).length :Int) 0 [] [R] with
  |.ok ds=>jI [sS (S R)]=.ok (.ow .lst (ds.map .fz),[.un])
  |.er n=>jI [sS (S R)]=er n
  |.no =>True:=
 zYs (rows:=[R]) (by simp) (fun r hr=>by rw[bG.mp hr];exact fun z=>(hc 10 z).2 rfl) (fun r hr=>by rw[bG.mp hr];exact⟨hl,fun c h=>(hc c h).1⟩) (by simp) (by show R.length<=_;omega)
theorem zJq{R:List Nat}{x:D}(hl:R.length<=1000)(hc:∀c∈R,c<128/\c≠10)(h:rowW (wL R)=.ok (tg "ask" [x]) []):jI [sS (S R)]=.ok (.ow .lst [.fz (tg "ask" [x])],[.un]):=by
 have:=vWy hl hc;rw[show qZa (([R]:List (List Nat)).length :Int) 0 [] [R]=.ok [tg "ask" [x]] by unfold qZa;rw[h];rfl]at this;exact this
theorem vZs{R:List Nat}(hl:R.length<=1000)(hc:∀c∈R,c<128/\c≠10)(h:rowW (wL R)=.er):jI [sS (S R)]=er 0:=by
 have:=vWy hl hc;rw[show qZa (([R]:List (List Nat)).length :Int) 0 [] [R]=.er 0 by unfold qZa;rw[h];rfl]at this;exact this
theorem qKo{X:List Nat}(h:∀c∈X,okC c=true):∀c∈ask X,c<128/\c≠10:=fun c hc=>by
 rcases aC.mp hc with rfl|hc
 ·decide
 rcases aC.mp hc with rfl|hc
 ·decide
 rcases aC.mp hc with rfl|hc
 ·decide
 rcases aC.mp hc with rfl|hc
 ·decide
 have:=jZ2 (h c hc);exact⟨this.1,this.2.1⟩
theorem vVu(ws:List Str):pWords (("ask":Str)::ws)=(zJ 12 ws).bind fun t r=>.ok (tg "ask" [t]) r:=by
 unfold pWords;rw[show hd (("ask":Str)::ws)="ask" from rfl,show decide (("ask":Str)="def")=false by decide +kernel,show decide (("ask":Str)="let")=false by decide +kernel,show decide (("ask":Str)="again")=false by decide +kernel,show [("see":Str),"ask"].contains ("ask":Str)=true by decide +kernel];rfl
theorem zWt(hg:t.good)(hc:∀c∈t.tx,okC c=true)(hn:t.nb<=9)(hw:t.body.length<=59)(hl:t.tx.length<=990):jI [sS (S (ask t.tx))]=.ok (.ow .lst [.fz (tg "ask" [t.d])],[.un]):=by
 refine zJq (by show t.tx.length+4<=1000;omega) (qKo hc) ?_
 have hw' :wL t.tx=t.body:=by
  have:=tx_w hg [] (fun c e=>by cases e);rw[bU]at this;rw[this];exact bU _
 rw[vJn,hw'];unfold rowW;have m:mb (("ask":Str)::t.body)<=10:=by
  obtain⟨m2,e,_,h2⟩:=mb_cons (k:=t.nb) (w:="ask") (by decide +kernel) (vZw hg) 0 0 (Int.le_refl _);unfold mb;rw[e];dsimp only;omega
 have p:=(jXh hg (by omega)).1 11 [] (by omega) (by decide +kernel) (by decide +kernel) (by decide +kernel) (by decide +kernel) (by decide +kernel);rw[bU]at p;obtain⟨n,h1,h2⟩:=zQ3 (gd_of t) (by omega);rw[decide_eq_false (show¬(((("ask":Str)::t.body).length :Int) > 60) by rw[aZ];omega),decide_eq_false (show¬(mb (("ask":Str)::t.body) > 10) by omega),vVu,p];show cond (!decide (hd []="")) _ (match depD t.d with
  |some n=>cond (decide (n > 10)) Pr.er (Pr.ok (tg "ask" [t.d]) [])
  |none=>.no)=_
 rw[h2,show decide (hd []="")=true by decide +kernel];dsimp only;rw[decide_eq_false (by omega)];rfl
theorem zWu{X:List Nat}(hc:∀c∈X,okC c=true)(hl:X.length<=990):jI [sS (S (ask X))]=er 0\/∃x n,jI [sS (S (ask X))]=.ok (.ow .lst [.fz (tg "ask" [x])],[.un])/\Gd n x/\∀t:T,t.d=x->t.body.length<=(wL X).length :=by
 have hl1:(ask X).length <=1000:=by show X.length+4<=1000;omega
 by_cases h1:((((("ask":Str)::wL X).length :Int) > 60))\/mb (("ask":Str)::wL X) > 10
 ·left;refine vZs hl1 (qKo hc) ?_
  rw[vJn];unfold rowW;rw[show(decide (((("ask":Str)::wL X).length :Int) > 60) || decide (mb (("ask":Str)::wL X) > 10))=true by
   rw[Bool.or_eq_true,decide_eq_true_eq,decide_eq_true_eq];exact h1]
  rfl
 ·have h60:((("ask":Str)::wL X).length :Int)<=60:=by omega
  have hm:mb (("ask":Str)::wL X)<=10:=by omega
  rw[aZ]at h60;have hmb:(wL X).foldl mbS (0,0)=(("ask":Str)::wL X).foldl mbS (0,0):=by
   rw[List.foldl_cons,qWg,show brk ("ask":Str)=0 by decide +kernel];rfl
  have dp:Dp 0 (wL X):=jVc (wL X) 0 0 (by rw[hmb];exact hm) (by decide);have ok:=vK7 12 0 (wL X) dp (jXi hc (by omega)) (by decide);have e0:rowW (wL (ask X))=(match(zJ 12 (wL X)).bind fun t r=>.ok (tg "ask" [t]) r with
   | .ok d r=>cond (!decide (hd r="")) .er (match depD (qYp d) with
     |some n=>cond (decide (n > 10)) .er (.ok d [])
     |none=>.no)
   |.er =>.er
   |.no =>.no):=by
   rw[vJn];unfold rowW;rw[decide_eq_false (show¬(((("ask":Str)::wL X).length :Int) > 60) by rw[aZ];omega),decide_eq_false (show¬(mb (("ask":Str)::wL X) > 10) by omega),vVu];rfl
  cases e1:zJ 12 (wL X) with
  |er=>rw[e1]at e0;exact .inl (vZs hl1 (qKo hc) e0)
  |no=>rw[e1]at ok;exact ok.elim
  | ok x r=>
    rw[e1]at ok e0;obtain⟨p,ep,_,ph⟩:=ok;have pl:p.length<=(wL X).length :=by rw[ep,aJ];omega
    cases e2:decide (hd r="") with
    |false=>dsimp only[Pr.bind]at e0;rw[e2]at e0;exact .inl (vZs hl1 (qKo hc) e0)
    | true=>
      obtain⟨m,h1,h2⟩:=zQ3 ph.2 (by omega);dsimp only[Pr.bind]at e0;rw[e2,show qYp (tg "ask" [x])=x from rfl,h2]at e0;by_cases z:m > 10
      ·dsimp only at e0;rw[decide_eq_true (show(m:Int) > 10 by omega)]at e0;exact .inl (vZs hl1 (qKo hc) e0)
      ·dsimp only at e0;rw[decide_eq_false (show¬(m:Int) > 10 by omega)]at e0;exact .inr ⟨x,_,zJq hl1 (qKo hc) e0,ph.2,fun t ht=>by have:=ph.1 t ht;rw[vKq]at this;omega⟩

theorem zWs(k:Nat)(hk:k≠2):∀V:List Nat,(parts (V.drop (v7 k V))).length <=(parts V).length
 |[]=>aP _
 | c::V=>by
   rw[zQ];by_cases h:qD c=k
   ·rw [if_pos h,dZ,vF,qO,h,if_neg hk,dZ,aJ];omega
   ·rw[if_neg h];exact aP _
theorem vW6:∀(n:Nat) (U V:List Nat),U.length<=n->(parts (U ++ V)).length <=(parts U).length+(parts V).length
 |n,[],V,_=>by rw[yF,cC];simp
 | 0,c::U,V,h=>by simp at h
 | n + 1,c::U,V,h=>by
   have hp:=jQ c U;have hp' :=jQ c (U ++ V);rw[aA,vF,vF c U,aJ,aJ];have e1:(if c=32 then([]:List (List Nat)) else [(c::(U ++ V)).take (qF (c::(U ++ V)))]).length =(if c=32 then([]:List (List Nat)) else [(c::U).take (qF (c::U))]).length :=by split <;> rfl
   rw[e1];have go:∀l,qF (c::U)=l+1->qF (c::(U ++ V))=l+1->l<=U.length->(parts ((c::(U ++ V)).drop (qF (c::(U ++ V))))).length <=(parts ((c::U).drop (qF (c::U)))).length+(parts V).length :=fun l h1 h2 hl=>by
    rw[h1,h2,dZ,dZ,List.drop_append_of_le_length hl];exact vW6 n (U.drop l) V (by rw[bP];rw[aZ]at h;omega)
   by_cases k2:qD c=2
   ·have:=go 0 (by rw [qO,if_pos k2]) (by rw [qO,if_pos k2]) (cJ _);omega
   ·have a1:qF (c::U)=v7 (qD c) U + 1:=by rw [qO,if_neg k2]
    have a2:qF (c::(U ++ V))=v7 (qD c) (U ++ V)+1:=by rw[qO,if_neg k2]
    rw[qV4]at a2;have le:=vQb (qD c) U;by_cases hr:v7 (qD c) U=U.length
    ·rw [if_pos hr] at a2;rw[a2,a1,hr,dZ,dZ,List.drop_length,List.drop_append,List.drop_of_length_le (by omega),show U.length+v7 (qD c) V - U.length=v7 (qD c) V by omega,cC];have:=zWs (qD c) k2 V;omega
    ·rw [if_neg hr] at a2;have:=go _ a1 a2 le;omega
theorem jQp(U V:List Nat):(wL (U ++ V)).length <=(wL U).length+(wL V).length :=by
 rw[aB,aB,aB];exact vW6 U.length U V (aP _)
theorem jQo{c:Nat}(U V:List Nat)(h:qD c=2):(wL (U ++ c::V)).length =(wL U).length+1+(wL V).length :=by
 have:wL (U ++ c::V)=wL U ++ wL (c::V):=by
  show(parts (U ++ c::V)).map S=_;rw[qXq U.length U (c::V) (aP _) (fun a b _ hb e=>.inl (by cases hb;omega)),bL]
 rw[this,aJ,qWf h,aZ];omega
theorem jZ8(A B C:List Nat):(wL (A ++ (B ++ C))).length<(wL (A ++ 40::(B ++ 41::C))).length :=by
 rw[jQo A _ (by decide),jQo B _ (by decide)];have:=jQp A (B ++ C);have:=jQp B C;omega
noncomputable def nb1(c:Nat):Int:=if c=40 then 1 else if c=41 then -1 else 0
noncomputable def nc(l:List Nat):Int:=(l.map nb1).sum
theorem qKx(p q:List Nat):nc (p ++ q)=nc p+nc q:=by unfold nc;rw[bL,List.sum_append]
theorem qJj(c:Nat)(q:List Nat):nc (c::q)=nb1 c+nc q:=by unfold nc;rw[bD,List.sum_cons]
noncomputable def Bal(l:List Nat):Prop:=nc l=0/\∀p q,l=p ++ q->0<=nc p
theorem bal_app{u v:List Nat}(h:Bal u)(g:Bal v):Bal (u ++ v):=⟨by rw[qKx,h.1,g.1];rfl,fun p q e=>by
 rcases List.append_eq_append_iff.mp e with⟨a,e1,e2⟩|⟨a,e1,e2⟩
 ·have:=g.2 a q e2;rw[e1,qKx,h.1];omega
 ·exact h.2 p a e1⟩
theorem wN:∀{u:List Nat},(∀c∈u,nb1 c=0)->Bal u
 |[],_=>⟨rfl,fun p q e=>by rw[(List.append_eq_nil_iff.mp e.symm).1];decide⟩
 | c::u,h=>by
   have ih:=wN (u:=u) fun x hx=>h x (aI _ hx)
   have hc:=h c (aM ..);refine⟨by rw[qJj,hc,ih.1];rfl,fun p q e=>?_⟩;cases p with
   |nil=>decide
   | cons x p=>
     rw[aA,bC]at e;rw[←e.1,qJj,hc];have:=ih.2 p q e.2;omega
theorem zWc{u:List Nat}(h:Bal u):Bal (40::(u ++ [41])):=⟨by rw[qJj,qKx,h.1];decide,fun p q e=>by
 cases p with
 |nil=>decide
 | cons x p=>
   rw[aA,bC]at e;rw[←e.1,qJj,show nb1 40=1 from rfl];rcases List.append_eq_append_iff.mp e.2 with⟨a,e1,e2⟩|⟨a,e1,e2⟩
   ·cases a with
    |nil=>rw[e1,bU,h.1];decide
    | cons y a=>
      have:a=[]:=by rw[aA,bC]at e2;exact(List.append_eq_nil_iff.mp e2.2.symm).1
      have hy:y=41:=by rw[aA,bC]at e2;exact e2.1.symm
      rw[e1,qKx,h.1,this,hy];decide
   ·have:=h.2 p a e1;omega⟩
theorem qZt{c:Nat}(h:qD c≠2):nb1 c=0:=by
 unfold nb1;rw[if_neg (fun e=>h (by rw[e];decide)),if_neg (fun e=>h (by rw[e];decide))]
theorem vYq{u:List Nat}(h:Bal u)(b:Bool):Bal (wx b u):=by
 cases b with
 |true=>exact zWc h
 |false=>exact h
theorem vZ2:∀{t:T},t.good->Bal t.tx
 |.num n,_=>wN fun c hc=>qZt (by rw[qXi (xP n c hc)];decide)
 |.name w,h=>wN fun c hc=>qZt (by rw[(jE h).2 c hc];decide)
 |.call f x,h=>bal_app (wN fun c hc=>qZt (by rw[(jE h.1).2 c hc];decide)) (zWc (wN fun c hc=>qZt (by rw[(jE h.2).2 c hc];decide)))
 | .op s a b,h=>by
   have hs:nb1 s=0:=by
    have:∀s∈ [43,45,42,61,60],nb1 s=0:=by decide
    exact this s h.1
   have:=bal_app (vYq (vZ2 h.2.1) (decide (a.lev<max 1 (lv s)))) (bal_app (wN (u:=[32,s,32]) (by
    intro c hc;simp only[aC,bS,or_false]at hc;rcases hc with rfl|rfl|rfl
    ·rfl
    ·exact hs
    ·rfl)) (vYq (vZ2 h.2.2) (decide (b.lev<lv s+1))))
   exact this
 |.fld a w,h=>bal_app (vYq (vZ2 h.1) _) (bal_app (u:=[46]) (wN (by decide)) (wN fun c hc=>qZt (by rw[(jE h.2).2 c hc];decide)))
section
variable{R:List Nat}{k:Nat}
theorem vK3{c:Nat}(h0:env[i]?=some (sS (S R)))(h1:env[j]?=some (sN (m:Int)))(hx:R[m]?=some c)(hl:R.length<=1000){x:Str}{y:Nat}(hy:x=S [y]):asB (o2 eqF (oIx (oN i) (oN j)) (oC (.str x))) env=.ok (decide (c=y),env):=by
 subst hy;have v:=ixc h0 h1 hx hl;refine vT (d:=.bl (decide (c=y))) (vP (evO_o2 (h1:=.d (.str (S [c]))) (h2:=.d (.str (S [y]))) (e:=env) (e1:=env) (z:=.bl (decide (c=y))) ?_ rfl rfl rfl rfl ?_ rfl) rfl) rfl rfl
 ·show((opt (((qZb i) env).bind fun h=>((qZb j) env).bind fun h' =>(rsv env h').bind fun y=>hnIx env y h))).bind _=_;unfold qZb;rw[h0,h1];show(opt ((ixD (.str (S R)) (.int (m:Nat))).map Hn.d)).bind _=_;rw[qKm hx hl];rfl
 ·show some (D.bl (decide (S [c]=S [y])))=_;rw[decide_eq_decide.mpr ⟨fun h=>sg1 h rfl,fun h=>by rw[h]⟩]
noncomputable abbrev e4(R:List Nat)(k:Nat)(d:Int)(y:Slot):Ev:=[sS (S R),sN (k:Int),sN d,y]
theorem vXi{c:Nat}{d:Int}(hx:R[j]?=some c)(hl:R.length<=1000):wD (e4 R k d (sN (j:Int)))=cond (decide (d+nb1 c=0)) (.ok (.rt (.fz (.int (j:Int))) [sS (S R),sN (k:Int),sN 0,.un])) (.ok (.nx (e4 R k (d+nb1 c) (sN (j:Int))))):=by
 have t1:=vK3 (env:=e4 R k d (sN (j:Int))) (i:=0) (j:=3) rfl rfl hx hl (x:="(") (y:=40) (by decide +kernel);have fin:∀d:Int,sIf (asB (o2 eqF (oN 2) (oC (.int 0)))) (sRet (eMv 3)) sNil (e4 R k d (sN (j:Int)))=cond (decide (d=0)) (.ok (.rt (.fz (.int (j:Int))) [sS (S R),sN (k:Int),sN 0,.un])) (.ok (.nx (e4 R k d (sN (j:Int))))):=fun d=>by
  have t:asB (o2 eqF (oN 2) (oC (.int 0))) (e4 R k d (sN (j:Int)))=.ok (decide (d=0),e4 R k d (sN (j:Int))):=by
   show Res.ok (d == 0,_)=_;rw[show(d == 0)=decide (d=0) by rw[bH];simp]
  refine vR t ?_
  cases q:decide (d=0) with
  |true=>rw[of_decide_eq_true q];rfl
  |false=>rfl
 unfold wD;unfold nb1;by_cases h40:c=40
 ·subst h40;have t2:=vK3 (env:=e4 R k (d+1) (sN (j:Int))) (i:=0) (j:=3) rfl rfl hx hl (x:=")") (y:=41) (by decide +kernel);refine qL (e:=e4 R k (d+1) (sN (j:Int))) (vR t1 rfl) (qL (e:=e4 R k (d+1) (sN (j:Int))) (vR t2 rfl) ?_);rw[if_pos rfl];exact fin _
 ·rw [decide_eq_false h40] at t1;have t2:=vK3 (env:=e4 R k d (sN (j:Int))) (i:=0) (j:=3) rfl rfl hx hl (x:=")") (y:=41) (by decide +kernel);rw[if_neg h40];by_cases h41:c=41
  ·subst h41;refine qL (e:=e4 R k d (sN (j:Int))) (vR t1 rfl) (qL (e:=e4 R k (d - 1) (sN (j:Int))) (vR t2 rfl) ?_);rw[if_pos rfl,show d + -1=d - 1 by omega];exact fin _
  ·rw [decide_eq_false h41] at t2;refine qL (e:=e4 R k d (sN (j:Int))) (vR t1 rfl) (qL (e:=e4 R k d (sN (j:Int))) (vR t2 rfl) ?_);rw[if_neg h41,cH];exact fin _
noncomputable def rgN(j n:Nat):List D:=(List.range' j n).map fun(i:Nat)=>D.int (i:Int)
theorem end_loop(hl:R.length<=1000):∀(n j:Nat) (d:Int) (y:Slot),j+n=R.length->1<=d->d+nc (R.drop j)<=0->∃e env,j<=e/\R[e]?=some 41/\forS (gN 3) wD (rgN j n) (e4 R k d y)=.ok (.rt (.fz (.int (e:Int))) [sS (S R),sN (k:Int),sN 0,env])
 | 0,j,d,y,hj,hd1,hn=>by
   rw[List.drop_of_length_le (by omega),show nc []=0 from rfl]at hn;omega
 | n + 1,j,d,y,hj,hd1,hn=>by
   have hlt:j<R.length:=by omega
   have hx:=aF hlt;have st:=vXi (k:=k) (d:=d) hx hl;rw[bF hlt,qJj]at hn;show∃e env,j<=e/\R[e]?=some 41/\forS (gN 3) wD (D.int (j:Int)::rgN (j+1) n) (e4 R k d y)=_;by_cases z:d+nb1 R[j]=0
   ·rw [decide_eq_true z] at st;refine⟨j,.un,aP _,?_,zK7 (e1:=e4 R k d (sN (j:Int))) rfl st rfl⟩;rw[hx];unfold nb1 at z;split at z
    ·omega
    ·split at z
     ·rename_i h;rw[h]
     ·omega
   ·rw [decide_eq_false z] at st;have hb: -1<=nb1 R[j]:=by unfold nb1;split <;> (try split) <;> omega
    obtain⟨e,env,h1,h2,h3⟩:=end_loop hl n (j+1) (d+nb1 R[j]) (sN (j:Int)) (by omega) (by omega) (by omega);exact⟨e,env,by omega,h2,jP (e1:=e4 R k d (sN (j:Int))) rfl st h3⟩
theorem end_ok(hl:R.length<=1000)(hk:R[k]?=some 40)(hb:Bal R):∃e:Nat,k<e/\R[e]?=some 41/\qVh [sS (S R),sN (k:Int)]=.ok (.fz (.int (e:Int)),[.un,.un]):=by
 have hlt:=(aW.mp hk).1;have sp:R=R.take k ++ (40::R.drop (k+1)):=by
  conv=>lhs;rw[←List.take_append_drop k R,bF hlt,(aW.mp hk).2]
 have h1:=hb.1;have h2:=hb.2 _ _ sp;rw[sp,qKx,qJj,show nb1 40=1 from rfl]at h1;obtain⟨e,env,g1,g2,g3⟩:=end_loop (k:=k) hl (R.length - (k+1)) (k+1) 1 (sN (k:Int)) (by omega) (by omega) (by omega);have st:=vXi (k:=k) (j:=k) (d:=0) hk hl;refine⟨e,by omega,g2,?_⟩;unfold qVh;have it:iL rg2 [(oV (oN 1)),(oV (oL lenD [(oN 0)]))] (e4 R k 0 .un)=.ok (rgN k (R.length - k),e4 R k 0 .un):=by
  refine vWi (xs:=[.int (k:Int),.int (R.length:Int)]) (e:=e4 R k 0 .un) ?_ ?_ rfl
  ·exact qC rfl (qC (vP (qW4 (hs:=[.d (.str (S R))]) rfl rfl (qWh hl) rfl) rfl) rfl rfl) rfl
  ·show cond (in62 (k:Int) && in62 (R.length:Int)) (some (rngD (k:Int) ((R.length:Int) - (k:Int)).toNat)) none=_;have i1:in62 (k:Int)=true:=by unfold in62;simp;omega
   have i2:in62 (R.length:Int)=true:=by unfold in62;simp;omega
   rw[i1,i2,show((R.length:Int) - (k:Int)).toNat =R.length - k by omega];show some (rngD _ _)=_;unfold rngD rgN;rw[List.range'_eq_map_range,cS];exact congrArg some (List.map_congr_left fun j _=>congrArg D.int (by show(k:Int)+(j:Int)=((k+j:Nat):Int);omega))
 refine vX (o:=.rt (.fz (.int (e:Int))) [sS (S R),sN (k:Int),sN 0,env]) (qI (o:=.fz (.int 0)) (e:=[sS (S R),sN (k:Int),.un,.un]) rfl (qWb (qQx it ?_) rfl)) rfl;rw[show R.length - k=(R.length - (k+1))+1 by omega];show forS (gN 3) wD (D.int (k:Int)::rgN (k+1) (R.length - (k+1))) (e4 R k 0 .un)=_;exact jP (e1:=e4 R k 0 (sN (k:Int))) rfl (st.trans rfl) g3
end

section
variable{F:Fn}{as:List Am}{hd:Nat->Bool}{j:Nat}{su:SS}{env:Ev}{r:List Hn×Ev}{X:Res Out}
theorem zYe{C:Nat}{fs:List (Str×D)}{o:O}(h0:evOs (as.map Am.o) env=.ok r)(h1:qVa F as r.1 r.2=.er C fs)(h2:hd C=true)(h3:su (r.2.map vVq)=.ok (.rt o e)):qKi F as hd j su env=.ok (.rt o e):=by
 unfold qKi;rw[h0];simp only[h1,h2,h3,cond]
theorem zYd{q:O×Ev}(h0:evOs (as.map Am.o) env=.ok r)(h1:qVa F as r.1 r.2=.ok q):qKi F as hd j su env=.ok (.nx (q.2.set j (.s false q.1))):=by
 unfold qKi;rw[h0];simp only[h1]
end
noncomputable abbrev due(t:T):D:=.nd .lst [tg "ask" [t.d]]
theorem vKo{X:List Nat}(hc:∀c∈X,okC c=true)(hl:X.length<=990)(hn:t.nb<=9)(hw:(wL X).length<t.body.length):wX [sS (S (ask X)),fz (due t)]=.ok (.fz (.bl true),[.un,.un]):=by
 unfold wX;rcases zWu hc hl with h|⟨x,n,h,g,k⟩
 ·refine vX (qWb (zYe (C:=23) (fs:=[("row", .int 0)]) (o:= .fz (.bl true)) (e:=[sS (S (ask X)),fz (due t), .un]) (r:=([.d (.str (S (ask X)))],[sS (S (ask X)),fz (due t), .un])) rfl ?_ rfl rfl) rfl) rfl;show(jI [sS (S (ask X))]).bind _=_;rw[h];rfl
 ·obtain⟨b,h1,h2⟩:=neq_ok (t:=t) g (by omega);have hb:b=true:=by
   cases b with
   |true=>rfl
   |false=>have:=k t (h2.mp rfl).symm;omega
  subst hb;refine vX (o:=.rt (.fz (.bl true)) [sS (S (ask X)),fz (due t),.s false (.ow .lst [.fz (tg "ask" [x])])]) (qL (zYd (q:=(.ow .lst [.fz (tg "ask" [x])],[sS (S (ask X)),fz (due t),.un])) (r:=([.d (.str (S (ask X)))],[sS (S (ask X)),fz (due t),.un])) rfl ?_) ?_) rfl
  ·show(jI [sS (S (ask X))]).bind _=_;rw[h];rfl
  ·exact jG (zP (vP (evO_o2 (h1:=.p 2 []) (h2:=.d (due t)) (x:=.nd .lst [tg "ask" [x]]) (y:=due t) (z:=.bl true) rfl rfl rfl rfl rfl h1 rfl) rfl) rfl) rfl
theorem zWp(R:List Nat){b:Nat}(hb:b<=R.length):Txt.slice (S R) none (some (b:Int))=S (R.take b):=by
 have:=beq_iff_eq.mp (slice_closes_to (x:=S R) (j:=b) ⟨by omega,by rw[qKq];omega⟩);rw[this,qKq];rfl
theorem vYx(R:List Nat){a:Nat}(ha:a<=R.length):Txt.slice (S R) (some (a:Int)) none=S (R.drop a):=by
 have:=beq_iff_eq.mp (slice_closes_from (x:=S R) (i:=a) ⟨by omega,by rw[qKq];omega⟩);rw[this,qKq];show S _=S _;congr 1;rw[List.take_of_length_le]
 ·simp
 ·rw[bP];omega
noncomputable def Y2(t:T)(y:Slot):Prop:=y=.s false (.ow .lst [.fz (tg "ask" [t.d])])\/y=fz (due t)
noncomputable abbrev e6(t:T)(y2 y3 y4 y5:Slot):Ev:=[fz t.d,sS (S (ask t.tx)),y2,y3,y4,y5]
structure Gt(t:T):Prop where
 g:t.good
 c:∀c∈t.tx,okC c=true
 n:t.nb<=9
 w:t.body.length<=59
 l:t.tx.length<=900
section
variable{t:T}(G:Gt t)
include G
theorem good_step{y2 y4 y5:Slot}(hy:Y2 t y2)(hk:4<=k)(hlt:k<(ask t.tx).length):∃y2' y4' y5',Y2 t y2' /\yE (e6 t y2 (sN (k:Int)) y4 y5)=.ok (.nx (e6 t y2' (sN (k:Int)) y4' y5')):=by
 obtain⟨i,rfl⟩:∃i,k=i+4:=⟨k - 4,by omega⟩
 have hl:(ask t.tx).length <=1000:=by have:=G.l;show t.tx.length+4<=1000;omega
 have hlt' :i<t.tx.length:=by have:i+4<t.tx.length+4:=hlt;omega
 have hx:(ask t.tx)[i+4]?=some t.tx[i]:=aF hlt';have hsl:(S (ask t.tx)).length <=aD:=by rw[xV];exact aG hl (show 1000<=aD by decide)
 generalize hc:t.tx[i]=c at hx;have t1:=vK3 (env:=e6 t y2 (sN ((i+4:Nat):Int)) y4 y5) (i:=1) (j:=3) rfl rfl hx hl (x:="(") (y:=40) (by decide +kernel);unfold yE;by_cases h40:c=40
 ·subst h40;obtain⟨p,hp⟩:∃p,(ask t.tx)[i+3]?=some p:=⟨_,aF (show i+3<(ask t.tx).length from by omega)⟩
  have hp128:p<128:=(qKo G.c p (List.mem_of_getElem? hp)).1;have t2:asB (o1 alD (oIx (oN 1) (oSub (oN 3) (oC (.int 1))))) (e6 t y2 (sN ((i+4:Nat):Int)) y4 y5)=.ok (alC p,e6 t y2 (sN ((i+4:Nat):Int)) y4 y5):=by
   refine vT (d:=.bl (alC p)) (vP (zJ5 (h1:=.d (.str (S [p]))) (x:=.str (S [p])) (z:=.bl (alC p)) (yK (h1:=.d (.str (S (ask t.tx)))) (h2:=.d (.int ((i+3:Nat):Int))) (z:=.str (S [p])) rfl ?_ rfl rfl ?_ rfl) rfl ?_ rfl) rfl) rfl rfl
   ·show Res.ok (Hn.d (.int (((i + 4:Nat):Int) - 1)),_)=_;rw[show((i+4:Nat):Int) - 1=((i+3:Nat):Int) by omega]
   ·show(ixD (.str (S (ask t.tx))) (.int ((i + 3:Nat):Int))).map Hn.d=_;rw[qKm hp hl];rfl
   ·show cond (decide (p < 128)) (some (D.bl (alC p))) none=_;rw[decide_eq_true hp128];rfl
  cases q:alC p with
  | true=>
    rw[q]at t2;exact⟨y2,y4,y5,hy,vR (qQz t1 (wQ t2 rfl)) rfl⟩
  | false=>
    rw[q]at t2;obtain⟨e,he1,he2,he3⟩:=end_ok hl hx (bal_app (u:=[97,115,107,32]) (wN (by decide)) (vZ2 G.g));obtain⟨f,rfl⟩:∃f,e=f+4:=⟨e - 4,by omega⟩
    have hf:t.tx[f]?=some 41:=he2;have hf2:=(aW.mp hf).1;have hA:t.tx=t.tx.take i ++ (40::((t.tx.drop (i+1)).take (f - (i+1)) ++ 41::t.tx.drop (f+1))):=by
     conv=>lhs;rw[←List.take_append_drop i t.tx,bF hlt',hc]
     congr 2;conv=>lhs;rw[←List.take_append_drop (f - (i+1)) (t.tx.drop (i+1)),List.drop_drop,show i+1+(f - (i+1))=f by omega,bF hf2,(aW.mp hf).2]
    generalize hB:(t.tx.drop (i+1)).take (f - (i+1))=B at hA;have an:=vKo (X:=t.tx.take i ++ (B ++ t.tx.drop (f+1))) (t:=t) (fun c hc=>G.c c (by
     rcases cV.mp hc with z|z
     ·exact List.mem_of_mem_take z
     ·rcases cV.mp z with z | z
      ·rw[←hB]at z;exact List.mem_of_mem_drop (List.mem_of_mem_take z)
      ·exact List.mem_of_mem_drop z)) (by
     have h1:=congrArg List.length hA;have:=G.l;rw[aJ,aZ,aJ,aZ]at h1;rw[aJ,aJ];omega) G.n (by
     have h1:=jZ8 (t.tx.take i) B (t.tx.drop (f+1));rw[←hA]at h1;have hw' :wL t.tx=t.body:=by
      have:=tx_w G.g [] (fun c e=>by cases e);rw[bU]at this;rw[this];exact bU _
     rw[hw']at h1;exact h1)
    have eL:ask (t.tx.take i ++ (B ++ t.tx.drop (f+1)))=ask (t.tx.take i) ++ B ++ t.tx.drop (f+1):=by
     show ask _=ask (t.tx.take i ++ B ++ t.tx.drop (f+1));rw[bV]
    have hlB:B.length<=900:=by rw[←hB,cY,bP];have:=G.l;omega
    refine⟨fz (due t),sN ((f+4:Nat):Int),sS (S (ask (t.tx.take i) ++ B ++ t.tx.drop (f+1))),.inr rfl,vR (qQz t1 (wQ t2 rfl)) ?_⟩;have c1:qY qVh [(.v (oV (oN 1))),(.v (oV (oN 3)))] (e6 t y2 (sN ((i+4:Nat):Int)) y4 y5)=.ok (.fz (.int ((f+4:Nat):Int)),e6 t y2 (sN ((i+4:Nat):Int)) y4 y5):=vVs he3 rfl rfl;refine qL (z7 c1 rfl) ?_
    show sSeq _ _ (e6 t y2 (sN ((i+4:Nat):Int)) (sN ((f+4:Nat):Int)) y5)=_;have t3:asB (oLt (oN 4) (oC (.int 0))) (e6 t y2 (sN ((i+4:Nat):Int)) (sN ((f+4:Nat):Int)) y5)=.ok (false,e6 t y2 (sN ((i+4:Nat):Int)) (sN ((f+4:Nat):Int)) y5):=by
     show Res.ok (decide (((f+4:Nat):Int)<0),_)=_;rw[decide_eq_false (by omega)]
    refine qM t3 (vG ?_);have x1:evO (.v (qZh (oN 1) none (some (oV (oN 3))))) (e6 t y2 (sN ((i+4:Nat):Int)) (sN ((f+4:Nat):Int)) y5)=.ok (.d (.str (S (ask (t.tx.take i)))),e6 t y2 (sN ((i+4:Nat):Int)) (sN ((f+4:Nat):Int)) y5):=by
     refine v8 (d:=.str (S (ask (t.tx.take i)))) ?_ rfl;show(opt (cond (decide ((S (ask t.tx)).length <=aD)) (some (D.str (Txt.slice (S (ask t.tx)) none (some ((i+4:Nat):Int))))) none)).bind _=_;rw[decide_eq_true hsl,zWp (ask t.tx) (by omega)];rfl
    have x2:evO (.v (qZh (oN 1) (some (oV (oAdd (oN 3) (oC (.int 1))))) (some (oV (oN 4))))) (e6 t y2 (sN ((i+4:Nat):Int)) (sN ((f+4:Nat):Int)) y5)=.ok (.d (.str (S B)),e6 t y2 (sN ((i+4:Nat):Int)) (sN ((f+4:Nat):Int)) y5):=by
     refine v8 (d:=.str (S B)) ?_ rfl;show(opt (cond (decide ((S (ask t.tx)).length <=aD)) (some (D.str (Txt.slice (S (ask t.tx)) (some ((i+4+1:Nat):Int)) (some ((f+4:Nat):Int))))) none)).bind _=_;rw[decide_eq_true hsl,vZ8 (ask t.tx) (by omega) (by show f+4<=t.tx.length+4;omega),←hB,show f+4 - (i+4+1)=f - (i+1) by omega];rfl
    have x3:evO (.v (qZh (oN 1) (some (oV (oAdd (oN 4) (oC (.int 1))))) none)) (e6 t y2 (sN ((i+4:Nat):Int)) (sN ((f+4:Nat):Int)) y5)=.ok (.d (.str (S (t.tx.drop (f+1)))),e6 t y2 (sN ((i+4:Nat):Int)) (sN ((f+4:Nat):Int)) y5):=by
     refine v8 (d:=.str (S (t.tx.drop (f+1)))) ?_ rfl;show(opt (cond (decide ((S (ask t.tx)).length <=aD)) (some (D.str (Txt.slice (S (ask t.tx)) (some ((f+4+1:Nat):Int)) none))) none)).bind _=_;rw[decide_eq_true hsl,vYx (ask t.tx) (by show f+4+1<=t.tx.length+4;omega)];rfl
    have la:(ask (t.tx.take i)).length <=1000:=by show(t.tx.take i).length+4<=1000;rw[cY];have:=G.l;omega
    have ld:(t.tx.drop (f+1)).length <=900:=by rw[bP];have:=G.l;omega
    refine qL (z7 (zP (vP (aS (aS x1 x2 (by omega)) x3 (by rw[aJ];omega)) rfl) rfl) rfl) ?_
    show sIf _ _ _ (e6 t y2 (sN ((i+4:Nat):Int)) (sN ((f+4:Nat):Int)) (sS (S (ask (t.tx.take i) ++ B ++ t.tx.drop (f+1)))))=_;rw[eL]at an;generalize S (ask (t.tx.take i) ++ B ++ t.tx.drop (f+1))=Z at *;have c2:qY wX [(.v (oV (oN 5))),(.v (oV (oN 2)))] (e6 t y2 (sN ((i+4:Nat):Int)) (sN ((f+4:Nat):Int)) (sS Z))=.ok (.fz (.bl true),e6 t (fz (due t)) (sN ((i+4:Nat):Int)) (sN ((f+4:Nat):Int)) (sS Z)):=by
     rcases hy with rfl|rfl
     ·exact vVs an rfl rfl
     ·exact vVs an rfl rfl
    exact vR (wQ (vT (vP (v8 (vL c2 rfl) rfl) rfl) rfl rfl) rfl) rfl
 ·rw [decide_eq_false h40] at t1;exact⟨y2,y4,y5,hy,vR (qQz t1 rfl) rfl⟩
theorem vZf:∀(n k:Nat) (y2 y3 y4 y5:Slot),Y2 t y2->4<=k->k+n<=(ask t.tx).length ->∃env,forS (gN 3) yE (rgN k n) (e6 t y2 y3 y4 y5)=.ok (.nx env)/\env.length=6/\env.head?=some (fz t.d)
 | 0,k,y2,y3,y4,y5,_,_,_=>⟨_,rfl,rfl,rfl⟩
 | n + 1,k,y2,y3,y4,y5,hy,hk,hn=>by
   obtain⟨z2,z4,z5,h2,st⟩:=good_step G (k:=k) (y4:=y4) (y5:=y5) hy hk (by omega);obtain⟨env,h3,h4⟩:=vZf n (k+1) z2 (sN (k:Int)) z4 z5 h2 (by omega) (by omega);exact⟨env,jP (e1:=e6 t y2 (sN (k:Int)) y4 y5) rfl st h3,h4⟩
theorem zQu:qQd [fz t.d]=.ok (.fz (.bl true),[.un]):=by
 have hl:(ask t.tx).length <=1000:=by have:=G.l;show t.tx.length+4<=1000;omega
 have sh:=vWw 30 t (by have:=G.n;omega) G.g (by have:=G.l;omega);have rd:=zWt G.g G.c G.n G.w (by have:=G.l;omega);obtain⟨b,n1,n2⟩:=neq_ok (t:=t) (gd_of t) (by have:=G.n;omega);have hb:b=false:=n2.mpr rfl;subst hb;obtain⟨env,lp,l6,lh⟩:=vZf G ((ask t.tx).length - 4) 4 (.s false (.ow .lst [.fz (tg "ask" [t.d])])) .un .un .un (.inl rfl) (aP _) (by show 4+(t.tx.length+4 - 4)<=t.tx.length+4;omega);unfold qQd;have s1:oV (o2 addS (oC (.str "ask ")) (.v (fzS (qY (vZ 30) [(.v (oV (oN 0)))])))) [fz t.d,.un,.un,.un,.un,.un]=.ok (.str (S (ask t.tx)),[fz t.d,.un,.un,.un,.un,.un]):=
  vP (aS (a:=[97,115,107,32]) (b:=t.tx) (by rw[show S [97,115,107,32]="ask " by decide +kernel];rfl) (v8 (vL (call1 sh rfl) rfl) rfl) (by have:=G.l;show 4+_<=_;omega)) rfl
 have c1:qY jI [(.v (oV (oN 1)))] (e6 t (.s false (.ow .lst [.fz (tg "ask" [t.d])])) .un .un .un)=.ok (.ow .lst [.fz (tg "ask" [t.d])],e6 t (.s false (.ow .lst [.fz (tg "ask" [t.d])])) .un .un .un):=by
  show(jI [sS (S (ask t.tx))]).bind _=_;rw[rd];rfl
 have it:iL rg2 [(oV (oC (.int 4))),(oV (oL lenD [(oN 1)]))] (e6 t (.s false (.ow .lst [.fz (tg "ask" [t.d])])) .un .un .un)=.ok (rgN 4 ((ask t.tx).length - 4),e6 t (.s false (.ow .lst [.fz (tg "ask" [t.d])])) .un .un .un):=by
  refine vWi (xs:=[.int 4,.int ((ask t.tx).length :Int)]) (e:=e6 t (.s false (.ow .lst [.fz (tg "ask" [t.d])])) .un .un .un) ?_ ?_ rfl
  ·exact qC rfl (qC (vP (qW4 (hs:=[.d (.str (S (ask t.tx)))]) rfl rfl (qWh hl) rfl) rfl) rfl rfl) rfl
  ·generalize (ask t.tx).length =L at *;show cond (in62 4 && in62 (L:Int)) (some (rngD 4 ((L:Int) - 4).toNat)) none=_;have i2:in62 (L:Int)=true:=by unfold in62;simp;omega
   rw[show in62 4=true by decide,i2,show((L:Int) - 4).toNat =L - 4 by omega];show some (rngD _ _)=_;unfold rngD rgN;rw[List.range'_eq_map_range,cS];exact congrArg some (List.map_congr_left fun j _=>congrArg D.int (by show(4:Int)+(j:Int)=((4+j:Nat):Int);omega))
 have ne:asB (o2 neQ (.v (fzS (qY jI [(.v (oV (oN 1)))]))) (oN 2)) (e6 t (.s false (.ow .lst [.fz (tg "ask" [t.d])])) .un .un .un)=.ok (false,e6 t (.s false (.ow .lst [.fz (tg "ask" [t.d])])) .un .un .un):=
  vT (d:=.bl false) (vP (evO_o2 (h1:=.d (due t)) (h2:=.p 2 []) (x:=due t) (y:=due t) (z:=.bl false) (v8 (vL c1 rfl) rfl) rfl rfl rfl rfl n1 rfl) rfl) rfl rfl
 refine vX (o:=.rt (.fz (.bl true)) env) (qI (zP s1 rfl) (qI (o:=.ow .lst [.fz (tg "ask" [t.d])]) (e:=[fz t.d,sS (S (ask t.tx)),.un,.un,.un,.un]) rfl (qM ne (vG (qL (qQx it lp) rfl))))) ?_
 match env,l6,lh with
 |[a,b,c,d,e,f],_,h=>cases h;rfl
end
theorem mulD{a b:Int}(h0:0<=a)(h1:a<10 ^ 30)(k0:0<=b)(k1:b<10 ^ 30):i2g IntMulOk (fun i j=>i * j) (.int a) (.int b)=some (.int (a * b)):=by
 show(if IntMulOk a b then some (D.int (a * b)) else none)=_;have sm:∀n:Int,0<=n->n<10 ^ 30->Sm n:=fun n h0 h1=>by
  have:n.natAbs<10 ^ 30:=by omega
  exact aN this (aG (show 10 ^ 30<=2 ^ 100 by decide) (Nat.pow_le_pow_right (by decide) (by decide)))
 rw[if_pos ((sm a h0 h1).mul (sm b k0 k1))]
theorem apL{d:D}(h:ds.length<=1000):apF (ds.map .fz) (.fz d)=some (.fz .non,(ds ++ [d]).map .fz):=by
 unfold apF;rw[decide_eq_true (show(ds.map O.fz).length <=lim by rw[aB];exact aG h (show 1000<=1000000 by decide)),bL];rfl
theorem stream_loop{C M:Slot}:∀(ks:List Int) (pre:List Int) (n:Int) (x4:Slot),(∀k∈ks,0<=k/\k<=100)->0<=n->n<10000000000->pre.length+ks.length<=1000->∃(ns:List Int) (n' :Int) (y4:Slot),ns.length=ks.length/\(∀x∈ns,0<=x)/\forS (gN 4) qQn (ks.map .int) [C,M,.s false (.ow .lst ((pre.map D.int).map .fz)),sN n,x4]=.ok (.nx [C,M,.s false (.ow .lst (((pre ++ ns).map D.int).map .fz)),sN n',y4])
 |[],pre,n,x4,_,_,_,_=>⟨[],n,x4,rfl,fun x h=>(by cases h),by rw[bU];rfl⟩
 | k::ks,pre,n,x4,hk,n0,n1,hl=>by
   rw[aZ]at hl;obtain⟨k0,k1⟩:=hk k (by simp);have b1:0<=(n * n+48271 * n+k * k) % 2147483647:=Int.emod_nonneg _ (by decide);have b2:(n * n+48271 * n+k * k) % 2147483647<2147483647:=dU _ (by decide);have m1:=mulD (a:=n) (b:=n) n0 (by omega) n0 (by omega);have m2:=mulD (a:=48271) (b:=n) (by decide) (by decide) n0 (by omega);have m3:=mulD (a:=k) (b:=k) k0 (by omega) k0 (by omega);generalize hv:(n * n+48271 * n+k * k) % 2147483647=v at *;obtain⟨ns,n',y4,q1,q2,q3⟩:=stream_loop (C:=C) (M:=M) ks (pre ++ [v]) v (sN k) (fun j hj=>hk j (by simp[hj])) b1 (by omega) (by rw[aJ];simp;omega);refine⟨v::ns,n',y4,by rw[aZ,q1,aZ],fun x hx=>?_,?_⟩
   ·rcases aC.mp hx with rfl | hx
    ·exact b1
    ·exact q2 x hx
   ·rw [bD];have ap:=apL (ds:=pre.map D.int) (d:=.int v) (by rw[aB];omega);rw[show pre.map D.int ++ [D.int v]=(pre ++ [v]).map D.int from by rw[bL];rfl]at ap;refine jP (e1:=[C,M,.s false (.ow .lst ((pre.map D.int).map .fz)),sN n,sN k]) rfl (e2:=[C,M,.s false (.ow .lst (((pre ++ [v]).map D.int).map .fz)),sN v,sN k]) ?_ (q3.trans (by rw[bV];rfl))
    have a1:=evO_o2 (oa:=oN 3) (ob:=oN 3) (h1:=.d (.int n)) (h2:=.d (.int n)) (env:=[C,M,.s false (.ow .lst ((pre.map D.int).map .fz)),sN n,sN k]) rfl rfl rfl rfl rfl m1 rfl;have a2:=evO_o2 (oa:=oC (.int 48271)) (ob:=oN 3) (h1:=.d (.int 48271)) (h2:=.d (.int n)) (env:=[C,M,.s false (.ow .lst ((pre.map D.int).map .fz)),sN n,sN k]) rfl rfl rfl rfl rfl m2 rfl;have a3:=evO_o2 (oa:=oN 4) (ob:=oN 4) (h1:=.d (.int k)) (h2:=.d (.int k)) (env:=[C,M,.s false (.ow .lst ((pre.map D.int).map .fz)),sN n,sN k]) rfl rfl rfl rfl rfl m3 rfl;have a4:evO (oMod (oAdd (oAdd (oMul (oN 3) (oN 3)) (oMul (oC (.int 48271)) (oN 3))) (oMul (oN 4) (oN 4))) (oC (.int 2147483647))) [C,M,.s false (.ow .lst ((pre.map D.int).map .fz)),sN n,sN k]=.ok (.d (.int v),[C,M,.s false (.ow .lst ((pre.map D.int).map .fz)),sN n,sN k]):=by
     rw[←hv];exact evO_o2 (evO_o2 (evO_o2 a1 a2 rfl rfl rfl rfl rfl) a3 rfl rfl rfl rfl rfl) rfl rfl rfl rfl rfl rfl
    unfold qQn;refine qL (e:=[C,M,.s false (.ow .lst ((pre.map D.int).map .fz)),sN v,sN k]) (z7 (zP (vP a4 rfl) rfl) rfl) ?_
    exact wK (xT (i:=2) (π:=[]) (os0:=(pre.map D.int).map .fz) (os:=(pre.map D.int).map .fz) (x:=.fz (.int v)) (e:=[C,M,.s false (.ow .lst ((pre.map D.int).map .fz)),sN v,sN k]) rfl rfl (zP (d:=.int v) rfl rfl) rfl rfl ap rfl) rfl
theorem stream_ok{c:Int}(h1:m<=100):∃ns:List Int,ns.length=m/\(∀x∈ns,0<=x)/\j7 [sN c,sN (m:Int)]=.ok (.ow .lst ((ns.map D.int).map .fz),[.un,.un]):=by
 have b1:0<=c % 2147483647:=Int.emod_nonneg _ (by decide);have b2:c % 2147483647<2147483647:=dU _ (by decide);obtain⟨ns,n',y4,q1,q2,q3⟩:=stream_loop (C:=sN c) (M:=sN (m:Int)) ((List.range m).map fun j:Nat=>(j:Int)) [] (c % 2147483647+48271) .un (fun k hk=>by
  obtain⟨j,hj,rfl⟩:=dW.mp hk;have:=List.mem_range.mp hj;omega) (by omega) (by omega) (by rw[aB,List.length_range];simp;omega)
 rw[cC]at q3;refine⟨ns,by rw[q1,aB,List.length_range],q2,?_⟩;unfold j7;refine vX (o:=.rt (.ow .lst ((ns.map D.int).map .fz)) [sN c,sN (m:Int),.un,sN n',y4]) ?_ rfl;refine qL (e:=[sN c,sN (m:Int),.s false (.ow .lst []),.un,.un]) (by kernel_rfl) ?_
 refine qL (e:=[sN c,sN (m:Int),.s false (.ow .lst []),sN (c % 2147483647+48271),.un]) (by kernel_rfl) ?_
 refine qL (qQx (vWi (xs:=[.int (m:Int)]) (e:=[sN c,sN (m:Int),.s false (.ow .lst []),sN (c % 2147483647+48271),.un]) (by rfl) ?_ rfl) q3) ?_
 ·show cond (in62 (m:Int)) (some (rngD 0 (m:Int).toNat)) none=_;rw[show in62 (m:Int)=true by unfold in62;simp;omega];show some (rngD 0 (m:Int).toNat)=_;unfold rngD;rw[cS];exact congrArg some (List.map_congr_left fun j _=>by show D.int (0+(j:Int))=D.int (j:Int);rw[Int.zero_add])
 ·rfl
noncomputable abbrev abc:List Nat:=[97,98,99,100,101,103,109,110,111,117,118,119,120,121,122]
theorem jJw:∀a∈abc,∀b∈abc,v6 (S [a,b])=true/\okC a=true/\okC b=true:=by decide +kernel
structure Nw(w:List Nat):Prop where
 g:v6 (S w)=true
 c:∀c∈w,okC c=true
 l:w.length=2
theorem abc_ix(m:Int){o:Oe}(ho:evO o env=.ok (.d (.int m),env)):∃a∈abc,evO (oIx (oC (.str "abcdegmnouvwxyz")) (oMod o (oC (.int 15)))) env=.ok (.d (.str (S [a])),env):=by
 have b1:0<=m % 15:=Int.emod_nonneg _ (by decide);have b2:m % 15<15:=dU _ (by decide);obtain⟨k,hk⟩:∃k:Nat,m % 15=(k:Int):=⟨(m % 15).toNat,by omega⟩
 have hlt:k<abc.length:=by show k<15;omega
 refine⟨abc[k],List.getElem_mem hlt,yK (h1:=.d (.str "abcdegmnouvwxyz")) (h2:=.d (.int (m % 15))) (z:=.str (S [abc[k]])) rfl (evO_o2 (h1:=.d (.int m)) (h2:=.d (.int 15)) ho rfl rfl rfl rfl rfl rfl) rfl rfl ?_ rfl⟩;rw[hk,show("abcdegmnouvwxyz":Str)=S abc by decide +kernel];show(ixD (.str (S abc)) (.int (k:Int))).map Hn.d=_;rw[qKm (aF hlt) (by decide)];rfl
theorem name_ok(m:Int):∃w,Nw w/\jW [sN m]=.ok (.fz (.str (S w)),[.un]):=by
 obtain⟨a,ha,ea⟩:=abc_ix m (env:=[sN m]) (o:=oN 0) rfl;obtain⟨b,hb,eb⟩:=abc_ix (m / 15) (env:=[sN m]) (o:=oDiv (oN 0) (oC (.int 15))) (evO_o2 (h1:=.d (.int m)) (h2:=.d (.int 15)) rfl rfl rfl rfl rfl rfl rfl);obtain⟨h1,h2,h3⟩:=jJw a ha b hb;refine⟨[a,b],⟨h1,fun c hc=>by
  simp only[aC,bS,or_false]at hc;rcases hc with rfl|rfl
  ·exact h2
  ·exact h3,rfl⟩,?_⟩
 unfold jW;exact vX (jG (zP (vP (aS (a:=[a]) (b:=[b]) ea eb (by show 1+1<=90000;decide)) rfl) rfl) rfl) rfl
structure U(u:Nat)(t:T):Prop where
 g:t.good
 c:∀c∈t.tx,okC c=true
 p:1<=u
 n:t.nb<=u
 w:(t.w 3).length+3<=7 * u
 l:t.tx.length+7<=13 * u
theorem wx_c{u:List Nat}(h:∀c∈u,okC c=true)(b:Bool):∀c∈wx b u,okC c=true:=fun c hc=>by
 cases b with
 |false=>exact h c hc
 | true=>
   rcases aC.mp hc with rfl|hc
   ·decide
   ·rcases cV.mp hc with hc | hc
    ·exact h c hc
    ·cases bG.mp hc;decide
theorem u_op{a b:T}{u v:Nat}(hs:s∈ [43,45,42,61,60])(ha:U u a)(hb:U v b):U (u+v) (.op s a b):=by
 have l1:=w_up (t:=a) (l:=max 1 (lv s)) (m:=3) (by unfold lv;split <;> first|decide|(split <;> decide));have l2:=w_up (t:=b) (l:=lv s+1) (m:=3) (by unfold lv;split <;> first|decide|(split <;> decide));have x1:=qKr (decide (a.lev<max 1 (lv s))) a.tx;have x2:=qKr (decide (b.lev<lv s+1)) b.tx;have k1:=ha.w;have k2:=hb.w;have k3:=ha.l;have k4:=hb.l;have p1:=ha.p;have p2:=hb.p;have n1:=ha.n;have n2:=hb.n;refine⟨⟨hs,ha.g,hb.g⟩,fun c hc=>?_,by omega,by show 1+max a.nb b.nb<=_;omega,?_,?_⟩
 ·have hc:c∈wx (decide (a.lev < max 1 (lv s))) a.tx ++ 32::s::32::wx (decide (b.lev < lv s + 1)) b.tx:=hc;rcases cV.mp hc with hc|hc
  ·exact wx_c ha.c _ c hc
  ·rcases aC.mp hc with rfl | hc
   ·decide
   ·rcases aC.mp hc with rfl | hc
    ·have:∀s∈ [43,45,42,61,60],okC s=true:=by decide
     exact this c hs
    ·rcases aC.mp hc with rfl | hc
     ·decide
     ·exact wx_c hb.c _ c hc
 ·rw [qW3];show(a.w (max 1 (lv s)) ++ S [s]::b.w (lv s+1)).length+_+3<=_;rw[aJ,aZ];have:cond (decide ((T.op s a b).lev<3)) 2 0<=2:=by cases decide ((T.op s a b).lev<3) <;> decide
  omega
 ·show(wx (decide (a.lev < max 1 (lv s))) a.tx ++ 32::s::32::wx (decide (b.lev < lv s + 1)) b.tx).length + 7<=_;rw[aJ,aZ,aZ,aZ];omega
theorem jJ3{a:T}{u:Nat}{w:List Nat}(ha:U u a)(hw:Nw w):U (u+1) (.fld a w):=by
 have x1:=qKr (decide (a.lev<3)) a.tx;have k1:=ha.w;have k3:=ha.l;have p1:=ha.p;have n1:=ha.n;have l2:=hw.l;refine⟨⟨ha.g,hw.g⟩,fun c hc=>?_,by omega,by show 1+a.nb<=_;omega,?_,?_⟩
 ·have hc:c∈wx (decide (a.lev < 3)) a.tx ++ 46::w:=hc;rcases cV.mp hc with hc|hc
  ·exact wx_c ha.c _ c hc
  ·rcases aC.mp hc with rfl | hc
   ·decide
   ·exact hw.c c hc
 ·show(a.w 3 ++ [S [46],S w]).length + 3<=_;rw[aJ];show(a.w 3).length+2+3<=_;omega
 ·show(wx (decide (a.lev < 3)) a.tx ++ 46::w).length + 7<=_;rw[aJ,aZ];omega
theorem jVu{w:List Nat}(hw:Nw w):U 1 (.name w):=⟨hw.g,hw.c,aP _,cJ _,by show 1+3<=7;decide,by show w.length+7<=13;rw[hw.l];decide⟩
theorem jVv{x:List Nat}(hf:Nw f)(hx:Nw x):U 1 (.call f x):=⟨⟨hf.g,hx.g⟩,fun c hc=>by
 have hc:c∈f ++ 40::(x ++ [41]):=hc;rcases cV.mp hc with hc|hc
 ·exact hf.c c hc
 ·rcases aC.mp hc with rfl | hc
  ·decide
  ·rcases cV.mp hc with hc | hc
   ·exact hx.c c hc
   ·cases bG.mp hc;decide,aP _,aP _,by show 4+3<=7;decide,by show(f ++ 40::(x ++ [41])).length+7<=13;rw[aJ,aZ,aJ,hf.l,hx.l];decide⟩
theorem jJ2(h:n<10 ^ 6):U 1 (.num n):=⟨h,fun c hc=>by
 have:=xP n c hc;have k:∀c,48<=c->c<=57->okC c=true:=by
  intro c h1 h2;have:∀c∈ [48,49,50,51,52,53,54,55,56,57],okC c=true:=by decide
  exact this c (by simp;omega)
 exact k c this.1 this.2,aP _,cJ _,by show 1+3<=7;decide,by have:=zJ8 h;show(dg n).length+7<=13;omega⟩
theorem zQk(m:Int):∃t,U 1 t/\jX [sN m]=.ok (.fz t.d,[.un]):=by
 obtain⟨w,hw,ew⟩:=name_ok (m / 4);obtain⟨x,hx,ex⟩:=name_ok (m / 900);have v4:oV (oDiv (oN 0) (oC (.int 4))) [sN m]=.ok (.int (m / 4),[sN m]):=vP (evO_o2 (h1:=.d (.int m)) (h2:=.d (.int 4)) rfl rfl rfl rfl rfl rfl rfl) rfl;have v9:oV (oDiv (oN 0) (oC (.int 900))) [sN m]=.ok (.int (m / 900),[sN m]):=vP (evO_o2 (h1:=.d (.int m)) (h2:=.d (.int 900)) rfl rfl rfl rfl rfl rfl rfl) rfl;have nm:fzS (qY jW [(.v (oV (oDiv (oN 0) (oC (.int 4)))))]) [sN m]=.ok (.str (S w),[sN m]):=vL (call1 ew v4) rfl;have nx:fzS (qY jW [(.v (oV (oDiv (oN 0) (oC (.int 900)))))]) [sN m]=.ok (.str (S x),[sN m]):=vL (call1 ex v9) rfl;have t:∀k:Int,asB (o2 eqF (oMod (oN 0) (oC (.int 4))) (oC (.int k))) [sN m]=.ok (decide (m % 4=k),[sN m]):=fun k=>by
  show Res.ok (m % 4 == k,_)=_;rw[show(m % 4 == k)=decide (m % 4=k) by rw[bH];simp]
 have t0:=t 0;have t1:=t 1;by_cases h0:m % 4=0
 ·rw [decide_eq_true h0] at t0;have b1:0<=m / 4 % 1000000:=Int.emod_nonneg _ (by decide);have b2:m / 4 % 1000000<1000000:=dU _ (by decide);obtain⟨n,hn⟩:∃n:Nat,m / 4 % 1000000=(n:Int):=⟨(m / 4 % 1000000).toNat,by omega⟩
  refine⟨.num n,jJ2 (by omega),?_⟩;unfold jX;refine vX (o:=.rt (.fz (T.num n).d) [sN m]) (qM t0 (qWb (o:=.fz (T.num n).d) (e:=[sN m]) ?_ rfl)) rfl;show sRet (owS (vD [(oV (oC (.str "num"))),(oV (oMod (oDiv (oN 0) (oC (.int 4))) (oPow (oC (.int 10)) (oC (.int 6)))))])) [sN m]=.ok (.rt (.fz (.tup [.str "num",.int (n:Int)])) [sN m]);rw[←hn];kernel_rfl
 ·rw [decide_eq_false h0] at t0;by_cases h1:m % 4=1
  ·rw [decide_eq_true h1] at t1;refine⟨.call w x,jVv hw hx,?_⟩;unfold jX;refine vX (o:=.rt (.fz (T.call w x).d) [sN m]) (qM t0 (vG (qM t1 (qWb (o:=.fz (T.call w x).d) (e:=[sN m]) ?_ rfl)))) rfl;exact jG (zP (xZ (qC rfl (qC nm (qC (xZ (qC (xZ (qC rfl (qC nx (wZ rfl) rfl) rfl) rfl rfl) (wZ rfl) rfl) rfl rfl) (wZ rfl) rfl) rfl) rfl) rfl rfl) rfl) rfl
  ·rw [decide_eq_false h1] at t1;refine⟨.name w,jVu hw,?_⟩;unfold jX;refine vX (o:=.rt (.fz (T.name w).d) [sN m]) (qM t0 (vG (qM t1 (vG ?_)))) rfl;exact jG (zP (xZ (qC rfl (qC nm (wZ rfl) rfl) rfl) rfl rfl) rfl) rfl

noncomputable def UsR:Nat->List T->Prop
 |_,[]=>True
 |n,a::r=>∃u m,u+m<=n/\U u a/\UsR m r
noncomputable def Us(n:Nat)(l:List T):Prop:=UsR n l.reverse
theorem Us.pop{l:List T}{a:T}(h:Us n (l ++ [a])):∃u m,u+m<=n/\U u a/\Us m l:=by
 unfold Us at h;rw[List.reverse_append]at h;exact h
theorem Us.push{u:Nat}{l:List T}{a:T}(h:Us m l)(k:U u a)(e:u+m<=n):Us n (l ++ [a]):=by
 unfold Us;rw[List.reverse_append];exact⟨u,m,e,k,h⟩
noncomputable abbrev tO(l:List T):O:=.ow .lst ((l.map T.d).map .fz)
theorem vWb{l:List T}{a:T}{s:SP}(hs:s env=some (.p i []))(h:qQ8 env i []=some (((l ++ [a]).map T.d).map .fz)):ePop s env=.ok (.fz a.d,setE env i [] (tO l)):=by
 unfold ePop;rw[hs];show(opt (qQ8 env i [])).bind _=_;rw[h];have e1:(((l ++ [a]).map T.d).map O.fz)[(((l ++ [a]).map T.d).map O.fz).length - 1]?=some (.fz a.d):=by
  rw[bL,bL,aJ];show(((l.map T.d).map O.fz) ++ [O.fz a.d])[((l.map T.d).map O.fz).length+1 - 1]?=_;rw[Nat.add_sub_cancel,cL (aP _),Nat.sub_self];rfl
 have e2:(((l ++ [a]).map T.d).map O.fz).eraseIdx ((((l ++ [a]).map T.d).map O.fz).length - 1)=(l.map T.d).map O.fz:=by
  rw[←qJd,bL,bL];exact List.dropLast_concat
 show(opt ((((l ++ [a]).map T.d).map O.fz)[(((l ++ [a]).map T.d).map O.fz).length - 1]?)).bind _=_;rw[e1];show Res.ok _=_;rw[e2]
theorem apT{l:List T}{a:T}(h:l.length<=1000):apF ((l.map T.d).map .fz) (.fz a.d)=some (.fz .non,((l ++ [a]).map T.d).map .fz):=by
 have:=apL (ds:=l.map T.d) (d:=a.d) (by rw[aB];exact h);rw[this,bL (l₁:=l)];rfl
theorem sgn_ix{z:Str}{L:List Nat}(hz:z=S L)(hl:L.length=5)(hs:∀c∈L,c∈ [43,45,42,61,60])(m:Int){o:Oe}(ho:evO o env=.ok (.d (.int m),env)):∃s∈ [43,45,42,61,60],oV (oIx (oC (.str z)) (oMod o (oC (.int 5)))) env=.ok (.str (S [s]),env):=by
 have b1:0<=m % 5:=Int.emod_nonneg _ (by decide);have b2:m % 5<5:=dU _ (by decide);obtain⟨k,hk⟩:∃k:Nat,m % 5=(k:Int):=⟨(m % 5).toNat,by omega⟩
 have hlt:k<L.length:=by omega
 refine⟨L[k],hs _ (List.getElem_mem hlt),vP (yK (h1:=.d (.str z)) (h2:=.d (.int (m % 5))) (z:=.str (S [L[k]])) rfl (evO_o2 (h1:=.d (.int m)) (h2:=.d (.int 5)) ho rfl rfl rfl rfl rfl rfl) rfl rfl ?_ rfl) rfl⟩;rw[hk,hz];show(ixD (.str (S L)) (.int (k:Int))).map Hn.d=_;rw[qKm (aF hlt) (by omega)];rfl
section
variable{c:Slot}
noncomputable abbrev tE(c:Slot)(held:List T)(n k m s z:Slot):Ev:=[c,.s false (tO held),n,k,m,s,z]
theorem jVg(held:List T)(n k m s z:Slot):evO (oL lenD [(oN 1)]) (tE c held n k m s z)=.ok (.d (.int (held.length:Int)),tE c held n k m s z):=by
 have:evO (oL lenD [(oN 1)]) (tE c held n k m s z)=.ok (.d (.int ((fzOs ((held.map T.d).map .fz)).length :Int)),tE c held n k m s z):=by kernel_rfl
 rw[this,xF,aB]
theorem grow_step{held:List T}{u:Nat}{n:Int}{k m s z:Slot}(hu:Us u held)(hl:held.length<=900):∃held' k' m' s' z',Us (u+1) held' /\1<=held'.length/\held'.length<=held.length+1/\yD (tE c held (sN n) k m s z)=.ok (.nx (tE c held' (sN n) k' m' s' z')):=by
 unfold yD
 obtain⟨sg,hsg,ix⟩:=sgn_ix (z:="+-*=<") (L:=[43,45,42,61,60]) (by decide +kernel) rfl (fun c h=>h) (n / 5) (env:=tE c held (sN n) (sN (n % 5)) (sN (n / 5)) s z) (o:=oN 4) rfl
 have start:∀{X:Res Out} {t:SS},t (tE c held (sN n) (sN (n % 5)) (sN (n / 5)) (sS (S [sg])) z)=X->(sSeq (sSet 3 (owS (oV (oMod (oN 2) (oC (.int 5)))))) (sSeq (sSet 4 (owS (oV (oDiv (oN 2) (oC (.int 5)))))) (sSeq (sSet 5 (owS (oV (oIx (oC (.str "+-*=<")) (oMod (oN 4) (oC (.int 5))))))) t))) (tE c held (sN n) k m s z)=X:=fun h=>
  qL (e:=tE c held (sN n) (sN (n % 5)) m s z) (by kernel_rfl) (qL (e:=tE c held (sN n) (sN (n % 5)) (sN (n / 5)) s z) (by kernel_rfl) (qL (z7 (zP ix rfl) rfl) h))
 have tk:∀j:Int,asB (o2 eqF (oN 3) (oC (.int j))) (tE c held (sN n) (sN (n % 5)) (sN (n / 5)) (sS (S [sg])) z)=.ok (decide (n % 5=j),tE c held (sN n) (sN (n % 5)) (sN (n / 5)) (sS (S [sg])) z):=fun j=>by
  show Res.ok (n % 5 == j,_)=_
  rw[show(n % 5 == j)=decide (n % 5=j) by rw[bH];simp]
 have tl:asB (o2 eqF (oL lenD [(oN 1)]) (oC (.int 0))) (tE c held (sN n) (sN (n % 5)) (sN (n / 5)) (sS (S [sg])) z)=.ok (decide (held.length=0),tE c held (sN n) (sN (n % 5)) (sN (n / 5)) (sS (S [sg])) z):=
  vT (d:=.bl (decide (held.length=0))) (vP (evO_o2 (h1:=.d (.int (held.length:Int))) (h2:=.d (.int 0)) (jVg ..) rfl rfl rfl rfl (by
   show some (D.bl ((held.length:Int) == 0))=_
   rw[show((held.length:Int) == 0)=decide (held.length=0) by rw[bH];simp]) rfl) rfl) rfl rfl
 obtain⟨lf,ul,el⟩:=zQk (n / 5)
 obtain⟨lf2,ul2,el2⟩:=zQk (n / 5 / 5)
 obtain⟨w,hw,ew⟩:=name_ok (n / 5)
 rcases List.eq_nil_or_concat held with rfl|⟨in1,b,rfl⟩
 · -- nothing kept
   refine⟨[lf],sN (n % 5),sN (n / 5),sS (S [sg]),z,Us.push (l:=[]) (m:=0) trivial ul (by omega),by simp,by simp,start (vR (q:=true) (wE tl rfl) ?_)⟩
   exact wK (xT (i:=1) (π:=[]) (os0:=[]) (os:=[]) (x:=.fz lf.d) rfl rfl (call1 el rfl) rfl rfl (apT (l:=[]) (by simp)) rfl) rfl
 rw[List.concat_eq_append]at *
 obtain⟨u1,m1,e1,hb,h1⟩:=hu.pop
 simp only[aJ,dC]at hl
 have tl:asB (o2 eqF (oL lenD [(oN 1)]) (oC (.int 0))) (tE c (in1 ++ [b]) (sN n) (sN (n % 5)) (sN (n / 5)) (sS (S [sg])) z)=.ok (false,tE c (in1 ++ [b]) (sN n) (sN (n % 5)) (sN (n / 5)) (sS (S [sg])) z):=by rw[tl,decide_eq_false (by simp)]
 have t0:=tk 0
 have t1:=tk 1
 have t2:=tk 2
 by_cases k0:n % 5=0
 ·rw [decide_eq_true k0] at t0
  refine⟨in1 ++ [b] ++ [lf],sN (n % 5),sN (n / 5),sS (S [sg]),z,hu.push ul (by omega),by simp,by simp,start (vR (q:=true) (wE tl t0) ?_)⟩
  exact wK (xT (i:=1) (π:=[]) (os0:=((in1 ++ [b]).map T.d).map .fz) (os:=((in1 ++ [b]).map T.d).map .fz) (x:=.fz lf.d) rfl rfl (call1 el rfl) rfl rfl (apT (by simp;omega)) rfl) rfl
 rw[decide_eq_false k0]at t0
 have pb:∀x1 x2 x3 x4 x5:Slot,fzS (ePop (pOf (oN 1))) (tE c (in1 ++ [b]) x1 x2 x3 x4 x5)=.ok (b.d,tE c in1 x1 x2 x3 x4 x5):=fun _ _ _ _ _=>vL (vWb (i:=1) (l:=in1) (a:=b) (by rfl) (by rfl)) rfl
 by_cases k1:n % 5=1
 ·rw [decide_eq_true k1] at t1
  refine⟨in1 ++ [.fld b w],sN (n % 5),sN (n / 5),sS (S [sg]),z,h1.push (jJ3 hb hw) (by omega),by simp,by simp,start (vR (q:=false) (wE tl t0) (vR (q:=true) t1 ?_))⟩
  exact wK (xT (i:=1) (π:=[]) (os0:=((in1 ++ [b]).map T.d).map .fz) (os:=(in1.map T.d).map .fz) (x:=.fz (T.fld b w).d) (e:=tE c in1 (sN n) (sN (n % 5)) (sN (n / 5)) (sS (S [sg])) z) rfl rfl (zP (xZ (qC rfl (qC (pb _ _ _ _ _) (qC (vL (call1 ew rfl) rfl) (wZ rfl) rfl) rfl) rfl) rfl rfl) rfl) rfl rfl (apT (by omega)) rfl) rfl
 rw[decide_eq_false k1]at t1
 have tg:asB (oGt (oL lenD [(oN 1)]) (oC (.int 1))) (tE c (in1 ++ [b]) (sN n) (sN (n % 5)) (sN (n / 5)) (sS (S [sg])) z)=.ok (decide (1<((in1 ++ [b]).length :Int)),tE c (in1 ++ [b]) (sN n) (sN (n % 5)) (sN (n / 5)) (sS (S [sg])) z):=by
  have:asB (oGt (oL lenD [(oN 1)]) (oC (.int 1))) (tE c (in1 ++ [b]) (sN n) (sN (n % 5)) (sN (n / 5)) (sS (S [sg])) z)=.ok (decide (1<((fzOs (((in1 ++ [b]).map T.d).map .fz)).length :Int)),tE c (in1 ++ [b]) (sN n) (sN (n % 5)) (sN (n / 5)) (sS (S [sg])) z):=by kernel_rfl
  rw[this,xF,aB]
 rcases List.eq_nil_or_concat in1 with rfl|⟨in2,a,rfl⟩
 · -- one kept
   rw[decide_eq_false (by simp)]at tg
   have lf2c:∀held z,fzS (qY jX [(.v (oV (oDiv (oN 4) (oC (.int 5)))))]) (tE c held (sN n) (sN (n % 5)) (sN (n / 5)) (sS (S [sg])) z)=.ok (lf2.d,tE c held (sN n) (sN (n % 5)) (sN (n / 5)) (sS (S [sg])) z):=fun held z=>vL (call1 el2 (vP (evO_o2 (h1:=.d (.int (n / 5))) (h2:=.d (.int 5)) rfl rfl rfl rfl rfl rfl rfl) rfl)) rfl
   by_cases k2:n % 5=2
   ·rw [decide_eq_true k2] at t2
    refine⟨[] ++ [.op sg lf2 b],sN (n % 5),sN (n / 5),sS (S [sg]),z,h1.push (u_op hsg ul2 hb) (by omega),by simp,by simp,start (vR (q:=false) (wE tl t0) (vR (q:=false) t1 (vR (q:=false) tg (vR (q:=true) t2 ?_))))⟩
    exact wK (xT (i:=1) (π:=[]) (os0:=(([] ++ [b]).map T.d).map .fz) (os:=[]) (x:=.fz (T.op sg lf2 b).d) (e:=tE c [] (sN n) (sN (n % 5)) (sN (n / 5)) (sS (S [sg])) z) rfl rfl (zP (xZ (qC rfl (qC rfl (qC (lf2c _ _) (qC (pb _ _ _ _ _) (wZ rfl) rfl) rfl) rfl) rfl) rfl rfl) rfl) rfl rfl (apT (l:=[]) (by simp)) rfl) rfl
   ·rw [decide_eq_false k2] at t2
    refine⟨[] ++ [.op sg b lf2],sN (n % 5),sN (n / 5),sS (S [sg]),z,h1.push (u_op hsg hb ul2) (by omega),by simp,by simp,start (vR (q:=false) (wE tl t0) (vR (q:=false) t1 (vR (q:=false) tg (vR (q:=false) t2 ?_))))⟩
    exact wK (xT (i:=1) (π:=[]) (os0:=(([] ++ [b]).map T.d).map .fz) (os:=[]) (x:=.fz (T.op sg b lf2).d) (e:=tE c [] (sN n) (sN (n % 5)) (sN (n / 5)) (sS (S [sg])) z) rfl rfl (zP (xZ (qC rfl (qC rfl (qC (pb _ _ _ _ _) (qC (lf2c _ _) (wZ rfl) rfl) rfl) rfl) rfl) rfl rfl) rfl) rfl rfl (apT (l:=[]) (by simp)) rfl) rfl
 · -- two
   rw[List.concat_eq_append]at *
   rw[decide_eq_true (by simp;omega)]at tg
   obtain⟨u2,m2,e2,ha,h2⟩:=h1.pop
   simp only[aJ,dC]at hl
   have pa:∀x1 x2 x3 x4 x5:Slot,fzS (ePop (pOf (oN 1))) (tE c (in2 ++ [a]) x1 x2 x3 x4 x5)=.ok (a.d,tE c in2 x1 x2 x3 x4 x5):=fun _ _ _ _ _=>vL (vWb (i:=1) (l:=in2) (a:=a) (by rfl) (by rfl)) rfl
   refine⟨in2 ++ [.op sg a b],sN (n % 5),sN (n / 5),sS (S [sg]),fz b.d,h2.push (u_op hsg ha hb) (by omega),by simp,by simp,start (vR (q:=false) (wE tl t0) (vR (q:=false) t1 (vR (q:=true) tg ?_)))⟩
   refine qL (e:=tE c (in2 ++ [a]) (sN n) (sN (n % 5)) (sN (n / 5)) (sS (S [sg])) (fz b.d)) (z7 (vWb (i:=1) (l:=in2 ++ [a]) (a:=b) (by rfl) (by rfl)) rfl) ?_
   exact wK (xT (i:=1) (π:=[]) (os0:=((in2 ++ [a]).map T.d).map .fz) (os:=(in2.map T.d).map .fz) (x:=.fz (T.op sg a b).d) (e:=tE c in2 (sN n) (sN (n % 5)) (sN (n / 5)) (sS (S [sg])) (fz b.d)) rfl rfl (zP (xZ (qC rfl (qC rfl (qC (pa _ _ _ _ _) (qC rfl (wZ rfl) rfl) rfl) rfl) rfl) rfl rfl) rfl) rfl rfl (apT (by omega)) rfl) rfl
theorem grow_loop:∀(ns:List Int) (held:List T) (u:Nat) (x k m s z:Slot),Us u held->held.length+ns.length<=900->1<=held.length+ns.length->∃held' x' k' m' s' z',Us (u+ns.length) held' /\1<=held'.length/\held'.length<=held.length+ns.length/\forS (gN 2) yD (ns.map .int) (tE c held x k m s z)=.ok (.nx (tE c held' x' k' m' s' z'))
 |[],held,u,x,k,m,s,z,hu,_,h1=>⟨held,x,k,m,s,z,hu,h1,aP _,rfl⟩
 | n::ns,held,u,x,k,m,s,z,hu,hl,_=>by
   rw[aZ]at hl;obtain⟨held1,k1,m1,s1,z1,a1,a2,a3,a4⟩:=grow_step (c:=c) (n:=n) (k:=k) (m:=m) (s:=s) (z:=z) hu (by omega);obtain⟨held2,x2,k2,m2,s2,z2,b1,b2,b3,b4⟩:=grow_loop ns held1 (u+1) (sN n) k1 m1 s1 z1 a1 (by omega) (by omega);exact⟨held2,x2,k2,m2,s2,z2,by rw[aZ,show u+(ns.length+1)=u+1+ns.length by omega];exact b1,b2,by rw[aZ];omega,jP (e1:=tE c held (sN n) k m s z) rfl a4 b4⟩
theorem while_ok:∀(f:Nat) (held:List T) (u:Nat) (n k m s z:Slot),1<=held.length->held.length<=f->held.length<=900->Us u held->∃t z',U u t/\vS (asB (oGt (oL lenD [(oN 1)]) (oC (.int 1)))) wS f (tE c held n k m s z)=.ok (.nx (tE c [t] n k m s z'))
 | 0,held,u,n,k,m,s,z,h1,hf,_,_=>by omega
 | f + 1,held,u,n,k,m,s,z,h1,hf,hl,hu=>by
   have tst:asB (oGt (oL lenD [(oN 1)]) (oC (.int 1))) (tE c held n k m s z)=.ok (decide (1<(held.length:Int)),tE c held n k m s z):=by
    have:asB (oGt (oL lenD [(oN 1)]) (oC (.int 1))) (tE c held n k m s z)=.ok (decide (1<((fzOs ((held.map T.d).map .fz)).length :Int)),tE c held n k m s z):=by kernel_rfl
    rw[this,xF,aB]
   by_cases q:held.length=1
   ·match held,q,hu with
    | [t],_,hu=>
      obtain⟨u1,m1,e1,ht,_⟩:=Us.pop (l:=[]) hu;refine⟨t,z,⟨ht.g,ht.c,by have:=ht.p;omega,by have:=ht.n;omega,by have:=ht.w;omega,by have:=ht.l;omega⟩,?_⟩;show((asB (oGt (oL lenD [(oN 1)]) (oC (.int 1)))) (tE c [t] n k m s z)).bind _=_;rw[tst];rfl
   ·rcases List.eq_nil_or_concat held with rfl | ⟨in1,b,rfl⟩
    ·simp at h1
    rw[List.concat_eq_append]at *;rcases List.eq_nil_or_concat in1 with rfl|⟨in2,a,rfl⟩
    ·simp at q
    rw[List.concat_eq_append]at *;obtain⟨u1,m1,e1,hb,h1'⟩:=hu.pop;obtain⟨u2,m2,e2,ha,h2⟩:=h1'.pop;simp only[aJ,dC]at hf h1 hl;rw[aJ,aJ]at tst;rw[decide_eq_true (by simp;omega)]at tst;obtain⟨sg,hsg,ix⟩:=sgn_ix (z:="-*=+<") (L:=[45,42,61,43,60]) (by decide +kernel) rfl (by decide) ((in2 ++ [a]).length :Int) (env:=tE c (in2 ++ [a]) n k m s (fz b.d)) (o:=oL lenD [(oN 1)]) (jVg ..);have pa:fzS (ePop (pOf (oN 1))) (tE c (in2 ++ [a]) n k m s (fz b.d))=.ok (a.d,tE c in2 n k m s (fz b.d)):=vL (vWb (i:=1) (l:=in2) (a:=a) (by rfl) (by rfl)) rfl;have bd:wS (tE c (in2 ++ [a] ++ [b]) n k m s z)=.ok (.nx (tE c (in2 ++ [.op sg a b]) n k m s (fz b.d))):=by
     unfold wS;refine qL (e:=tE c (in2 ++ [a]) n k m s (fz b.d)) (z7 (vWb (i:=1) (l:=in2 ++ [a]) (a:=b) (by rfl) (by rfl)) rfl) ?_
     exact wK (xT (i:=1) (π:=[]) (os0:=((in2 ++ [a]).map T.d).map .fz) (os:=(in2.map T.d).map .fz) (x:=.fz (T.op sg a b).d) (e:=tE c in2 n k m s (fz b.d)) rfl rfl (zP (xZ (qC rfl (qC ix (qC pa (qC rfl (wZ rfl) rfl) rfl) rfl) rfl) rfl rfl) rfl) rfl rfl (apT (by omega)) rfl) rfl
    obtain⟨t,z',o1,o2⟩:=while_ok f (in2 ++ [.op sg a b]) u n k m s (fz b.d) (by simp) (by simp;omega) (by simp;omega) (h2.push (u_op hsg ha hb) (by omega));refine⟨t,z',o1,?_⟩;show((asB (oGt (oL lenD [(oN 1)]) (oC (.int 1)))) (tE c (in2 ++ [a] ++ [b]) n k m s z)).bind _=_;rw[tst];show(wS (tE c (in2 ++ [a] ++ [b]) n k m s z)).bind _=_;rw[bd];exact o2
end
theorem vK6(v:Int):∃t,Gt t/\wU [sN v]=.ok (.fz t.d,[.un]):=by
 have b1:0<=v % 6:=Int.emod_nonneg _ (by decide);have b2:v % 6<6:=dU _ (by decide);obtain⟨M,hM⟩:∃M:Nat,2+v % 6=(M:Int):=⟨(2+v % 6).toNat,by omega⟩
 obtain⟨ns,nl,_,st⟩:=stream_ok (c:=v / 7) (m:=M) (by omega);obtain⟨held,x,k,m,s,z,g1,g2,g3,g4⟩:=grow_loop (c:=sN v) ns [] 0 .un .un .un .un .un trivial (by simp;omega) (by simp;omega);obtain⟨t,z',o1,o2⟩:=while_ok (c:=sN v) 100000 held (0+ns.length) x k m s z g2 (by simp at g3;omega) (by simp at g3;omega) g1;have hu:ns.length<=7:=by omega
 have w1:=o1.w;have w2:=w_up (t:=t) (l:=0) (m:=3) (by decide);rw[vKq]at w2;refine⟨t,⟨o1.g,o1.c,by have:=o1.n;omega,by omega,by have:=o1.l;omega⟩,?_⟩;unfold wU;have it:iV (fzS (qY j7 [(.v (oV (oDiv (oN 0) (oC (.int 7))))),(.v (oV (oAdd (oC (.int 2)) (oMod (oN 0) (oC (.int 6))))))])) (tE (sN v) [] .un .un .un .un .un)=.ok (ns.map .int,tE (sN v) [] .un .un .un .un .un):=by
  have c:qY j7 [(.v (oV (oDiv (oN 0) (oC (.int 7))))),(.v (oV (oAdd (oC (.int 2)) (oMod (oN 0) (oC (.int 6))))))] (tE (sN v) [] .un .un .un .un .un)=.ok (.ow .lst ((ns.map D.int).map .fz),tE (sN v) [] .un .un .un .un .un):=by
   rw[←hM]at st;exact zW (xI (d:=.int (v / 7)) (vP (evO_o2 (h1:=.d (.int v)) (h2:=.d (.int 7)) rfl rfl rfl rfl rfl rfl rfl) rfl) (xI (d:=.int (2+v % 6)) (by rfl) (qKf rfl) rfl) rfl) (xM (t0:=([],tE (sN v) [] .un .un .un .un .un)) (t:=([],tE (sN v) [] .un .un .un .un .un)) rfl rfl rfl st rfl rfl rfl)
  refine vKy (vL c rfl) ?_ rfl;show some (fzOs ((ns.map D.int).map .fz))=_;rw[xF]
 refine vX (o:=.rt (.fz t.d) (tE (sN v) [t] x k m s z')) (qI (o:=.ow .lst []) (e:=[sN v,.un,.un,.un,.un,.un,.un]) rfl (qL (qQx it g4) (qL o2 ?_))) rfl;kernel_rfl
theorem vXe:∀(l:List D) (i:Nat) (cells:Slot) (y1 y2:Slot),(∀d∈l,∃n,d=.int n)->i+l.length<=63->∃z1 z2,forS (gT 2 (gCn (gN 1) (gCn (gN 2) gNl))) vJq (yN i l) [cells,y1,y2]=.ok (.nx [cells,z1,z2])
 |[],i,cells,y1,y2,_,_=>⟨y1,y2,rfl⟩
 | d::l,i,cells,y1,y2,hd0,hi=>by
   obtain⟨n,rfl⟩:=hd0 d (aM ..);rw[aZ]at hi;obtain⟨z1,z2,h⟩:=vXe l (i+1) cells (sN (i:Int)) (sN n) (fun z hz=>hd0 z (aI _ hz)) (by omega);refine⟨z1,z2,jP (e1:=[cells,sN (i:Int),sN n]) (e2:=[cells,sN (i:Int),sN n]) rfl ?_ h⟩;obtain⟨t,G,ht⟩:=vK6 (n % 1000000000000000+104729 * (i:Int) * (i:Int));have gd:=zQu G;have m1:=mulD (a:=104729) (b:=(i:Int)) (by decide) (by decide) (by omega) (by omega);have m2:=mulD (a:=104729 * (i:Int)) (b:=(i:Int)) (by omega) (by omega) (by omega) (by omega);have vm:evO (oMul (oMul (oC (.int 104729)) (oN 1)) (oN 1)) [cells,sN (i:Int),sN n]=.ok (.d (.int (104729 * (i:Int) * (i:Int))),[cells,sN (i:Int),sN n]):=
    evO_o2 (h1:=.d (.int (104729 * (i:Int)))) (h2:=.d (.int (i:Int))) (e:=[cells,sN (i:Int),sN n]) (e1:=[cells,sN (i:Int),sN n]) (evO_o2 (h1:=.d (.int 104729)) (h2:=.d (.int (i:Int))) (e:=[cells,sN (i:Int),sN n]) (e1:=[cells,sN (i:Int),sN n]) rfl rfl rfl rfl rfl m1 rfl) rfl rfl rfl rfl m2 rfl
   have vp:evO (oMod (oN 2) (oPow (oC (.int 10)) (oC (.int 15)))) [cells,sN (i:Int),sN n]=.ok (.d (.int (n % 1000000000000000)),[cells,sN (i:Int),sN n]):=by kernel_rfl
   have v:oV (oAdd (oMod (oN 2) (oPow (oC (.int 10)) (oC (.int 15)))) (oMul (oMul (oC (.int 104729)) (oN 1)) (oN 1))) [cells,sN (i:Int),sN n]=.ok (.int (n % 1000000000000000+104729 * (i:Int) * (i:Int)),[cells,sN (i:Int),sN n]):=
    vP (evO_o2 vp vm rfl rfl rfl rfl rfl) rfl
   have c1:fzS (qY wU [(.v (oV (oAdd (oMod (oN 2) (oPow (oC (.int 10)) (oC (.int 15)))) (oMul (oMul (oC (.int 104729)) (oN 1)) (oN 1)))))]) [cells,sN (i:Int),sN n]=.ok (t.d,[cells,sN (i:Int),sN n]):=vL (call1 ht v) rfl;unfold vJq;exact vR (wQ (vT (vP (v8 (vL (call1 gd c1) rfl) rfl) rfl) rfl rfl) rfl) rfl
theorem jWa(ns:List Int):fzS (eSlL (oN 0) none (some (oV (oC (.int 16))))) [fz (.nd .lst (ns.map .int)),.un,.un]=.ok (.nd .lst (cutL (ns.map D.int) none (some 16)),[fz (.nd .lst (ns.map .int)),.un,.un]):=by
 refine vL (o:=.ow .lst ((cutL (ns.map D.int) none (some 16)).map .fz)) rfl ?_
 rw[zQw]
theorem zXm(ns:List Int)(h:ns.length<=63):∃e,zZ5 [.s false (.fz (.nd .lst (ns.map .int)))]=.ok (.fz (.bl true),e):=by
 obtain⟨t,G,ht⟩:=vK6 ((ns.map D.int).length :Nat);have gd:=zQu G;have sl:=jWa ns;have hm:∀d∈cutL (ns.map D.int) none (some 16),∃n,d=.int n:=fun d hd=>by
  unfold cutL at hd;obtain⟨i,_,rfl⟩:=dW.mp (List.mem_of_mem_drop (List.mem_of_mem_take hd));exact⟨i,rfl⟩
 have hn:(cutL (ns.map D.int) none (some 16)).length <=63:=by
  unfold cutL;have:=aB (as:=ns) D.int;simp only[cY,bP];omega
 generalize cutL (ns.map D.int) none (some 16)=ds at *;obtain⟨z1,z2,lp⟩:=vXe ds 0 (fz (.nd .lst (ns.map .int))) .un .un hm (by omega);have c1:fzS (qY wU [(.v (oV (oL lenD [(oN 0)])))]) [fz (.nd .lst (ns.map .int)),z1,z2]=.ok (t.d,[fz (.nd .lst (ns.map .int)),z1,z2]):=vL (call1 ht rfl) rfl;refine⟨[.un],?_⟩;unfold zZ5;refine vX (qL (qQx (ds:=yN 0 ds) (e:=[fz (.nd .lst (ns.map .int)),.un,.un]) ?_ lp) (jG (o:=.fz (.bl true)) (e:=[fz (.nd .lst (ns.map .int)),z1,z2]) (call1 gd c1) rfl)) rfl;exact vWi (xs:=[.nd .lst ds]) (qC sl (wZ rfl) rfl) rfl rfl
end X18
namespace DX
open PySem L2 PyProof.Rows
variable{k:Str}{K:aQ}{c:Nat->aV}
noncomputable def zZ1(P:Params)(l:List (Str×Tok×Value)):List DictEntry:=l.map fun e=>⟨aO P e.1,.str e.1 e.2.1,e.2.2⟩
noncomputable def KTb(K:aQ)(c:Nat->aV):List (Str×Tok×Value)->List (Str×D)->Prop
 |[],[]=>True
 |e::l,t::tb=>e.1=t.1/\(∃v,RelV v e.2.2/\∀F,DAt K c F v t.2)/\KTb K c l tb
 |_,_=>False
theorem zXq{x:Str}{t:Tok}(h:x≠k):yM (.inr k) (.str x t)=false:=by
 cases q:yM (.inr k) (.str x t) with
 |false=>rfl
 | true=>
   rcases zX q with⟨i,u,e,_⟩|⟨y,u,e,e2⟩
   ·cases e
   ·cases e;cases e2;exact absurd rfl h
theorem kd_find{P:Params}{d:D}:∀{l:List (Str×Tok×Value)} {tb:List (Str×D)},KTb K c l tb->tb.lookup k=some d->∃e,(zZ1 P l).find? (fun e=>yM (.inr k) e.key)=some e/\∃v,RelV v e.val/\∀F,DAt K c F v d
 |[],[],_,h=>by cases h
 |[],_::_,h,_=>h.elim
 |_::_,[],h,_=>h.elim
 | e::l,t::tb,⟨h1,⟨v,h2,h3⟩,h4⟩,h=>by
   by_cases q:t.1=k
   ·rw[show(t::tb).lookup k=some t.2 from by
     show(match k == t.1 with|true=>some t.2|false=>tb.lookup k)=_;rw[q,beq_self_eq_true]]at h
    cases h;refine⟨⟨aO P e.1,.str e.1 e.2.1,e.2.2⟩,?_,v,h2,h3⟩;show List.find? _ (_::_)=_;rw[List.find?_cons];rw[show yM (.inr k) (.str e.1 e.2.1)=true from by rw[h1,q];exact qJv _ _]
   ·rw[show(t::tb).lookup k=tb.lookup k from by
     show(match k == t.1 with|true=>some t.2|false=>tb.lookup k)=_;rw[show(k == t.1)=false from by simp[Ne.symm q]]]at h
    obtain⟨e',a,b⟩:=kd_find (P:=P) h4 h;refine⟨e',?_,b⟩;show List.find? _ (_::_)=_;rw[List.find?_cons];rw[show yM (.inr k) (.str e.1 e.2.1)=false from zXq (by rw[h1];exact q)];exact a
theorem kd_of{w:bX}{a:aV}{o:Obj}{l:List (Str×Tok×Value)}{ep:Nat}{tb:List (Str×D)}(h1:K.lookup a=some o)(h2:o.ExactDict)(h3:o.data=.dict (zZ1 w.params l).toArray ep)(h4:KTb K c l tb):vWm w K c a tb:=by
 refine⟨o,_,ep,h1,h2,h3,fun P e he=>?_,fun P k d h=>?_⟩
 ·obtain⟨x,hx,rfl⟩:=dW.mp (List.mem_toArray.mp he);exact⟨.inr x.1,qJv x.1 x.2.1,rfl⟩
 ·obtain⟨e,f,v,r1,r2⟩:=kd_find (P:=w.params) h4 h;refine⟨e.val,v,?_,r1,r2⟩;show Option.map (fun x=>x.val) (Array.find? (fun e=>yM (.inr k) e.key) (zZ1 w.params l).toArray)=_;rw[List.find?_toArray,f];rfl
theorem qK4:∀ws:List (Str×Tok),Vals (ws.map fun q=>V.str q.1) (ws.map fun q=>Value.str q.1 q.2)
 |[]=>.nil
 |q::ws=>.cons ⟨q.2,rfl⟩ (qK4 ws)
theorem qJ1{p:aV}{o:Obj}{n:Nat}(ws:List (Str×Tok))(h1:K.lookup p=some o)(h2:o.cls=.type "tuple")(h3:o.data=.seq (ws.map fun q=>Value.str q.1 q.2).toArray n)(h4:ws.length<=100):∃v,RelV v (.ref p)/\∀F,DAt K c F v (.tup (ws.map fun q=>.str q.1)):=by
 refine⟨.ref p,rfl,fun F=>?_⟩;refine DAt.nd (k:=.tup) (vs:=ws.map fun q=>V.str q.1) (show SqT K F p _ from .inr ⟨o,_,n,h1,h2,h3,?_,by rw[List.toList_toArray];exact qK4 ws⟩) (by rw[aB,aB]) fun i v d hv hd=>?_
 ·rw[aR,aB];exact aG h4 (by decide)
 ·rw [cT] at hv hd;cases q:ws[i]? with
  |none=>rw[q]at hv;cases hv
  |some x=>rw[q]at hv hd;cases hv;cases hd;exact .str _
end DX
namespace DX
open PySem L2
variable{K:aQ}{pl:Sem Bool}{i:Nat}{o':Oe}
theorem jQa{p:Nat->Prop}:∀C,([]:List Nat).contains C=true->p C:=fun _ h=>nomatch h
theorem zX1{p:Nat->Prop}{C0:Nat}{l:List Nat}(h0:p C0)(hl:∀C,l.contains C=true->p C):∀C,(C0::l).contains C=true->p C:=fun C h=>by
 rw[List.contains_cons,Bool.or_eq_true]at h;rcases h with h|h
 ·exact eq_of_beq h▸h0
 ·exact hl C h
theorem jWz{c:Nat->aV}{p:aV}{o:Obj}{n:Nat}(ws:List (Str×Tok))(h1:K.lookup p=some o)(h2:o.cls=.type "tuple")(h3:o.data=.seq (ws.map fun q=>Value.str q.1 q.2).toArray n)(h4:ws.length<=100):∀F,DAt K c F (.ref p) (.tup (ws.map fun q=>.str q.1)):=fun F=>by
 refine DAt.nd (k:=.tup) (vs:=ws.map fun q=>V.str q.1) (show SqT K F p _ from .inr ⟨o,_,n,h1,h2,h3,?_,by rw[List.toList_toArray];exact qK4 ws⟩) (by rw[aB,aB]) fun i v d hv hd=>?_
 ·rw[aR,aB];exact aG h4 (by decide)
 ·rw [cT] at hv hd;cases q:ws[i]? with
  |none=>grind
  |some x=>rw[q]at hv hd;cases hv;cases hd;exact .str _
section
variable{X:Cx}{c:Nat->aV}{E:XK}{e o:Expr}{es:List Expr}{as:List Am}{a0:Am}{x m q y:Str}{C j n:Nat}{st:Stmt}{f:aV}{fd:aH}{ps:List Str}{k k0:Nat}{F:Fn}{p pos apos np cpos:Pos}{s:SV}{tb:List (Nat×Fn)}
theorem cA(A:FnAt X.K X.mg x st ps f fd)(G:FnOk X.prog X.w X.K X.mg X.base (CXd X.prog X.w) k f fd ps (spD X.K c as.length F))(hr:Room k0 X.A)(ha:OsD X c E (e::es) (as.map Am.o))(hx:jD (CXd X.prog X.w) X E:=by exact xL)(hk:k<=k0:=by first|decide|omega)(hg:Gl X x:=by exact rfl)(hdb:(x == ("__debug__":Str))=false:=by decide)(he:aX (e::es) X.env=(false,eval e X.env)::aX es X.env:=by rfl)(hpl:(cZ pos (aX es X.env)).any (·.1)=false:=by rfl):ED X c E (.Call (.Name x p) (e::es) [] pos) (qY F as):=
 qJp G (hr.mono hk) hg A.m A.F.kp A.b hx ha hdb he hpl
theorem mA(ho:OD X c E o a0.o)(hc:Cls X.K (c C))(hm:Meth X.K (c C) m f)(A:MethAt X.K m q st ps f fd)(G:FnOk X.prog X.w X.K X.mg X.base (CXd X.prog X.w) k f fd ps (spD X.K c (a0::as).length F))(hr:Room k0 X.A)(ha:OsD X c E (e::es) (as.map Am.o))(hx:jD (CXd X.prog X.w) X E:=by exact xL)(hk:k<=k0:=by first|decide|omega)(hst:aX (e::es) X.env=(false,eval e X.env)::aX es X.env:=by rfl)(hpl:(cZ pos (aX es X.env)).any (·.1)=false:=by rfl)(ht:eval (.Call (.Attribute o m apos) (e::es) [] pos) X.env=(do
   let ov ←eval o X.env;standAt apos.atName;let (f,first) ←holding [ov] (getMethod ov m pl);callWith pos f first (cZ pos (aX (e::es) X.env)) (backToKw pos (keywordEach [] X.env))):=by rfl):
  ED X c E (.Call (.Attribute o m apos) (e::es) [] pos) (vE C m F a0 as):=jQb ho hc hm G (hr.mono hk) A.b hx ha hst hpl ht
theorem m0A(ho:OD X c E o a0.o)(hc:Cls X.K (c C))(hm:Meth X.K (c C) m f)(A:MethAt X.K m q st ps f fd)(G:FnOk X.prog X.w X.K X.mg X.base (CXd X.prog X.w) k f fd ps (spD X.K c 1 F))(hr:Room k0 X.A)(hx:jD (CXd X.prog X.w) X E:=by exact xL)(hk:k<=k0:=by first|decide|omega)(ht:eval (.Call (.Attribute o m apos) [] [] pos) X.env=(do
   let ov ←eval o X.env;standAt apos.atName;let (f,first) ←holding [ov] (getMethod ov m pl);callWith pos f first (cZ pos (aX [] X.env)) (backToKw pos (keywordEach [] X.env))):=by rfl):
  ED X c E (.Call (.Attribute o m apos) [] [] pos) (vE C m F a0 []):=zX4 ho hc hm G (hr.mono hk) A.b hx ht
theorem rA{fI:aV}(ce:IniCls X.K (c C) fI)(A:MethAt X.K m q st ps fI fd)(G:FnOk X.prog X.w X.K X.mg X.base (CXd X.prog X.w) k fI fd ps (vKs (c C) y))(hr:Room k0 X.A)(hm:X.mg x=some (.ref (c C)))(he:EV X c E e s)(hk:k+1<=k0:=by first|decide|omega)(hg:Gl X x:=by exact rfl)(hcalm:X.calm=true:=by rfl)(hex:X.ex=[]:=by rfl)(ht:qKh X (c C) (fun ea dx H1=>E (.ref (c C)) (some dx) (but1 H1 ea)):=by exact vYw)(hs:aX [e] X.env=[(false,eval e X.env)]:=by rfl)(hdb:(x == ("__debug__":Str))=false:=by decide):SD X c E (.Raise (some (.Call (.Name x np) [e] [] cpos)) none pos) (zR C y s):=
 zVm ce G (hr.mono hk) A.b hg hm hcalm hex he ht hs hdb
theorem fA(e1:X.mg y=some (.ref (c j)))(A:FnAt X.K X.mg y st ps f fd)(hr:Room k0 X.A)(G:FnOk X.prog X.w X.K X.mg X.base (CXd X.prog X.w) k f fd ps (spD X.K c n F))(t:FnT X c n tb)(hk:k<=k0:=by first|decide|omega):FnT X c n ((j,F)::tb):=zXy e1 A.m (hr.mono hk) G A.F.kp A.b t
theorem scA{N P:List Str}{sc:Scope}(a:sc.kind=.function :=by rfl)(b:sc.isCoroutine=false:=by rfl)(g:sc.isGenerator=false:=by rfl)(nd:N.Nodup:=by decide +kernel)(pre:List.take P.length N=P:=by rfl)(par:∀x∈P,List.lookup x sc.names=some .local \/List.lookup x sc.names=some .cell :=by decide +kernel)(nf:∀y∈sc.names,y.2≠ .free :=by decide +kernel):FnScope N P sc:=⟨a,b,g,nd,pre,par,nf⟩
theorem sA{s:SE}{pos' :Pos}(hN:X.N.Nodup)(he:ED X c E e s)(hi:X.N[i]?=some x:=by rfl)(hx:Loc X.env.scope x:=by exact Or.inl rfl)(hs:swapsWith e (some (.Name x pos')) pos.line X.env=pure false:=by rfl)(hf:X.fn x=true\/X.env.scope.names.lookup x=some .local :=by first|exact .inl rfl|exact .inr rfl|assumption):
  SD X c E (.Assign [.Name x pos'] e pos) (sSet i s):=jV2 hN hi hx he hs hf
theorem vA{ss:List SV}(ha:OD X c E e o')(hr:VsD X c E es ss)(hs:aX (e::es) X.env=(false,eval e X.env)::aX es X.env:=by rfl):VsD X c E (e::es) (oV o' ::ss):=vC ha.val hr hs
theorem oA{os:List Oe}(ha:OD X c E e o')(hr:OsD X c E es os)(hs:aX (e::es) X.env=(false,eval e X.env)::aX es X.env:=by rfl):OsD X c E (e::es) (.v (oV o')::os):=qU (od_v ha.val) hr hs
end
section
variable{X:Cx}{c:Nat->aV}{E:XK}{x:Str}{b:Expr}{ob:Oe}{k:Nat}{pos p2:Pos}
theorem nA(i:Nat)(hN:X.N[i]?=some x:=by rfl)(hv:Vis X.env.scope x:=by first|exact Or.inl rfl|exact Or.inr (Or.inl rfl)|exact Or.inr (Or.inr rfl))(hd:(x == ("__debug__":Str))=false:=by decide)(hc:(x == ("__classdict__":Str))=false:=by decide):OD X c E (.Name x pos) (oN i):=zKm (pv i hN hv hd hc)
theorem gA(hN:X.N.Nodup:=by exact of_decide_eq_true (by kernel_rfl))(hi:X.N[i]?=some x:=by rfl)(hx:Loc X.env.scope x:=by exact Or.inl rfl)(hf:X.fn x=true\/X.env.scope.names.lookup x=some .local :=by first|exact .inl rfl|exact .inr rfl|assumption):GD X c (.Name x pos) [i] (gN i):=zK6 hN hi hx hf
theorem xA(i:Nat)(hr:Room k X.A)(hb:OD X c E b ob)(hN:X.N[i]?=some x:=by rfl)(hv:Vis X.env.scope x:=by first|exact Or.inl rfl|exact Or.inr (Or.inl rfl)|exact Or.inr (Or.inr rfl))(hd:(x == ("__debug__":Str))=false:=by decide)(hc:(x == ("__classdict__":Str))=false:=by decide)(hs:qXd b:=by exact fun _ _=>rfl):OD X c E (.Subscript (.Name x pos) b p2) (oIx (oN i) ob):=o_ix hr (nA i hN hv hd hc) hb hs
end
theorem faM{mg:Str->Option Value}{h:Heap}{x:Str}{st:Stmt}{ps:List Str}{f:aV}{oc:Value}{od an:Option aV}{osl:Array (Option Value)}{kV doc pm cdv ct:Value}(X:K.In h)(G:h.Ns cX mg)(a:PySem.W.nsIn K cX x=some (some (.ref f)))(l:K.lookup f=some ⟨oc,od,.func (bA x x (jF st) (z6 st) (qW st) .none kV doc pm an cdv ct),osl⟩)(c:PySem.W.codeIn K cdv x=true)(k:bO K (.ref f)=true)(b:∀(kV doc pm:Value) (an:Option aV) (cdv ct:Value) (us:List Value),us.length=ps.length->bindArgs (bA x x (jF st) (z6 st) (qW st) .none kV doc pm an cdv ct) ⟨us,[]⟩=pure (ps.zip us):=by first|exact(fun _ _ _ _ _ _ us hl=>match us,hl with|[_],_=>rfl)|exact(fun _ _ _ _ _ _ us hl=>match us,hl with|[_,_],_=>rfl)|exact(fun _ _ _ _ _ _ us hl=>match us,hl with|[_,_,_],_=>rfl)|exact(fun _ _ _ _ _ _ us hl=>match us,hl with|[_,_,_,_],_=>rfl)):
  FnAt K mg x st ps f (bA x x (jF st) (z6 st) (qW st) .none kV doc pm an cdv ct):=zK8 X G a l c k b
end DX
namespace X18
open PySem L2 DX RF PyProof.Rows
variable{R:Fn}{k:Nat}
theorem qYs:FnScope ["term","bare","text"] ["term","bare"] (qW qWu):=scA
theorem qQq:FnScope ["term","sign","left","right"] ["term"] (qW qWj):=scA
theorem vQ5:FnScope ["terms"] ["terms"] (qW qQ2):=scA
theorem xE:FnScope ["pair","number","weight"] ["pair"] (qW yQ):=scA
theorem qQe:FnScope ["pair","name","text"] ["pair"] (qW qQ3):=scA
theorem zK:FnScope ["term","kind","text","name"] ["term"] (qW qQf):=scA
theorem jU:FnScope ["term","kind","top","bottom","inner","number"] ["term"] (qW qVv):=scA
theorem qYz:FnScope ["self","row"] ["self","row"] (qW qQj):=scA
theorem qYr:FnScope ["term","kind"] ["term"] (qW qWo):=scA
theorem vYz:FnScope ["sign"] ["sign"] (qW qX8):=scA
theorem qJr:FnScope ["row","begin","kind","end"] ["row","begin"] (qW vQa):=scA
theorem xN:FnScope ["row","words","begin","end"] ["row"] (qW qWi):=scA
theorem qY1:FnScope ["self","row","words"] ["self","row","words"] (qW qQl):=scA
theorem qY0:FnScope ["self"] ["self"] (qW qQk):=scA
theorem yW:FnScope ["self","word"] ["self"] (qW wB):=scA
theorem qYl:FnScope ["self","sign"] ["self","sign"] (qW yZ):=scA
theorem vQ6:FnScope ["self","sign"] ["self","sign"] (qW qQ6):=scA
theorem vXs:FnScope ["word"] ["word"] (qW qWt):=scA
theorem vY0:FnScope ["word"] ["word"] (qW qX9):=scA
theorem vJu:FnScope ["word"] ["word"] (qW qZ5):=scA
theorem qXn:FnScope ["cursor","word"] ["cursor"] (qW qZ1):=scA
theorem qJb:FnScope ["cursor","least","most","word"] ["cursor","least","most"] (qW qQ4):=scA
theorem qJ7:FnScope ["cursor","name"] ["cursor"] (qW qV0):=scA
theorem qZf:FnScope ["cursor","number"] ["cursor"] (qW qQi):=scA
theorem qXo:FnScope ["cursor","close","most","read_one","found"] ["cursor","close","most","read_one"] (qW qZ2):=scA
theorem qYy:FnScope ["cursor","things"] ["cursor","things"] (qW qQg):=scA
theorem qJ6:FnScope ["cursor","close","read_one","pairs"] ["cursor","close","read_one"] (qW qVy):=scA
theorem vQv:FnScope ["cursor","parts"] ["cursor"] (qW qX6):=scA
theorem qVu:FnScope ["cursor","top","bottom"] ["cursor"] (qW qZ4):=scA
theorem qVs:FnScope ["cursor","term","number"] ["cursor"] (qW qZ0):=scA
theorem vVc:FnScope ["cursor","word"] ["cursor","word"] (qW qV1):=scA
theorem vVb:FnScope ["cursor","word"] ["cursor","word"] (qW qVz):=scA
theorem qVt:FnScope ["cursor","word","term"] ["cursor"] (qW qZ3):=scA
theorem qQ0:FnScope ["cursor","term"] ["cursor"] (qW qVx):=scA
theorem x9:FnScope ["cursor","term"] ["cursor"] (qW qQh):=scA
theorem qQr:FnScope ["cursor","term","sign"] ["cursor"] (qW qWk):=scA
theorem yP:FnScope ["cursor","term","sign"] ["cursor"] (qW qZz):=scA
theorem vJt:FnScope ["cursor"] ["cursor"] (qW qZy):=scA
theorem qZx:FnScope ["cursor","name","names"] ["cursor"] (qW qWn):=scA
theorem qYq:FnScope ["cursor","name"] ["cursor"] (qW qWm):=scA
theorem qQ1:FnScope ["cursor","rounds","name"] ["cursor"] (qW qV2):=scA
theorem qJ5:FnScope ["cursor","kind"] ["cursor"] (qW qVw):=scA
theorem zF:FnScope ["words","deep","deepest","word"] ["words"] (qW yV):=scA
theorem qK9:FnScope ["term","deepest","part"] ["term"] (qW vZ9):=scA
theorem qQs:FnScope ["number","row","words","cursor","found"] ["number","row"] (qW qWl):=scA
theorem qKa:FnScope ["text","rows","program","number","row","found"] ["text"] (qW vYb):=scA
theorem xG:FnScope ["_law_cell","_law_many","_law_found","_law_number","_law_k"] ["_law_cell","_law_many"] (qW qV3):=scA
theorem vXq:FnScope ["_law_more"] ["_law_more"] (qW qWq):=scA
theorem vXr:FnScope ["_law_more"] ["_law_more"] (qW qWr):=scA
theorem jM:FnScope ["_law_cell","_law_held","_law_number","_law_kind","_law_more","_law_sign","_law_last"] ["_law_cell"] (qW qWp):=scA
theorem qVm:FnScope ["_law_text","_law_at","_law_deep","_law_k"] ["_law_text","_law_at"] (qW qX7):=scA
theorem qJc:FnScope ["_law_text","_law_due","_law_found"] ["_law_text","_law_due"] (qW qQ5):=scA
theorem xO:FnScope ["_law_tree_here","_law_text","_law_due","_law_k","_law_end_here","_law_less"] ["_law_tree_here"] (qW qWs):=scA
theorem jV3:FnScope ["_law_script","_law_k","_law_cell"] ["_law_script"] (qW zZs):=scA
set_option genInjectivity false
set_option genSizeOf false
structure Fs(K:aQ)(mg:Str->Option Value)(c:Nat->aV)(w:bX) where
 b0:aV
 c0:aH
 d0:FnAt K mg "in_place" qWu ["term","bare"] b0 c0
 e0:aV
 f0:aH
 g0:FnAt K mg "shown_op" qWj ["term"] e0 f0
 h0:aV
 i0:aH
 j0:FnAt K mg "shown_terms" qQ2 ["terms"] h0 i0
 k0:aV
 l0:aH
 m0:FnAt K mg "shown_outcome" yQ ["pair"] k0 l0
 n0:aV
 o0:aH
 p0:FnAt K mg "shown_field" qQ3 ["pair"] n0 o0
 q0:aV
 r0:aH
 s0:FnAt K mg "shown_listed" qQf ["term"] q0 r0
 t0:aV
 u0:aH
 v0:FnAt K mg "shown_term" qVv ["term"] t0 u0
 w0:aV
 x0:aH
 y0:MethAt K "__init__" "NoText.__init__" qQj ["self","row"] w0 x0
 z0:aV
 A0:aH
 B0:FnAt K mg "parts_of" qWo ["term"] z0 A0
 C0:aV
 D0:aH
 E0:FnAt K mg "kind_of" qX8 ["sign"] C0 D0
 F0:aV
 G0:aH
 H0:FnAt K mg "end_of" vQa ["row","begin"] F0 G0
 I0:aV
 J0:aH
 K0:FnAt K mg "words_of" qWi ["row"] I0 J0
 L0:aV
 M0:aH
 N0:MethAt K "__init__" "Cursor.__init__" qQl ["self","row","words"] L0 M0
 O0:aV
 P0:aH
 Q0:MethAt K "ahead" "Cursor.ahead" qQk ["self"] O0 P0
 R0:aV
 S0:aH
 T0:MethAt K "next_word" "Cursor.next_word" wB ["self"] R0 S0
 U0:aV
 V0:aH
 W0:MethAt K "passed" "Cursor.passed" yZ ["self","sign"] U0 V0
 X0:aV
 Y0:aH
 Z0:MethAt K "need" "Cursor.need" qQ6 ["self","sign"] X0 Y0
 a1:aV
 b1:aH
 c1:FnAt K mg "is_small" qWt ["word"] a1 b1
 d1:aV
 e1:aH
 f1:FnAt K mg "is_name" qX9 ["word"] d1 e1
 g1:aV
 h1:aH
 i1:FnAt K mg "is_number" qZ5 ["word"] g1 h1
 j1:aV
 k1:aH
 l1:FnAt K mg "read_name" qZ1 ["cursor"] j1 k1
 m1:aV
 n1:aH
 p1:FnAt K mg "read_number" qQ4 ["cursor","least","most"] m1 n1
 q1:aV
 r1:aH
 s1:FnAt K mg "read_field" qV0 ["cursor"] q1 r1
 t1:aV
 u1:aH
 v1:FnAt K mg "read_outcome" qQi ["cursor"] t1 u1
 w1:aV
 x1:aH
 y1:FnAt K mg "read_list" qZ2 ["cursor","close","most","read_one"] w1 x1
 z1:aV
 A1:aH
 B1:FnAt K mg "refuse_alike" qQg ["cursor","things"] z1 A1
 C1:aV
 D1:aH
 E1:FnAt K mg "read_pairs" qVy ["cursor","close","read_one"] C1 D1
 F1:aV
 G1:aH
 H1:FnAt K mg "read_if" qX6 ["cursor"] F1 G1
 I1:aV
 J1:aH
 K1:FnAt K mg "read_flip" qZ4 ["cursor"] I1 J1
 L1:aV
 M1:aH
 N1:FnAt K mg "read_rest" qZ0 ["cursor"] L1 M1
 O1:aV
 P1:aH
 Q1:FnAt K mg "read_built" qV1 ["cursor","word"] O1 P1
 R1:aV
 S1:aH
 T1:FnAt K mg "read_named" qVz ["cursor","word"] R1 S1
 U1:aV
 V1:aH
 W1:FnAt K mg "read_head" qZ3 ["cursor"] U1 V1
 X1:aV
 Y1:aH
 Z1:FnAt K mg "read_tight" qVx ["cursor"] X1 Y1
 a2:aV
 b2:aH
 c2:FnAt K mg "read_product" qQh ["cursor"] a2 b2
 d2:aV
 e2:aH
 f2:FnAt K mg "read_sum" qWk ["cursor"] d2 e2
 g2:aV
 h2:aH
 i2:FnAt K mg "read_term" qZz ["cursor"] g2 h2
 j2:aV
 k2:aH
 l2:FnAt K mg "read_told" qZy ["cursor"] j2 k2
 m2:aV
 n2:aH
 o2:FnAt K mg "read_def" qWn ["cursor"] m2 n2
 p2:aV
 q2:aH
 r2:FnAt K mg "read_let" qWm ["cursor"] p2 q2
 s2:aV
 t2:aH
 u2:FnAt K mg "read_again" qV2 ["cursor"] s2 t2
 v2:aV
 w2:aH
 x2:FnAt K mg "read_words" qVw ["cursor"] v2 w2
 y2:aV
 z2:aH
 A2:FnAt K mg "most_brackets" yV ["words"] y2 z2
 B2:aV
 C2:aH
 D2:FnAt K mg "depth" vZ9 ["term"] B2 C2
 E2:aV
 F2:aH
 G2:FnAt K mg "read_row" qWl ["number","row"] E2 F2
 H2:aV
 I2:aH
 J2:FnAt K mg "read" vYb ["text"] H2 I2
 K2:aV
 M2:aH
 N2:FnAt K mg "_law_stream" qV3 ["_law_cell","_law_many"] K2 M2
 O2:aV
 P2:aH
 Q2:FnAt K mg "_law_name" qWq ["_law_more"] O2 P2
 R2:aV
 S2:aH
 T2:FnAt K mg "_law_leaf" qWr ["_law_more"] R2 S2
 U2:aV
 V2:aH
 W2:FnAt K mg "_law_tree" qWp ["_law_cell"] U2 V2
 X2:aV
 Y2:aH
 Z2:FnAt K mg "_law_end" qX7 ["_law_text","_law_at"] X2 Y2
 a3:aV
 b3:aH
 c3:FnAt K mg "_law_another" qQ5 ["_law_text","_law_due"] a3 b3
 d3:aV
 e3:aH
 f3:FnAt K mg "_law_good" qWs ["_law_tree_here"] d3 e3
 g3:aV
 h3:aH
 i3:FnAt K mg "law" zZs ["_law_script"] g3 h3
 j3:Cls K (c 9)
 k3:Mk K (c 9) L0
 l3:IniCls K (c 23) w0
 m3:cW K (.ref (c 23)) "row"=some none
 n3:mg "Cursor"=some (.ref (c 9))
 o3:mg "NoText"=some (.ref (c 23))
 p3:Meth K (c 9) "ahead" O0
 q3:Meth K (c 9) "need" X0
 r3:Meth K (c 9) "next_word" R0
 s3:Meth K (c 9) "passed" U0
 t3:∀C,([23]:List Nat).contains C=true->PySem.W.exmOne K (.ref (c C)) (.ref (c 23))=some true
 u3:qZe K c [9] "place"
 v3:qZe K c [9] "row"
 w3:qZe K c [9] "words"
 x3:mg "read_field"=some (.ref (c 32))
 y3:mg "read_name"=some (.ref (c 33))
 z3:mg "read_outcome"=some (.ref (c 31))
 A3:mg "read_term"=some (.ref (c 30))
 B3:mg "all"=none
 C3:mg "enumerate"=none
 D3:mg "int"=none
 E3:mg "len"=none
 F3:mg "list"=none
 G3:mg "max"=none
 H3:mg "range"=none
 I3:mg "set"=none
 J3:mg "str"=none
 K3:mg "tuple"=none
 L3:aV
 M3:mg "BARE_LEFT"=some (.ref L3)
 N3:vWm w K c L3 [("=",(.tup [(.str "+"),(.str "-"),(.str "*")])),("<",(.tup [(.str "+"),(.str "-"),(.str "*")])),("+",(.tup [(.str "+"),(.str "-"),(.str "*")])),("-",(.tup [(.str "+"),(.str "-"),(.str "*")])),("*",(.tup [(.str "*")]))]
 O3:aV
 P3:mg "BARE_RIGHT"=some (.ref O3)
 Q3:vWm w K c O3 [("=",(.tup [(.str "+"),(.str "-"),(.str "*")])),("<",(.tup [(.str "+"),(.str "-"),(.str "*")])),("+",(.tup [(.str "*")])),("-",(.tup [(.str "*")])),("*",(.tup []))]
 R3:Tok
 S3:mg "MOST_BRACKETS"=some (.int 10 R3)
 T3:Tok
 U3:mg "MOST_DEPTH"=some (.int 10 T3)
 V3:Tok
 W3:mg "MOST_FIGURES"=some (.int 12 V3)
 X3:Tok
 Y3:mg "MOST_LETTERS"=some (.int 8 X3)
 Z3:Tok
 a4:mg "MOST_NUMBER"=some (.int 999999999999 Z3)
 b4:Tok
 c4:mg "MOST_PAIRS"=some (.int 6 b4)
 d4:Tok
 e4:mg "MOST_ROUNDS"=some (.int 30 d4)
 f4:Tok
 g4:mg "MOST_ROWS"=some (.int 40 f4)
 h4:Tok
 i4:mg "MOST_SIGNS"=some (.int 1000 h4)
 j4:Tok
 k4:mg "MOST_TERMS"=some (.int 3 j4)
 l4:Tok
 m4:mg "MOST_WEIGHT"=some (.int 1000000 l4)
 n4:Tok
 o4:mg "MOST_WORDS"=some (.int 60 n4)
 p4:aV
 q4:mg "NO_NAMES"=some (.ref p4)
 r4:∀F,DAt K c F (.ref p4) (.tup [(.str "flip"),(.str "pick"),(.str "if"),(.str "rest")])
section
variable{P:bZ}{w:bX}{K:aQ}{c:Nat->aV}{mg:Str->Option Value}{base:Heap}(S:Fs K mg c w)
set_option maxHeartbeats 4000000
theorem qWy(G:FnOk P w K mg base (CXd P w) k S.t0 S.u0 ["term"] (spD K c 1 R)):FnOk P w K mg base (CXd P w) (k+1) S.b0 S.c0 ["term","bare"] (spD K c 2 (xD R)):=fnD (k:=k+0) S.d0.F qYs fun _ _ _ _ _ _ hr=>(qQ (sA qYs.nd (cA S.v0 G hr (oA (nA 0) qJ)))
   (qQ (qT (td_w (vZo (zZ (xA 0 hr qX) qZ) (vZ5 (zYf hr (xA 0 hr qX) (nA 1))))) (qV (qP (ed_v (yY (.con (OD.val qZ) (.fmt (OD.val (nA 2)) (.con (OD.val qZ) .nil))))))) qB)
   (qV (qP (yJ (pv 2))))))
theorem vKe(G:FnOk P w K mg base (CXd P w) k S.t0 S.u0 ["term"] (spD K c 1 R)):FnOk P w K mg base (CXd P w) (k+2) S.e0 S.f0 ["term"] (spD K c 1 (xU R)):=fnD (k:=k+1) S.g0.F qQq fun _ _ _ _ _ _ hr=>(qQ (sA qQq.nd (OD.ow (xA 0 hr qX)))
   (qQ (sA qQq.nd (cA S.d0 (qWy S G) hr (oA (xA 0 hr qX) (oA (o_kd S.M3 S.N3 (nA 1)) qJ))))
   (qQ (sA qQq.nd (cA S.d0 (qWy S G) hr (oA (xA 0 hr qX) (oA (o_kd S.P3 S.Q3 (nA 1)) qJ))))
   (qV (qP (ed_v (yY (.fmt (OD.val (nA 2)) (.con (OD.val qZ) (.fmt (OD.val (nA 1)) (.con (OD.val qZ) (.fmt (OD.val (nA 3)) .nil))))))))))))
theorem qJ8(G:FnOk P w K mg base (CXd P w) k S.t0 S.u0 ["term"] (spD K c 1 R)):FnOk P w K mg base (CXd P w) (k+1) S.h0 S.i0 ["terms"] (spD K c 1 (wW R)):=fnD (k:=k+0) S.j0.F vQ5 fun _ _ _ _ _ _ hr=>(qV (qP (OD.ow (vYf (od_e (qJo rfl (Nc:=["term"]) (cs:=[]) (qX3 rfl (by decide +kernel) (by decide +kernel) (by decide +kernel)) (qZq (OD.val (nA 0))) (fun _ _ _ _=>gA) (fun _ _ _ _=>qJh) (fun _ _ _ _=>(ev_e (qJp G (hr.mono (by omega)) rfl S.v0.m S.v0.F.kp S.v0.b vYd (oA (nA 0) qJ)))))) ⟨rfl,rfl,rfl,rfl⟩))))
theorem qY3:FnOk P w K mg base (CXd P w) 1 S.k0 S.l0 ["pair"] (spD K c 1 qZg):=fnD S.m0.F xE fun _ _ _ _ _ _ hr=>(qQ (sA xE.nd (OD.ow (xA 0 hr qX)))
   (qQ (sA xE.nd (OD.ow (xA 0 hr qX)))
   (qV (qP (ed_v (yY (.fmt (OD.val (nA 1)) (.con (OD.val qZ) (.fmt (OD.val (nA 2)) .nil)))))))))
theorem vVf(G:FnOk P w K mg base (CXd P w) k S.t0 S.u0 ["term"] (spD K c 1 R)):FnOk P w K mg base (CXd P w) (k+1) S.n0 S.o0 ["pair"] (spD K c 1 (qJ9 R)):=fnD (k:=k+0) S.p0.F qQe fun _ _ _ _ _ _ hr=>(qQ (sA qQe.nd (OD.ow (xA 0 hr qX)))
   (qQ (sA qQe.nd (cA S.v0 G hr (oA (xA 0 hr qX) qJ)))
   (qV (qP (ed_v (yY (.fmt (OD.val (nA 1)) (.con (OD.val qZ) (.fmt (OD.val (nA 2)) .nil)))))))))
theorem vQ7(G:FnOk P w K mg base (CXd P w) k S.t0 S.u0 ["term"] (spD K c 1 R)):FnOk P w K mg base (CXd P w) (k+2) S.q0 S.r0 ["term"] (spD K c 1 (wT R)):=fnD (k:=k+1) S.s0.F zK fun _ _ _ _ _ _ hr=>(qQ (sA zK.nd (OD.ow (xA 0 hr qX)))
   (qQ (qT (zZ (nA 1) qZ) (qQ (sA zK.nd (OD.ow (vYf (od_e (qJo rfl (Nc:=["pair"]) (cs:=[]) (qX3 rfl (by decide +kernel) (by decide +kernel) (by decide +kernel)) (qZq (OD.val (xA 0 hr qX))) (fun _ _ _ _=>gA) (fun _ _ _ _=>qJh) (fun _ _ _ _=>(ev_e (qJp (qY3 S) (hr.mono (by omega)) rfl S.m0.m S.m0.F.kp S.m0.b vYd (oA (nA 0) qJ)))))) ⟨rfl,rfl,rfl,rfl⟩)))
   (qV (qP (ed_v (yY (.con (OD.val qZ) (.fmt (OD.val (nA 2)) (.con (OD.val qZ) .nil)))))))) qB)
   (qQ (qT (zZ (nA 1) qZ) (qQ (sA zK.nd (OD.ow (vYf (od_e (qJo rfl (Nc:=["pair"]) (cs:=[]) (qX3 rfl (by decide +kernel) (by decide +kernel) (by decide +kernel)) (qZq (OD.val (xA 0 hr qX))) (fun _ _ _ _=>gA) (fun _ _ _ _=>qJh) (fun _ _ _ _=>(ev_e (qJp (vVf S G) (hr.mono (by omega)) rfl S.p0.m S.p0.F.kp S.p0.b vYd (oA (nA 0) qJ)))))) ⟨rfl,rfl,rfl,rfl⟩)))
   (qV (qP (OD.ow (qZp (qZp qZ (nA 2)) qZ))))) qB)
   (qQ (qT (zZ (nA 1) qZ) (qQ (sA zK.nd (cA S.j0 (qJ8 S G) hr (qU (od_v (zZa (nA 0) (yX (OD.val qX)) qW8)) qJ)))
   (qV (qP (ed_v (yY (.con (OD.val qZ) (.fmt (OD.val (nA 2)) (.con (OD.val qZ) .nil)))))))) qB)
   (qQ (sA zK.nd (OD.ow (xA 0 hr qX)))
   (qQ (sA zK.nd (cA S.j0 (qJ8 S G) hr (oA (xA 0 hr qX) qJ)))
   (qV (qP (ed_v (yY (.fmt (OD.val (nA 3)) (.con (OD.val qZ) (.fmt (OD.val (nA 2)) (.con (OD.val qZ) .nil))))))))))))))
theorem qXs:∀h:Nat,FnOk P w K mg base (CXd P w) (3 * h+3) S.t0 S.u0 ["term"] (spD K c 1 (vZ h))
 | 0=>fnNo
 | h + 1=>by
   have ih:=qXs h
   exact FnOk.lv (by omega) (fnD (k:=3 * h+5) S.v0.F jU fun _ _ _ _ _ _ hr=>(qQ (sA jU.nd (OD.ow (xA 0 hr qX)))
    (qQ (qT (zZ (nA 1) qZ) (qV (qP (OD.ow (jWt rfl S.J3 (xA 0 hr qX))))) qB)
    (qQ (qT (zZ (nA 1) qZ) (qV (qP (OD.ow (xA 0 hr qX)))) qB)
    (qQ (qT (zZ (nA 1) qZ) (qV (qP (cA S.g0 (vKe S ih) hr (oA (nA 0) qJ)))) qB)
    (qQ (qT (zZ (nA 1) qZ) (qV (qP (OD.ow (qZp (qZp (od_e (cA S.d0 (qWy S ih) hr (oA (xA 0 hr qX) (qU (od_v (vB qN)) qJ)))) qZ) (xA 0 hr qX))))) qB)
    (qQ (qT (zZ (nA 1) qZ) (qQ (sA jU.nd (OD.ow (xA 0 hr qX)))
    (qQ (sA jU.nd (OD.ow (xA 0 hr qX)))
    (qV (qP (ed_v (yY (.con (OD.val qZ) (.fmt (OD.val (nA 2)) (.con (OD.val qZ) (.fmt (OD.val (nA 3)) (.con (OD.val qZ) .nil))))))))))) qB)
    (qQ (qT (zZ (nA 1) qZ) (qQ (sA jU.nd (qJp ih (hr.mono (by omega)) rfl S.v0.m S.v0.F.kp S.v0.b xL (oA (xA 0 hr qX) qJ)))
    (qQ (sA jU.nd (OD.ow (xA 0 hr qX)))
    (qV (qP (ed_v (yY (.con (OD.val qZ) (.fmt (OD.val (nA 4)) (.con (OD.val qZ) (.fmt (OD.val (nA 5)) (.con (OD.val qZ) .nil))))))))))) qB)
    (qV (qP (cA S.s0 (vQ7 S ih) hr (oA (nA 0) qJ))))))))))))
theorem vJ:FnOk P w K mg base (CXd P w) 1 S.w0 S.x0 ["self","row"] (vKs (c 23) "row"):=iniD S.y0.F qYz S.m3 (fun _ _ _ _ _ _=>zY1 S.l3 (pv 0) (pv 1) rfl) rfl
theorem vKi:FnOk P w K mg base (CXd P w) 1 S.z0 S.A0 ["term"] (spD K c 1 qQc):=fnD S.B0.F qYr fun _ _ _ _ _ _ hr=>(qQ (sA qYr.nd (OD.ow (xA 0 hr qX)))
   (qQ (qT (zZ (nA 1) qZ) (qV (qP (qQy (vA (xA 0 hr qX) (vA (xA 0 hr qX) (vA (xA 0 hr qX) qN)))))) qB)
   (qQ (qT (t_in hr (nA 1) (od_v (vB (vA qZ (vA qZ qN))))) (qV (qP (qQy (vA (xA 0 hr qX) (vA (xA 0 hr qX) qN))))) qB)
   (qQ (qT (t_in hr (nA 1) (od_v (vB (vA qZ (vA qZ qN))))) (qV (qP (qQy (vA (xA 0 hr qX) qN)))) qB)
   (qQ (qT (zZ (nA 1) qZ) (qV (qP (qJo rfl (Nc:=["name","part"]) (cs:=[]) (qX3 rfl (by decide +kernel) (by decide +kernel) (by decide +kernel)) (qZq (OD.val (xA 0 hr qX))) (fun _ _ _ _=>(vYj rfl (qVe gA (qVe gA vJh)))) (fun _ _ _ _=>qJh) (fun _ _ _ _=>(OD.val (nA 1)))))) qB)
   (qQ (qT (zZ (nA 1) qZ) (qV (qP (jJu rfl S.F3 (xA 0 hr qX)))) qB)
   (qV (qP (qQy qN)))))))))
theorem vZg:FnOk P w K mg base (CXd P w) 1 S.C0 S.D0 ["sign"] (spD K c 1 wC):=fnD S.E0.F vYz fun _ _ _ _ _ _ hr=>(qQ (qT (td_w (vJ6 (qXf jY qQw jY qQw qZ (nA 0) qZ) (qKs (qXf jY qQw jY qQw qZ (nA 0) qZ)))) (qV (qP (OD.ow qZ))) qB)
   (qQ (qT (qXf jY qQw jY qQw qZ (nA 0) qZ) (qV (qP (OD.ow qZ))) qB)
   (qQ (qT (zZ (nA 0) qZ) (qV (qP (OD.ow qZ))) qB)
   (qV (qP (OD.ow qZ))))))
theorem zX7:FnOk P w K mg base (CXd P w) 2 S.F0 S.G0 ["row","begin"] (spD K c 2 qZv):=fnD S.H0.F qJr fun _ _ _ _ _ _ hr=>(qQ (sA qJr.nd (cA S.E0 (vZg S) hr (oA (xA 0 hr (nA 1)) qJ)))
   (qQ (sA qJr.nd (OD.ow (qZj (nA 1) qX)))
   (qQ (y6 100000 bB (td_w (vZo (vJ7 (nA 2) qZ) (vZo (t_lt (nA 3) (wF rfl S.E3 (nA 0))) (vZ5 (zZ (od_e (cA S.E0 (vZg S) hr (oA (xA 0 hr (nA 3)) qJ))) (nA 2)))))) (qV (vX9 qJr.nd rfl (Or.inl rfl) (OD.val qX) vZ0 (qKu _))))
   (qV (qP (yJ (pv 3)))))))
theorem vKd:FnOk P w K mg base (CXd P w) 3 S.I0 S.J0 ["row"] (spD K c 1 qQb):=fnD S.K0.F xN fun _ _ _ _ _ _ hr=>(qQ (sA xN.nd (qQy qN))
   (qQ (sA xN.nd (OD.ow qX))
   (qQ (y6 100000 bB (t_lt (nA 2) (wF rfl S.E3 (nA 0))) (qQ (sA xN.nd (cA S.H0 (zX7 S) hr (oA (nA 0) (oA (nA 2) qJ))))
   (qQ (qT (vJ7 (xA 0 hr (nA 2)) qZ) (qV (v5 (wJ (nA 1) (ed_v (qVg (nA 0) (yX (OD.val (nA 2))) (yX (OD.val (nA 3)))))))) qB)
   (qV (sA xN.nd (OD.ow (nA 3)))))))
   (qV (qP (yJ (pv 1)))))))
theorem vQ8:FnOk P w K mg base (CXd P w) 1 S.L0 S.M0 ["self","row","words"] (spD K c 3 qQm):=fnD S.N0.F qY1 fun _ _ _ _ _ _ hr=>(qQ (vYa S.v3 (nA 0) (OD.ow (nA 1)))
   (qQ (vYa S.w3 (nA 0) (OD.ow (nA 2)))
   (qV (vYa S.u3 (nA 0) (OD.ow qX)))))
theorem jS:FnOk P w K mg base (CXd P w) 1 S.O0 S.P0 ["self"] (spD K c 1 vW):=fnD S.Q0.F qY0 fun _ _ _ _ _ _ hr=>(qQ (qT (t_lt (xX S.u3 (nA 0)) (wF rfl S.E3 (xX S.w3 (nA 0)))) (qV (qP (OD.ow (o_ix hr (xX S.w3 (nA 0)) (xX S.u3 (nA 0)))))) qB)
   (qV (qP (OD.ow qZ))))
theorem zV:FnOk P w K mg base (CXd P w) 2 S.R0 S.S0 ["self"] (spD K c 1 vQ):=fnD S.T0.F yW fun _ _ _ _ _ _ hr=>(qQ (sA yW.nd (m0A (qKl (nA 0)) S.j3 S.p3 S.Q0 (jS S) hr))
   (qQ (zJh S.u3 (nA 0) (OD.val qX) vZ0 (qKu _))
   (qV (qP (yJ (pv 1))))))
theorem zN:FnOk P w K mg base (CXd P w) 2 S.U0 S.V0 ["self","sign"] (spD K c 2 qR):=fnD S.W0.F qYl fun _ _ _ _ _ _ hr=>(qQ (qT (vJ7 (od_e (m0A (qKl (nA 0)) S.j3 S.p3 S.Q0 (jS S) hr)) (nA 1)) (qV (qP (OD.ow qYo))) qB)
   (qQ (zJh S.u3 (nA 0) (OD.val qX) vZ0 (qKu _))
   (qV (qP (OD.ow qYo)))))
theorem vI:FnOk P w K mg base (CXd P w) 4 S.X0 S.Y0 ["self","sign"] (spD K c 2 qE):=fnD S.Z0.F vQ6 fun _ _ _ _ _ _ hr=>(qV (qT (qZk (xJ (od_e (mA (qS (pv 0)) S.j3 S.s3 S.W0 (zN S) hr (oA (nA 1) qJ))))) (qV (rA S.l3 S.y0 (vJ S) hr S.o3 (OD.val (xX S.v3 (nA 0))))) qB))
theorem vKj:FnOk P w K mg base (CXd P w) 1 S.a1 S.b1 ["word"] (spD K c 1 xC):=fnD S.c1.F vXs fun _ _ _ _ _ _ hr=>(qV (qP (OD.ow (vZu (vQh vWc (qKj _) vWc (qKj _) qX (wF rfl S.E3 (nA 0)) (od_c (vN (v:=.int 8) rfl S.Y3 ⟨_,rfl⟩) (fun _=>.int _))) (vZt (jWw rfl rfl S.B3 (od_e (qJo rfl (Nc:=["sign"]) (cs:=[]) (qX3 rfl (by decide +kernel) (by decide +kernel) (by decide +kernel)) (jJl (OD.val (nA 0))) (fun _ _ _ _=>gA) (fun _ _ _ _=>qJh) (fun _ _ _ _=>(OD.val (vQh jY qQw jY qQw qZ (nA 0) qZ)))))))))))
theorem vZh:FnOk P w K mg base (CXd P w) 2 S.d1 S.e1 ["word"] (spD K c 1 yH):=fnD S.f1.F vY0 fun _ _ _ _ _ _ hr=>(qV (qP (OD.ow (vZu (od_e (cA S.c1 (vKj S) hr (oA (nA 0) qJ))) (vZt (zKn hr (nA 0) (od_c (vN (v:=.ref S.p4) rfl S.q4 rfl) S.r4)))))))
theorem qYw:FnOk P w K mg base (CXd P w) 1 S.g1 S.h1 ["word"] (spD K c 1 jR):=fnD S.i1.F vJu fun _ _ _ _ _ _ hr=>(qV (qP (OD.ow (vZu (vQh jY qQw jY qQw qZ (od_v (qVg (nA 0) qW8 (yX (OD.val qX)))) qZ) (vZu (o_le (wF rfl S.E3 (nA 0)) (od_c (vN (v:=.int 12) rfl S.W3 ⟨_,rfl⟩) (fun _=>.int _))) (vZt (jWr (zZx (nA 0) qZ) (vZt (jWv (xA 0 hr qX) qZ)))))))))
theorem jN:FnOk P w K mg base (CXd P w) 4 S.j1 S.k1 ["cursor"] (spD K c 1 zD):=fnD S.l1.F qXn fun _ _ _ _ _ _ hr=>(qQ (sA qXn.nd (m0A (qS (pv 0)) S.j3 S.r3 S.T0 (zV S) hr))
   (qQ (qT (qZk (xJ (od_e (cA S.f1 (vZh S) hr (oA (nA 1) qJ))))) (qV (rA S.l3 S.y0 (vJ S) hr S.o3 (OD.val (xX S.v3 (nA 0))))) qB)
   (qV (qP (yJ (pv 1))))))
theorem jB:FnOk P w K mg base (CXd P w) 4 S.m1 S.n1 ["cursor","least","most"] (spD K c 3 vV):=fnD S.p1.F qJb fun _ _ _ _ _ _ hr=>(qQ (sA qJb.nd (m0A (qS (pv 0)) S.j3 S.r3 S.T0 (zV S) hr))
   (qQ (qT (td_w (vJ6 (qZk (xJ (od_e (cA S.i1 (qYw S) hr (oA (nA 3) qJ))))) (qKs (qZk (qXf vWc (qKj _) vWc (qKj _) (nA 1) (vYg rfl S.D3 (nA 3)) (nA 2)))))) (qV (rA S.l3 S.y0 (vJ S) hr S.o3 (OD.val (xX S.v3 (nA 0))))) qB)
   (qV (qP (OD.ow (vYg rfl S.D3 (nA 3)))))))
theorem qXv(G:FnOk P w K mg base (CXd P w) k S.g2 S.h2 ["cursor"] (spD K c 1 R)):FnOk P w K mg base (CXd P w) (k+5) S.q1 S.r1 ["cursor"] (spD K c 1 (wR R)):=fnD (k:=k+4) S.s1.F qJ7 fun _ _ _ _ _ _ hr=>(qQ (sA qJ7.nd (cA S.l1 (jN S) hr (qU (qS (pv 0)) qJ)))
   (qQ (v5 (mA (qS (pv 0)) S.j3 S.q3 S.Z0 (vI S) hr (oA qZ qJ)))
   (qV (qP (ed_v (vB (vA (nA 1) (vC (ev_e (cA S.i2 G hr (qU (qS (pv 0)) qJ))) qN))))))))
theorem qJg:FnOk P w K mg base (CXd P w) 5 S.t1 S.u1 ["cursor"] (spD K c 1 j5):=fnD S.v1.F qZf fun _ _ _ _ _ _ hr=>(qQ (sA qZf.nd (cA S.p1 (jB S) hr (qU (qS (pv 0)) (oA qX (oA (od_c (vN (v:=.int 999999999999) rfl S.a4 ⟨_,rfl⟩) (fun _=>.int _)) qJ)))))
   (qQ (v5 (mA (qS (pv 0)) S.j3 S.q3 S.Z0 (vI S) hr (oA qZ qJ)))
   (qV (qP (ed_v (vB (vA (nA 1) (vC (ev_e (cA S.p1 (jB S) hr (qU (qS (pv 0)) (oA qX (oA (od_c (vN (v:=.int 1000000) rfl S.m4 ⟨_,rfl⟩) (fun _=>.int _)) qJ))))) qN))))))))
theorem qQu(G:FnOk P w K mg base (CXd P w) k S.g2 S.h2 ["cursor"] (spD K c 1 R)):FnOk P w K mg base (CXd P w) (k+7) S.w1 S.x1 ["cursor","close","most","read_one"] (spD K c 4 (jO R)):=fnD (k:=k+6) S.y1.F qXo fun _ _ _ _ _ _ hr=>(qQ (qT (xJ (od_e (mA (qS (pv 0)) S.j3 S.s3 S.W0 (zN S) hr (oA (nA 1) qJ)))) (qV (qP (ed_v (vB qN)))) qB)
   (qQ (sA qXo.nd (qQy (vC (ev_e (vXj (fA S.A3 S.i2 hr G (fA S.z3 S.v1 hr (qJg S) (fA S.x3 S.s1 hr (qXv S G) (fA S.y3 S.l1 hr (jN S) zQx)))) (pv 3) xL (qU (qS (pv 0)) qJ))) qN)))
   (qQ (y6 100000 bB (xJ (od_e (mA (qS (pv 0)) S.j3 S.s3 S.W0 (zN S) hr (oA qZ qJ)))) (qV (v5 (wJ (nA 4) (vXj (fA S.A3 S.i2 hr G (fA S.z3 S.v1 hr (qJg S) (fA S.x3 S.s1 hr (qXv S G) (fA S.y3 S.l1 hr (jN S) zQx)))) (pv 3) xL (qU (qS (pv 0)) qJ))))))
   (qQ (v5 (mA (qS (pv 0)) S.j3 S.q3 S.Z0 (vI S) hr (oA (nA 1) qJ)))
   (qQ (qT (t_gt (wF rfl S.E3 (nA 4)) (nA 2)) (qV (rA S.l3 S.y0 (vJ S) hr S.o3 (OD.val (xX S.v3 (nA 0))))) qB)
   (qV (qP (ed_v (zYc rfl S.K3 (nA 4))))))))))
theorem qJe:FnOk P w K mg base (CXd P w) 3 S.z1 S.A1 ["cursor","things"] (spD K c 2 jT):=fnD S.B1.F qYy fun _ _ _ _ _ _ hr=>(qV (qT (t_lt (od_v (jVs rfl rfl S.I3 rfl S.E3 (nA 1))) (wF rfl S.E3 (nA 1))) (qV (rA S.l3 S.y0 (vJ S) hr S.o3 (OD.val (xX S.v3 (nA 0))))) qB))
theorem qXu(G:FnOk P w K mg base (CXd P w) k S.g2 S.h2 ["cursor"] (spD K c 1 R)):FnOk P w K mg base (CXd P w) (k+9) S.C1 S.D1 ["cursor","close","read_one"] (spD K c 3 (yB R)):=fnD (k:=k+8) S.E1.F qJ6 fun _ _ _ _ _ _ hr=>(qQ (sA qJ6.nd (cA S.y1 (qQu S G) hr (qU (qS (pv 0)) (oA (nA 1) (oA (od_c (vN (v:=.int 6) rfl S.c4 ⟨_,rfl⟩) (fun _=>.int _)) (oA (nA 2) qJ))))))
   (qQ (qT (zZ (wF rfl S.E3 (nA 3)) qX) (qV (rA S.l3 S.y0 (vJ S) hr S.o3 (OD.val (xX S.v3 (nA 0))))) qB)
   (qQ (v5 (cA S.B1 (qJe S) hr (qU (qKl (nA 0)) (qU (od_v (ev_e (qJo rfl (Nc:=["pair"]) (cs:=[]) (qX3 rfl (by decide +kernel) (by decide +kernel) (by decide +kernel)) (qZq (OD.val (nA 3))) (fun _ _ _ _=>gA) (fun _ _ _ _=>qJh) (fun _ _ _ _=>(OD.val (xA 0 hr qX)))))) qJ))))
   (qV (qP (yJ (pv 3)))))))
theorem zZe(G:FnOk P w K mg base (CXd P w) k S.g2 S.h2 ["cursor"] (spD K c 1 R)):FnOk P w K mg base (CXd P w) (k+9) S.F1 S.G1 ["cursor"] (spD K c 1 (qYj R)):=fnD (k:=k+8) S.H1.F vQv fun _ _ _ _ _ _ hr=>(qQ (sA vQv.nd (cA S.y1 (qQu S G) hr (qU (qS (pv 0)) (oA qZ (oA qX (oA (od_c (vN (v:=.ref (c 30)) rfl S.A3 rfl) (fun _=>.fn 30)) qJ))))))
   (qQ (qT (t_lt (wF rfl S.E3 (nA 1)) qX) (qV (rA S.l3 S.y0 (vJ S) hr S.o3 (OD.val (xX S.v3 (nA 0))))) qB)
   (qV (qP (ed_v (vB (vA qZ (vA (xA 1 hr qX) (vA (xA 1 hr qX) (vA (xA 1 hr qX) qN))))))))))
theorem vX3:FnOk P w K mg base (CXd P w) 5 S.I1 S.J1 ["cursor"] (spD K c 1 qZ9):=fnD S.K1.F qVu fun _ _ _ _ _ _ hr=>(qQ (sA qVu.nd (cA S.p1 (jB S) hr (qU (qS (pv 0)) (oA qX (oA (od_c (vN (v:=.int 1000000) rfl S.m4 ⟨_,rfl⟩) (fun _=>.int _)) qJ)))))
   (qQ (v5 (mA (qS (pv 0)) S.j3 S.q3 S.Z0 (vI S) hr (oA qZ qJ)))
   (qQ (sA qVu.nd (cA S.p1 (jB S) hr (qU (qS (pv 0)) (oA (qZj (nA 1) qX) (oA (od_c (vN (v:=.int 1000000) rfl S.m4 ⟨_,rfl⟩) (fun _=>.int _)) qJ)))))
   (qQ (v5 (mA (qS (pv 0)) S.j3 S.q3 S.Z0 (vI S) hr (oA qZ qJ)))
   (qV (qP (ed_v (vB (vA qZ (vA (nA 1) (vA (nA 2) qN)))))))))))
theorem vX1(G:FnOk P w K mg base (CXd P w) k S.g2 S.h2 ["cursor"] (spD K c 1 R)):FnOk P w K mg base (CXd P w) (k+5) S.L1 S.M1 ["cursor"] (spD K c 1 (qZ7 R)):=fnD (k:=k+4) S.N1.F qVs fun _ _ _ _ _ _ hr=>(qQ (sA qVs.nd (cA S.i2 G hr (qU (qS (pv 0)) qJ)))
   (qQ (v5 (mA (qS (pv 0)) S.j3 S.q3 S.Z0 (vI S) hr (oA qZ qJ)))
   (qQ (sA qVs.nd (cA S.p1 (jB S) hr (qU (qS (pv 0)) (oA qX (oA (od_c (vN (v:=.int 999999999999) rfl S.a4 ⟨_,rfl⟩) (fun _=>.int _)) qJ)))))
   (qQ (v5 (mA (qS (pv 0)) S.j3 S.q3 S.Z0 (vI S) hr (oA qZ qJ)))
   (qV (qP (ed_v (vB (vA qZ (vA (nA 1) (vA (nA 2) qN)))))))))))
theorem vJy(G:FnOk P w K mg base (CXd P w) k S.g2 S.h2 ["cursor"] (spD K c 1 R)):FnOk P w K mg base (CXd P w) (k+10) S.O1 S.P1 ["cursor","word"] (spD K c 2 (qV7 R)):=fnD (k:=k+9) S.Q1.F vVc fun _ _ _ _ _ _ hr=>(qQ (v5 (mA (qS (pv 0)) S.j3 S.q3 S.Z0 (vI S) hr (oA qZ qJ)))
   (qQ (qT (zZ (nA 1) qZ) (qV (qP (cA S.H1 (zZe S G) hr (qU (qS (pv 0)) qJ)))) qB)
   (qQ (qT (zZ (nA 1) qZ) (qV (qP (cA S.K1 (vX3 S) hr (qU (qS (pv 0)) qJ)))) qB)
   (qQ (qT (zZ (nA 1) qZ) (qV (qP (ed_v (vB (vA qZ (vC (ev_e (cA S.E1 (qXu S G) hr (qU (qS (pv 0)) (oA qZ (oA (od_c (vN (v:=.ref (c 31)) rfl S.z3 rfl) (fun _=>.fn 31)) qJ))))) qN)))))) qB)
   (qV (qP (cA S.N1 (vX1 S G) hr (qU (qS (pv 0)) qJ))))))))
theorem vJx(G:FnOk P w K mg base (CXd P w) k S.g2 S.h2 ["cursor"] (spD K c 1 R)):FnOk P w K mg base (CXd P w) (k+9) S.R1 S.S1 ["cursor","word"] (spD K c 2 (qV6 R)):=fnD (k:=k+8) S.T1.F vVb fun _ _ _ _ _ _ hr=>(qQ (qT (qZk (xJ (od_e (cA S.f1 (vZh S) hr (oA (nA 1) qJ))))) (qV (rA S.l3 S.y0 (vJ S) hr S.o3 (OD.val (xX S.v3 (nA 0))))) qB)
   (qQ (qT (xJ (od_e (mA (qS (pv 0)) S.j3 S.s3 S.W0 (zN S) hr (oA qZ qJ)))) (qV (qP (ed_v (vB (vA qZ (vA (nA 1) (vC (ev_e (cA S.y1 (qQu S G) hr (qU (qS (pv 0)) (oA qZ (oA (od_c (vN (v:=.int 3) rfl S.k4 ⟨_,rfl⟩) (fun _=>.int _)) (oA (od_c (vN (v:=.ref (c 30)) rfl S.A3 rfl) (fun _=>.fn 30)) qJ)))))) qN))))))) qB)
   (qV (qP (ed_v (vB (vA qZ (vA (nA 1) qN))))))))
theorem vX2(G:FnOk P w K mg base (CXd P w) k S.g2 S.h2 ["cursor"] (spD K c 1 R)):FnOk P w K mg base (CXd P w) (k+11) S.U1 S.V1 ["cursor"] (spD K c 1 (qZ8 R)):=fnD (k:=k+10) S.W1.F qVt fun _ _ _ _ _ _ hr=>(qQ (sA qVt.nd (m0A (qS (pv 0)) S.j3 S.r3 S.T0 (zV S) hr))
   (qQ (qT (zZ (nA 1) qZ) (qQ (sA qVt.nd (cA S.i2 G hr (qU (qS (pv 0)) qJ)))
   (qQ (v5 (mA (qS (pv 0)) S.j3 S.q3 S.Z0 (vI S) hr (oA qZ qJ)))
   (qV (qP (yJ (pv 2)))))) qB)
   (qQ (qT (zZ (nA 1) qZ) (qV (qP (ed_v (vB (vA qZ (vC (ev_e (cA S.E1 (qXu S G) hr (qU (qS (pv 0)) (oA qZ (oA (od_c (vN (v:=.ref (c 32)) rfl S.x3 rfl) (fun _=>.fn 32)) qJ))))) qN)))))) qB)
   (qQ (qT (t_in hr (nA 1) (od_c (vN (v:=.ref S.p4) rfl S.q4 rfl) S.r4)) (qV (qP (cA S.Q1 (vJy S G) hr (qU (qS (pv 0)) (oA (nA 1) qJ))))) qB)
   (qQ (qT (xJ (od_e (cA S.i1 (qYw S) hr (oA (nA 1) qJ)))) (qV (qP (ed_v (vB (vA qZ (vA (vYg rfl S.D3 (nA 1)) qN)))))) qB)
   (qV (qP (cA S.T1 (vJx S G) hr (qU (qS (pv 0)) (oA (nA 1) qJ))))))))))
theorem qXt(G:FnOk P w K mg base (CXd P w) k S.g2 S.h2 ["cursor"] (spD K c 1 R)):FnOk P w K mg base (CXd P w) (k+12) S.X1 S.Y1 ["cursor"] (spD K c 1 (yU R)):=fnD (k:=k+11) S.Z1.F qQ0 fun _ _ _ _ _ _ hr=>(qQ (sA qQ0.nd (cA S.W1 (vX2 S G) hr (qU (qS (pv 0)) qJ)))
   (qQ (y6 100000 bB (xJ (od_e (mA (qS (pv 0)) S.j3 S.s3 S.W0 (zN S) hr (oA qZ qJ)))) (qV (sA qQ0.nd (ed_v (vB (vA qZ (vA (nA 1) (vC (ev_e (cA S.l1 (jN S) hr (qU (qS (pv 0)) qJ))) qN))))))))
   (qV (qP (yJ (pv 1))))))
theorem qJf(G:FnOk P w K mg base (CXd P w) k S.g2 S.h2 ["cursor"] (spD K c 1 R)):FnOk P w K mg base (CXd P w) (k+13) S.a2 S.b2 ["cursor"] (spD K c 1 (xQ R)):=fnD (k:=k+12) S.c2.F x9 fun _ _ _ _ _ _ hr=>(qQ (sA x9.nd (cA S.Z1 (qXt S G) hr (qU (qS (pv 0)) qJ)))
   (qQ (y6 100000 bB (xJ (od_e (mA (qS (pv 0)) S.j3 S.s3 S.W0 (zN S) hr (oA qZ qJ)))) (qV (sA x9.nd (ed_v (vB (vA qZ (vA qZ (vA (nA 1) (vC (ev_e (cA S.Z1 (qXt S G) hr (qU (qS (pv 0)) qJ))) qN)))))))))
   (qV (qP (yJ (pv 1))))))
theorem vQ1(G:FnOk P w K mg base (CXd P w) k S.g2 S.h2 ["cursor"] (spD K c 1 R)):FnOk P w K mg base (CXd P w) (k+14) S.d2 S.e2 ["cursor"] (spD K c 1 (xB R)):=fnD (k:=k+13) S.f2.F qQr fun _ _ _ _ _ _ hr=>(qQ (sA qQr.nd (cA S.c2 (qJf S G) hr (qU (qS (pv 0)) qJ)))
   (qQ (y6 100000 bB (t_in hr (od_e (m0A (qKl (nA 0)) S.j3 S.p3 S.Q0 (jS S) hr)) (od_v (vB (vA qZ (vA qZ qN))))) (qQ (sA qQr.nd (m0A (qS (pv 0)) S.j3 S.r3 S.T0 (zV S) hr))
   (qV (sA qQr.nd (ed_v (vB (vA qZ (vA (nA 2) (vA (nA 1) (vC (ev_e (cA S.c2 (qJf S G) hr (qU (qS (pv 0)) qJ))) qN))))))))))
   (qV (qP (yJ (pv 1))))))
theorem qQt:∀h:Nat,FnOk P w K mg base (CXd P w) (15 * h+15) S.g2 S.h2 ["cursor"] (spD K c 1 (zC h))
 | 0=>fnNo
 | h + 1=>by
   have ih:=qQt h
   exact FnOk.lv (by omega) (fnD (k:=15 * h+29) S.i2.F yP fun _ _ _ _ _ _ hr=>(qQ (sA yP.nd (cA S.f2 (vQ1 S ih) hr (qU (qS (pv 0)) qJ)))
    (qQ (qT (t_in hr (od_e (m0A (qKl (nA 0)) S.j3 S.p3 S.Q0 (jS S) hr)) (od_v (vB (vA qZ (vA qZ qN))))) (qQ (sA yP.nd (m0A (qS (pv 0)) S.j3 S.r3 S.T0 (zV S) hr))
    (qV (sA yP.nd (ed_v (vB (vA qZ (vA (nA 2) (vA (nA 1) (vC (ev_e (cA S.f2 (vQ1 S ih) hr (qU (qS (pv 0)) qJ))) qN))))))))) qB)
    (qV (qP (yJ (pv 1)))))))
theorem qZ6:FnOk P w K mg base (CXd P w) 196 S.j2 S.k2 ["cursor"] (spD K c 1 xR):=fnD S.l2.F vJt fun _ _ _ _ _ _ hr=>(qQ (v5 (mA (qS (pv 0)) S.j3 S.q3 S.Z0 (vI S) hr (oA qZ qJ)))
   (qV (qP (cA S.i2 (qQt S 12) hr (qU (qS (pv 0)) qJ)))))
theorem vKh:FnOk P w K mg base (CXd P w) 203 S.m2 S.n2 ["cursor"] (spD K c 1 qW0):=fnD S.o2.F qZx fun _ _ _ _ _ _ hr=>(qQ (sA qZx.nd (cA S.l1 (jN S) hr (qU (qS (pv 0)) qJ)))
   (qQ (v5 (mA (qS (pv 0)) S.j3 S.q3 S.Z0 (vI S) hr (oA qZ qJ)))
   (qQ (sA qZx.nd (cA S.y1 (qQu S (qQt S 12)) hr (qU (qS (pv 0)) (oA qZ (oA (od_c (vN (v:=.int 3) rfl S.k4 ⟨_,rfl⟩) (fun _=>.int _)) (oA (od_c (vN (v:=.ref (c 33)) rfl S.y3 rfl) (fun _=>.fn 33)) qJ))))))
   (qQ (v5 (cA S.B1 (qJe S) hr (qU (qKl (nA 0)) (oA (nA 2) qJ))))
   (qV (qP (ed_v (vB (vA qZ (vA (nA 1) (vA (nA 2) (vC (ev_e (cA S.l2 (qZ6 S) hr (qU (qS (pv 0)) qJ))) qN))))))))))))
theorem vKg:FnOk P w K mg base (CXd P w) 197 S.p2 S.q2 ["cursor"] (spD K c 1 qWz):=fnD S.r2.F qYq fun _ _ _ _ _ _ hr=>(qQ (sA qYq.nd (cA S.l1 (jN S) hr (qU (qS (pv 0)) qJ)))
   (qV (qP (ed_v (vB (vA qZ (vA (nA 1) (vC (ev_e (cA S.l2 (qZ6 S) hr (qU (qS (pv 0)) qJ))) qN))))))))
theorem vJz:FnOk P w K mg base (CXd P w) 197 S.s2 S.t2 ["cursor"] (spD K c 1 qV8):=fnD S.u2.F qQ1 fun _ _ _ _ _ _ hr=>(qQ (sA qQ1.nd (cA S.p1 (jB S) hr (qU (qS (pv 0)) (oA qX (oA (od_c (vN (v:=.int 30) rfl S.e4 ⟨_,rfl⟩) (fun _=>.int _)) qJ)))))
   (qQ (sA qQ1.nd (cA S.l1 (jN S) hr (qU (qS (pv 0)) qJ)))
   (qV (qP (ed_v (vB (vA qZ (vA (nA 1) (vA (nA 2) (vC (ev_e (cA S.l2 (qZ6 S) hr (qU (qS (pv 0)) qJ))) qN))))))))))
theorem vJw:FnOk P w K mg base (CXd P w) 205 S.v2 S.w2 ["cursor"] (spD K c 1 qV5):=fnD S.x2.F qJ5 fun _ _ _ _ _ _ hr=>(qQ (sA qJ5.nd (m0A (qS (pv 0)) S.j3 S.r3 S.T0 (zV S) hr))
   (qQ (qT (zZ (nA 1) qZ) (qV (qP (cA S.o2 (vKh S) hr (qU (qS (pv 0)) qJ)))) qB)
   (qQ (qT (zZ (nA 1) qZ) (qV (qP (cA S.r2 (vKg S) hr (qU (qS (pv 0)) qJ)))) qB)
   (qQ (qT (zZ (nA 1) qZ) (qV (qP (cA S.u2 (vJz S) hr (qU (qS (pv 0)) qJ)))) qB)
   (qQ (qT (t_in hr (nA 1) (od_v (vB (vA qZ (vA qZ qN))))) (qV (qP (ed_v (vB (vA (nA 1) (vC (ev_e (cA S.i2 (qQt S 12) hr (qU (qS (pv 0)) qJ))) qN)))))) qB)
   (qV (rA S.l3 S.y0 (vJ S) hr S.o3 (OD.val (xX S.v3 (nA 0))))))))))
theorem qY4:FnOk P w K mg base (CXd P w) 1 S.y2 S.z2 ["words"] (spD K c 1 zO):=fnD S.A2.F zF fun _ _ _ _ _ _ hr=>(qQ (sA zF.nd (OD.ow qX))
   (qQ (sA zF.nd (OD.ow qX))
   (qQ (qZn bB rfl (qZq (OD.val (nA 0))) gA (qQ (qT (t_in hr (nA 3) (od_v (vB (vA qZ (vA qZ qN))))) (qV (vX9 zF.nd rfl (Or.inl rfl) (OD.val qX) vZ0 (qKu _))) (qV (qT (t_in hr (nA 3) (od_v (vB (vA qZ (vA qZ qN))))) (qV (vX9 zF.nd rfl (Or.inl rfl) (OD.val qX) jJj (qKu _))) qB)))
   (qV (sA zF.nd (OD.ow (zJr rfl rfl S.G3 (nA 2) (nA 1)))))))
   (qV (qP (yJ (pv 2)))))))
theorem zQ6:∀h:Nat,FnOk P w K mg base (CXd P w) (1 * h+2) S.B2 S.C2 ["term"] (spD K c 1 (jJ h))
 | 0=>fnNo
 | h + 1=>by
   have ih:=zQ6 h
   exact FnOk.lv (by omega) (fnD (k:=1 * h+2) S.D2.F qK9 fun _ _ _ _ _ _ hr=>(qQ (sA qK9.nd (OD.ow qX))
    (qQ (qZn bB rfl (qZq (ev_e (cA S.B0 (vKi S) hr (oA (nA 0) qJ)))) gA (qV (sA qK9.nd (OD.ow (zJr rfl rfl S.G3 (nA 1) (od_e (qJp ih (hr.mono (by omega)) rfl S.D2.m S.D2.F.kp S.D2.b xL (oA (nA 2) qJ))))))))
    (qV (qP (OD.ow (qZj (nA 1) qX)))))))
theorem vKf:FnOk P w K mg base (CXd P w) 207 S.E2 S.F2 ["number","row"] (spD K c 2 vY):=fnD S.G2.F qQs fun _ _ _ _ _ _ hr=>(qQ (qT (t_gt (wF rfl S.E3 (nA 1)) (od_c (vN (v:=.int 1000) rfl S.i4 ⟨_,rfl⟩) (fun _=>.int _))) (qV (rA S.l3 S.y0 (vJ S) hr S.o3 (OD.val (nA 0)))) qB)
   (qQ (sA qQs.nd (cA S.K0 (vKd S) hr (oA (nA 1) qJ)))
   (qQ (qT (td_w (vJ6 (t_gt (wF rfl S.E3 (nA 2)) (od_c (vN (v:=.int 60) rfl S.o4 ⟨_,rfl⟩) (fun _=>.int _))) (qKs (t_gt (od_e (cA S.A2 (qY4 S) hr (oA (nA 2) qJ))) (od_c (vN (v:=.int 10) rfl S.S3 ⟨_,rfl⟩) (fun _=>.int _)))))) (qV (rA S.l3 S.y0 (vJ S) hr S.o3 (OD.val (nA 0)))) qB)
   (qQ (sA qQs.nd (jQc S.k3 (vQ8 S) (hr.mono (by decide)) rfl S.n3 S.N0.b xL (oA (nA 0) (oA (nA 2) qJ))))
   (qQ (sA qQs.nd (cA S.x2 (vJw S) hr (qU (qS (pv 3)) qJ)))
   (qQ (qT (td_w (vJ6 (vJ7 (od_e (m0A (qKl (nA 3)) S.j3 S.p3 S.Q0 (jS S) hr)) qZ) (qKs (t_gt (od_e (cA S.D2 (zQ6 S 62) hr (oA (xA 4 hr (jQ8 qX)) qJ))) (od_c (vN (v:=.int 10) rfl S.U3 ⟨_,rfl⟩) (fun _=>.int _)))))) (qV (rA S.l3 S.y0 (vJ S) hr S.o3 (OD.val (nA 0)))) qB)
   (qV (qP (yJ (pv 4))))))))))
theorem zJ9:FnOk P w K mg base (CXd P w) 209 S.H2 S.I2 ["text"] (spD K c 1 jI):=fnD S.J2.F qKa fun _ _ _ _ _ _ hr=>(qQ (sA qKa.nd (jQg (nA 0) ⟨rfl,rfl,rfl,rfl⟩))
   (qQ (sA qKa.nd (qQy qN))
   (qQ (qZn bB rfl (zQs rfl S.C3 (vA (nA 1) qN)) (vYj rfl (qVe gA (qVe gA vJh))) (qQ (qT (zZ (nA 3) (od_c (vN (v:=.int 40) rfl S.g4 ⟨_,rfl⟩) (fun _=>.int _))) (qV (rA S.l3 S.y0 (vJ S) hr S.o3 (OD.val (nA 3)))) qB)
   (qQ (sA qKa.nd (cA S.G2 (vKf S) hr (oA (nA 3) (oA (nA 4) qJ))))
   (qQ (qT (vJ7 (zZx (xA 5 hr qX) qZ) (zZx (nA 3) (zZw (wF rfl S.E3 (nA 1)) qX))) (qV (rA S.l3 S.y0 (vJ S) hr S.o3 (OD.val (nA 3)))) qB)
   (qV (v5 (wJ (nA 2) (OD.ow (nA 5)))))))))
   (qV (qP (yJ (pv 2)))))))
theorem vJ0:FnOk P w K mg base (CXd P w) 1 S.K2 S.M2 ["_law_cell","_law_many"] (spD K c 2 j7):=fnD S.N2.F xG fun _ _ _ _ _ _ hr=>(qQ (sA xG.nd (qQy qN))
   (qQ (sA xG.nd (OD.ow (qZj (qZc (nA 0) qX) qX)))
   (qQ (qZn bB rfl (zV6 rfl S.H3 (vA (nA 1) qN)) gA (qQ (sA xG.nd (OD.ow (qZc (qZj (qZj (vWd (nA 3) (nA 3)) (vWd qX (nA 3))) (vWd (nA 4) (nA 4))) qX)))
   (qV (v5 (wJ (nA 2) (OD.ow (nA 3)))))))
   (qV (qP (yJ (pv 2)))))))
theorem qVq:FnOk P w K mg base (CXd P w) 1 S.O2 S.P2 ["_law_more"] (spD K c 1 jW):=fnD S.Q2.F vXq fun _ _ _ _ _ _ hr=>(qV (qP (OD.ow (qZp (o_ix hr qZ (qZc (nA 0) qX)) (o_ix hr qZ (qZc (qW2 (nA 0) qX) qX))))))
theorem qWx:FnOk P w K mg base (CXd P w) 2 S.R2 S.S2 ["_law_more"] (spD K c 1 jX):=fnD S.T2.F vXr fun _ _ _ _ _ _ hr=>(qQ (qT (zZ (qZc (nA 0) qX) qX) (qV (qP (ed_v (vB (vA qZ (vA (qZc (qW2 (nA 0) qX) (jQ7 qX qX)) qN)))))) qB)
   (qQ (qT (zZ (qZc (nA 0) qX) qX) (qV (qP (ed_v (vB (vA qZ (vC (ev_e (cA S.Q2 (qVq S) hr (oA (qW2 (nA 0) qX) qJ))) (vC (vB (vC (vB (vA qZ (vC (ev_e (cA S.Q2 (qVq S) hr (oA (qW2 (nA 0) qX) qJ))) qN))) qN)) qN))))))) qB)
   (qV (qP (ed_v (vB (vA qZ (vC (ev_e (cA S.Q2 (qVq S) hr (oA (qW2 (nA 0) qX) qJ))) qN))))))))
theorem vQ2:FnOk P w K mg base (CXd P w) 3 S.U2 S.V2 ["_law_cell"] (spD K c 1 wU):=fnD S.W2.F jM fun _ _ _ _ _ _ hr=>(qQ (sA jM.nd (qQy qN))
   (qQ (qZn bB rfl (qZq (ev_e (cA S.N2 (vJ0 S) hr (oA (qW2 (nA 0) qX) (oA (qZj qX (qZc (nA 0) qX)) qJ))))) gA (qQ (sA jM.nd (OD.ow (qZc (nA 2) qX)))
   (qQ (sA jM.nd (OD.ow (qW2 (nA 2) qX)))
   (qQ (sA jM.nd (OD.ow (o_ix hr qZ (qZc (nA 4) qX))))
   (qV (qT (td_w (vJ6 (zZ (wF rfl S.E3 (nA 1)) qX) (qKs (zZ (nA 3) qX)))) (qV (v5 (wJ (nA 1) (cA S.T2 (qWx S) hr (oA (nA 4) qJ))))) (qV (qT (zZ (nA 3) qX) (qV (v5 (wJ (nA 1) (ed_v (vB (vA qZ (vC (ev_e (qKn (nA 1))) (vC (ev_e (cA S.Q2 (qVq S) hr (oA (nA 4) qJ))) qN)))))))) (qV (qT (t_gt (wF rfl S.E3 (nA 1)) qX) (qQ (sA jM.nd (qKn (nA 1)))
   (qV (v5 (wJ (nA 1) (ed_v (vB (vA qZ (vA (nA 5) (vC (ev_e (qKn (nA 1))) (vA (nA 6) qN)))))))))) (qV (qT (zZ (nA 3) qX) (qV (v5 (wJ (nA 1) (ed_v (vB (vA qZ (vA (nA 5) (vC (ev_e (cA S.T2 (qWx S) hr (oA (qW2 (nA 4) qX) qJ))) (vC (ev_e (qKn (nA 1))) qN))))))))) (qV (v5 (wJ (nA 1) (ed_v (vB (vA qZ (vA (nA 5) (vC (ev_e (qKn (nA 1))) (vC (ev_e (cA S.T2 (qWx S) hr (oA (qW2 (nA 4) qX) qJ))) qN)))))))))))))))))))))
   (qQ (y6 100000 bB (t_gt (wF rfl S.E3 (nA 1)) qX) (qQ (sA jM.nd (qKn (nA 1)))
   (qV (v5 (wJ (nA 1) (ed_v (vB (vA qZ (vA (o_ix hr qZ (qZc (wF rfl S.E3 (nA 1)) qX)) (vC (ev_e (qKn (nA 1))) (vA (nA 6) qN)))))))))))
   (qV (qP (OD.ow (xA 1 hr qX)))))))
theorem zZf:FnOk P w K mg base (CXd P w) 1 S.X2 S.Y2 ["_law_text","_law_at"] (spD K c 2 qVh):=fnD S.Z2.F qVm fun _ _ _ _ _ _ hr=>(qQ (sA qVm.nd (OD.ow qX))
   (qQ (qZn bB rfl (vZd rfl S.H3 (vA (nA 1) (vA (wF rfl S.E3 (nA 0)) qN))) gA (qQ (qT (zZ (xA 0 hr (nA 3)) qZ) (qV (sA qVm.nd (OD.ow (qZj (nA 2) qX)))) qB)
   (qQ (qT (zZ (xA 0 hr (nA 3)) qZ) (qV (sA qVm.nd (OD.ow (zZw (nA 2) qX)))) qB)
   (qV (qT (zZ (nA 2) qX) (qV (qP (yJ (pv 3)))) qB)))))
   (qV (qP (OD.ow (jQ8 qX))))))
theorem vVg:FnOk P w K mg base (CXd P w) 210 S.a3 S.b3 ["_law_text","_law_due"] (spD K c 2 wX):=fnD S.c3.F qJc fun _ _ _ _ _ _ hr=>(qQ (zYo (hd:=fun C=> [23].contains C) (zJ9 S) (hr.mono (by decide)) rfl S.J2.m S.J2.F.kp S.J2.b (oA (nA 0) qJ) rfl S.o3 qJc.nd (j:=2) rfl rfl S.t3 (fun ea=>(qV (qP (OD.ow qYo)))))
   (qV (qP (OD.ow (jWu hr (nA 2) (nA 1))))))
theorem vQ3:FnOk P w K mg base (CXd P w) 211 S.d3 S.e3 ["_law_tree_here"] (spD K c 1 qQd):=fnD S.f3.F xO fun _ _ _ _ _ _ hr=>(qQ (sA xO.nd (OD.ow (qZp qZ (od_e (cA S.v0 (qXs S 30) hr (oA (nA 0) qJ))))))
   (qQ (sA xO.nd (qQy (vC (vB (vA qZ (vA (nA 0) qN))) qN)))
   (qQ (qT (jJ4 hr (od_e (cA S.J2 (zJ9 S) hr (oA (nA 1) qJ))) (nA 2)) (qV (qP (OD.ow qYo))) qB)
   (qQ (qZn bB rfl (vZd rfl S.H3 (vA qX (vA (wF rfl S.E3 (nA 1)) qN))) gA (qV (qT (td_w (vZo (zZ (xA 1 hr (nA 3)) qZ) (vZ5 (qZk (xJ (zKo (xA 1 hr (zZw (nA 3) qX)))))))) (qQ (sA xO.nd (cA S.Z2 (zZf S) hr (oA (nA 1) (oA (nA 3) qJ))))
   (qQ (qT (t_lt (nA 4) qX) (qV (qP (OD.ow qYo))) qB)
   (qQ (sA xO.nd (OD.ow (qZp (qZp (od_v (qVg (nA 1) qW8 (yX (OD.val (nA 3))))) (od_v (qVg (nA 1) (yX (OD.val (qZj (nA 3) qX))) (yX (OD.val (nA 4)))))) (od_v (qVg (nA 1) (yX (OD.val (qZj (nA 4) qX))) qW8)))))
   (qV (qT (qZk (xJ (od_e (cA S.c3 (vVg S) hr (oA (nA 5) (oA (nA 2) qJ)))))) (qV (qP (OD.ow qYo))) qB))))) qB)))
   (qV (qP (OD.ow qYo)))))))
theorem jXd:FnOk P w K mg base (CXd P w) 212 S.g3 S.h3 ["_law_script"] (spD K c 1 zZ5):=fnD S.i3.F jV3 fun _ _ _ _ _ _ hr=>(qQ (qZn bB rfl (zQs rfl S.C3 (vC (ev_e (zX3 (nA 0) qW8 (yX (OD.val qX)))) qN)) (vYj rfl (qVe gA (qVe gA vJh))) (qV (qT (qZk (xJ (od_e (cA S.f3 (vQ3 S) hr (qU (od_v (ev_e (cA S.W2 (vQ2 S) hr (oA (qZj (qZc (nA 2) (jQ7 qX qX)) (vWd (vWd qX (nA 1)) (nA 1))) qJ)))) qJ))))) (qV (qP (OD.ow qYo))) qB)))
   (qV (qP (cA S.f3 (vQ3 S) hr (qU (od_v (ev_e (cA S.W2 (vQ2 S) hr (oA (wF rfl S.E3 (nA 0)) qJ)))) qJ)))))
end
def cm:Nat->aV:=fun n=>match n with | 9=>175 | 23=>101 | 30=>315 | 31=>238 | 32=>245 | 33=>205|_=>0
end X18
open PySem PySem.W PyProof.Rows L2 DX
set_option maxHeartbeats 0 in
theorem PySem.Challenge.cw_flipwright_k18_no_bracket_too_many_holds : PySem.Challenge.rw_flipwright_k18_no_bracket_too_many.Holds := by
 w_on;o_law;refine holds_open (q:=X18.vw) (loose:=X18.pg.boundNames) (Xt:=fun s=>xlAt X18.vw [] s && recOk (RowW.records (OpenRow.toRowW PySem.Challenge.rw_flipwright_k18_no_bracket_too_many.row)) s) (XP:=XL X18.vw []) (Yf:=Hook.obs (kHook X18.KF X18.KA X18.KAs)) (Ya:=Hook.val (kHook X18.KF X18.KA X18.KAs)) (YP:=Hook.says (kHook X18.KF X18.KA X18.KAs)) (N:=5376) ?hl (Hook.of _) (Hook.keeps _) (fun s e=>xl_of s (Bool.and_eq_true_iff.mp e).1) XL.keeps (by rfl) (by rfl) (by rfl) (fun s e=>recFacts_of (Bool.and_eq_true_iff.mp e).2) (by rfl) (by first|assumption|decide +kernel) (by decide +kernel) ⟨rfl,rfl,rfl,rfl,rfl,by decide +kernel⟩ ?hw ?hc
 (case hw=>w_witness2);(case hl=>exact TH.left (k0:=12) rfl (by rfl) (fun _=>rfl) X18.zK4 X18.jJn X18.zK3 X18.zXv X18.jJm (by rfl));k_fill;refine DX.jJy (l:=PySem.Challenge.rw_flipwright_k18_no_bracket_too_many) (k:=212) (x:="_law_script") rfl rfl ⟨rfl,by decide,by decide,rfl⟩ (fun w h Y=>PySem.W.kIn_of Y) X18.zXm ?F
 case F=>
  intro w mg fa h KX G hmg;let S:X18.Fs (X18.KF w.params) mg X18.cm w:=by
   constructor
   iterate 2 all_goals try first
    |exact faM KX G (by k_is) (by k_is) (by k_is) (by k_is)
    |exact PySem.W.mg_of KX G (by k_is)
    |exact PySem.W.mg_none_of KX G (by k_is)
    |exact⟨by k_is,by k_is,by k_is⟩
    |exact⟨by k_is,by k_is,by k_is,by k_is⟩
    |k_is
    |exact qJt (by k_is) (by k_is) (by k_is) (fun _ _ _ _ _ _ us hl=>match us,hl with|[_],_=>rfl)
    |exact qJt (by k_is) (by k_is) (by k_is) (fun _ _ _ _ _ _ us hl=>match us,hl with|[_,_],_=>rfl)
    |exact qJt (by k_is) (by k_is) (by k_is) (fun _ _ _ _ _ _ us hl=>match us,hl with|[_,_,_],_=>rfl)
    |exact qJt (by k_is) (by k_is) (by k_is) (fun _ _ _ _ _ _ us hl=>match us,hl with|[_,_,_,_],_=>rfl)
    |exact(by unfold L2.x8;k_is)
    |exact⟨DX.jJk (by kernel_rfl),by k_is,by k_is,by k_is,by k_is⟩
    |exact exs_cons ⟨⟨by k_is,by k_is,by k_is,by k_is,by k_is⟩,by kit_is⟩ exs_nil
    |exact zX1 (by kts_exm) jQa
    |exact exl_cons ⟨⟨by k_is,by k_is,by k_is,by k_is,by k_is⟩,by k_is,by k_is⟩ exl_nil
    |exact zX0 (C:=9) ⟨by k_is,by k_is,by k_is,by k_is⟩ (by unfold L2.x8;k_is) zK9
    |exact jWz [("flip",401),("pick",402),("if",403),("rest",404)] (n:=0) rfl rfl rfl (by decide)
    |exact kd_of (l:=[("=",189,.ref 16),("<",193,.ref 17),("+",197,.ref 18),("-",201,.ref 19),("*",205,.ref 20)]) rfl ⟨rfl,rfl,rfl⟩ rfl ⟨rfl,qJ1 [("+",190),("-",191),("*",192)] (n:=0) rfl rfl rfl (by decide),⟨rfl,qJ1 [("+",194),("-",195),("*",196)] (n:=0) rfl rfl rfl (by decide),⟨rfl,qJ1 [("+",198),("-",199),("*",200)] (n:=0) rfl rfl rfl (by decide),⟨rfl,qJ1 [("+",202),("-",203),("*",204)] (n:=0) rfl rfl rfl (by decide),⟨rfl,qJ1 [("*",206)] (n:=0) rfl rfl rfl (by decide),trivial⟩⟩⟩⟩⟩
    |exact kd_of (l:=[("=",213,.ref 22),("<",217,.ref 23),("+",221,.ref 24),("-",223,.ref 25),("*",225,.ref 26)]) rfl ⟨rfl,rfl,rfl⟩ rfl ⟨rfl,qJ1 [("+",214),("-",215),("*",216)] (n:=0) rfl rfl rfl (by decide),⟨rfl,qJ1 [("+",218),("-",219),("*",220)] (n:=0) rfl rfl rfl (by decide),⟨rfl,qJ1 [("*",222)] (n:=0) rfl rfl rfl (by decide),⟨rfl,qJ1 [("*",224)] (n:=0) rfl rfl rfl (by decide),⟨rfl,qJ1 [] (n:=0) rfl rfl rfl (by decide),trivial⟩⟩⟩⟩⟩
  have e:fa=S.g3:=by have e:=hmg.symm.trans S.i3.m;cases e;rfl
  rw[e];exact⟨X18.cm,S.h3,rfl,fun s u=>.of_eq rfl,fun base _ _=>X18.jXd S⟩
