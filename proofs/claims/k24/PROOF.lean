import PyProof.Rows.All
import Wide.All
import OpenK.AllK
import Wide.FinOn
import PyProof.EqAt
import PyProof.EqKinds
import PyProof.TupleCall
import Lean
import PySem.Challenge.RW_flipwright_k24_names_refused
set_option Elab.async false
set_option linter.all false
set_option maxRecDepth 100000
set_option compiler.extract_closed false
set_option bootstrap.genMatcherCode false
open PySem.W renaming Frag → aQ, kitOne → bV, findIn → bU, kia_one → bL, fnOf → cJ, keepIn → cD, emptyDict → cF, instObj → dW, behindTheImports → dP
open PySem renaming wpAny_bind → aV, Addr → aZ, Shared → aJ, starEach → aX, wpAny_pure → aE, wpAny → aH, sizeLine → aI, FuncData → bQ, Program → bZ, World → bP, wpAny_mono → bM, wpAny_field → bA, backTo → cV, mainGlobals → cX, mem_of_lookup → cY, Around → cW, wpAny_loadPart_at → cU, bootBuiltins → cH, wpAny_newObj_type → cI, compareOp → cR, wpAny_callSpecial?_slot → dJ, wpAny_passesOwn → dX, wpAny_seqItems → dB, wpAny_setField_rec → dO, wpAny_Call_Name_kw → dR, wpAny_holding → dA, cLine → eX, sysModules → eY
open PySem.Heap renaming get?_push_of_some → aY, lt_size → aC, get?_push_size → aS, size_push → cM, get?_update_other → dL, get?_update_self → dN, SameBut → eK
open List renaming length_map → aW, length_cons → aK, length_append → aU, getElem?_eq_some_iff → aD, getElem?_eq_getElem → aL, mem_cons_of_mem → aM, size_toArray → aN, map_cons → aO, mem_cons → aA, mem_append_right → bY, mem_singleton → bW, append_nil → bK, length_replicate → bF, length_take → bG, getElem?_set_ne → bH, zip_cons_cons → bI, mem_filterMap → bO, mem_append → bR, length_set → bS, getElem?_map → bT, getD_eq_getElem?_getD → cZ, mem_cons_self → cC, filterMap_cons → cG, map_map → cL, replicate_succ → dQ, length_drop → dY, nodup_cons → dC, map_append → dD, append_assoc → dF, getElem?_cons_zero → dH, take_of_length_le → dI, all_cons → dM, mem_append_left → eV, getElem?_append_right → eZ
open Bool renaming and_eq_true → aP, false_ne_true → aR, not_eq_true' → dG, and_false → eQ
open Nat renaming le_refl → aB, lt_of_lt_of_le → aF, le_trans → aG, ne_of_lt → bJ, lt_irrefl → cK, le_succ → cS, zero_le → eJ
open PySem.PyData renaming keyHash → aT
open Option renaming map_eq_some_iff → bX, bind_some → cB, bind_eq_some_iff → cT
open PySem.PassesOwn renaming leaving → bN
open PyProof.Rows renaming callWith_type1 → cN
open PySem.F renaming slot_tuple_iterator_next → dU, excBase_ValueError → dS
open PySem.SeqAt renaming EqAt → eW
namespace L2
open PySem
noncomputable def xU(s:Stmt)(j:Nat):Stmt:=match s with
 |.ClassDef _ _ _ body _ _ _ _ _ _ _=>body.getD j (.Pass ⟨0,0,0,0⟩)
 |_=> .Pass ⟨0,0,0,0⟩
noncomputable def j4(s:Stmt):Arguments:=match s with
 |.FunctionDef _ a _ _ _ _ _ _ _ _=>a
 |_=> {posonlyargs:=[],args:=[],vararg:=none,kwonlyargs:=[],kw_defaults:=[],kwarg:=none,defaults:=[]}
noncomputable def zM(s:Stmt):List Stmt:=match s with
 |.FunctionDef _ _ b _ _ _ _ _ _ _=>b
 |_=> []
noncomputable def qU(s:Stmt):Scope:=match s with
 |.FunctionDef _ _ _ _ _ _ sc _ _ _=>sc
 |_=> {kind:=.function,names:=[],isGenerator:=false,isCoroutine:=false}
end L2
namespace TH
open PySem PySem.W PySem.Calls PyProof.Rows
variable{N:Nat}{c:Code}{pos:Pos}{p:bZ}{ann:Option Value}{env:Env}
noncomputable def zQm:List Obj->Nat->BT->BT
 |[],_,t=>t
 |o::l,n,t=>zQm l (n+1) (t.ins n o)
noncomputable def ofS(s:aJ):SharedT:=⟨zQm s.heap.objs.toList 0 .nil,s.heap.objs.size,s.heap.life,s.gens,s.drawn,s.toks,s.os⟩
section
variable{tb:String->Option Builtin}{p:bZ}{w:bP}{n₀:Nat}{ann:Option Value}{env:Env}{q:Pos}
theorem app{n:Nat}{s s' r:aJ}{l:List Stmt}{b:Code}{d:Pos}(h:segRun tb p w n₀ ann 1 n s (piecesOf l env c pos [topFrame q])=some (.next,s',b,d))(k:topRun tb p w n₀ ann N s' (restOf [] env b d [topFrame q])=some r):topRun tb p w n₀ ann (n+N) s (restOf l env c pos [topFrame q])=some r:=by
 obtain⟨a,e,g⟩:=seg_top (res:=id) (K' :=fun f=>match f with|.next =>(execs [] env).wrap doneF (leaveH env) id id|f=>doneF f) (H' :=leaveH env) (B:=[topFrame q]) rfl n s (piecesOf l env c pos [topFrame q])
  ⟨(execs l env).wrap (fun f=>match f with|.next =>(execs [] env).wrap doneF (leaveH env) id id|f=>doneF f) (leaveH env) id id,c,pos,[topFrame q]⟩ _ _ _ _ ⟨rfl,rfl,.inl ⟨rfl,rfl,_,rfl,rfl⟩⟩ h
 obtain rfl:a=.next :=e
 have:=g N r k;rw[show l=l ++ [] by simp];unfold restOf;rw[execs_app_wrap];exact this
end
noncomputable def vW1{β:Type}(p:bZ)(w:bP)(n₀:Nat)(a:Option Value)(b:List Stmt)(env:Env)(c:Code)(d q:Pos)(k:Nat)(s:SharedT)(look:aJ->β):Option β:=
 match segRunT treeTable p w n₀ a 1 k s (piecesOf b env c d [topFrame q]) with
 |some (.next,s',c',p')=>(topRun treeTable p w n₀ a 5 s'.abs (restOf [] env c' p' [topFrame q])).map look
 |_=>none
theorem zWf{β:Type}{w:bP}{n₀:Nat}{b:List Stmt}{q:Pos}{k:Nat}{s:SharedT}{look:aJ->β}{v:β}(h:vW1 p w n₀ ann b env c pos q k s look=some v):∃r,topRun treeTable p w n₀ ann (k+5) s.abs (restOf b env c pos [topFrame q])=some r/\look r=v:=by
 unfold vW1 at h;split at h
 ·next s' c' p' e=>
  obtain⟨r,a,d⟩:=bX.mp h;exact⟨r,app (segRun_of e) a,d⟩
 ·cases h
noncomputable def zQf{α:Type}(p q:bZ)(loose:List Str)(Xt:aJ->Bool)(Yf:aJ->α)(g0:Bool)(H₀:Heap)(s:aJ):=
 ((staticsOk (importedModules p.main.body) H₀ s.heap && namesBound p s.heap && gensDone s && laidKept H₀ s.heap),openSeen q loose (importedModules p.main.body) Xt g0 s,Yf s)
theorem left{q:bZ}{loose:List Str}{Xt:aJ->Bool}{α:Type}{Yf:aJ->α}{Ya:bP->α}{g0:Bool}{m₀:Nat}{k0 k:Nat}{g:Pos}{Sa:bP->OsState->aJ}(e:opening p=plainProg p.main.scope.names)(n:Nat.ble 600 N=true)(f:∀s,fenceModules? p s=some s)(b:∀w:bP,((boot_heap w.params).isNs cX,(boot_heap w.params).objs.size,(boot_heap w.params).nsMap cX "__annotations__")=(true,m₀,ann))(pre:∀(w:bP) (os:OsState),topGo treeTable p w m₀ ann k0 ⟨boot_heap w.params,Array.mk [],boot_drawn,boot_toks,os⟩ (topStub p)=
   some (Sa w os,⟨denote treeTable (.body (dP p) env),.body (dP p) env,pos,[topFrame g]⟩))(c:∀w os,(ofS (Sa w os)).abs =Sa w os)(a:blockStart (dP p) env=.pure ())(i:∀w os,vW1 p w m₀ ann (dP p) env (.body (dP p) env) pos g k (ofS (Sa w os)) (zQf p q loose Xt Yf g0 (boot_heap w.params))=some (true,openGood q loose,Ya w))(o:Nat.ble (k0+(1+(k+5))) N=true):LeftO p q loose Xt Yf Ya N g0:=fun w=>by
 obtain⟨⟨h,u,d,v,os⟩,x,y⟩:=bX.mp (boot_open (N:=N) e n f w);obtain⟨rfl,rfl,rfl,rfl⟩:h=boot_heap w.params/\u=Array.mk []/\d=boot_drawn/\v=boot_toks:=by simpa using y
 obtain⟨z,A,B⟩:_/\_/\_:=by simpa only[Prod.mk.injEq] using b w
 obtain⟨r,j,C⟩:=zWf (i w os);rw[c w os]at j;have hb:segRun treeTable p w m₀ ann 1 1 (Sa w os) (blockOf (dP p) env (.body (dP p) env) pos [topFrame g])=some (.next,Sa w os,.body (dP p) env,pos):=by
  unfold blockOf;rw[a];rfl
 have D:=go_top (pre w os) (piece_block hb j);have l:=topRun_mono (N - (k0+(1+(k+5)))) _ _ _ _ D;rw[show(k0+(1+(k+5)))+(N - (k0+(1+(k+5))))=N by have:=Nat.le_of_ble_eq_true o;omega]at l;obtain⟨E,F,G⟩:_/\_/\_:=by simpa only[zQf,Prod.mk.injEq] using C
 have t:topFrom treeTable p w N ⟨boot_heap w.params,Array.mk [],boot_drawn,boot_toks,os⟩=some r:=by
  unfold topFrom;dsimp only;rw[z,A,B,l];show(match staticsOk (importedModules p.main.body) (boot_heap w.params) r.heap && namesBound p r.heap && gensDone r && laidKept (boot_heap w.params) r.heap with|true=>_|false=>_)=_;rw[E]
 unfold openEnds;rw[x];show(topFrom treeTable p w N _).map _=_;rw[t];exact congrArg some (Prod.ext F G)
end TH
namespace X24
open PySem L2 PyProof.Rows
noncomputable def top(i:Nat):Stmt:=PySem.Challenge.pw_flipwright_k24_names_refused.main.body.getD i (.Pass ⟨0,0,0,0⟩)
noncomputable abbrev qZr:Stmt:=xU (top 4) 0
noncomputable abbrev qQl:Stmt:=xU (top 5) 0
noncomputable abbrev qQk:Stmt:=xU (top 14) 0
noncomputable abbrev qJh:Stmt:=top 15
noncomputable abbrev qV0:Stmt:=top 16
noncomputable abbrev qQ3:Stmt:=top 17
noncomputable abbrev qV1:Stmt:=top 18
noncomputable abbrev qWs:Stmt:=top 19
noncomputable abbrev qVx:Stmt:=top 20
noncomputable abbrev qQj:Stmt:=xU (top 21) 0
noncomputable abbrev wB:Stmt:=xU (top 21) 1
noncomputable abbrev xH:Stmt:=xU (top 21) 2
noncomputable abbrev xI:Stmt:=xU (top 21) 3
noncomputable abbrev xQ:Stmt:=xU (top 21) 5
noncomputable abbrev wT:Stmt:=xU (top 21) 4
noncomputable abbrev xG:Stmt:=xU (top 21) 6
noncomputable abbrev xF:Stmt:=xU (top 21) 7
noncomputable abbrev qYp:Stmt:=top 22
noncomputable abbrev qQ2:Stmt:=top 24
noncomputable abbrev qWr:Stmt:=top 25
noncomputable abbrev qZp:Stmt:=top 26
noncomputable abbrev qWq:Stmt:=top 27
noncomputable abbrev qJl:Stmt:=top 28
noncomputable abbrev qJk:Stmt:=top 29
noncomputable abbrev qJi:Stmt:=top 30
noncomputable abbrev qJj:Stmt:=top 31
noncomputable abbrev qVz:Stmt:=top 32
noncomputable abbrev qVy:Stmt:=top 33
noncomputable abbrev qQi:Stmt:=top 34
noncomputable abbrev qQ0:Stmt:=top 35
noncomputable abbrev qQ1:Stmt:=top 36
noncomputable abbrev zQb:Stmt:=top 37
noncomputable def fO(x q:Str)(s:Stmt)(m:Str)(t c:Nat):Obj:=⟨(.type "function"),none,(.func ⟨x,q,j4 s,.stmts (zM s),qU s,3,[],.none,.none,.none,(.str m t),none,(.ref c),.none,0⟩),#[]⟩
noncomputable def cO(x q:Str)(a b d:Nat)(l n v:Int)(e:Nat)(i:Int)(f g h j:Nat)(k o:Int)(p:Nat):Obj:=⟨(.type "code"),none,(.fields #[(.str x a),(.str q b),(.str "/claim/cut.py" d),(.int l 0),(.int n 0),(.int 0 0),(.int 0 0),(.int v 0),(.ref e),(.bool true),(.int i 0),(.ref f),.none,(.ref g),(.ref h),(.ref j),(.int k 0),(.int o 0),(.str "/claim/cut.py" p)]),#[]⟩
noncomputable def eR(P:Params)(x:Str)(t c:Nat):DictEntry:=⟨aT P x,.str x t,.ref c⟩
noncomputable def cQ(c:Nat)(x q:Str)(a:Nat)(l n:Int):Obj:=⟨(.type "code"),none,(.fields #[(.str x a),(.str q (a+1)),(.str "/claim/cut.py" (a+2)),(.int l 0),(.int n 0),(.int 0 0),(.int 0 0),(.int 3 0),(.ref (c - 3)),(.bool true),(.int 181 0),(.ref (c - 2)),.none,.none,.none,(.ref (c - 1)),(.int (a+3) 0),(.int l 0),(.str "/claim/cut.py" (a+4))]),#[]⟩
noncomputable def cP(c:Nat)(x:Str)(a:Nat)(l n:Int)(e:Nat):Obj:=cO x x a (a+1) (a+2) l n 3 (c - 5) 181 (c - 4) (c - 3) (c - 2) (c - 1) (e:Int) l (e+1)
noncomputable def g0(x:Str)(s:Stmt)(c:Nat):Obj:=fO x x s "flipwright.opening" 353 c
noncomputable def g1(x:Str)(s:Stmt)(c:Nat):Obj:=fO x x s "law_flipwright_k24_names_refused" 553 c
noncomputable def x1:Obj:=⟨(.type "tuple"),none,(.seq #[(.ref 24)] 0),#[]⟩
noncomputable def x2:Obj:=⟨(.type "tuple"),none,(.seq #[] 0),#[]⟩
noncomputable def x3(c:Nat)(l:Int)(a:Nat)(P:Params):Obj:=⟨(.type "dict"),none,(.dict #[⟨aT P "__module__",(.str "__module__" (a+7)),(.str "flipwright.errors" 187)⟩,⟨aT P "__firstlineno__",(.str "__firstlineno__" (a+11)),(.int l (a+10))⟩,eR P "__static_attributes__" (a+12) (c+7),⟨aT P "__doc__",(.str "__doc__" (a+13)),.none⟩] 2),#[]⟩
noncomputable def x4(c:Nat)(x:Str)(a:Nat):Obj:=⟨(.type "type"),none,(.cls (.mk x [(.ref 24)] [(.ref (c+9)),(.ref 24),(.type "ValueError"),(.type "Exception"),(.type "BaseException"),(.type "object")] (c+8) x true [] [] false none false)),#[(some (.ref (c+0))),none,(some (.str x (a+0))),(some (.str x (a+8))),(some (.builtin "ValueError.__new__")),(some (.bool true))]⟩
noncomputable def KF:Params->aQ:=fun P=>
 (nat_lit 2,⟨.none,none,(.dict #[] 0),#[]⟩)::
 (nat_lit 3,⟨(.type "dict"),none,(.dict #[⟨aT P "__name__",(.str "__name__" 165),(.str "law_flipwright_k24_names_refused" 553)⟩,⟨aT P "__doc__",(.str "__doc__" 166),.none⟩,⟨aT P "__package__",(.str "__package__" 167),.none⟩,⟨aT P "__loader__",(.str "__loader__" 168),(.builtin "__main__.__loader__#opaque")⟩,⟨aT P "__spec__",(.str "__spec__" 169),.none⟩,eR P "__annotations__" 170 6,eR P "__builtins__" 171 4,⟨aT P "__file__",(.str "__file__" 173),(.str "/claim/cut.py" 172)⟩,⟨aT P "__cached__",(.str "__cached__" 174),.none⟩,eR P "FlipError" 206 24,eR P "NoShare" 222 37,eR P "Never" 238 49,eR P "NoText" 263 68,eR P "NoName" 288 87,eR P "TooMuch" 304 99,eR P "NoOrder" 320 111,eR P "NoNumber" 336 123,eR P "NoRow" 352 135,⟨aT P "MOST_DEFS",(.str "MOST_DEFS" 356),(.int 3 355)⟩,⟨aT P "MOST_DRAWS",(.str "MOST_DRAWS" 358),(.int 60 357)⟩,⟨aT P "MOST_SIZE",(.str "MOST_SIZE" 360),(.int 600 359)⟩,eR P "Opened" 389 152,eR P "parts_of" 395 161,eR P "check_term" 407 168,eR P "check_names" 419 175,eR P "check_defs" 425 180,eR P "draw_of" 432 187,eR P "with_parts" 438 192,eR P "Opener" 543 258,eR P "opened" 552 269,eR P "_law_cell_at" 562 276,eR P "_law_mix" 571 283,eR P "_law_names" 586 290,eR P "_law_num" 593 297,eR P "_law_call" 599 302,eR P "_law_defs" 611 309,eR P "_law_term" 623 316,eR P "_law_good" 638 323,eR P "_law_untold" 644 328,eR P "_law_within" 650 333,eR P "_law_bad_term" 661 340,eR P "_law_spoiled" 677 347,eR P "_law_refused" 686 354,eR P "law" 692 359] 44),#[]⟩)::
 (nat_lit 15,⟨(.type "tuple"),none,(.seq #[(.type "ValueError")] 0),#[]⟩)::
 (nat_lit 22,x2)::
 (nat_lit 23,⟨(.type "dict"),none,(.dict #[⟨aT P "__module__",(.str "__module__" 196),(.str "flipwright.errors" 187)⟩,⟨aT P "__firstlineno__",(.str "__firstlineno__" 200),(.int 2 199)⟩,eR P "__static_attributes__" 201 22,eR P "__weakref__" 203 25,⟨aT P "__doc__",(.str "__doc__" 204),.none⟩] 3),#[]⟩)::
 (nat_lit 24,⟨(.type "type"),none,(.cls (.mk "FlipError" [(.type "ValueError")] [(.ref 24),(.type "ValueError"),(.type "Exception"),(.type "BaseException"),(.type "object")] 23 "FlipError" true [] [(.ref 37),(.ref 49),(.ref 68),(.ref 87),(.ref 99),(.ref 111),(.ref 123),(.ref 135)] false none false)),#[(some (.ref 15)),none,(some (.str "FlipError" 189)),(some (.str "FlipError" 197)),(some (.builtin "ValueError.__new__")),(some (.bool true))]⟩)::
 (nat_lit 25,⟨(.type "getset_descriptor"),none,(.fields #[(.str "__weakref__" 202),(.ref 24),(.builtin "ExceptionGroup.__weakref__"),.none]),#[]⟩)::
 (nat_lit 28,x1)::
 (nat_lit 35,x2)::
 (nat_lit 36,x3 28 4 207 P)::
 (nat_lit 37,x4 28 "NoShare" 207)::
 (nat_lit 40,x1)::
 (nat_lit 47,x2)::
 (nat_lit 48,x3 40 6 223 P)::
 (nat_lit 49,x4 40 "Never" 223)::
 (nat_lit 52,x1)::
 (nat_lit 64,cO "__init__" "NoText.__init__" 251 252 253 10 2 3 59 181 60 61 62 63 256 10 257)::
 (nat_lit 65,fO "__init__" "NoText.__init__" qZr "flipwright.errors" 187 64)::
 (nat_lit 66,⟨(.type "tuple"),none,(.seq #[(.str "row" 259)] 0),#[]⟩)::
 (nat_lit 67,⟨(.type "dict"),none,(.dict #[⟨aT P "__module__",(.str "__module__" 246),(.str "flipwright.errors" 187)⟩,⟨aT P "__firstlineno__",(.str "__firstlineno__" 250),(.int 8 249)⟩,eR P "__init__" 258 65,eR P "__static_attributes__" 260 66,⟨aT P "__doc__",(.str "__doc__" 261),.none⟩] 2),#[]⟩)::
 (nat_lit 68,⟨(.type "type"),none,(.cls (.mk "NoText" [(.ref 24)] [(.ref 68),(.ref 24),(.type "ValueError"),(.type "Exception"),(.type "BaseException"),(.type "object")] 67 "NoText" true [] [] false none false)),#[(some (.ref 52)),none,(some (.str "NoText" 239)),(some (.str "NoText" 247)),(some (.builtin "ValueError.__new__")),(some (.bool true))]⟩)::
 (nat_lit 71,x1)::
 (nat_lit 83,cO "__init__" "NoName.__init__" 276 277 278 14 2 3 78 181 79 80 81 82 281 14 282)::
 (nat_lit 84,fO "__init__" "NoName.__init__" qQl "flipwright.errors" 187 83)::
 (nat_lit 85,⟨(.type "tuple"),none,(.seq #[(.str "row" 284)] 0),#[]⟩)::
 (nat_lit 86,⟨(.type "dict"),none,(.dict #[⟨aT P "__module__",(.str "__module__" 271),(.str "flipwright.errors" 187)⟩,⟨aT P "__firstlineno__",(.str "__firstlineno__" 275),(.int 12 274)⟩,eR P "__init__" 283 84,eR P "__static_attributes__" 285 85,⟨aT P "__doc__",(.str "__doc__" 286),.none⟩] 2),#[]⟩)::
 (nat_lit 87,⟨(.type "type"),none,(.cls (.mk "NoName" [(.ref 24)] [(.ref 87),(.ref 24),(.type "ValueError"),(.type "Exception"),(.type "BaseException"),(.type "object")] 86 "NoName" true [] [] false none false)),#[(some (.ref 71)),none,(some (.str "NoName" 264)),(some (.str "NoName" 272)),(some (.builtin "ValueError.__new__")),(some (.bool true))]⟩)::
 (nat_lit 90,x1)::
 (nat_lit 97,x2)::
 (nat_lit 98,x3 90 16 289 P)::
 (nat_lit 99,x4 90 "TooMuch" 289)::
 (nat_lit 102,x1)::
 (nat_lit 109,x2)::
 (nat_lit 110,x3 102 18 305 P)::
 (nat_lit 111,x4 102 "NoOrder" 305)::
 (nat_lit 114,x1)::
 (nat_lit 121,x2)::
 (nat_lit 122,x3 114 20 321 P)::
 (nat_lit 123,x4 114 "NoNumber" 321)::
 (nat_lit 126,x1)::
 (nat_lit 133,x2)::
 (nat_lit 134,x3 126 22 337 P)::
 (nat_lit 135,x4 126 "NoRow" 337)::
 (nat_lit 148,cQ 148 "__init__" "Opened.__init__" 373 30 4)::
 (nat_lit 149,fO "__init__" "Opened.__init__" qQk "flipwright.opening" 353 148)::
 (nat_lit 150,⟨(.type "tuple"),none,(.seq #[(.str "draws" 379),(.str "slots" 380),(.str "steps" 381)] 0),#[]⟩)::
 (nat_lit 151,⟨(.type "dict"),none,(.dict #[⟨aT P "__module__",(.str "__module__" 368),(.str "flipwright.opening" 353)⟩,⟨aT P "__firstlineno__",(.str "__firstlineno__" 372),(.int 28 371)⟩,eR P "__init__" 378 149,eR P "__static_attributes__" 382 150,eR P "__dict__" 384 153,eR P "__weakref__" 386 154,⟨aT P "__doc__",(.str "__doc__" 387),.none⟩] 4),#[]⟩)::
 (nat_lit 152,⟨(.type "type"),none,(.cls (.mk "Opened" [(.type "object")] [(.ref 152),(.type "object")] 151 "Opened" true [] [] false none false)),#[none,none,(some (.str "Opened" 361)),(some (.str "Opened" 369)),(some (.builtin "object.__new__")),(some (.bool true))]⟩)::
 (nat_lit 153,⟨(.type "getset_descriptor"),none,(.fields #[(.str "__dict__" 383),(.ref 152),(.builtin "function.__dict__"),(.builtin "function.__dict__#set")]),#[]⟩)::
 (nat_lit 154,⟨(.type "getset_descriptor"),none,(.fields #[(.str "__weakref__" 385),(.ref 152),(.builtin "ExceptionGroup.__weakref__"),.none]),#[]⟩)::
 (nat_lit 160,cQ 160 "parts_of" "parts_of" 390 34 1)::
 (nat_lit 161,g0 "parts_of" qJh 160)::
 (nat_lit 167,cP 167 "check_term" 396 47 4 405)::
 (nat_lit 168,g0 "check_term" qV0 167)::
 (nat_lit 174,cP 174 "check_names" 408 55 1 417)::
 (nat_lit 175,g0 "check_names" qQ3 174)::
 (nat_lit 179,cQ 179 "check_defs" "check_defs" 420 71 1)::
 (nat_lit 180,g0 "check_defs" qV1 179)::
 (nat_lit 186,cP 186 "draw_of" 426 74 1 430)::
 (nat_lit 187,g0 "draw_of" qWs 186)::
 (nat_lit 191,cQ 191 "with_parts" "with_parts" 433 78 2)::
 (nat_lit 192,g0 "with_parts" qVx 191)::
 (nat_lit 205,cO "__init__" "Opener.__init__" 451 452 453 89 1 3 200 181 201 202 203 204 455 89 456)::
 (nat_lit 206,fO "__init__" "Opener.__init__" qQj "flipwright.opening" 353 205)::
 (nat_lit 212,cO "count_term" "Opener.count_term" 458 459 460 97 1 3 207 181 208 209 210 211 462 97 463)::
 (nat_lit 213,fO "count_term" "Opener.count_term" wB "flipwright.opening" 353 212)::
 (nat_lit 219,cO "new_slot" "Opener.new_slot" 465 466 467 102 1 3 214 181 215 216 217 218 469 102 470)::
 (nat_lit 220,fO "new_slot" "Opener.new_slot" xH "flipwright.opening" 353 219)::
 (nat_lit 226,cO "new_draw" "Opener.new_draw" 472 473 474 106 2 3 221 181 222 223 224 225 477 106 478)::
 (nat_lit 227,fO "new_draw" "Opener.new_draw" xI "flipwright.opening" 353 226)::
 (nat_lit 233,cO "open_term" "Opener.open_term" 480 481 482 112 3 3 228 181 229 230 231 232 489 112 490)::
 (nat_lit 234,fO "open_term" "Opener.open_term" wT "flipwright.opening" 353 233)::
 (nat_lit 240,cO "open_call" "Opener.open_call" 492 493 494 128 3 3 235 181 236 237 238 239 506 128 507)::
 (nat_lit 241,fO "open_call" "Opener.open_call" xQ "flipwright.opening" 353 240)::
 (nat_lit 247,cO "open_let" "Opener.open_let" 509 510 511 142 3 3 242 181 243 244 245 246 516 142 517)::
 (nat_lit 248,fO "open_let" "Opener.open_let" xG "flipwright.opening" 353 247)::
 (nat_lit 254,cO "open_row" "Opener.open_row" 519 520 521 147 2 3 249 181 250 251 252 253 527 147 528)::
 (nat_lit 255,fO "open_row" "Opener.open_row" xF "flipwright.opening" 353 254)::
 (nat_lit 256,⟨(.type "tuple"),none,(.seq #[(.str "draws" 530),(.str "helpers" 531),(.str "names" 532),(.str "slots" 533),(.str "steps" 534),(.str "terms" 535)] 0),#[]⟩)::
 (nat_lit 257,⟨(.type "dict"),none,(.dict #[⟨aT P "__module__",(.str "__module__" 446),(.str "flipwright.opening" 353)⟩,⟨aT P "__firstlineno__",(.str "__firstlineno__" 450),(.int 87 449)⟩,eR P "__init__" 457 206,eR P "count_term" 464 213,eR P "new_slot" 471 220,eR P "new_draw" 479 227,eR P "open_term" 491 234,eR P "open_call" 508 241,eR P "open_let" 518 248,eR P "open_row" 529 255,eR P "__static_attributes__" 536 256,eR P "__dict__" 538 259,eR P "__weakref__" 540 260,⟨aT P "__doc__",(.str "__doc__" 541),.none⟩] 4),#[]⟩)::
 (nat_lit 258,⟨(.type "type"),none,(.cls (.mk "Opener" [(.type "object")] [(.ref 258),(.type "object")] 257 "Opener" true [] [] false none false)),#[none,none,(some (.str "Opener" 439)),(some (.str "Opener" 447)),(some (.builtin "object.__new__")),(some (.bool true))]⟩)::
 (nat_lit 259,⟨(.type "getset_descriptor"),none,(.fields #[(.str "__dict__" 537),(.ref 258),(.builtin "function.__dict__"),(.builtin "function.__dict__#set")]),#[]⟩)::
 (nat_lit 260,⟨(.type "getset_descriptor"),none,(.fields #[(.str "__weakref__" 539),(.ref 258),(.builtin "ExceptionGroup.__weakref__"),.none]),#[]⟩)::
 (nat_lit 268,cP 268 "opened" 544 161 1 550)::
 (nat_lit 269,g0 "opened" qYp 268)::
 (nat_lit 275,cP 275 "_law_cell_at" 555 169 2 560)::
 (nat_lit 276,g1 "_law_cell_at" qQ2 275)::
 (nat_lit 282,cP 282 "_law_mix" 563 173 2 569)::
 (nat_lit 283,g1 "_law_mix" qWr 282)::
 (nat_lit 289,cP 289 "_law_names" 572 176 1 584)::
 (nat_lit 290,g1 "_law_names" qZp 289)::
 (nat_lit 296,cP 296 "_law_num" 587 188 1 591)::
 (nat_lit 297,g1 "_law_num" qWq 296)::
 (nat_lit 301,cQ 301 "_law_call" "_law_call" 594 190 3)::
 (nat_lit 302,g1 "_law_call" qJl 301)::
 (nat_lit 308,cP 308 "_law_defs" 600 192 2 609)::
 (nat_lit 309,g1 "_law_defs" qJk 308)::
 (nat_lit 315,cP 315 "_law_term" 612 203 4 621)::
 (nat_lit 316,g1 "_law_term" qJi 315)::
 (nat_lit 322,cP 322 "_law_good" 624 213 3 636)::
 (nat_lit 323,g1 "_law_good" qJj 322)::
 (nat_lit 327,cQ 327 "_law_untold" "_law_untold" 639 231 4)::
 (nat_lit 328,g1 "_law_untold" qVz 327)::
 (nat_lit 332,cQ 332 "_law_within" "_law_within" 645 241 4)::
 (nat_lit 333,g1 "_law_within" qVy 332)::
 (nat_lit 339,cP 339 "_law_bad_term" 651 261 4 659)::
 (nat_lit 340,g1 "_law_bad_term" qQi 339)::
 (nat_lit 346,cP 346 "_law_spoiled" 662 270 5 675)::
 (nat_lit 347,g1 "_law_spoiled" qQ0 346)::
 (nat_lit 353,cP 353 "_law_refused" 678 295 1 684)::
 (nat_lit 354,g1 "_law_refused" qQ1 353)::
 (nat_lit 358,cQ 358 "law" "law" 687 310 1)::
 (nat_lit 359,g1 "law" zQb 358):: []
noncomputable def KA:List aZ:=[2,3,15,22,23,24,25,28,35,36,37,40,47,48,49,52,64,65,66,67,68,71,83,84,85,86,87,90,97,98,99,102,109,110,111,114,121,122,123,126,133,134,135,148,149,150,151,152,153,154,160,161,167,168,174,175,179,180,186,187,191,192,205,206,212,213,219,220,226,227,233,234,240,241,247,248,254,255,256,257,258,259,260,268,269,275,276,282,283,289,290,296,297,301,302,308,309,315,316,322,323,327,328,332,333,339,340,346,347,353,354,358,359]
theorem KAs(P:Params):KA=List.map (fun x=>x.fst) (KF P):=by kernel_rfl
noncomputable abbrev pg:bZ:=PySem.Challenge.rw_flipwright_k24_names_refused.row.toRowW.prog
noncomputable def vw:bZ:={pg with main:={pg.main with body:=pg.main.body.drop 37}}
noncomputable def ev0:Env:={scope:=pg.main.scope,locals:=mainNs,globals:=mainNs,cells:=[],code:=.ref 13,frame:=some 14}
noncomputable def Sa(w:bP)(os:OsState):aJ:=match PySem.W.topGo treeTable pg w 11 (some (.ref 6)) 12 ⟨PySem.W.boot_heap w.params,Array.mk [],PySem.W.boot_drawn,PySem.W.boot_toks,os⟩ (PySem.W.topStub pg) with|some r=>r.1|none=>⟨PySem.W.boot_heap w.params,Array.mk [],PySem.W.boot_drawn,PySem.W.boot_toks,os⟩
theorem zK2(w:bP)(os:OsState):PySem.W.topGo treeTable pg w 11 (some (.ref 6)) 12 ⟨PySem.W.boot_heap w.params,Array.mk [],PySem.W.boot_drawn,PySem.W.boot_toks,os⟩ (PySem.W.topStub pg)=
   some (Sa w os,⟨denote treeTable (.body (PySem.W.behindTheImports pg) ev0),.body (PySem.W.behindTheImports pg) ev0,default,[PySem.W.topFrame default]⟩):=by kernel_rfl
theorem zWs(w:bP)(os:OsState):(TH.ofS (Sa w os)).abs =Sa w os:=by kernel_rfl
theorem zZn:blockStart (PySem.W.behindTheImports pg) ev0=.pure ():=by kernel_rfl
theorem zWt(w:bP):((PySem.W.boot_heap w.params).isNs cX,(PySem.W.boot_heap w.params).objs.size,(PySem.W.boot_heap w.params).nsMap cX "__annotations__")=(true,11,some (.ref 6)):=by kernel_rfl
set_option maxHeartbeats 0 in
theorem zK1(w:bP)(os:OsState):TH.vW1 pg w 11 (some (.ref 6)) (PySem.W.behindTheImports pg) ev0 (.body (PySem.W.behindTheImports pg) ev0) default default 3411 (TH.ofS (Sa w os)) (TH.zQf pg vw pg.boundNames (fun s=>PySem.W.xlAt vw [] s && PySem.W.recOk (PySem.W.RowW.records (PySem.W.OpenRow.toRowW PySem.Challenge.rw_flipwright_k24_names_refused.row)) s) (PySem.W.Hook.obs (PySem.W.kHook KF KA KAs)) true (PySem.W.boot_heap w.params))=some (true,PySem.W.openGood vw pg.boundNames,PySem.W.Hook.val (PySem.W.kHook KF KA KAs) w):=by kernel_rfl
end X24
namespace L2
open PySem PySem.Spec PyProof.Rows
variable{us:List Value}{H:Hp}{α:Type}{g':Array GenState}{t' i j n:Nat}{d':Drawn}{ch fp:List aZ}{it dx C:aZ}{N ps:List Str}{M:Model}{A:cW}{Q:Value->aJ->Prop}{X:Cx}{pos:Pos}{pins:List (aZ×Obj)}{y:V}{K:aQ}{es:List Expr}{tg:Expr}{te:TE}{g:Int->Int->Int}{body:List Stmt}{op:CmpOp}{pl:Sem Bool}{kw:List (Str×Value)}{mg:Str->Option Value}{base:Heap}{CX:CXT}{fd:bQ}{sp:Sp}{outer:List Env}{vs:List V}{kindOf:Str->Option NameKind}{qual:Str}{scope:Scope}
noncomputable abbrev Key:=Sum Int Str
noncomputable def qK3:Key->Value->Bool
 |.inl k,v=>Value.isInt k v
 |.inr x,v=>Value.isStrOf x v
noncomputable def keyH(w:bP):Key->Int
 |.inl k=>hashInt k
 |.inr x=>hashStr w x
theorem zN:∀{k:Key} {v:Value},qK3 k v=true->(∃i t,k=Sum.inl i/\v=Value.int i t)\/(∃x t,k=Sum.inr x/\v=Value.str x t)
 | .inl i,v,h=>by
   obtain⟨t,e⟩:=Value.isInt_shape (k:=i) (v:=v) h;exact .inl ⟨i,t,rfl,e⟩
 | .inr x,v,h=>by
   obtain⟨t,e⟩:=Value.isStrOf_shape (x:=x) (v:=v) h;exact .inr ⟨x,t,rfl,e⟩
theorem vKc(i:Int)(t:Tok):qK3 (.inl i) (.int i t)=true:=by simp[qK3,Value.isInt]
theorem vKb(x:Str)(t:Tok):qK3 (.inr x) (.str x t)=true:=by simp[qK3,Value.isStrOf]
theorem zKn(a b:Int):decide ((Sum.inl a:Key)=Sum.inl b)=(a == b):=by
 grind
theorem zKk(a b:Str):decide ((Sum.inr a:Key)=Sum.inr b)=decide (a=b):=by
 grind
theorem zKm(a:Int)(b:Str):decide ((Sum.inl a:Key)=Sum.inr b)=false:=decide_eq_false (fun q=>nomatch q)
theorem zKl(a:Str)(b:Int):decide ((Sum.inr a:Key)=Sum.inl b)=false:=decide_eq_false (fun q=>nomatch q)
noncomputable def jU(prog:bZ)(w:bP):PySem.KeyKind prog w Key where
 is:=qK3;hash:=keyH w;inj:=fun v a b d hb=>by
  rcases zN d with⟨i,t,rfl,rfl⟩|⟨x,t,rfl,rfl⟩
  ·rcases zN hb with⟨j,u,rfl,e⟩ | ⟨y,u,rfl,e⟩
   ·injection e with e1 _;rw[e1]
   ·exact nomatch e
  ·rcases zN hb with⟨j,u,rfl,e⟩ | ⟨y,u,rfl,e⟩
   ·exact nomatch e
   ·injection e with e1 _;rw[e1]
 byValue:=fun k v h=>by
  rcases zN h with⟨i,t,rfl,rfl⟩|⟨x,t,rfl,rfl⟩ <;> rfl
 pyHash:=fun c h=>by
  rcases zN c with⟨i,t,rfl,rfl⟩|⟨x,t,rfl,rfl⟩
  ·exact wpAny_pyHash_int h
  ·exact wpAny_pyHash_str h
 eqBool:=fun f c h=>by
  rcases zN f with⟨i,t,rfl,rfl⟩|⟨x,t,rfl,rfl⟩
  ·rcases zN c with⟨j,u,rfl,rfl⟩ | ⟨y,u,rfl,rfl⟩
   ·rw[zKn]at h;exact wpAny_eqBool_int h
   ·rw[zKm]at h;exact SeqAt.EqAt.int_str i t y u _ _ _ _ h
  ·rcases zN c with⟨j,u,rfl,rfl⟩ | ⟨y,u,rfl,rfl⟩
   ·rw[zKl]at h;exact SeqAt.EqAt.str_int x t j u _ _ _ _ h
   ·rw[zKk]at h;exact wpAny_eqBool_str h
 «strs»:=fun k x t v h=>by
  rcases zN h with⟨i,u,rfl,e⟩|⟨y,u,rfl,e⟩
  ·exact nomatch e
  ·injection e with e1 _
   subst e1;cases v <;> rfl
theorem vJg(prog:bZ)(w:bP)(i:Int)(t:Tok):(jU prog w).is (.inl i) (.int i t)=true:=vKc i t
theorem vJf(prog:bZ)(w:bP)(x:Str)(t:Tok):(jU prog w).is (.inr x) (.str x t)=true:=vKb x t
inductive V where
 |non|bl (b:Bool)|int (i:Int)|str (x:Str)|byt (b:Array UInt8)|flt (b:UInt64)|ref (a:aZ)|ty (n:String)
 deriving DecidableEq
noncomputable def RelV:V->Value->Prop
 |.non,u=>u=Value.none
 |.bl b,u=>u=Value.bool b
 |.int i,u=>∃t,u=Value.int i t
 |.str x,u=>∃t,u=Value.str x t
 |.byt b,u=>∃t,u=Value.bytes b t
 |.flt b,u=>∃t,u=Value.float b t
 |.ref a,u=>u=Value.ref a
 |.ty n,u=>u=Value.type n
noncomputable abbrev Vals:List V->List Value->Prop:=Paired RelV
theorem Vals.length{xs:List V}(r:Vals xs us):xs.length=us.length:=Paired.length r
theorem Vals.get:∀{xs:List V} {us:List Value} {i:Nat} {x:V},Vals xs us->xs[i]?=some x->∃u,us[i]?=some u/\RelV x u
 |_,_,_,_,.nil,e=>by simp at e
 |_,_,0,_,.cons r _,e=>by simp at e;subst e;exact⟨_,rfl,r⟩
 | _,_,i + 1,x, .cons _ t,e=>by
   obtain⟨u,a,b⟩:=Vals.get (i:=i) (x:=x) t (by simpa using e);exact⟨u,by simpa using a,b⟩
theorem Vals.set{x:V}{u:Value}(r:RelV x u):∀{xs:List V} {us:List Value} (i:Nat),Vals xs us->Vals (xs.set i x) (us.set i u)
 |_,_,_,.nil =>.nil
 |_,_,0,.cons _ t=>.cons r t
 |_,_,i+1,.cons q t=>.cons q (Vals.set r i t)
theorem Vals.append:∀{xs ys:List V} {us ws:List Value},Vals xs us->Vals ys ws->Vals (xs ++ ys) (us ++ ws)
 |_,_,_,_,.nil,s=>s
 |_,_,_,_,.cons r t,s=>.cons r (Vals.append t s)
theorem Vals.take:∀{xs:List V} {us:List Value} (n:Nat),Vals xs us->Vals (xs.take n) (us.take n)
 |_,_,0,_=>.nil
 |_,_,_+1,.nil =>.nil
 |_,_,n+1,.cons r t=>.cons r (Vals.take n t)
theorem Vals.drop:∀{xs:List V} {us:List Value} (n:Nat),Vals xs us->Vals (xs.drop n) (us.drop n)
 |_,_,0,r=>r
 |_,_,_+1,.nil =>.nil
 |_,_,n+1,.cons _ t=>Vals.drop n t
noncomputable def RelO:Option V->Option Value->Prop
 |some v,some u=>RelV v u
 |none,none=>True
 |_,_=>False
noncomputable def KV{κ:Type}:List (κ×V)->List (κ×Value)->Prop:=Paired fun(p:κ×V) (q:κ×Value)=>p.1=q.1/\RelV p.2 q.2
noncomputable def kV:Key->V
 |.inl i=>.int i
 |.inr x=>.str x
inductive HO where
  |lst (xs:List V)
  |tup (xs:List V)
  |dK (kvs:List (Key×V))|dT (kvs:List (List Key×V))
  |set (S:Int->Bool) (n:Nat)
  |ins (C dx:aZ) (fs:List (Str×V))
  |own (x:aZ)
  |xd (fs:List (Str×V))
  |met (f x:aZ)
  |rng (lo hi:Int)
  |frz (o:Obj) (u:HO)
  |tbl (ps:Array Value)
 | tab (l c:Nat) (q:Str)
   |ext (φ:Heap->Prop)
noncomputable abbrev Hp:=aZ->Option HO
noncomputable def upd(H:Hp)(a:aZ)(o:HO):Hp:=fun b=>if b=a then some o else H b
theorem upd_same{a:aZ}{o:HO}:upd H a o a=some o:=by unfold upd;rw[if_pos rfl]
theorem qF{a b:aZ}{o:HO}(h:b≠a):upd H a o b=H b:=by unfold upd;rw[if_neg h]
theorem jQ6{a b:aZ}{o u:HO}(h:H a=some o)(h' :H b=some u)(d:o≠u):a≠b:=by
 intro e;subst e;rw[h]at h';exact d (Option.some.inj h')
theorem vC{a b:aZ}{o:HO}(h:H a=some o)(h' :H b=none):a≠b:=by
 grind
noncomputable def TabL(H:Hp)(h:Heap)(a:aZ)(l c:Nat)(q:Str)(d:List Value):Prop:=d=[]\/∃b e fs t,d=[rawInt l,rawInt c,.ref b]/\H b=some (.own a)/\h.get? b=some e/\e.data=.fields fs/\fs[1]?=some (.str q t)
section
variable(P:bZ)(w:bP)
noncomputable def vT(H:Hp)(h:Heap)(a:aZ):HO->Prop
 |.lst d=>d.length<=aI/\∃(b:List Value) (n:Nat),Vals d b/\h.get? a=some {cls:=.type "list",data:=.seq b.toArray n}
 |.tup d=>d.length<=aI/\∃b:List Value,Vals d b/\IsTup h a b.toArray
 |.dK kvs=>kvs.length<=aI/\(a == eY)=false/\∃g,KV kvs g/\h.DictOf (jU P w) a g
 | .dT kvs=>kvs.length<=aI/\(a == eY)=false/\∃d:List (List Key×aZ×Value),
   Paired (fun(p:List Key×V) (q:List Key×aZ×Value)=>p.1=q.1/\H q.2.1=some (.tup (p.1.map kV))/\RelV p.2 q.2.2) kvs d/\
   ∃o i m,h.get? a=some o/\o.ExactDict/\o.data=.dict i m/\i.toList=d.map (entryOfKey (tupleKind (jU P w)))/\(d.map (·.1)).Nodup
 |.set S n=>h.SetOf (intKind P w) a S n
 | .ins C dx fs=>H dx=some (.own a)/\fs.length<=1000/\dx≠a/\h.get? a=some (dW C dx)/\
   ∃mA,h.Ns1 dx mA/\(∀f,RelO (fs.lookup f) (mA f))/\PySem.Within mA (fs.map (·.1))
 |.own _=>∃o,h.get? a=some o
 |.xd fs=>∃mA,h.Ns1 a mA/\∀f,RelO (fs.lookup f) (mA f)
 |.rng lo hi=>∃t u v,h.get? a=some {cls:=.type "range",data:=.fields #[.int lo t,.int hi u,.int 1 v]}
 |.frz o u=>h.get? a=some o/\vT H h a u
 |.tbl e=>h.get? a=some {cls:=.none,data:=.fields e}
 |.tab l c q=>∃e,h.get? a=some {cls:=.none,data:=.fields e}/\TabL H h a l c q e.toList
 |.met f x=>h.get? a=some (PySem.W.methodObj (.ref f) (.ref x))
 |.ext φ=>φ h/\(∃o,h.get? a=some o)/\∀j k:Heap,φ j->(∀o,j.get? a=some o->k.get? a=some o)->φ k
noncomputable def HOk(H:Hp)(h:Heap):Prop:=∀a o,H a=some o->vT P w H h a o
end
section
variable{P:bZ}{w:bP}{H H' :Hp}{h h' :Heap}{a:aZ}{o:HO}
theorem vT.lt(x:vT P w H h a o):a<h.objs.size:=by
 cases o with
 |lst xs=>obtain⟨_,_,_,_,e⟩:=x;exact aC e
 |tup xs=>obtain⟨_,_,_,p⟩:=x;exact p.lt
 |dK kvs=>obtain⟨_,_,_,_,o,_,_,e,_⟩:=x;exact aC e
 |dT kvs=>obtain⟨_,_,_,_,o,_,_,e,_⟩:=x;exact aC e
 |set S n=>obtain⟨o,_,_,_,e,_⟩:=x;exact aC e
 |ins C dx fs=>obtain⟨_,_,_,e,_⟩:=x;exact aC e
 |own y=>obtain⟨_,e⟩:=x;exact aC e
 |xd fs=>obtain⟨_,⟨_,_,_,e,_⟩,_⟩:=x;exact aC e
 |rng lo hi=>obtain⟨_,_,_,e⟩:=x;exact aC e
 |frz ob u=>obtain⟨e,_⟩:=x;exact aC e
 |tbl ps=>exact aC (show h.get? a=some _ from x)
 |tab l c q=>obtain⟨_,e,_⟩:=x;exact aC e
 |met f y=>exact aC (show h.get? a=some _ from x)
 |ext φ=>obtain⟨_,⟨_,e⟩,_⟩:=x;exact aC e
theorem Paired.mapP{β:Type}{F G:α->β->Prop}:∀{l₁:List α} {l₂:List β},Paired F l₁ l₂->(∀a b,F a b->G a b)->Paired G l₁ l₂
 |_,_,.nil,_=>.nil
 |_,_,.cons r t,f=>.cons (f _ _ r) (Paired.mapP t f)
theorem vT.stay(x:vT P w H h a o)(k:∀b u,(b=a\/H b=some (.own a))->h.get? b=some u->h'.get? b=some u)(B:∀b,H b=some (.own a)->H' b=some (.own a))(F:∀b xs,H b=some (.tup xs)->H' b=some (.tup xs)):vT P w H' h' a o:=by
 induction o with
 |lst xs=>obtain⟨z,m,n,r,e⟩:=x;exact⟨z,m,n,r,k _ _ (.inl rfl) e⟩
 |tup xs=>obtain⟨z,m,r,g,e,c⟩:=x;exact⟨z,m,r,g,k _ _ (.inl rfl) e,c⟩
 |dK kvs=>obtain⟨z,y,G,r,g,i,j,e,c⟩:=x;exact⟨z,y,G,r,g,i,j,k _ _ (.inl rfl) e,c⟩
 | dT kvs=>
   obtain⟨z,y,xs,r,g,i,j,e,c⟩:=x;exact⟨z,y,xs,Paired.mapP r fun p q z=>⟨z.1,F _ _ z.2.1,z.2.2⟩,g,i,j,k _ _ (.inl rfl) e,c⟩
 |set S n=>obtain⟨g,i,j,t,e,c⟩:=x;exact⟨g,i,j,t,k _ _ (.inl rfl) e,c⟩
 | ins C dx fs=>
   obtain⟨d,z,ne,e,mA,⟨A,i,j,I,c⟩,r⟩:=x;exact⟨B _ d,z,ne,k _ _ (.inl rfl) e,mA,⟨A,i,j,k _ _ (.inr d) I,c⟩,r⟩
 |own y=>obtain⟨g,e⟩:=x;exact⟨g,k _ _ (.inl rfl) e⟩
 |xd fs=>obtain⟨mA,⟨A,i,j,e,c⟩,r⟩:=x;exact⟨mA,⟨A,i,j,k _ _ (.inl rfl) e,c⟩,r⟩
 |rng lo hi=>obtain⟨t,u,v,e⟩:=x;exact⟨t,u,v,k _ _ (.inl rfl) e⟩
 |frz g u ih=>obtain⟨e,q⟩:=x;exact⟨k _ _ (.inl rfl) e,ih q⟩
 | tbl s=>
   have e:h.get? a=some {cls:=.none,data:=.fields s}:=x;show h'.get? a=some {cls:=.none,data:=.fields s};exact k a _ (.inl rfl) e
 | tab l c q=>
   obtain⟨s,e,t⟩:=x;refine⟨s,k a _ (.inl rfl) e,?_⟩;rcases t with t|⟨c,D,fs,J,K,E,L,M⟩
   ·exact .inl t
   ·exact .inr ⟨c,D,fs,J,K,B c E,k c D (.inr E) L,M⟩
 | met f y=>
   have e:h.get? a=some (PySem.W.methodObj (.ref f) (.ref y)):=x;show h'.get? a=some (PySem.W.methodObj (.ref f) (.ref y));exact k a _ (.inl rfl) e
 |ext φ=>obtain⟨p,⟨o,e⟩,st⟩:=x;exact⟨st _ _ p fun o q=>k _ _ (.inl rfl) q,⟨o,k _ _ (.inl rfl) e⟩,st⟩
theorem HOk.lt(x:HOk P w H h)(e:H a=some o):a<h.objs.size:=(x a o e).lt
theorem HOk.fresh(x:HOk P w H h)(e:h.objs.size<=a):H a=none:=by
 cases q:H a with
 |none=>rfl
 |some u=>exact absurd (aF (x.lt q) e) (cK _)
theorem HOk.kept(x:HOk P w H h)(k:∀b u,h.get? b=some u->h'.get? b=some u):HOk P w H h' :=fun a o e=>
 (x a o e).stay (fun b u _ q=>k b u q) (fun _ q=>q) fun _ _ q=>q
theorem HOk.laid(x:HOk P w H h)(k:∀b u,h.get? b=some u->h'.get? b=some u)(f:h.objs.size<=a)(new:vT P w (upd H a o) h' a o):HOk P w (upd H a o) h' :=fun b u e=>by
 have d:=x.fresh f;by_cases hb:b=a
 ·subst hb;rw[upd_same]at e;cases e;exact new
 ·rw [qF hb] at e;exact(x b u e).stay (fun c v _ q=>k c v q) (fun c q=>by rw[qF (vC q d)];exact q) fun c g q=>by rw[qF (vC q d)];exact q
end
noncomputable def Rd(H:Hp)(a:aZ)(u:HO):Prop:=H a=some u\/∃o,H a=some (.frz o u)
theorem Rd.ok{P:bZ}{w:bP}{h:Heap}{a:aZ}{u:HO}(r:Rd H a u)(x:HOk P w H h):vT P w H h a u:=by
 rcases r with r|⟨o,r⟩
 ·exact x a u r
 ·obtain⟨_,q⟩:=x a _ r;exact q
noncomputable def Mut:Option HO->Prop
 |some (.lst _)=>True
 |some (.dK _)=>True
 |some (.dT _)=>True
 |some (.set _ _)=>True
 |some (.ins _ _ _)=>True
 |some (.ext _)=>True
 |_=>False
section
variable{P:bZ}{w:bP}{H:Hp}{h h' :Heap}{x e:aZ}{o' :HO}
theorem HOk.write(ok:HOk P w H h)(g:Mut (H x))(l:e=x\/H e=some (.own x))(k:∀b u,b≠e->h.get? b=some u->h'.get? b=some u)(j:∃u,h'.get? e=some u)(new:vT P w (upd H x o') h' x o'):HOk P w (upd H x o') h' :=fun b u q=>by
 have d:∀c y,H c=some (.own y)->c≠x:=fun c y r z=>by subst z;rw[r]at g;exact g
 have f:∀c i,H c=some (.tup i)->c≠x:=fun c i r z=>by subst z;rw[r]at g;exact g
 by_cases hb:b=x
 ·subst hb;rw[upd_same]at q;cases q;exact new
 ·rw [qF hb] at q;by_cases a:b=e
  ·have m :H b=some (.own x):=by
    rcases l with z|z
    ·exact absurd (a.trans z) hb
    ·rw[a];exact z
   rw[q]at m;cases m;obtain⟨v,n⟩:=j;exact⟨v,by rw[a];exact n⟩
  ·refine(ok b u q).stay (fun c v hc r=>k c v ?_ r) (fun c r=>by rw [qF (d c b r)];exact r) fun c i r=>by rw [qF (f c i r)];exact r
   rcases hc with rfl|hc
   ·exact a
   ·rintro rfl;rcases l with z|z
    ·exact d c b hc z
    ·rw[hc]at z;cases z;exact hb rfl
end
structure Un(fs ex:List aZ)(H H' :Hp)(h h' :Heap):Prop where
 keep:∀b o,h.get? b=some o->H b=none->b∉fs->b∉ex->h'.get? b=some o
 slot:∀b o,h.get? b=some o->H b=none->b∈fs->b∉ex->∃sl,h'.get? b=some {o with slots:=sl}
 free:∀b o,h.get? b=some o->H b=none->b∉ex->H' b=none
 there:∀b o,h.get? b=some o->b∉ex->∃o',h'.get? b=some o'
 tups:∀b xs,H b=some (.tup xs)->H' b=some (.tup xs)
 frzs:∀b o u,H b=some (.frz o u)->H' b=some (.frz o u)
 tbls:∀b ps,H b=some (.tbl ps)->∃more,H' b=some (.tbl (ps ++ more))
section
variable{fs fs' ex ex' :List aZ}{H H1 H2:Hp}{h h1 h2 h' :Heap}{a x e:aZ}{o:HO}
theorem Un.any(u:Un fs ex H H1 h h1){b:aZ}{ob:Obj}(q:h.get? b=some ob)(n:H b=none)(a:b∉ex):∃c,h1.get? b=some {ob with slots:=c}:=by
 by_cases hb:b∈fs
 ·exact u.slot b ob q n hb a
 ·exact⟨ob.slots,u.keep b ob q n hb a⟩
theorem Un.kept(k:∀b u,h.get? b=some u->h'.get? b=some u):Un fs ex H H h h' :=
 ⟨fun b a q _ _ _=>k b a q,fun b a q _ _ _=>⟨a.slots,k b a q⟩,fun _ _ _ n _=>n,fun b a q _=>⟨a,k b a q⟩,fun _ _ q=>q,fun _ _ _ q=>q,fun _ c q=>⟨#[],by rw[q];simp⟩⟩
theorem Un.refl:Un fs ex H H h h:=Un.kept fun _ _ q=>q
theorem Un.laid(k:∀b u,h.get? b=some u->h'.get? b=some u)(d:h.objs.size<=a)(c:H a=none):Un fs ex H (upd H a o) h h' where
 keep:=fun b u q _ _ _=>k b u q
 slot:=fun b u q _ _ _=>⟨u.slots,k b u q⟩
 free:=fun b u q n _=>by rw[qF (bJ (aF (aC q) d))];exact n
 there:=fun b u q _=>⟨u,k b u q⟩
 tups:=fun b e q=>by rw[qF (vC q c)];exact q
 frzs:=fun b u e q=>by rw[qF (vC q c)];exact q
 tbls:=fun b f q=>⟨#[],by rw[qF (vC q c),q];simp⟩
theorem Un.write(c:Mut (H x))(i:e=x\/H e=some (.own x))(k:∀b u,b≠e->h.get? b=some u->h'.get? b=some u)(d:∃u,h'.get? e=some u):Un fs ex H (upd H x o) h h' :=by
 have g:∀b,H b=none->b≠x:=fun b n z=>by subst z;rw[n]at c;exact c
 have hb:∀b,H b=none->b≠e:=fun b n z=>by
  subst z;rcases i with r|r
  ·exact g b n r
  ·rw[n]at r;cases r
 have f:∀b u,H b=some u->¬Mut (some u)->b≠x:=fun b u q j z=>by subst z;rw[q]at c;exact j c
 refine⟨fun b u q n _ _=>k b u (hb b n) q,fun b u q n _ _=>⟨u.slots,k b u (hb b n) q⟩,fun b u q n _=>by rw[qF (g b n)];exact n,fun b u q _=>?_,
  fun b l q=>by rw[qF (f b _ q fun z=>z)];exact q,fun b u l q=>by rw[qF (f b _ q fun z=>z)];exact q,fun b m q=>⟨#[],by rw[qF (f b _ q fun z=>z),q];simp⟩⟩
 by_cases a:b=e
 ·subst a;exact d
 ·exact⟨u,k b u a q⟩
end
noncomputable def trk(h:Heap)(H:Hp):List aZ:=(List.range h.objs.size).filter fun a=>(H a).isSome
noncomputable def hidT(h:Heap)(H:Hp):Heap:=PySem.W.hideAll h (trk h H)
theorem vKg(h:Heap)(H:Hp):(hidT h H).objs.size=h.objs.size:=PySem.W.hideAll_size _ _
theorem zZm{h:Heap}{b:aZ}{o:Obj}(e:h.get? b=some o)(n:H b=none):(hidT h H).get? b=some o:=
 PySem.W.hideAll_get _ e fun a=>by
  have q:(H b).isSome =true:=(List.mem_filter.mp a).2;grind
theorem zWd{h:Heap}{b:aZ}{o:Obj}(e:(hidT h H).get? b=some o):h.get? b=some o/\H b=none:=by
 have a :h.get? b=some o:=PySem.W.of_hideAll (trk h H) e;refine⟨a,?_⟩;cases q:H b with
 |none=>rfl
 | some x=>
   have c:b∈trk h H:=List.mem_filter.mpr ⟨List.mem_range.mpr (aC a),by simp[q]⟩;have z:(hidT h H).get? b=none:=PySem.W.hideAll_none (trk h H) c;grind
structure Mod(K:aQ)(mg:Str->Option Value)(base:Heap):Prop where
 kin:K.In base
 glob:base.Ns cX mg
 blt:∃mb,base.Ns builtinsNs mb/\∀x:Str,x≠"__name__"->mb x=cH x
 nolimit:base.NoLimit
structure Cx where
 prog:bZ
 w:bP
 K:aQ
 mg:Str->Option Value
 base:Heap
 A:cW
 N:List Str
 s₀:aJ
 H₀:Hp
 env:Env
 outer:List Env
 stack:List Env
 ex:List aZ
 fn:Str->Bool
 calm:Bool
 pn:List (aZ×Obj)
 xe:Value->aJ->Prop
noncomputable def frs(l:List Env):List aZ:=l.filterMap (·.frame)
noncomputable abbrev Cx.fs(X:Cx):List aZ:=frs X.outer
noncomputable def Vis(a:Scope)(x:Str):Prop:=a.names.lookup x=some .local \/a.names.lookup x=some .cell \/a.names.lookup x=some .free
noncomputable def Loc(a:Scope)(x:Str):Prop:=a.names.lookup x=some .local \/a.names.lookup x=some .cell
noncomputable def Look(env:Env)(h:Heap)(m:Str->Option Value)(x:Str)(u:Value):Prop:=
 (env.kindOf x=some .local /\m x=some u)\/((env.kindOf x=some .cell \/env.kindOf x=some .free)/\∃c,env.cells.lookup x=some c/\h.IsCell c (some u))
structure Cx.Ok(X:Cx):Prop where
 mod:Mod X.K X.mg X.base
 kind:X.env.scope.kind=.function
 glob:X.env.globals=cX
 blt:X.env.builtins=builtinsNs
 above:X.s₀.heap.objs.size<=X.env.locals
 inj:∀x y c,X.env.cells.lookup x=some c->X.env.cells.lookup y=some c->x=y
 has:∀x,(X.env.kindOf x=some .cell \/X.env.kindOf x=some .free)->∃c,X.env.cells.lookup x=some c
 cab:∀x c,X.fn x=true->X.env.cells.lookup x=some c->X.s₀.heap.objs.size<=c
 hd:X.calm=true->X.A.handled=none
 frames:X.A.frames=some X.stack
 stk:X.stack=X.outer\/(X.stack=X.env::X.outer/\X.env.frame=some X.env.locals)
 exf:∀b∈X.ex,b≠X.env.locals/\∀x c,X.env.cells.lookup x=some c->c≠b
 bs:∀b o,X.base.get? b=some o->X.s₀.heap.get? b=some o/\X.H₀ b=none
 bsz:X.base.objs.size<=X.s₀.heap.objs.size
 noex:∀b o,X.base.get? b=some o->b∉X.ex
 exfs:∀b∈X.ex,b∉X.fs
 funs:X.s₀.heap.FunFrames X.base X.outer
 frf:∀b∈X.fs,X.H₀ b=none
structure Inv(X:Cx)(pins:List (aZ×Obj))(σ:List (Option V))(H:Hp)(s:aJ):Prop where
 ok:X.Ok
 os:s.os=X.s₀.os
 bare:AllBare s.gens
 base:Un X.fs X.ex X.H₀ H X.s₀.heap s.heap
 loc:∃m,s.heap.Ns X.env.locals m/\∀(i:Nat) (x:Str) (v:V),X.N[i]?=some x->σ[i]?=some (some v)->Vis X.env.scope x->∃u,RelV v u/\Look X.env s.heap m x u
 cell:∀x c,X.env.cells.lookup x=some c->∃v,s.heap.IsCell c v
 free:H X.env.locals=none
 freeC:∀x c,X.env.cells.lookup x=some c->H c=none
 pin:∀p∈X.pn ++ pins,s.heap.get? p.1=some p.2/\H p.1=none/\p.1≠X.env.locals/\p.1∉X.fs/\∀v,p.2.data≠ .cell v
 hok:HOk X.prog X.w H s.heap
 len:σ.length=X.N.length
section
variable{X:Cx}{pins:List (aZ×Obj)}{σ:List (Option V)}{H H' :Hp}{s:aJ}{h' :Heap}
theorem Cx.Ok.nofr(ok:X.Ok){b:aZ}{o:Obj}(e:X.base.get? b=some o):b∉X.fs:=fun hb=>by
 have:=(ok.funs.mem hb).1;grind
theorem Inv.bs(I:Inv X pins σ H s):∀b o,X.base.get? b=some o->s.heap.get? b=some o/\H b=none:=fun b o e=>
 ⟨I.base.keep b o (I.ok.bs b o e).1 (I.ok.bs b o e).2 (I.ok.nofr e) (I.ok.noex b o e),I.base.free b o (I.ok.bs b o e).1 (I.ok.bs b o e).2 (I.ok.noex b o e)⟩
theorem Inv.bk(I:Inv X pins σ H s):∀b o,X.base.get? b=some o->s.heap.get? b=some o:=fun b o e=>(I.bs b o e).1
theorem Inv.mod(I:Inv X pins σ H s):Mod X.K X.mg X.base:=I.ok.mod
theorem Inv.kIn(I:Inv X pins σ H s):X.K.In s.heap:=I.ok.mod.kin.keeps I.bk
theorem Inv.lt(I:Inv X pins σ H s):X.env.locals<s.heap.objs.size:=let ⟨_,hn,_⟩:=I.loc;hn.lt
theorem Inv.sz(I:Inv X pins σ H s):X.s₀.heap.objs.size<=s.heap.objs.size:=aG I.ok.above (Nat.le_of_lt I.lt)
theorem Inv.nofs(I:Inv X pins σ H s){a:aZ}(h:s.heap.objs.size<=a):a∉X.fs:=fun hb=>by
 obtain⟨_,o,b,_⟩:=I.ok.funs.mem hb;exact absurd (aF (aC b) (aG I.sz h)) (cK _)
theorem Inv.cne(I:Inv X pins σ H s):∀x c,X.env.cells.lookup x=some c->c≠X.env.locals:=fun x c e z=>by
 obtain⟨v,o,d,f⟩:=I.cell x c e;obtain⟨m,⟨g,h,i,a,b,_⟩,_⟩:=I.loc;grind
theorem Inv.funs(I:Inv X pins σ H s):s.heap.FunFrames X.base X.outer:=by
 have all:∀(l:List Env),(∀b∈frs l,b∈X.fs)->X.s₀.heap.FunFrames X.base l->s.heap.FunFrames X.base l:=by
  intro l;induction l with
  |nil=>intro _ _;trivial
  | cons env r ih=>
    intro hs d;obtain⟨f,⟨L,o,a,g,h,i⟩,j⟩:=d;have c:L∈X.fs:=hs L (by unfold frs;rw[cG,a];exact cC);obtain⟨k,e⟩:=I.base.slot L o h (I.ok.frf L c) c fun z=>I.ok.exfs L z c
    exact⟨f,⟨L,_,a,g,e,i⟩,ih (fun b hb=>hs b (by unfold frs;rw[cG,a];exact aM _ hb)) j⟩
 exact all X.outer (fun _ hb=>hb) I.ok.funs
theorem Inv.stack(I:Inv X pins σ H s):s.heap.FunFrames X.base X.stack:=by
 rcases I.ok.stk with e|⟨e,a⟩
 ·rw[e];exact I.funs
 ·rw [e];obtain⟨m,b,_⟩:=I.loc;refine .cons (by rw[I.ok.kind];decide) a b ?_ I.funs;exact Heap.get?_none_of_le (aG I.ok.bsz I.ok.above)
theorem Inv.stkSub(I:Inv X pins σ H s):∀b∈frs X.stack,b∈X.env.locals::X.fs:=fun b hb=>by
 rcases I.ok.stk with e|⟨e,a⟩
 ·grind
 ·rw [e] at hb;unfold frs at hb;rw[cG,a]at hb;exact hb
theorem Inv.stkFree(I:Inv X pins σ H s):∀b∈frs X.stack,H b=none:=fun b hb=>by
 rcases aA.mp (I.stkSub b hb) with e|hb
 ·rw[e];exact I.free
 ·obtain⟨_,o,a,_⟩:=I.ok.funs.mem hb;exact I.base.free b o a (I.ok.frf b hb) fun z=>I.ok.exfs b z hb
theorem Inv.step(I:Inv X pins σ H s)(g:∀b∈ch,(b∈X.ex\/X.s₀.heap.objs.size<=b)/\b≠X.env.locals/\(∀x c,X.env.cells.lookup x=some c->c≠b)/\∀p∈X.pn ++ pins,p.1≠b)(keep:∀b o,b≠X.env.locals->b∉X.fs->b∉ch->s.heap.get? b=some o->H b=none->h'.get? b=some o)(A:∀b o,b≠X.env.locals->b∈X.fs->b∉ch->s.heap.get? b=some o->H b=none->∃K,h'.get? b=some {o with slots:=K})(f:∀b o,b∉ch->s.heap.get? b=some o->H b=none->H' b=none)(there:∀b o,b∉ch->s.heap.get? b=some o->∃o',h'.get? b=some o')(C:∀b xs,H b=some (.tup xs)->H' b=some (.tup xs))(D:∀b o u,H b=some (.frz o u)->H' b=some (.frz o u))(E:∀b J,H b=some (.tbl J)->∃more,H' b=some (.tbl (J ++ more)))(ns:∀m,s.heap.Ns X.env.locals m->h'.Ns X.env.locals m)(L:HOk X.prog X.w H' h')(R:AllBare g'):
  Inv X pins σ H' {s with heap:=h',gens:=g',drawn:=d',toks:=t' }:=by
 have F:∀b o,X.s₀.heap.get? b=some o->b≠X.env.locals:=fun b o e=>bJ (aF (aC e) I.ok.above)
 have t:∀b o,X.s₀.heap.get? b=some o->b∉X.ex->b∉ch:=fun b o e a hb=>by
  rcases(g b hb).1 with z|z
  ·exact a z
  ·exact absurd (aF (aC e) z) (cK _)
 have h:∀x c,X.env.cells.lookup x=some c->∀v,s.heap.IsCell c v->h'.IsCell c v:=fun x c e v ⟨o,B,M⟩=>by
  have j:c∉ch:=fun z=>(g c z).2.2.1 x c e rfl
  by_cases O:c∈X.fs
  ·obtain⟨K,q⟩:=A c o (I.cne x c e) O j B (I.freeC x c e);exact⟨_,q,M⟩
  ·exact⟨o,keep c o (I.cne x c e) O j B (I.freeC x c e),M⟩
 refine⟨I.ok,I.os,R,⟨fun b o e n hb a=>?_,fun b o e n hb a=>?_,fun b o e n a=>?_,fun b o e a=>?_,fun b xs e=>C b xs (I.base.tups b xs e),fun b o xs e=>D b o xs (I.base.frzs b o xs e),fun b J e=>?_⟩,?_,fun x c e=>?_,?_,fun x c e=>?_,fun p P=>?_,L,I.len⟩
 ·exact keep b o (F b o e) hb (t b o e a) (I.base.keep b o e n hb a) (I.base.free b o e n a)
 ·obtain⟨K,y⟩:=I.base.slot b o e n hb a;obtain⟨N,G⟩:=A b _ (F b o e) hb (t b o e a) y (I.base.free b o e n a);exact⟨N,G⟩
 ·obtain⟨o',y⟩:=I.base.there b o e a;exact f b o' (t b o e a) y (I.base.free b o e n a)
 ·obtain⟨o',y⟩:=I.base.there b o e a;exact there b o' (t b o e a) y
 ·obtain⟨S,y⟩:=I.base.tbls b J e;obtain⟨T,G⟩:=E b _ y;exact⟨S ++ T,by rw[G,Array.append_assoc]⟩
 ·obtain⟨m,U,V⟩:=I.loc;refine⟨m,ns m U,fun i x v y G W=>?_⟩;obtain⟨u,r,l⟩:=V i x v y G W;refine⟨u,r,?_⟩;rcases l with l|⟨k,c,e,z⟩
  ·exact .inl l
  ·exact .inr ⟨k,c,e,h x c e _ z⟩
 ·obtain⟨v,z⟩:=I.cell x c e;exact⟨v,h x c e v z⟩
 ·obtain⟨m,⟨o,_,_,B,_⟩,_⟩:=I.loc;exact f _ o (fun z=>(g _ z).2.1 rfl) B I.free
 ·obtain⟨v,o,B,M⟩:=I.cell x c e;exact f c o (fun z=>(g c z).2.2.1 x c e rfl) B (I.freeC x c e)
 ·obtain⟨e,n,ne,Q,d⟩:=I.pin p P;have j:p.1∉ch:=fun z=>(g p.1 z).2.2.2 p P rfl
  exact⟨keep p.1 p.2 ne Q j e n,f p.1 p.2 j e n,ne,Q,d⟩
theorem Inv.un(I:Inv X pins σ H s)(u:Un X.fs [] H H' s.heap h')(c:HOk X.prog X.w H' h'):Inv X pins σ H' {s with heap:=h',toks:=t' }:=by
 obtain⟨m,⟨o,k,l,g,r⟩,_⟩:=id I.loc;obtain⟨p,h⟩:=u.any g I.free (by simp);exact I.step (g' :=s.gens) (d' :=s.drawn) (ch:=[]) (fun _ z=>nomatch z) (fun b o _ hb _ e n=>u.keep b o e n hb (by simp)) (fun b o _ hb _ e n=>u.slot b o e n hb (by simp)) (fun b o _ e n=>u.free b o e n (by simp)) (fun b o _ e=>u.there b o e (by simp)) u.tups u.frzs u.tbls (fun q i=>by
  obtain⟨t,d,f,a,j⟩:=i;rw[g]at a;cases a;exact⟨_,d,f,h,j⟩) c I.bare
theorem Inv.call(I:Inv X pins σ H s)(u:Un (frs X.stack) ch H H' s.heap h')(g:HOk X.prog X.w H' h')(l:AllBare g')(d:∀b∈ch,(b∈X.ex\/X.s₀.heap.objs.size<=b)/\b≠X.env.locals/\(∀x c,X.env.cells.lookup x=some c->c≠b)/\∀p∈X.pn ++ pins,p.1≠b):
  Inv X pins σ H' {s with heap:=h',gens:=g',drawn:=d',toks:=t' }:=by
 obtain⟨m,⟨o,v,y,k,r⟩,_⟩:=id I.loc;obtain⟨A,h⟩:=u.any k I.free fun z=>(d _ z).2.1 rfl
 exact I.step (ch:=ch) d (fun b o h hb a e n=>u.keep b o e n (fun z=>(aA.mp (I.stkSub b z)).elim h hb) a) (fun b o _ _ a e n=>u.any e n a) (fun b o a e n=>u.free b o e n a) (fun b o a e=>u.there b o e a) u.tups u.frzs u.tbls (fun B q=>by
  obtain⟨C,i,j,f,t⟩:=q;rw[k]at f;cases f;exact⟨_,i,j,h,t⟩) g l
theorem Inv.turned(I:Inv X pins σ H s)(k:∀b o,b≠it->s.heap.get? b=some o->h'.get? b=some o)(g:H it=none)(f:it≠X.env.locals)(h1:it∈X.ex\/X.s₀.heap.objs.size<=it)(h2:∀x c,X.env.cells.lookup x=some c->c≠it)(h:∀p∈X.pn ++ pins,p.1≠it):Inv X pins σ H {s with heap:=h',toks:=t' }:=by
 have d:∀b u,H b=some u->b≠it:=fun b u e z=>by rw[z,g]at e;cases e
 refine I.step (g' :=s.gens) (d' :=s.drawn) (ch:=[it]) (fun b hb=>?_) (fun b o _ _ a e _=>k b o (fun z=>a (by simp[z])) e) (fun b o _ _ a e _=>⟨o.slots,k b o (fun z=>a (by simp[z])) e⟩) (fun _ _ _ _ n=>n)
  (fun b o a e=>⟨o,k b o (fun z=>a (by simp[z])) e⟩) (fun _ _ e=>e) (fun _ _ _ e=>e) (fun b w e=>⟨#[],by rw[e];simp⟩) (fun m i=>?_) (fun b u e=>?_) I.bare
 ·have e:b=it:=by simpa using hb
  subst e;exact⟨h1,f,h2,h⟩
 ·obtain⟨o,j,l,t,r⟩:=i;exact⟨o,j,l,k _ o (Ne.symm f) t,r⟩
 ·refine(I.hok b u e).stay (fun c v a q=>k c v ?_ q) (fun _ q=>q) fun _ _ q=>q
  rcases a with z|z
  ·rw[z];exact d b u e
  ·exact d c _ z
theorem Inv.tok(I:Inv X pins σ H s)(t:Nat):Inv X pins σ H {s with toks:=t}:=I.un (h' :=s.heap) (t' :=t) Un.refl I.hok
theorem Inv.kept(I:Inv X pins σ H s)(k:∀b u,s.heap.get? b=some u->h'.get? b=some u):Inv X pins σ H {s with heap:=h',toks:=t' }:=I.un (Un.kept k) (I.hok.kept k)
theorem Inv.laid{a:aZ}{o:HO}(I:Inv X pins σ H s)(k:∀b u,s.heap.get? b=some u->h'.get? b=some u)(c:s.heap.objs.size<=a)(new:vT X.prog X.w (upd H a o) h' a o):
  Inv X pins σ (upd H a o) {s with heap:=h',toks:=t' }:=I.un (Un.laid k c (I.hok.fresh c)) (I.hok.laid k c new)
theorem Inv.write{x e:aZ}{o:HO}(I:Inv X pins σ H s)(c:Mut (H x))(d:e=x\/H e=some (.own x))(k:∀b u,b≠e->s.heap.get? b=some u->h'.get? b=some u)(a:∃u,h'.get? e=some u)(new:vT X.prog X.w (upd H x o) h' x o):Inv X pins σ (upd H x o) {s with heap:=h',toks:=t' }:=I.un (Un.write c d k a) (I.hok.write c d k a new)
theorem Inv.pins_of{a :List (aZ×Obj)}(I:Inv X pins σ H s)(h:∀p∈a,s.heap.get? p.1=some p.2/\H p.1=none/\p.1≠X.env.locals/\p.1∉X.fs/\∀v,p.2.data≠ .cell v):Inv X a σ H s:=
 ⟨I.ok,I.os,I.bare,I.base,I.loc,I.cell,I.free,I.freeC,fun p b=>(bR.mp b).elim (fun z=>I.pin p (eV _ z)) (h p),I.hok,I.len⟩
theorem qYw(c:N.Nodup){x:Str}(a:N[i]?=some x)(b:N[j]?=some x):i=j:=by
 obtain⟨f,d⟩:=aD.mp a;obtain⟨g,e⟩:=aD.mp b;exact(List.getElem_inj c).mp (d.trans e.symm)
theorem vYp{E:Value->aJ->Prop}{x:Str}{v:V}{u:Value}{Q:Unit->aJ->Prop}(I:Inv X pins σ H s)(hN:X.N.Nodup)(hi:X.N[i]?=some x)(l:Loc X.env.scope x)(r:RelV v u)(h:∀s',Inv X pins (σ.set i (some v)) H s' ->(∃a,eK a s.heap s'.heap/\(a=X.env.locals\/X.env.cells.lookup x=some a))->Q () s')(hf:X.fn x=true\/X.env.scope.names.lookup x=some .local :=by first|exact .inl rfl|exact .inr rfl|assumption):aH M A (storeName X.env x u) Q E s:=by
 obtain⟨m,S,hl⟩:=id I.loc;have G:(X.env.scope.kind ==.class || (X.env.scope.kind ==.module && X.env.locals != X.env.globals))=false:=by rw[I.ok.kind];rfl
 have hiσ:i < σ.length:=by rw[I.len];exact(aD.mp hi).1
 have cne:=I.cne;have f:∀{a:aZ} {F :Heap},(∃o,s.heap.get? a=some o/\H a=none)->eK a s.heap F ->HOk X.prog X.w H F :=fun {a F} ha hs b ob e=>by
  obtain⟨_,_,t⟩:=ha;refine(I.hok b ob e).stay (fun c P hc q=>(hs.2 c ?_).trans q) (fun _ q=>q) fun _ _ q=>q
  rintro rfl;rcases hc with rfl|hc
  ·rw[t]at e;cases e
  ·rw[t]at hc;cases hc
 rcases l with hk|hk
 ·refine wpAny_storeName_local hk S (fun F T hs=>?_) G;obtain⟨oL,_,_,U,_⟩:=id S;refine h _ ⟨I.ok,I.os,I.bare,⟨fun b o e n hb l=>?_,fun b o e n hb l=>?_,I.base.free,fun b o e l=>?_,I.base.tups,I.base.frzs,I.base.tbls⟩,⟨_,T,fun j y W g B Y=>?_⟩,fun y c e=>?_,I.free,I.freeC,fun p Z=>?_,f ⟨oL,U,I.free⟩ hs,by simpa using I.len⟩ ⟨_,hs,.inl rfl⟩
  ·exact(hs.2 b (bJ (aF (aC e) I.ok.above))).trans (I.base.keep b o e n hb l)
  ·obtain⟨sl,g⟩:=I.base.slot b o e n hb l;exact⟨sl,(hs.2 b (bJ (aF (aC e) I.ok.above))).trans g⟩
  ·obtain⟨o',g⟩:=I.base.there b o e l;exact⟨o',(hs.2 b (bJ (aF (aC e) I.ok.above))).trans g⟩
  ·by_cases C:j=i
   ·subst C;rw[hi]at g;cases g;rw[List.getElem?_set_self hiσ]at B;cases B;exact⟨u,r,.inl ⟨hk,by simp⟩⟩
   ·rw [bH (Ne.symm C)] at B;obtain⟨u',r',q⟩:=hl j y W g B Y;refine⟨u',r',?_⟩;rcases q with⟨k,e⟩|⟨k,c,e,z⟩
    ·refine .inl ⟨k,?_⟩;have:y≠x:=fun e=>C (qYw hN g (e▸hi))
     simp[this,e]
    ·exact .inr ⟨k,c,e,z.sameBut hs (cne y c e)⟩
  ·obtain⟨P,z⟩:=I.cell y c e;exact⟨P,z.sameBut hs (cne y c e)⟩
  ·obtain⟨e,n,ne,nf,d⟩:=I.pin p Z;exact⟨(hs.2 p.1 ne).trans e,n,ne,nf,d⟩
 ·have D:X.fn x=true:=by
   rcases hf with z|z
   ·exact z
   ·rw[z]at hk;cases hk
  obtain⟨c,hc⟩:=I.ok.has x (.inl hk);obtain⟨P,z⟩:=I.cell x c hc;refine wpAny_storeName_cell I.ok.kind hk hc z (fun F J hs=>?_);obtain⟨oc,K,L⟩:=id z;refine h {s with heap:=F } ⟨I.ok,I.os,I.bare,⟨fun b o e n hb l=>?_,fun b o e n hb l=>?_,I.base.free,fun b o e l=>?_,I.base.tups,I.base.frzs,I.base.tbls⟩,⟨m,S.sameBut hs (Ne.symm (cne x c hc)),fun j y W g B Y=>?_⟩,fun y R e=>?_,I.free,I.freeC,fun p Z=>?_,f ⟨oc,K,I.freeC x c hc⟩ hs,by simpa using I.len⟩ ⟨c,hs,.inr hc⟩
  ·exact(hs.2 b (bJ (aF (aC e) (I.ok.cab x c D hc)))).trans (I.base.keep b o e n hb l)
  ·obtain⟨sl,g⟩:=I.base.slot b o e n hb l;exact⟨sl,(hs.2 b (bJ (aF (aC e) (I.ok.cab x c D hc)))).trans g⟩
  ·obtain⟨o',g⟩:=I.base.there b o e l;exact⟨o',(hs.2 b (bJ (aF (aC e) (I.ok.cab x c D hc)))).trans g⟩
  ·by_cases C:j=i
   ·subst C;rw[hi]at g;cases g;rw[List.getElem?_set_self hiσ]at B;cases B;exact⟨u,r,.inr ⟨.inl hk,c,hc,J⟩⟩
   ·rw [bH (Ne.symm C)] at B;obtain⟨u',r',q⟩:=hl j y W g B Y;refine⟨u',r',?_⟩;rcases q with q|⟨k,R,e,z'⟩
    ·exact .inl q
    ·refine .inr ⟨k,R,e,z'.sameBut hs ?_⟩;rintro rfl;exact C (qYw hN g (I.ok.inj _ _ _ e hc▸hi))
  ·by_cases O:R =c
   ·subst O;exact⟨_,J⟩
   ·obtain⟨w2,z2⟩:=I.cell y R e;exact⟨w2,z2.sameBut hs O⟩
  ·obtain⟨e,n,ne,nf,d⟩:=I.pin p Z;refine⟨(hs.2 p.1 ?_).trans e,n,ne,nf,d⟩;intro q;rw[q,K]at e;have q' :oc=p.2:=Option.some.inj e;exact d P (by rw[←q'];exact L)
theorem qZe{E:Value->aJ->Prop}{x:Str}{v:V}{u:Value}{Q:Unit->aJ->Prop}(I:Inv X pins σ H s)(a:X.N.Nodup)(hi:X.N[i]?=some x)(b:Loc X.env.scope x)(r:RelV v u)(h:∀s',Inv X pins (σ.set i (some v)) H s' ->Q () s')(c:X.fn x=true\/X.env.scope.names.lookup x=some .local :=by first|exact .inl rfl|exact .inr rfl|assumption):aH M A (storeName X.env x u) Q E s:=
 vYp I a hi b r (fun s' d _=>h s' d) c
theorem Inv.call'{s' :aJ}(I:Inv X pins σ H s)(f:s'.os=s.os)(u:Un (frs X.stack) ch H H' s.heap s'.heap)(a:HOk X.prog X.w H' s'.heap)(g:AllBare s'.gens)(d:∀b∈ch,(b∈X.ex\/X.s₀.heap.objs.size<=b)/\b≠X.env.locals/\(∀x c,X.env.cells.lookup x=some c->c≠b)/\∀p∈X.pn ++ pins,p.1≠b):Inv X pins σ H' s' :=by
 obtain⟨i,g',d',t',h⟩:=s';have e:h =s.os:=f;subst e;exact I.call (g' :=g') (t' :=t') (d' :=d') u a g d
end
noncomputable abbrev XK:=Value->Option aZ->Hp->Prop
noncomputable abbrev St:=List (Option V)
noncomputable abbrev VK:=V->Hp->Prop
noncomputable abbrev TE:=St->Hp->VK->Prop
noncomputable abbrev TT:=St->Hp->(Bool->Hp->Prop)->Prop
noncomputable abbrev TA:=St->Hp->(List V->Hp->Prop)->Prop
structure Ends where
 nx:St->Hp->Prop
 rt:VK
 bk:St->Hp->Prop:=fun _ _=>False
 ct:St->Hp->Prop:=fun _ _=>False
noncomputable abbrev TS:=Ends->St->Hp->Prop
noncomputable def EP(X:Cx)(a:List (aZ×Obj))(σ:St)(Q:VK)(u:Value)(s' :aJ):Prop:=∃v b,Inv X a σ b s' /\RelV v u/\Q v b
noncomputable def TP(X:Cx)(a:List (aZ×Obj))(σ:St)(Q:Bool->Hp->Prop)(b:Bool)(s' :aJ):Prop:=∃c,Inv X a σ c s' /\Q b c
noncomputable def AP(X:Cx)(a:List (aZ×Obj))(σ:St)(Q:List V->Hp->Prop)(us:List Value)(s' :aJ):Prop:=∃b c,Inv X a σ c s' /\Vals b us/\Q b c
noncomputable def SP(X:Cx)(a:List (aZ×Obj))(D:Ends)(f:Flow)(s' :aJ):Prop:=
 match f with
 |.next =>∃σ' H',Inv X a σ' H' s' /\D.nx σ' H'
 |.brk =>∃σ' H',Inv X a σ' H' s' /\D.bk σ' H'
 |.cont =>∃σ' H',Inv X a σ' H' s' /\D.ct σ' H'
 |.ret u=>∃v σ' H',Inv X a σ' H' s' /\RelV v u/\D.rt v H'
noncomputable def PE(X:Cx)(e:Expr)(t:TE):Prop:=
 ∀(pins:List (aZ×Obj)) (s:aJ) (σ:St) (H:Hp) (Q:VK),Inv X pins σ H s->t σ H Q->aH (model X.prog X.w) X.A (eval e X.env) (EP X pins σ Q) X.xe s
noncomputable def PT(X:Cx)(e:Expr)(t:TT):Prop:=
 ∀(pins:List (aZ×Obj)) (s:aJ) (σ:St) (H:Hp) (Q:Bool->Hp->Prop),Inv X pins σ H s->t σ H Q->aH (model X.prog X.w) X.A (isTrue e X.env (eval e X.env)) (TP X pins σ Q) X.xe s
noncomputable def PW(X:Cx)(e:Expr)(t:TT):Prop:=
 ∀(whole:Sem Value) (pins:List (aZ×Obj)) (s:aJ) (σ:St) (H:Hp) (Q:Bool->Hp->Prop),Inv X pins σ H s->t σ H Q->aH (model X.prog X.w) X.A (isTrue e X.env whole) (TP X pins σ Q) X.xe s
theorem PW.pt{e:Expr}{t:TT}(h:PW X e t):PT X e t:=h _
noncomputable def PA(X:Cx)(es:List Expr)(t:TA):Prop:=
 ∀(pos:Pos) (pins:List (aZ×Obj)) (s:aJ) (σ:St) (H:Hp) (Q:List V->Hp->Prop),Inv X pins σ H s->t σ H Q->aH (model X.prog X.w) X.A (spliced (cV pos (aX es X.env))) (AP X pins σ Q) X.xe s
noncomputable def PS(X:Cx)(st:Stmt)(t:TS):Prop:=
 ∀(pins:List (aZ×Obj)) (s:aJ) (σ:St) (H:Hp) (D:Ends),Inv X pins σ H s->t D σ H->aH (model X.prog X.w) X.A (exec st X.env) (SP X pins D) X.xe s
noncomputable def PSs(X:Cx)(st:List Stmt)(t:TS):Prop:=
 ∀(pins:List (aZ×Obj)) (s:aJ) (σ:St) (H:Hp) (D:Ends),Inv X pins σ H s->t D σ H->aH (model X.prog X.w) X.A (execs st X.env) (SP X pins D) X.xe s
theorem thn{t:Sem α}{Q b :α->aJ->Prop}{E:Value->aJ->Prop}{s:aJ}(h:aH M A t Q E s)(c:∀a s,Q a s->b a s):aH M A t b E s:=bM h c fun _ _ x=>x
section
variable{X:Cx}
noncomputable def tVar(i:Nat):TE:=fun σ H Q=>∃v,σ[i]?=some (some v)/\Q v H
noncomputable def tC(v:V):TE:=fun _ H Q=>Q v H
theorem zQt{x:Str}(j:X.N[i]?=some x)(k:Vis X.env.scope x)(hd:(x == ("__debug__":Str))=false:=by decide)(f:(x == ("__classdict__":Str))=false:=by decide):PE X (.Name x pos) (tVar i):=by
 intro d s σ H Q I h;obtain⟨v,e,h⟩:=h;obtain⟨m,n,o⟩:=I.loc;obtain⟨u,r,l⟩:=o i x v j e k;have b:EP X d σ Q u s:=⟨v,H,I,r,h⟩
 rcases l with⟨hk,p⟩|⟨hk,c,g,a⟩
 ·exact wpAny_Name (wpAny_loadName_local I.ok.kind hk n p b) hd
 ·rcases hk with hk | hk
  ·exact wpAny_Name (wpAny_loadName_cell I.ok.kind hk g a b) hd
  ·exact wpAny_Name (wpAny_loadName_free I.ok.kind hk g a b f) hd
theorem zY6{i j pos}:PE X (.Constant (.int i) j pos) (tC (.int i)):=fun _ _ _ H _ I h=>wpAny_Constant_int ⟨.int i,H,I.tok _,⟨_,rfl⟩,h⟩
theorem jQw{b j pos}:PE X (.Constant (.bool b) j pos) (tC (.bl b)):=fun _ _ _ H _ I h=>Constant_bool ⟨.bl b,H,I,rfl,h⟩
theorem zY4{x j pos}:PE X (.Constant (.str x) j pos) (tC (.str x)):=fun _ _ _ H _ I h=>Calls.Constant_str ⟨.str x,H,I.tok _,⟨_,rfl⟩,h⟩
noncomputable def Gl(X:Cx)(x:Str):Prop:=X.env.kindOf x=some .globalImplicit
theorem qQs{E:Value->aJ->Prop}{s:aJ}{σ:St}{x:Str}{u:Value}(I:Inv X pins σ H s)(a:Gl X x)(b:X.mg x=some u)(h:Q u s)(hd:(x == ("__debug__":Str))=false:=by decide):aH (model X.prog X.w) X.A (eval (.Name x pos) X.env) Q E s:=
 Calls.Name_function_global I.ok.kind a (Calls.loadGlobal_global (by rw[I.ok.glob];exact I.mod.glob.keeps I.bk) b h) hd
theorem qJg{E:Value->aJ->Prop}{s:aJ}{σ:St}{x:Str}{u:Value}(I:Inv X pins σ H s)(a:Gl X x)(b:X.mg x=none)(c:cH x=some u)(h:Q u s)(d:x≠"__name__":=by decide)(hd:(x == ("__debug__":Str))=false:=by decide):aH (model X.prog X.w) X.A (eval (.Name x pos) X.env) Q E s:=by
 obtain⟨g,e,f⟩:=I.mod.blt;exact Calls.Name_function_global I.ok.kind a (Calls.loadGlobal_builtin (by rw[I.ok.glob];exact I.mod.glob.keeps I.bk) b (by rw[I.ok.blt];exact e.keeps I.bk) ((f x d).trans c) h) hd
theorem wO{x:Str}{v:V}{u:Value}(a:Gl X x)(b:X.mg x=some u)(r:RelV v u)(hd:(x == ("__debug__":Str))=false:=by decide):PE X (.Name x pos) (tC v):=
 fun _ _ _ H _ I h=>qQs I a b ⟨v,H,I,r,h⟩ hd
theorem vXp{x:Str}{v:V}{u:Value}(a:Gl X x)(b:X.mg x=none)(c:cH x=some u)(r:RelV v u)(d:x≠"__name__":=by decide)(hd:(x == ("__debug__":Str))=false:=by decide):PE X (.Name x pos) (tC v):=
 fun _ _ _ H _ I h=>qJg I a b c ⟨v,H,I,r,h⟩ d hd
variable{a b:Expr}{ta tb:TE}{pos:Pos}
noncomputable def tB(t:TE):TT:=fun σ H Q=>t σ H fun x a=>∃c,x=.bl c/\Q c a
theorem zQq{e:Expr}{t:TE}(h:PE X e t)(b:∀whole,isTrue e X.env whole=(do let v ←whole;standAt e.pos;holding [v] (truthy v)):=by intro _;rfl):PT X e (tB t):=by
 intro a s σ H Q I hw;refine isTrue_plain (thn (h a s σ H _ I hw) fun v j ⟨x,c,f,g,i⟩=>?_) (b _);obtain⟨d,rfl,q⟩:=i;cases g;exact wpAny_truthy_bool ⟨c,f,q⟩
variable{tA tB' :TT}{rest:List Expr}
noncomputable def tAnd(t u:TT):TT:=fun σ H Q=>t σ H fun c a=>if c=true then u σ a Q else Q false a
noncomputable def tOr(t u:TT):TT:=fun σ H Q=>t σ H fun c a=>if c=true then Q true a else u σ a Q
noncomputable def tNot(t:TT):TT:=fun σ H Q=>t σ H fun c a=>Q (!c) a
theorem zJl(d:PT X a tA):PW X (.BoolOp .And [a] pos) tA:=by
 intro f b s σ H Q I h;refine isTrue_and (thn (d b s σ H Q I h) fun c g e=>?_);cases c with
 |true=>exact isTrue_and_nil e
 |false=>exact e
theorem zYn(d:PT X a tA):PW X (.BoolOp .Or [a] pos) tA:=by
 intro f b s σ H Q I h;refine isTrue_or (thn (d b s σ H Q I h) fun c g e=>?_);cases c with
 |false=>exact isTrue_or_nil e
 |true=>exact e
theorem zYo(i:PT X a tA)(hb:PW X (.BoolOp .And (b::rest) pos) tB'):PW X (.BoolOp .And (a::b::rest) pos) (tAnd tA tB'):=by
 intro j d s σ H Q I h;refine isTrue_and (thn (i d s σ H _ I h) fun c k ⟨e,f,g⟩=>?_);cases c with
 |true=>exact hb j d k σ e Q f g
 |false=>exact⟨e,f,g⟩
theorem jQq(i:PT X a tA)(hb:PW X (.BoolOp .Or (b::rest) pos) tB'):PW X (.BoolOp .Or (a::b::rest) pos) (tOr tA tB'):=by
 intro j d s σ H Q I h;refine isTrue_or (thn (i d s σ H _ I h) fun c k ⟨e,f,g⟩=>?_);cases c with
 |true=>exact⟨e,f,g⟩
 |false=>exact hb j d k σ e Q f g
theorem zYp(d:PT X a tA):PT X (.UnaryOp .Not a pos) (tNot tA):=by
 intro b s σ H Q I h;exact isTrue_not (d b s σ H (fun c e=>Q (!c) e) I h)
end
noncomputable def SqL(K:aQ)(H:Hp)(a:aZ)(xs:List V):Prop:=
 Rd H a (.lst xs)\/
  ∃(o:Obj) (its:Array Value) (n:Nat),K.lookup a=some o/\o.cls=.type "list"/\o.dict=none/\o.data=.seq its n/\its.size<=aI/\Vals xs its.toList
noncomputable def SqT(K:aQ)(H:Hp)(a:aZ)(xs:List V):Prop:=
 Rd H a (.tup xs)\/
  ∃(o:Obj) (its:Array Value) (n:Nat),K.lookup a=some o/\o.cls=.type "tuple"/\o.data=.seq its n/\its.size<=aI/\Vals xs its.toList
noncomputable def absV:Value->Option V
 |.none =>some .non
 |.bool b=>some (.bl b)
 |.int i _=>some (.int i)
 |.str x _=>some (.str x)
 |.bytes b _=>some (.byt b)
 |.float b _=>some (.flt b)
 |.ref a=>some (.ref a)
 |.type n=>some (.ty n)
 |_=>none
theorem RelV.abs{x:V}{u:Value}(r:RelV x u):absV u=some x:=by
 cases x with
 |non=>cases r;rfl
 |bl _=>cases r;rfl
 |int _=>obtain⟨t,rfl⟩:=r;rfl
 |str _=>obtain⟨t,rfl⟩:=r;rfl
 |byt _=>obtain⟨t,rfl⟩:=r;rfl
 |flt _=>obtain⟨t,rfl⟩:=r;rfl
 |ref _=>cases r;rfl
 |ty _=>cases r;rfl
theorem RelV.inj{x:V}{u:Value}(r:RelV x u)(q:RelV y u):x=y:=Option.some.inj (r.abs.symm.trans q.abs)
theorem Vals.inj:∀{xs ys:List V} {us:List Value},Vals xs us->Vals ys us->xs=ys
 |_,_,_,.nil,.nil =>rfl
 |_,_,_,.cons r t,.cons r' t' =>by rw[r.inj r',Vals.inj t t']
section
variable{X:Cx}{pins:List (aZ×Obj)}{σ:St}{H:Hp}{s:aJ}{a:aZ}{xs ys:List V}
theorem SqL.of(h:H a=some (.lst xs)):SqL K H a xs:=.inl (.inl h)
theorem SqT.of(h:H a=some (.tup xs)):SqT K H a xs:=.inl (.inl h)
theorem Inv.list(I:Inv X pins σ H s)(h:SqL X.K H a xs):∃b:List Value,Vals xs b/\PlainL s.heap a b.toArray/\xs.length<=aI:=by
 rcases h with h|⟨o,b,n,c,d,f,hs,g,r⟩
 ·obtain⟨z,b,n,r,e⟩:=h.ok I.hok;exact⟨b,r,⟨_,n,e,rfl,rfl,rfl⟩,z⟩
 ·refine⟨b.toList,r,⟨o,n,I.kIn a o c,d,f,by simpa using hs⟩,?_⟩;have e:=r.length;grind
theorem Inv.tuple(I:Inv X pins σ H s)(h:SqT X.K H a xs):∃b:List Value,Vals xs b/\IsTup s.heap a b.toArray/\xs.length<=aI:=by
 rcases h with h|⟨o,b,n,c,d,hs,f,r⟩
 ·obtain⟨z,b,r,p⟩:=h.ok I.hok;grind
 ·refine⟨b.toList,r,⟨o,I.kIn a o c,d,n,by simpa using hs⟩,?_⟩;have e:=r.length;grind
theorem Inv.list_inj(I:Inv X pins σ H s)(h:SqL X.K H a xs)(h' :SqL X.K H a ys):xs=ys:=by
 obtain⟨c,r,⟨o,n,e,_,_,d⟩,_⟩:=I.list h;obtain⟨b,i,⟨j,k,f,_,_,g⟩,_⟩:=I.list h';rw[e]at f;cases f;rw[d]at g;injection g with d1 _
 have:c=b :=by simpa using congrArg Array.toList d1
 subst this;exact r.inj i
theorem Inv.tuple_inj(I:Inv X pins σ H s)(h:SqT X.K H a xs)(h' :SqT X.K H a ys):xs=ys:=by
 obtain⟨c,r,⟨o,e,_,n,d⟩,_⟩:=I.tuple h;obtain⟨b,i,⟨j,f,_,k,g⟩,_⟩:=I.tuple h';rw[e]at f;cases f;rw[d]at g;injection g with d1 _
 have:c=b :=by simpa using congrArg Array.toList d1
 subst this;exact r.inj i
end
section
variable{X:Cx}{st:Stmt}{rest:List Stmt}{t u:TS}{e:Expr}{te:TE}{pos:Pos}
noncomputable def tNext:TS:=fun D σ H=>D.nx σ H
noncomputable def tSeq(t u:TS):TS:=fun D σ H=>t {D with nx:=u D} σ H
theorem vVi:PSs X [] tNext:=fun _ _ σ H _ I h=>wpAny_execs_nil ⟨σ,H,I,h⟩
theorem qYt(h1:PS X st t)(h2:PSs X rest u):PSs X (st::rest) (tSeq t u):=by
 intro a s σ H D I h;refine wpAny_execs_cons (thn (h1 a s σ H {D with nx:=u D} I h) fun f b q=>?_);cases f with
 | next=>
   obtain⟨σ',c,d,q⟩:=q;exact h2 a b σ' c D d q
 |ret v=>exact q
 |brk=>exact q
 |cont=>exact q
theorem vXm(h1:PS X st t):PSs X [st] t:=by
 intro a s σ H D I h;refine wpAny_execs_cons (thn (h1 a s σ H D I h) fun f b q=>?_);cases f with
 |next=>exact wpAny_execs_nil q
 |ret v=>exact q
 |brk=>exact q
 |cont=>exact q
theorem Inv.quiet{σ:St}{s:aJ}(I:Inv X pins σ H s):interactive X.env=false:=by simp[interactive,I.ok.kind]
noncomputable def jQk(a:TE):TS:=fun D σ H=>a σ H fun _ b=>D.nx σ b
theorem zJt(b:PE X e te)(hs:swapsWith e none pos.line X.env=pure false:=by rfl):PS X (.Expr e pos) (jQk te):=by
 intro a s σ H D I h;exact wpAny_Expr_any (thn (b a s σ H _ I h) fun v g ⟨x,c,d,i,f⟩=>⟨σ,c,d,f⟩) I.quiet hs
noncomputable def tRet(a:TE):TS:=fun D σ H=>a σ H D.rt
theorem zYr(b:PE X e te):PS X (.Return (some e) pos) (tRet te):=by
 intro a s σ H D I h;exact wpAny_Return_some (thn (b a s σ H _ I h) fun v i ⟨x,c,d,f,g⟩=>⟨x,σ,c,d,f,g⟩)
noncomputable def tIfS(c:TT)(t u:TS):TS:=fun D σ H=>c σ H fun b a=>if b=true then t D σ a else u D σ a
theorem zXn{c:Expr}{a b:List Stmt}{f:TT}(l:PT X c f)(m:PSs X a t)(hb:PSs X b u):PS X (.If c a b pos) (tIfS f t u):=by
 intro e s σ H D I h;refine wpAny_If (thn (l e s σ H _ I h) fun d g ⟨i,j,k⟩=>?_);cases d with
 |true=>exact m e g σ i D j k
 |false=>exact hb e g σ i D j k
end
noncomputable abbrev TG:=V->St->Hp->(St->Hp->Prop)->Prop
noncomputable abbrev TGs:=List V->St->Hp->(St->Hp->Prop)->Prop
noncomputable def PG(X:Cx)(a:Expr)(t:TG):Prop:=
 ∀(pins:List (aZ×Obj)) (s:aJ) (σ:St) (H:Hp) (v:V) (u:Value) (Q:St->Hp->Prop),Inv X pins σ H s->RelV v u->t v σ H Q->
  aH (model X.prog X.w) X.A (assign a X.env u) (fun _ b =>∃σ' H',Inv X pins σ' H' b /\Q σ' H') X.xe s
noncomputable def PGs(X:Cx)(ts:List Expr)(t:TGs):Prop:=
 ∀(pins:List (aZ×Obj)) (s:aJ) (σ:St) (H:Hp) (vs:List V) (us:List Value) (Q:St->Hp->Prop),Inv X pins σ H s->Vals vs us->t vs σ H Q->
  aH (model X.prog X.w) X.A (assignInOrder ((assignEach ts X.env).map (·.2)) us) (fun _ a =>∃σ' H',Inv X pins σ' H' a /\Q σ' H') X.xe s
noncomputable abbrev TSet:=V->V->V->Hp->(Hp->Prop)->Prop
noncomputable def PSet(X:Cx)(t:TSet):Prop:=
 ∀(pins:List (aZ×Obj)) (s:aJ) (σ:St) (H:Hp) (o i v:V) (ov iv u:Value) (Q:Hp->Prop),Inv X pins σ H s->RelV o ov->RelV i iv->RelV v u->t o i v H Q->
  aH (model X.prog X.w) X.A (setItem ov iv u) (fun _ b =>∃a,Inv X pins σ a b /\Q a) X.xe s
noncomputable abbrev TIp:=V->V->Hp->VK->Prop
noncomputable def PIp(X:Cx)(a:Operator)(t:TIp):Prop:=
 ∀(pins:List (aZ×Obj)) (s:aJ) (σ:St) (H:Hp) (x y:V) (v u:Value) (Q:VK),Inv X pins σ H s->RelV x v->RelV y u->t x y H Q->
  aH (model X.prog X.w) X.A (inplaceOp a v u) (EP X pins σ Q) X.xe s
section
variable{X:Cx}{pos:Pos}
noncomputable def qK6(i:Nat):TG:=fun v σ H Q=>Q (σ.set i (some v)) H
theorem vXn{x:Str}(b:X.N.Nodup)(hi:X.N[i]?=some x)(c:Loc X.env.scope x)(d:X.fn x=true\/X.env.scope.names.lookup x=some .local :=by first|exact .inl rfl|exact .inr rfl|assumption):PG X (.Name x pos) (qK6 i):=by
 intro a s σ H v u Q I r h;exact wpAny_assign_Name (qZe I b hi c r (fun f e =>⟨_,H,e,h⟩) d)
noncomputable def gNil:TGs:=fun a σ H Q=>a=[]/\Q σ H
noncomputable def jVg(t:TG)(u:TGs):TGs:=fun a σ H Q=>∃v r,a=v::r/\t v σ H fun σ' b =>u r σ' b Q
theorem zJ2:PGs X [] gNil:=by
 intro a s σ H vs us Q I r h;obtain⟨e,h⟩:=h;subst e;exact assignInOrder_nil ⟨σ,H,I,h⟩
theorem zVy{e:Expr}{t:TG}{u:TGs}(h1:PG X e t)(h2:PGs X es u)(hs:(assignEach (e::es) X.env).map (·.2)=assign e X.env::(assignEach es X.env).map (·.2):=by rfl):PGs X (e::es) (jVg t u):=by
 intro a s σ H vs us Q I r h;obtain⟨v,i,b,h⟩:=h;subst b;cases r with
 | cons r rr=>
   rw[hs];refine assignInOrder_cons (thn (h1 a s σ H _ _ _ I r h) fun _ c ⟨σ1,d,f,g⟩=>?_);exact h2 a c σ1 d _ _ Q f rr g
noncomputable def gTup(K:aQ)(n:Nat)(t:TGs):TG:=fun v σ H Q=>∃a b,v=.ref a/\SqT K H a b/\b.length=n/\t b σ H Q
theorem zY1{k:Nat}{t:TGs}(i:X.calm=true)(h:PGs X es t)(j:(assignEach es X.env).length =n:=by rfl)(d:(assignEach es X.env).findIdx? (·.1)=none:=by rfl):PG X (.Tuple es k pos) (gTup X.K n t):=by
 intro c s σ H v u Q I r f;obtain⟨a,l,m,p,q,f⟩:=f;subst m;cases r;obtain⟨w,g,x,B⟩:=I.tuple p;refine assign_Tuple_tuple (I.ok.hd i) x (by simp[j,←q,g.length]) d fun y z=>?_
 have A:Inv X c σ H {s with heap:=y }:=I.kept (t' :=s.toks) fun b o e=>z b o (bJ (aC e)) e
 exact h c _ σ H l _ Q A (by simpa using g) f
noncomputable def gSub(to a:TE)(t:TSet):TG:=fun v σ H Q=>to σ H fun o b=>a σ b fun i c=>t o i v c fun d=>Q σ d
theorem zY2{o i:Expr}{to d:TE}{t:TSet}(e:PE X o to)(hi:PE X i d)(hs:PSet X t)(f:∀v,assign (.Subscript o i pos) X.env v=(do
   let b ←holding [v] (eval o X.env);let c ←holding [v,b] (eval i X.env);standAt pos;holding [v,b,c] (setItem b c v);release [v,b,c] []):=by intro _;rfl):PG X (.Subscript o i pos) (gSub to d t):=by
 intro a s σ H v u Q I r h;rw[f];refine aV (dA (thn (e a s σ H _ I h) fun b g ⟨x,j,k,l,m⟩=>?_));refine aV (dA (thn (hi a g σ j _ k m) fun c n ⟨y,p,q,w,z⟩=>?_));refine aV (wpAny_standAt (aV (dA (thn (hs a n σ p x y v b c u _ q l w r z) fun _ D ⟨A,B,C⟩=>?_))));exact wpAny_release ⟨σ,A,B,C⟩
noncomputable def tAsg(a:TE)(g:TG):TS:=fun D σ H=>a σ H fun x b=>g x σ b D.nx
theorem zYu{e:Expr}{g:TG}(b:PE X e te)(c:PG X tg g)(hs:swapsWithSole [tg] e pos.line X.env=pure false:=by rfl)(d:swappedStores [tg] e X.env=pure none:=by rfl)(h1:(assignEach [tg] X.env).map (·.2)=[assign tg X.env]:=by rfl):PS X (.Assign [tg] e pos) (tAsg te g):=by
 intro a s σ H D I h;refine wpAny_Assign_stores (thn (b a s σ H _ I h) fun v f ⟨x,i,j,k,l⟩=>?_) hs d;rw[h1];exact thn (c a f σ i x v _ j k l) fun _ m q=>q
theorem zYq{x:Str}{e:Expr}{a :Pos}(c:X.N.Nodup)(hi:X.N[i]?=some x)(d:Loc X.env.scope x)(f:PE X e te)(hs:swapsWith e (some (.Name x a)) pos.line X.env=pure false:=by rfl)(g:X.fn x=true\/X.env.scope.names.lookup x=some .local :=by first|exact .inl rfl|exact .inr rfl|assumption):
  PS X (.Assign [.Name x a] e pos) (tAsg te (qK6 i)):=by
 intro b s σ H D I h;refine wpAny_Assign_Name (thn (f b s σ H _ I h) fun v o ⟨y,j,k,l,m⟩=>?_) hs;exact qZe k c hi d l (fun p n=>⟨_,j,n,m⟩) g
noncomputable def ipI(f:Int->Int->Int):TIp:=fun x y H Q=>∃i j,x=.int i/\y=.int j/\Q (.int (f i j)) H
theorem zQz:PIp X .Add (ipI fun i j=>i+j):=by
 intro a s σ H x y v u Q I r1 r2 h;obtain⟨i,j,b,c,q⟩:=h;subst b;subst c;obtain⟨t,rfl⟩:=r1;obtain⟨d,rfl⟩:=r2;exact iadd_int ⟨.int _,H,I.tok _,⟨_,rfl⟩,q⟩
end
structure It where
 go:Nat->Hp->Prop
 yld:Nat->Hp->V->Hp->Prop
 stop:Nat->Hp->Prop
noncomputable def FpOk(X:Cx)(a:List (aZ×Obj))(H:Hp)(b:aZ):Prop:=
 H b=none/\b≠X.env.locals/\b∉X.fs/\(b∈X.ex\/X.s₀.heap.objs.size<=b)/\(∀x c,X.env.cells.lookup x=some c->c≠b)/\∀p∈X.pn ++ a,p.1≠b
theorem Inv.fpOk{σ:St}{H':Hp}{s:aJ}{b:aZ}(I:Inv X pins σ H s)(hb:s.heap.objs.size<=b)(a:H' b=none):FpOk X pins H' b:=by
 refine⟨a,Nat.ne_of_gt (aF I.lt hb),I.nofs hb,.inr (aG I.sz hb),fun x c e z=>?_,fun p d z=>?_⟩
 ·obtain⟨v,q⟩:=I.cell x c e;exact absurd (aF q.lt (by rw[z];exact hb)) (cK _)
 ·exact absurd (aF (aC (I.pin p d).1) (by rw[z];exact hb)) (cK _)
structure Turn(P:bZ)(w:bP)(K:aQ)(tg:Expr)(J:It)(fp:List aZ)(it:aZ)(tn:Nat->Heap->Prop):Prop where
 mem:it∈fp
 obj:∀i h,tn i h->∀b∈fp,∃o,h.get? b=some o/\∀v,o.data≠ .cell v
 keep:∀i h h',tn i h->(∀b∈fp,∀o,h.get? b=some o->h'.get? b=some o)->tn i h'
 item:∀(X:Cx),X.prog=P->X.w=w->X.K=K->X.calm=true->∀(i:Nat) (pins:List (aZ×Obj)) (s:aJ) (σ:St) (H:Hp) (E:Value->aJ->Prop),Inv X pins σ H s->(∀b∈fp,FpOk X pins H b)->tn i s.heap->J.go i H->
  aH (model P w) X.A (pyNext (.ref it)) (fun r s1=>∃u,r=some u/\
   aH (model P w) X.A (letOwnedTupleGo tg (.ref it) u) (fun _ s2=>∃x H',Inv X pins σ H' s2/\RelV x u/\J.yld i H x H' /\tn (i+1) s2.heap/\∀b∈fp,H' b=none) E s1) E s
 done:∀(X:Cx),X.prog=P->X.w=w->X.K=K->X.calm=true->∀(i:Nat) (pins:List (aZ×Obj)) (s:aJ) (σ:St) (H:Hp) (E:Value->aJ->Prop),Inv X pins σ H s->(∀b∈fp,FpOk X pins H b)->tn i s.heap->J.stop i H->
  aH (model P w) X.A (pyNext (.ref it)) (fun r s1=>r=none/\Inv X pins σ H s1) E s
 self:∀(A:cW) (i:Nat) (s:aJ) (Q:Value->aJ->Prop) (E:Value->aJ->Prop),tn i s.heap->Q (.ref it) s->aH (model P w) A (pyIter (.ref it)) Q E s
noncomputable abbrev TI:=St->Hp->(It->Hp->Prop)->Prop
noncomputable def PIE(X:Cx)(a:List (aZ×Obj))(σ:St)(e:Expr)(R:It->Hp->Prop)(c:Value)(d:aJ):Prop:=
 ∃(it:aZ) (fp:List aZ) (tn:Nat->Heap->Prop) (J:It) (H' :Hp),c=.ref it/\Inv X a σ H' d/\Turn X.prog X.w X.K e J fp it tn/\tn 0 d.heap/\(∀b∈fp,FpOk X a H' b)/\R J H'
noncomputable def PI(X:Cx)(b a:Expr)(c:TI):Prop:=
 ∀(pins:List (aZ×Obj)) (s:aJ) (σ:St) (H:Hp) (R:It->Hp->Prop),Inv X pins σ H s->c σ H R->
  aH (model X.prog X.w) X.A (eval a X.env) (fun v d=>aH (model X.prog X.w) X.A (pyIter v) (PIE X pins σ b R) X.xe d) X.xe s
theorem vZa{E:Value->aJ->Prop}{s:aJ}{u:Value}{o:Obj}{n:String}{vs:Array Value}{Q:Unit->aJ->Prop}(b:s.heap.get? it=some o)(c:o.cls=.type n)(hd:o.data=.fields vs)(d: ["enumerate","zip","dict_itemiterator","dict_reverseitemiterator","odict_iterator","itertools.zip_longest","itertools.pairwise"].contains n=false)(a:Q () s):aH M A (letOwnedTupleGo tg (.ref it) u) Q E s:=by
 unfold letOwnedTupleGo
 cases tg <;> first
  |exact aE a
  | (cases u <;> first
    |exact aE a
    | (refine aV (wpAny_load b ?_)
       rw[c,hd];show aH M A (if(["enumerate","zip","dict_itemiterator","dict_reverseitemiterator","odict_iterator","itertools.zip_longest","itertools.pairwise"].contains n && vs[0]? == some (rawInt _))=true then _ else _) Q E s;rw[if_neg (by intro h;rw[d,Bool.false_and]at h;cases h)];exact aE a))
noncomputable def Itl(K:aQ)(a:aZ):It:=
 ⟨fun i H=>∃b x,SqL K H a b/\b[i]?=some x,fun i H x c =>c =H/\∀b,SqL K H a b->b[i]?=some x,fun i H=>∃b,SqL K H a b/\b.length<=i⟩
noncomputable def Itt(K:aQ)(a:aZ):It:=
 ⟨fun i H=>∃b x,SqT K H a b/\b[i]?=some x,fun i H x c =>c =H/\∀b,SqT K H a b->b[i]?=some x,fun i H=>∃b,SqT K H a b/\b.length<=i⟩
noncomputable def Itr(lo:Int)(n:Nat):It:=⟨fun i _=>i<n,fun i H x a =>a =H/\x=.int (lo+i),fun i _=>n<=i⟩
theorem vYm{P:bZ}{w:bP}(a it:aZ):Turn P w K tg (Itl K a) [it] it (fun i h=>h.IsListIter it a i) where
 mem:=by simp
 obj:=fun i h st b hb=>by
  have e:b=it:=by simpa using hb
  subst e;obtain⟨o,e,c,d⟩:=st;exact⟨o,e,fun v z=>by rw[d]at z;cases z⟩
 keep:=fun i h j st k=>st.at fun o e=>k it (by simp) o e
 item:=by
  intro X m n q G i f s σ H E I hf st hg;subst m n q;obtain⟨J,x,l,r⟩:=hg;obtain⟨t,y,p,L⟩:=I.list l;obtain⟨u,M,N⟩:=y.get r;obtain⟨A,B,O,C,D,F⟩:=hf it (by simp);refine wpAny_pyNext_list_item st p.isList (x:=u) (by simpa using M) fun j g sb=>?_
  have Q:Inv X f σ H {s with heap:=j }:=I.turned (t' :=s.toks) (fun b o hb e=>(sb.2 b hb).trans e) A B C D F;obtain⟨o,e,c,d⟩:=id g;exact⟨u,rfl,vZa (s:={s with heap:=j }) e c d (by decide) ⟨x,H,Q,N,⟨rfl,fun T R=>by rw[I.list_inj R l];exact r⟩,g,fun b hb=>(hf b hb).1⟩⟩
 done:=by
  intro X m n q G i f s σ H E I hf st hg;subst m n q;obtain⟨J,l,r⟩:=hg;obtain⟨t,y,p,L⟩:=I.list l;obtain⟨A,B,O,C,D,F⟩:=hf it (by simp);have U:=y.length;exact wpAny_pyNext_list_end (I.ok.hd G) st p.isList (by simp;omega) fun j S=>⟨rfl,I.turned (t' :=s.toks) (fun b o hb e=>S b o hb e) A B C D F⟩
 self:=fun _ _ _ _ _ st h=>wpAny_pyIter_listiter st h
theorem vJ5{P:bZ}{w:bP}(a it:aZ):Turn P w K tg (Itt K a) [it] it (fun i h=>h.IsTupleIter it a i) where
 mem:=by simp
 obj:=fun i h st b hb=>by
  have e:b=it:=by simpa using hb
  subst e;obtain⟨o,e,c,d⟩:=st;grind
 keep:=fun i h l st k=>st.at fun o e=>k it (by simp) o e
 item:=by
  intro X n q r D i f s σ H E I hf st hg;subst n q r;obtain⟨F,x,m,t⟩:=hg;obtain⟨g,v,p,G⟩:=I.tuple m;obtain⟨u,J,L⟩:=v.get t;obtain⟨y,z,M,A,B,C⟩:=hf it (by simp);refine wpAny_pyNext_tuple_item st (show s.heap.IsTuple a g.toArray from p) (x:=u) (by simpa using J) fun l j sb=>?_
  have N:Inv X f σ H {s with heap:=l }:=I.turned (t' :=s.toks) (fun b o hb e=>(sb.2 b hb).trans e) y z A B C;obtain⟨o,e,c,d⟩:=id j;exact⟨u,rfl,vZa (s:={s with heap:=l }) e c d (by decide) ⟨x,H,N,L,⟨rfl,fun R O=>by rw[I.tuple_inj O m];exact t⟩,j,fun b hb=>(hf b hb).1⟩⟩
 done:=by
  intro X n q r D i f s σ H E I hf st hg;subst n q r;obtain⟨F,m,t⟩:=hg;obtain⟨g,v,p,G⟩:=I.tuple m;obtain⟨y,z,M,A,B,C⟩:=hf it (by simp);have S:=v.length;exact wpAny_pyNext_tuple_end (I.ok.hd D) st (show s.heap.IsTuple a g.toArray from p) (by simp;omega) fun l Q=>⟨rfl,I.turned (t' :=s.toks) (fun b o hb e=>Q b o hb e) y z A B C⟩
 self:=fun _ _ _ _ _ st h=>wpAny_pyIter_tupleiter st h
theorem vJ6{P:bZ}{w:bP}(it:aZ)(lo:Int)(n:Nat):Turn P w K tg (Itr lo n) [it] it (fun i h=>IsRangeIter h it (lo+(i:Nat) * 1) ((n:Int) - (i:Nat)) 1) where
 mem:=by simp
 obj:=fun i h st b hb=>by
  have e:b=it:=by simpa using hb
  subst e;exact⟨_,st,fun v z=>by
   have y :Data.fields _=Data.cell v:=z;cases y⟩
 keep:=fun i h d st k=>k it (by simp) _ st
 item:=by
  intro X f g j l i a s σ H E I hf st hg;subst f g j;obtain⟨m,p,A,q,r,u⟩:=hf it (by simp);have W:=Walks.range (prog:=X.prog) (w:=X.w) (I.ok.hd l) it lo 1 n;refine W.item i s _ _ hg st fun v d x B c C=>?_
  obtain⟨t,rfl⟩:=B;have D:Inv X a σ H {s with heap:=d,toks:=x}:=I.turned (fun b o hb e=>C b o (by simpa using hb) e) m p q r u;refine⟨_,rfl,vZa (s:={s with heap:=d,toks:=x}) (n:="range_iterator") c rfl rfl (by decide) ⟨.int (lo+i),H,D,⟨t,?_⟩,⟨rfl,rfl⟩,c,fun b hb=>(hf b hb).1⟩⟩;rw[Int.mul_one]
 done:=by
  intro X f g j l i a s σ H E I hf st hg;subst f g j;obtain⟨m,p,A,q,r,u⟩:=hf it (by simp);exact wpAny_pyNext_range_end (I.ok.hd l) st (by have:n<=i:=hg;omega) fun d F=>⟨rfl,I.turned (t' :=s.toks) (fun b o hb e=>F b o hb e) m p q r u⟩
 self:=fun _ _ _ _ _ st h=>wpAny_pyIter_rangeiter st h
section
variable{X:Cx}{tg:Expr}
theorem zVr{σ:St}{s:aJ}{R:It->Hp->Prop}{E:Value->aJ->Prop}{lo hi:Int}{t u v:Tok}{a:Nat}(I:Inv X pins σ H s)(h1: -(2 ^ 62)<=lo)(h2:lo<2 ^ 62)(d: -(2 ^ 62)<=hi)(f:hi<2 ^ 62)(q:R (Itr lo (hi - lo).toNat) H):aH (model X.prog X.w) X.A (pyIter (.ref s.heap.objs.size)) (PIE X pins σ tg R) E {s with heap:=s.heap.push {cls:=.type "range",data:=.fields #[.int lo t,.int hi u,.int 1 v]},toks:=a}:=by
 refine wpAny_pyIter_range (IsRange.new ..) (small_one h1 h2 d f) ?_
 have c:Inv X pins σ H {s with heap:=s.heap.push {cls:=.type "range",data:=.fields #[.int lo t,.int hi u,.int 1 v]},toks:=a}:=I.kept fun b o e=>aY _ e
 refine⟨(s.heap.push {cls:=.type "range",data:=.fields #[.int lo t,.int hi u,.int 1 v]}).objs.size,[(s.heap.push {cls:=.type "range",data:=.fields #[.int lo t,.int hi u,.int 1 v]}).objs.size],_,_,H,rfl,
  c.kept (t' :=a) fun b o e=>aY _ e,vJ6 _ lo (hi - lo).toNat,?_,fun b hb=>?_,q⟩
 ·have g:lo + ((0:Nat):Int) * 1=lo:=by simp
  have h:(((hi - lo).toNat :Nat):Int) - ((0:Nat):Int)=Builtin.Range.rangeSize lo hi 1:=by rw[rangeSize_one];split <;> omega
  show IsRangeIter _ _ (lo+((0:Nat):Int) * 1) ((((hi - lo).toNat :Nat):Int) - ((0:Nat):Int)) 1;rw[g,h];exact aS _ rfl
 ·have e:b=(s.heap.push {cls:= .type "range",data:= .fields #[.int lo t, .int hi u, .int 1 v]}).objs.size:=by simpa using hb
  subst e;exact c.fpOk (aB _) (c.hok.fresh (aB _))
noncomputable def jVb(a:TA):TI:=fun σ H R=>a σ H fun b c=>∃j:Int,b=[.int j]/\ -(2 ^ 62)<=j/\j<2 ^ 62/\R (Itr 0 j.toNat) c
theorem vYy{a:Expr}{d:TA}{p:Pos}(f:Gl X "range")(g:X.mg "range"=none)(i:PA X [a] d)(hs:aX [a] X.env=[(false,eval a X.env)]:=by rfl):PI X tg (.Call (.Name "range" p) [a] [] pos) (jVb d):=by
 intro b s σ H R I h;refine Call_ (qJg I f g boot_range (cN (thn (i pos b s σ H _ I h) fun n o ⟨u,v,k,l,c⟩=>?_) hs rfl));obtain⟨j,e,c,m,q⟩:=c;subst e;cases l with
 | cons r rr=>
   cases rr;obtain⟨t,rfl⟩:=r;exact call_range_1 (zVr k (by omega) (by omega) c m (by simpa using q))
noncomputable def tFor(c:TI)(g:TG)(tb:TS):TS:=fun D σ H=>c σ H fun J d=>∃W:Nat->Nat->St->Hp->Prop,(∃m,W 0 m σ d)/\∀i m σ H,W i m σ H->
 (J.stop i H/\D.nx σ H)\/(J.go i H/\∃N:St->Hp->Prop,(∀σ' a,N σ' a ->∃b,b<m/\W (i+1) b σ' a)/\∀x a,J.yld i H x a ->g x σ a fun σ2 e=>tb {D with nx:=N,ct:=N,bk:=D.nx} σ2 e)
noncomputable def qYf(a:List aZ)(h:Heap):List (aZ×Obj):=a.filterMap fun b=>(h.get? b).map fun o=>(b,o)
theorem qQc{h:Heap}{b:aZ}{o:Obj}(hb:b∈fp)(e:h.get? b=some o):(b,o)∈qYf fp h:=bO.mpr ⟨b,hb,by rw[e];rfl⟩
theorem vY5{h:Heap}{p:aZ×Obj}(a:p∈qYf fp h):p.1∈fp/\h.get? p.1=some p.2:=by
 obtain⟨b,hb,e⟩:=bO.mp a;cases q:h.get? b with
 |none=>grind
 |some o=>grind
theorem Inv.pinned{σ:St}{s:aJ}(I:Inv X pins σ H s)(a:∀b∈fp,FpOk X pins H b)(d:∀b∈fp,∃o,s.heap.get? b=some o/\∀v,o.data≠ .cell v):Inv X (pins ++ qYf fp s.heap) σ H s:=
 I.pins_of fun p c=>(bR.mp c).elim (fun z=>I.pin p (bY _ z)) fun z=>by
  obtain⟨hb,e⟩:=vY5 z;obtain⟨f,g,h,_⟩:=a p.1 hb;grind
theorem Inv.unpinned{pl:List (aZ×Obj)}{σ:St}{s:aJ}(I:Inv X (pins ++ pl) σ H s):Inv X pins σ H s:=I.pins_of fun p a=>I.pin p (bY _ (eV _ a))
theorem zYs{c:Expr}{P:TI}{g:TG}{tb:TS}(y:PassesOwn (model X.prog X.w) X.A X.env X.xe)(Q:X.calm=true)(hi:PI X tg c P)(hg:PG X tg g)(hb:PSs X body tb)(hs:∀x,foldedSetIterable c X.env x=pure x:=by intro _;rfl):PS X (.For tg c body [] pos) (tFor P g tb):=by
 intro a s σ H D I h;refine wpAny_For (thn (hi a s σ H _ I h) fun v s1 h1=>thn h1 fun itv s2 h2=>?_) hs;obtain⟨it,z,R,J,H2,e,I2,T,K,S,W,⟨m0,w0⟩,turn⟩:=h2;subst e;have j:∀{H' :Hp},(∀b∈z,H' b=none)->∀b∈z,FpOk X a H' b:=fun hn b hb=>⟨hn b hb,(S b hb).2⟩
 refine codeAny_forLoop_any (fun n U =>∃i σ' H',Inv X a σ' H' U /\R i U.heap/\(∀b∈z,H' b=none)/\W i n σ' H') ?_ m0 ⟨0,σ,H2,I2,K,fun b hb=>(S b hb).1,w0⟩;rintro n V ⟨i,σ3,G,Y,B,C,w3⟩;rcases turn i n σ3 G w3 with⟨E,qn⟩|⟨go,N,hN,step⟩
 ·refine dX y (thn (T.done X rfl rfl rfl Q i a V σ3 G X.xe Y (j C) B E) fun r s4 ⟨L,I4⟩=>?_);subst L;exact wpAny_execs_nil ⟨σ3,G,I4,qn⟩
 ·refine dX y (thn (T.item X rfl rfl rfl Q i a V σ3 G X.xe Y (j C) B go) fun r s4 ⟨u,L,h4⟩=>?_);subst L;refine dX y (thn h4 fun _ Z ⟨x,H5,I5,r5,y5,t,fr5⟩=>?_);have M :=I5.pinned (j fr5) (T.obj _ _ t);refine dX y (thn (hg _ Z σ3 H5 x u _ M r5 (step x H5 y5)) fun _ s6 ⟨σ6,H6,I6,q6⟩=>?_);refine dX y (thn (hb _ s6 σ6 H6 _ I6 q6) fun f O q=>?_);have k:∀{σ7:St} {l:Hp},Inv X (a ++ qYf z Z.heap) σ7 l O->N σ7 l->∃m,m<n/\∃i σ' H',Inv X a σ' H' O/\R i O.heap/\(∀b∈z,H' b=none)/\W i m σ' H' :=fun {σ7 l} p F=>by
   obtain⟨m',hm,w7⟩:=hN σ7 l F;refine⟨m',hm,i+1,σ7,l,p.unpinned,T.keep _ _ _ t fun b hb o e=>(p.pin (b,o) (bY _ (bY _ (qQc hb e)))).1,fun b hb=>?_,w7⟩;obtain⟨o,e,d⟩:=T.obj _ _ t b hb;exact(p.pin (b,o) (bY _ (bY _ (qQc hb e)))).2.1
  cases f with
  |next=>obtain⟨σ7,l,p,F⟩:=q;exact k p F
  |cont=>obtain⟨σ7,l,p,F⟩:=q;exact k p F
  |brk=>obtain⟨σ7,l,p,q⟩:=q;exact⟨σ7,l,p.unpinned,q⟩
  |ret v=>obtain⟨x7,σ7,l,p,r7,q⟩:=q;exact⟨x7,σ7,l,p.unpinned,r7,q⟩
end
noncomputable abbrev R2:=V->V->Hp->VK->Prop
noncomputable def OpR(X:Cx)(f:Value->Value->Sem Value)(r:R2):Prop:=
 ∀(pins:List (aZ×Obj)) (s:aJ) (σ:St) (H:Hp) (x y:V) (v u:Value) (Q:VK),Inv X pins σ H s->RelV x v->RelV y u->r x y H Q->
  aH (model X.prog X.w) X.A (f v u) (EP X pins σ Q) X.xe s
noncomputable def UnR(X:Cx)(f:Value->Sem Value)(r:V->Hp->VK->Prop):Prop:=
 ∀(pins:List (aZ×Obj)) (s:aJ) (σ:St) (H:Hp) (x:V) (v:Value) (Q:VK),Inv X pins σ H s->RelV x v->r x H Q->
  aH (model X.prog X.w) X.A (f v) (EP X pins σ Q) X.xe s
noncomputable def jS(X:Cx)(f:Value)(r:List V->Hp->VK->Prop):Prop:=
 ∀(pins:List (aZ×Obj)) (s:aJ) (σ:St) (H:Hp) (xs:List V) (us:List Value) (Q:VK),Inv X pins σ H s->Vals xs us->r xs H Q->
  aH (model X.prog X.w) X.A (call f us) (EP X pins σ Q) X.xe s
noncomputable def tOp(r:R2)(a tb:TE):TE:=fun σ H Q=>a σ H fun x b=>tb σ b fun y c=>r x y c Q
noncomputable def tUn(r:V->Hp->VK->Prop)(a:TE):TE:=fun σ H Q=>a σ H fun x b=>r x b Q
noncomputable def rI(C:Int->Int->Prop)(g:Int->Int->V):R2:=fun x y H Q=>∃i j,x=.int i/\y=.int j/\C i j/\Q (g i j) H
noncomputable def rI0(g:Int->Int->V):R2:=fun x y H Q=>∃i j,x=.int i/\y=.int j/\Q (g i j) H
noncomputable def rU(g:Int->V):V->Hp->VK->Prop:=fun x H Q=>∃i,x=.int i/\Q (g i) H
section
variable{X:Cx}{a b c:Expr}{ta tb tc:TE}{pos:Pos}
theorem binT(g:PE X a ta)(hb:PE X b tb){s:aJ}{σ:St}{R:V->V->Hp->Prop}(I:Inv X pins σ H s)(h:ta σ H fun x e=>tb σ e fun y c=>R x y c){f:Value->Value->Sem Value}(i:∀v u d x y c,Inv X pins σ c d->RelV x v->RelV y u->R x y c->aH (model X.prog X.w) X.A (f v u) Q X.xe d):
  aH (model X.prog X.w) X.A (eval a X.env) (fun v s₁=>aH (model X.prog X.w) X.A (eval b X.env) (fun u s₂=>aH (model X.prog X.w) X.A (f v u) Q X.xe s₂) X.xe s₁) X.xe s:=by
 refine thn (g pins s σ H _ I h) fun v j ⟨x,e,k,l,m⟩=>?_
 refine thn (hb pins j σ e _ k m) fun u d ⟨y,c,n,o,p⟩=>?_
 exact i v u d x y c n l o p
theorem zXp{d:Operator}{r:R2}(e:OpR X (binaryOp d) r)(f:PE X a ta)(hb:PE X b tb):PE X (.BinOp a d b pos) (tOp r ta tb):=by
 intro c s σ H Q I h;exact wpAny_BinOp (binT f hb I h fun v u g x y i j k l q=>e c g σ i x y v u Q j k l q)
theorem jQt{c:UnaryOp}{r:V->Hp->VK->Prop}(d:UnR X (unaryOp c) r)(e:PE X a ta):PE X (.UnaryOp c a pos) (tUn r ta):=by
 intro b s σ H Q I h;exact UnaryOp_ (thn (e b s σ H _ I h) fun v f ⟨x,g,i,j,k⟩=>d b f σ g x v Q i j k)
theorem opI{f:Value->Value->Sem Value}{C:Int->Int->Prop}(a:∀(i j:Int) (t u:Tok) (s:aJ) (Q:Value->aJ->Prop) (E:Value->aJ->Prop),C i j->Q (.int (g i j) s.toks) {s with toks:=s.toks+1}->aH (model X.prog X.w) X.A (f (.int i t) (.int j u)) Q E s):
  OpR X f (rI C fun i j=>.int (g i j)):=by
 intro b s σ H x y v u Q I rx ry h;obtain⟨i,j,rfl,rfl,c,q⟩:=h;obtain⟨t,rfl⟩:=rx;obtain⟨d,rfl⟩:=ry;exact a i j t d s _ _ c ⟨.int (g i j),H,I.tok _,⟨_,rfl⟩,q⟩
theorem opI0{f:Value->Value->Sem Value}(a:∀(i j:Int) (t u:Tok) (s:aJ) (Q:Value->aJ->Prop) (E:Value->aJ->Prop),Q (.int (g i j) s.toks) {s with toks:=s.toks+1}->aH (model X.prog X.w) X.A (f (.int i t) (.int j u)) Q E s):
  OpR X f (rI0 fun i j=>.int (g i j)):=by
 intro b s σ H x y v u Q I rx ry h;obtain⟨i,j,rfl,rfl,q⟩:=h;obtain⟨t,rfl⟩:=rx;obtain⟨c,rfl⟩:=ry;exact a i j t c s _ _ ⟨.int (g i j),H,I.tok _,⟨_,rfl⟩,q⟩
theorem opB0{f:Value->Value->Sem Value}{g:Int->Int->Bool}(a:∀(i j:Int) (t u:Tok) (s:aJ) (Q:Value->aJ->Prop) (E:Value->aJ->Prop),Q (.bool (g i j)) s->aH (model X.prog X.w) X.A (f (.int i t) (.int j u)) Q E s):
  OpR X f (rI0 fun i j=>.bl (g i j)):=by
 intro b s σ H x y v u Q I rx ry h;obtain⟨i,j,rfl,rfl,q⟩:=h;obtain⟨t,rfl⟩:=rx;obtain⟨c,rfl⟩:=ry;exact a i j t c s _ _ ⟨.bl (g i j),H,I,rfl,q⟩
theorem zKf:OpR X (binaryOp .Add) (rI0 fun i j=>.int (i+j)):=opI0 fun _ _ _ _ _ _ _ q=>add_int q
theorem zKa:OpR X (binaryOp .Sub) (rI0 fun i j=>.int (i - j)):=opI0 fun _ _ _ _ _ _ _ q=>sub_int q
theorem zKc:OpR X (binaryOp .Mod) (rI (fun _ j=>0<j) fun i j=>.int (i % j)):=opI fun i j _ _ _ _ _ a q=>by
 have b:(0:Int)<j:=a;exact mod_int' (by omega) (by rw[Int.fmod_eq_emod_of_nonneg i (by omega)];exact q)
theorem unI{f:Value->Sem Value}{g:Int->Int}(a:∀(i:Int) (t:Tok) (s:aJ) (Q:Value->aJ->Prop) (E:Value->aJ->Prop),Q (.int (g i) s.toks) {s with toks:=s.toks+1}->aH (model X.prog X.w) X.A (f (.int i t)) Q E s):
  UnR X f (rU fun i=>.int (g i)):=by
 intro b s σ H x v Q I rx h;obtain⟨i,rfl,q⟩:=h;obtain⟨t,rfl⟩:=rx;exact a i t s _ _ ⟨.int (g i),H,I.tok _,⟨_,rfl⟩,q⟩
theorem zX4:UnR X (unaryOp .USub) (rU fun i=>.int (-i)):=unI fun _ _ _ _ _ q=>neg_int q
end
noncomputable def scal:V->V->Bool
 |.non,.non =>true|.non,.int _=>true|.int _,.non =>true|.non,.bl _=>true|.bl _,.non =>true|.non,.str _=>true|.str _,.non =>true
 |.int _,.int _=>true|.bl _,.bl _=>true|.str _,.str _=>true|.byt _,.byt _=>true
 |.int _,.str _=>true|.str _,.int _=>true|.bl _,.str _=>true|.str _,.bl _=>true
 |_,_=>false
noncomputable def rEq:R2:=fun x y H Q=>scal x y=true/\Q (.bl (decide (x=y))) H
noncomputable def rNe:R2:=fun x y H Q=>scal x y=true/\Q (.bl (!decide (x=y))) H
theorem vVo{i j:Int}:decide (V.int i=V.int j)=(i == j):=by
 rw[Bool.eq_iff_iff];simp
theorem vJx{i j:Bool}:decide (V.bl i=V.bl j)=(i == j):=by
 grind
theorem vYa{i j:Str}:decide (V.str i=V.str j)=(i == j):=by
 rw[Bool.eq_iff_iff];simp
theorem vYb{i j:Array UInt8}:decide (V.byt i=V.byt j)=(i.toList == j.toList):=by
 rw[Bool.eq_iff_iff];simp_all
section
variable{X:Cx}{a b c:Expr}{ta tb tc:TE}{pos:Pos}
theorem vS{σ:St}{s:aJ}{Q:VK}{k a :Bool}(I:Inv X pins σ H s)(q:Q (.bl k) H)(e:k=a):EP X pins σ Q (.bool a) s:=by
 subst e;exact⟨.bl k,H,I,rfl,q⟩
theorem zXq:OpR X (cR .Eq) rEq:=by
 intro b s σ H x y v u Q I rx ry h;obtain⟨hs,q⟩:=h;cases x with
 | non=>
   cases rx;cases y with
   |non=>cases ry;exact PySem.EqNone.eq_none_none (vS I q (by simp))
   |bl j=>cases ry;exact PySem.EqNone.eq_none_bool (vS I q (by simp))
   |int j=>obtain⟨a,rfl⟩:=ry;exact PySem.EqNone.eq_none_int (vS I q (by simp))
   |str j=>obtain⟨a,rfl⟩:=ry;exact PySem.EqNone.eq_none_str (vS I q (by simp))
   |_=>exact absurd (show false=true from hs) aR
 | bl i=>
   cases rx;cases y with
   |non=>cases ry;exact PySem.EqNone.eq_bool_none (vS I q (by simp))
   |bl j=>cases ry;exact eq_bool (vS I q vJx)
   |str j=>obtain⟨a,rfl⟩:=ry;exact PySem.EqMixed.eq_bool_str (vS I q (by simp))
   |_=>exact absurd (show false=true from hs) aR
 | int i=>
   obtain⟨t,rfl⟩:=rx;cases y with
   |non=>cases ry;exact PySem.EqNone.eq_int_none (vS I q (by simp))
   |int j=>obtain⟨a,rfl⟩:=ry;exact eq_int (vS I q vVo)
   |str j=>obtain⟨a,rfl⟩:=ry;exact PySem.EqMixed.eq_int_str (vS I q (by simp))
   |_=>exact absurd (show false=true from hs) aR
 | str i=>
   obtain⟨t,rfl⟩:=rx;cases y with
   |non=>cases ry;exact PySem.EqNone.eq_str_none (vS I q (by simp))
   |bl j=>cases ry;exact PySem.EqMixed.eq_str_bool (vS I q (by simp))
   |int j=>obtain⟨a,rfl⟩:=ry;exact PySem.EqMixed.eq_str_int (vS I q (by simp))
   |str j=>obtain⟨a,rfl⟩:=ry;exact eq_str (vS I q vYa)
   |_=>exact absurd (show false=true from hs) aR
 | byt i=>
   obtain⟨t,rfl⟩:=rx;cases y with
   |byt j=>obtain⟨a,rfl⟩:=ry;exact PySem.W.eq_bytes (vS I q vYb)
   |_=>exact absurd (show false=true from hs) aR
 |_=>cases y <;> exact absurd (show false=true from hs) aR
theorem jQy:OpR X (cR .NotEq) rNe:=by
 intro b s σ H x y v u Q I rx ry h;obtain⟨hs,q⟩:=h;cases x with
 | non=>
   cases rx;cases y with
   |non=>cases ry;exact PySem.EqNone.ne_none_none (vS I q (by simp))
   |bl j=>cases ry;exact PySem.EqNone.ne_none_bool (vS I q (by simp))
   |int j=>obtain⟨a,rfl⟩:=ry;exact PySem.EqNone.ne_none_int (vS I q (by simp))
   |str j=>obtain⟨a,rfl⟩:=ry;exact PySem.EqNone.ne_none_str (vS I q (by simp))
   |_=>exact absurd (show false=true from hs) aR
 | bl i=>
   cases rx;cases y with
   |non=>cases ry;exact PySem.EqNone.ne_bool_none (vS I q (by simp))
   |bl j=>cases ry;exact ne_bool (vS I q (congrArg not vJx))
   |str j=>obtain⟨a,rfl⟩:=ry;exact PySem.EqMixed.ne_bool_str (vS I q (by simp))
   |_=>exact absurd (show false=true from hs) aR
 | int i=>
   obtain⟨t,rfl⟩:=rx;cases y with
   |non=>cases ry;exact PySem.EqNone.ne_int_none (vS I q (by simp))
   |int j=>obtain⟨a,rfl⟩:=ry;exact ne_int (vS I q (congrArg not vVo))
   |str j=>obtain⟨a,rfl⟩:=ry;exact PySem.EqMixed.ne_int_str (vS I q (by simp))
   |_=>exact absurd (show false=true from hs) aR
 | str i=>
   obtain⟨t,rfl⟩:=rx;cases y with
   |non=>cases ry;exact PySem.EqNone.ne_str_none (vS I q (by simp))
   |bl j=>cases ry;exact PySem.EqMixed.ne_str_bool (vS I q (by simp))
   |int j=>obtain⟨a,rfl⟩:=ry;exact PySem.EqMixed.ne_str_int (vS I q (by simp))
   |str j=>obtain⟨a,rfl⟩:=ry;exact ne_str (vS I q (congrArg not vYa))
   |_=>exact absurd (show false=true from hs) aR
 | byt i=>
   obtain⟨t,rfl⟩:=rx;cases y with
   |byt j=>obtain⟨a,rfl⟩:=ry;exact PySem.W.ne_bytes (vS I q (congrArg not vYb))
   |_=>exact absurd (show false=true from hs) aR
 |_=>cases y <;> exact absurd (show false=true from hs) aR
theorem jQz:OpR X (cR .Lt) (rI0 fun i j=>.bl (decide (i<j))):=opB0 fun _ _ _ _ _ _ _ q=>lt_int q
theorem jQ0:OpR X (cR .Gt) (rI0 fun i j=>.bl (decide (j<i))):=opB0 fun _ _ _ _ _ _ _ q=>gt_int q
theorem OpR.or{f:Value->Value->Sem Value}{r r' :R2}(h:OpR X f r)(h' :OpR X f r'):OpR X f (fun x y H Q=>r x y H Q\/r' x y H Q):=by
 intro a s σ H x y v u Q I rx ry q;rcases q with q|q
 ·exact h a s σ H x y v u Q I rx ry q
 ·exact h' a s σ H x y v u Q I rx ry q
theorem qWh(b:Expr)(h:op≠ .In :=by decide)(h2:op≠ .NotIn :=by decide):behindInMarks op b=false:=by
 have a:(op == CmpOp.In)=false:=by cases op <;> first|rfl|exact absurd rfl h
 have c:(op == CmpOp.NotIn)=false:=by cases op <;> first|rfl|exact absurd rfl h2
 cases b <;> simp[behindInMarks,a,c]
theorem zJ5{r:R2}(d:OpR X (cR op) r)(e:PE X a ta)(hb:PE X b tb)(f:behindInMarks op b=false):PE X (.Compare a [op] [b] pos) (tOp r ta tb):=by
 intro c s σ H Q I h;exact wpAny_Compare1 (binT e hb I h fun v u g x y i j k l q=>d c g σ i x y v u Q j k l q) f
noncomputable def jQh(t:TE):TT:=fun σ H Q=>t σ H fun x a =>∃k,x=.bl k/\Q k a
theorem zJo{r:R2}(f:OpR X (cR op) r)(g:PE X a ta)(hb:PE X b tb)(i:behindInMarks op b=false):PT X (.Compare a [op] [b] pos) (jQh (tOp r ta tb)):=by
 intro d s σ H Q I h;refine wpAny_isTrue_Compare1 (thn (g d s σ H _ I h) fun v j ⟨x,l,m,n,o⟩=>thn (hb d j σ l _ m o) fun u p ⟨y,q,t,w,A⟩=>
  thn (f d p σ q x y v u _ t n w A) fun c F ⟨z,B,C,D,k,e,E⟩=>?_) i
 subst e;cases D;exact wpAny_truthy_bool ⟨B,C,E⟩
theorem qWj:(aI:Nat)<2 ^ 63:=by decide
theorem vWk:OpR X (binaryOp .Add) (fun x y H Q=>∃i j,x=.str i/\y=.str j/\i.length+j.length<=aI/\Q (.str (i ++ j)) H):=by
 intro a s σ H x y v u Q I rx ry h;obtain⟨i,j,rfl,rfl,b,q⟩:=h;obtain⟨t,rfl⟩:=rx;obtain⟨c,rfl⟩:=ry;exact add_str (fun c d=>⟨.str (i ++ j),H,I.tok _,⟨_,rfl⟩,q⟩) b
theorem qV6{x:V}(r:Vals [x] us):∃u,us=[u]/\RelV x u:=by
 cases r with
 |cons r1 r2=>cases r2;exact⟨_,rfl,r1⟩
theorem vV4{x:V}(r:Vals [x,y] us):∃u a,us=[u,a]/\RelV x u/\RelV y a :=by
 cases r with
 | cons r1 r2=>
   cases r2 with
   |cons r3 r4=>cases r4;exact⟨_,_,rfl,r1,r3⟩
theorem vK6:jS X (.type "int") (fun xs H Q=>(∃i,xs=[.int i]/\Q (.int i) H)\/∃k,xs=[.bl k]/\Q (.int (if k then 1 else 0)) H):=by
 intro a s σ H xs us Q I r h;rcases h with⟨i,rfl,q⟩|⟨k,rfl,q⟩
 ·obtain⟨u,rfl,t,rfl⟩:=qV6 r;exact call_int_int ⟨.int i,H,I,⟨_,rfl⟩,q⟩
 ·obtain⟨u,rfl,b⟩:=qV6 r;cases b;exact call_int_bool ⟨.int (if k then 1 else 0),H,I.tok _,⟨_,rfl⟩,q⟩
end
structure ObjM(h:Heap)(x dx C:aZ)(mA:Str->Option Value):Prop where
 obj:h.get? x=some (dW C dx)
 ns:h.Ns1 dx mA
 ne:dx≠x
theorem vY8{h:Heap}{mA:Str->Option Value}(n:h.Ns1 dx mA):∃c,h.get? dx=some c/\∀name,PySem.W.lookIn name c=some (mA name):=by
 obtain⟨o,d,l,f,g,i,_,j⟩:=n;refine⟨o,f,fun name=>?_⟩;have e:=j name;unfold nsFind findBy at e;rw[←Array.find?_toList]at e;unfold PySem.W.lookIn;rw[g];dsimp only;split
 ·grind
 ·rename_i q;rw[q]at e;have a:d.toList.any (·.refKey)=false:=by
   rw[List.any_eq_false];intro y k;obtain⟨z,t,b⟩:=i y (Array.mem_toList_iff.mp k);simp[DictEntry.refKey,b]
  grind
theorem ObjM.look{h:Heap}{x:aZ}{mA:Str->Option Value}(I:ObjM h x dx C mA):∃a,PySem.W.InstAt h x (dW C dx) C (some a)/\∀name,PySem.W.lookIn name a=some (mA name):=
 let ⟨a,ho,hl⟩:=vY8 I.ns
 ⟨a,⟨I.obj,rfl,rfl,ho⟩,hl⟩
section
variable{prog:bZ}{w:bP}{A:cW}{E:Value->aJ->Prop}{s:aJ}{K:aQ}{x dx C f:aZ}{mA:Str->Option Value}{name:Str}{v:Value}
theorem zWu{a:Bool}(X:K.In s.heap)(I:ObjM s.heap x dx C mA)(c:PySem.W.plainGet K C name=true)(d:PySem.W.hasDictIn K C=true)(e:bU K (.ref C) name=some none)(f:mA name=some v)(b :PySem.W.handedIn v=true)(h:Q v {s with toks:=s.toks+1}):
  aH (model prog w) A (getAttr (.ref x) name a) Q E s:=by
 obtain⟨i,J,g⟩:=I.look;exact PySem.W.get_value X J (PySem.W.plainGet_of c).1 (PySem.W.findObj_own d e rfl (by rw[g,f])) b h
theorem zZp{Q:Value×List Value->aJ->Prop}(X:K.In s.heap)(I:ObjM s.heap x dx C mA)(a:PySem.W.plainGet K C name=true)(b:bU K (.ref C) name=some (some (.ref f)))(c:PySem.W.isFn K (.ref f)=true)(d:mA name=none)(h:Q (.ref f,[.ref x]) s):
  aH (model prog w) A (getMethod (.ref x) name pl) Q E s:=by
 obtain⟨e,J,g⟩:=I.look;exact PySem.W.method_fn X J (PySem.W.plainGet_of a).1 (PySem.W.plainGet_of a).2 b (beq_iff_eq.mp c) (by show(PySem.W.lookIn name e).map (·.isSome)=some false;rw[g,d];rfl) h
theorem zJc{ns:List Str}{Q:Unit->aJ->Prop}(X:K.In s.heap)(I:ObjM s.heap x dx C mA)(hs:bU K (.ref C) "__setattr__"=some (some (.builtin "object.__setattr__")))(j:PySem.W.plainOver K C=true)(k:PySem.W.takerIn K C name=some none)(l:PySem.W.hasDictIn K C=true)(m:PySem.Within mA ns)(hsz:ns.length<=aI)(h:∀h',ObjM h' x dx C (fun y=>if y=name then some v else mA y)->eK dx s.heap h' ->Q () {s with heap:=h',toks:=s.toks+2}):
  aH (model prog w) A (setAttr (.ref x) name v) Q E s:=by
 obtain⟨t,J,u⟩:=I.look;refine PySem.W.set_plain X J hs (PySem.W.osa_open (s:={s with toks:=s.toks+1}) (r:=none) X J j k fun b=>?_);obtain⟨z,n,e⟩:=PySem.W.any_some l;have o:s.heap.get? x=some ⟨.ref C,some dx,.plain,#[]⟩:=I.obj;refine aV (aE (aV (aV (wpAny_loadPart o (aV (PySem.W.Looks.here (s:={s with toks:=s.toks+1}) (PySem.W.looks_clsIn X n) ?_))))));rw[e];refine aE (a:=some dx) (aV (aE (aV ?_)));refine wpAny_nsSet1 (s:={s with toks:=s.toks+1}) I.ns fun h' c d=>?_
 obtain⟨B,p,q,f,g,i⟩:=c.count (PySem.Within.cons name v m);refine aV (wpAny_lookBehind f (by rw[g];exact pastItsLine_dict (aG i (by rw[aK];omega))) ?_);exact aE (h _ ⟨(d.2 _ (Ne.symm I.ne)).trans I.obj,c,I.ne⟩ d)
theorem zV7{R:Result->aJ->Prop}{vs:List Value}(X:K.In s.heap)(b:PySem.W.makesIn K C=true)(hi:bU K (.ref C) "__init__"=some (some (.ref f)))(c:PySem.W.typeIn K (.ref f)=some (.type "function"))(h:codeAny (model prog w) (A.under (.builtin "type.__call__" ⟨.ref C::vs,kw⟩)) (.call (.ref f) ⟨.ref (s.heap.objs.size+1)::vs,kw⟩) (PySem.W.InitBack (s.heap.objs.size+1) R)
   {s with heap:=(s.heap.push cF).push (dW C s.heap.objs.size)}):
  codeAny (model prog w) A (.call (.ref C) ⟨vs,kw⟩) R s:=by
 obtain⟨e,g,d,t,i⟩:=s;exact PySem.W.make_core (PySem.W.makes_of X b) (PySem.W.looks_findIn X hi) (fun a=>PySem.W.bind_fn X a c) (.inl rfl) h
end
noncomputable def putF(f:Str)(v:V):List (Str×V)->List (Str×V)
 |[]=> [(f,v)]
 |(g,x)::r=>if g=f then(g,v)::r else(g,x)::putF f v r
theorem qXi(f g:Str)(v:V):∀fs:List (Str×V),(putF f v fs).lookup g=if g=f then some v else fs.lookup g
 | []=>by
   show List.lookup g [(f,v)]=_;grind
 | (k,x)::r=>by
   have a:=qXi f g v r;rw[show putF f v ((k,x)::r)=(if k=f then(k,v)::r else(k,x)::putF f v r) from rfl];grind
theorem qWy(f:Str)(v:V):∀fs:List (Str×V),f∈(putF f v fs).map (·.1)/\∀g,g∈fs.map (·.1)->g∈(putF f v fs).map (·.1)
 |[]=>⟨by simp[putF],fun g h=>by simp at h⟩
 | (k,x)::r=>by
   obtain⟨a,i2⟩:=qWy f v r;rw[show putF f v ((k,x)::r)=(if k=f then(k,v)::r else(k,x)::putF f v r) from rfl];grind
theorem qXk(f:Str)(v:V):∀fs:List (Str×V),(putF f v fs).length <=fs.length+1
 |[]=>by simp[putF]
 | (k,x)::r=>by
   have b:=qXk f v r;rw[show putF f v ((k,x)::r)=(if k=f then(k,v)::r else(k,x)::putF f v r) from rfl];by_cases a:k=f
   ·rw[if_pos a,aK,aK];omega
   ·rw[if_neg a,aK,aK];omega
theorem RelO.some_of{v:V}{o:Option Value}(r:RelO (some v) o):∃u,o=some u/\RelV v u:=by
 cases o with
 |none=>exact(show False from r).elim
 |some u=>exact⟨u,rfl,r⟩
theorem RelO.none_of{o:Option Value}(r:RelO none o):o=none:=by
 cases o with
 |none=>rfl
 |some u=>exact(show False from r).elim
theorem vQn{v:V}{u:Value}(r:RelV v u):PySem.W.handedIn u=true:=by
 cases v with
 |non=>cases(show u=Value.none from r);rfl
 |bl b=>cases(show u=Value.bool b from r);rfl
 |int i=>obtain⟨t,e⟩:=(show∃t,u=Value.int i t from r);cases e;rfl
 |str x=>obtain⟨t,e⟩:=(show∃t,u=Value.str x t from r);cases e;rfl
 |byt b=>obtain⟨t,e⟩:=(show∃t,u=Value.bytes b t from r);cases e;rfl
 |flt b=>obtain⟨t,e⟩:=(show∃t,u=Value.float b t from r);cases e;rfl
 |ref a=>cases(show u=Value.ref a from r);rfl
 |ty n=>cases(show u=Value.type n from r);rfl
section
variable{P:bZ}{w:bP}{H H' :Hp}{h h' :Heap}{a C dx:aZ}{fs fs' :List (Str×V)}
theorem qXz(b:HOk P w H h)(e:H a=some (.ins C dx fs)):∃mA,ObjM h a dx C mA/\(∀f,RelO (fs.lookup f) (mA f))/\PySem.Within mA (fs.map (·.1))/\fs.length<=1000/\H dx=some (.own a):=by
 obtain⟨d,z,ne,c,mA,n,r,q⟩:=(show vT P w H h a (.ins C dx fs) from b a _ e)
 exact⟨mA,⟨c,n,ne⟩,r,q,z,d⟩
end
structure Cls(K:aQ)(C:aZ):Prop where
 pg:PySem.W.plainGet K C Str.empty=true
 hd:PySem.W.hasDictIn K C=true
 po:PySem.W.plainOver K C=true
 sa:bU K (.ref C) "__setattr__"=some (some (.builtin "object.__setattr__"))
theorem Cls.get(c:Cls K C)(f:Str):PySem.W.plainGet K C f=true:=c.pg
noncomputable def xR(K:aQ)(C:aZ)(f:Str):Prop:=bU K (.ref C) f=some none
theorem xR.taker{f:Str}(n:xR K C f):PySem.W.takerIn K C f=some none:=by
 unfold PySem.W.takerIn;rw[show bU K (.ref C) f=some none from n];rfl
structure Meth(K:aQ)(C:aZ)(m:Str)(f:aZ):Prop where
 at_:bU K (.ref C) m=some (some (.ref f))
 fn:PySem.W.isFn K (.ref f)=true
 kp:cD K (.ref f)=true
section
variable{X:Cx}{pins:List (aZ×Obj)}{σ:St}{H:Hp}{s:aJ}{a C dx:aZ}{fs:List (Str×V)}{f:Str}{v:V}{A:cW}{E:Value->aJ->Prop}
theorem qKe{b:Bool}(I:Inv X pins σ H s)(e:H a=some (.ins C dx fs))(c:Cls X.K C)(n:xR X.K C f)(l:fs.lookup f=some v)(h:∀u s',Inv X pins σ H s' ->RelV v u->Q u s'):aH (model X.prog X.w) A (getAttr (.ref a) f b) Q E s:=by
 obtain⟨mA,O,r,_,_,_⟩:=qXz I.hok e;obtain⟨u,g,d⟩:=RelO.some_of (v:=v) (o:=mA f) (by rw[←l];exact r f);exact zWu I.kIn O (c.get f) c.hd n g (vQn d) (h u _ (I.tok _) d)
theorem qKd{m:Str}{g:aZ}{Q:Value×List Value->aJ->Prop}(I:Inv X pins σ H s)(e:H a=some (.ins C dx fs))(c:Cls X.K C)(k:Meth X.K C m g)(l:fs.lookup m=none)(h:Q (.ref g,[.ref a]) s):aH (model X.prog X.w) A (getMethod (.ref a) m pl) Q E s:=by
 obtain⟨mA,O,r,_,_,_⟩:=qXz I.hok e;have b:mA m=none:=RelO.none_of (by rw[←l];exact r m);exact zZp I.kIn O (c.get m) k.at_ k.fn b h
theorem qY7{u:Value}{Q:Unit->aJ->Prop}(I:Inv X pins σ H s)(e:H a=some (.ins C dx fs))(c:Cls X.K C)(n:xR X.K C f)(hl:fs.length<1000)(k:RelV y u)(h:∀s',Inv X pins σ (upd H a (.ins C dx (putF f y fs))) s' ->Q () s'):aH (model X.prog X.w) A (setAttr (.ref a) f u) Q E s:=by
 obtain⟨mA,O,r,i,_,j⟩:=qXz I.hok e;have l:(fs.map (·.1)).length <=aI:=by rw[aW,sizeLine_eq];omega
 refine zJc I.kIn O c.sa c.po n.taker c.hd i l fun m d sb=>h _ ?_
 have p:∃o,m.get? dx=some o:=let ⟨o,_,_,e',_⟩:=d.ns;⟨o,e'⟩;refine I.write (x:=a) (e:=dx) (by rw[e];exact True.intro) (.inr j) (fun b q hb z=>(sb.2 b hb).trans z) p ?_
 refine⟨by rw[qF O.ne];exact j,?_,O.ne,d.obj,_,d.ns,fun g=>?_,fun g t=>?_⟩
 ·have:=qXk f y fs;omega
 ·show RelO ((putF f y fs).lookup g) (if g=f then some u else mA g);rw[qXi];by_cases q:g=f
  ·rw[if_pos q,if_pos q];exact k
  ·rw[if_neg q,if_neg q];exact r g
 ·by_cases q:g=f
  ·rw[q];exact(qWy f y fs).1
  ·refine(qWy f y fs).2 g (i g fun z=>t ?_);show(if g=f then some u else mA g)=none;rw[if_neg q];exact z
theorem Inv.made(I:Inv X pins σ H s):Inv X pins σ (upd (upd H s.heap.objs.size (.own (s.heap.objs.size+1))) (s.heap.objs.size+1) (.ins C s.heap.objs.size []))
  {s with heap:=(s.heap.push cF).push (dW C s.heap.objs.size)}:=by
 have c:(s.heap.push cF).get? s.heap.objs.size=some cF:=aS s.heap rfl;have d:((s.heap.push cF).push (dW C s.heap.objs.size)).get? (s.heap.objs.size+1)=some (dW C s.heap.objs.size):=by
  have:=aS (s.heap.push cF) (o:=dW C s.heap.objs.size) rfl;rwa [cM]at this
 have f:(s.heap.push cF).Ns s.heap.objs.size (fun _=>none):=⟨cF,#[],_,c,rfl,(fun e g=>absurd g (by simp)),fun _=>rfl⟩
 have h:=I.laid (a:=s.heap.objs.size) (o:=.own (s.heap.objs.size+1)) (h' :=s.heap.push cF) (t' :=s.toks) (fun b u q=>aY _ q) (aB _) ⟨_,c⟩;refine h.laid (a:=s.heap.objs.size+1) (o:=.ins C s.heap.objs.size []) (t' :=s.toks) (fun b u q=>aY _ q) (Nat.le_of_eq (cM _ _)) ?_
 have ne:s.heap.objs.size≠s.heap.objs.size+1:=bJ (Nat.lt_succ_self _);refine⟨by rw[qF ne,upd_same],eJ _,ne,d,fun _=>none,(Heap.Ns1.of_empty f).at fun o q=>aY _ q,fun _=>True.intro,fun y i=>absurd rfl i⟩
theorem vYh{prog:bZ}{w:bP}{env:Env}{e:Expr}{f:Str}{s:aJ}(hb:attributeBase e f env (eval e env)=eval e env)(h:aH (model prog w) A (eval e env) (fun o s₁=>aH (model prog w) A (getAttr o f true) Q E s₁) E s):aH (model prog w) A (eval (.Attribute e f pos) env) Q E s:=
 Attribute_any_ h (by rw[arm_eval_Attribute,hb])
end
noncomputable def tFld(K:aQ)(c:TE)(f:Str):TE:=fun σ H Q=>c σ H fun x b=>∃a C d fs v,x=.ref a/\b a=some (.ins C d fs)/\Cls K C/\xR K C f/\fs.lookup f=some v/\Q v b
noncomputable def sFld(K:aQ)(d e:TE)(f:Str):TS:=fun D σ H=>e σ H fun y g=>d σ g fun x b=>∃a C c fs,x=.ref a/\b a=some (.ins C c fs)/\Cls K C/\xR K C f/\fs.length<1000/\
 D.nx σ (upd b a (.ins C c (putF f y fs)))
noncomputable def InOp(X:Cx)(a:Operator)(b:V->V->Hp->VK->Prop):Prop:=
 ∀(pins:List (aZ×Obj)) (s:aJ) (σ:St) (H:Hp) (x y:V) (u v:Value) (Q:VK),Inv X pins σ H s->RelV x u->RelV y v->b x y H Q->aH (model X.prog X.w) X.A (inplaceOp a u v) (EP X pins σ Q) X.xe s
noncomputable def zJi(K:aQ)(g h:TE)(i:V->V->Hp->VK->Prop)(f:Str):TS:=fun D σ H=>g σ H fun x d=>∃a C j fs v,x=.ref a/\d a=some (.ins C j fs)/\Cls K C/\xR K C f/\fs.lookup f=some v/\
 h σ d fun y k=>i v y k fun z e=>∃c b,e a=some (.ins C c b)/\b.length<1000/\D.nx σ (upd e a (.ins C c (putF f z b)))
section
variable{X:Cx}{o e value:Expr}{f:Str}{pos pos' tpos:Pos}{ta tv:TE}
theorem zY7(d:PE X e ta)(hb:attributeBase e f X.env (eval e X.env)=eval e X.env):PE X (.Attribute e f pos) (tFld X.K ta f):=by
 intro b s σ H Q I h;refine vYh hb (thn (d b s σ H _ I h) fun u r ⟨x,g,i,j,a,C,t,fs,v,k,m,c,n,l,q⟩=>?_);subst k;obtain rfl:u=Value.ref a:=j;exact qKe i m c n l fun w y o p=>⟨v,g,o,p,q⟩
theorem zYt(d:PE X o ta)(e:PE X value tv)(hs:swapsWith value (some (.Attribute o f pos')) pos.line X.env=pure false):PS X (.Assign [.Attribute o f pos'] value pos) (sFld X.K ta tv f):=by
 intro b s σ H D I h;refine plainObj_wpAny_Assign_Attribute (thn (e b s σ H _ I h) fun u g ⟨y,i,j,k,q⟩=>thn (d b g σ i _ j q) fun m A ⟨x,B,p,r,a,C,E,fs,t,v,c,n,l,w⟩=>?_) hs;subst t;obtain rfl:m=Value.ref a:=r;exact qY7 p v c n l k fun F z=>⟨σ,_,z,w⟩
theorem vYv{g:Operator}{i:V->V->Hp->VK->Prop}(j:PE X o ta)(k:PE X value tv)(d:InOp X g i):PS X (.AugAssign (.Attribute o f tpos) g value pos) (zJi X.K ta tv i f):=by
 intro b s σ H D I h;refine wpAny_AugAssign_AttributeAny (thn (j b s σ H _ I h) fun m Y ⟨x,p,r,t,a,C,Z,fs,v,w,A,c,n,l,q⟩=>?_);subst w;obtain rfl:m=Value.ref a:=t;refine qKe r A c n l fun u B E F=>thn (k b B σ p _ E q) fun G J ⟨y,L,M,N,O⟩=>thn (d b J σ L v y u G _ M F N O) fun w4 s4 ⟨z,H3,P,Q,R,S,e,T,U⟩=>?_
 exact qY7 P e c n T Q fun s5 W=>⟨σ,_,W,U⟩
end
section
variable{X:Cx}{pins:List (aZ×Obj)}{σ:St}{H:Hp}{s:aJ}{A:cW}{E:Value->aJ->Prop}{Q:Value->aJ->Prop}{c:Value}{b:Bool}
inductive TyOf(K:aQ)(H:Hp):V->Value->Prop where
 |non:TyOf K H .non (.type "NoneType")
 |bl (x:Bool):TyOf K H (.bl x) (.type "bool")
 |int (i:Int):TyOf K H (.int i) (.type "int")
 |str (x:Str):TyOf K H (.str x) (.type "str")
 |flt (x:UInt64):TyOf K H (.flt x) (.type "float")
 |lst {a:aZ} {xs:List V} (e:H a=some (.lst xs)):TyOf K H (.ref a) (.type "list")
 |frz {a:aZ} {o:Obj} {xs:List V} (e:H a=some (.frz o (.lst xs))):TyOf K H (.ref a) (.type "list")
 |tup {a:aZ} {xs:List V} (e:H a=some (.tup xs)):TyOf K H (.ref a) (.type "tuple")
 |dK {a:aZ} {kvs:List (Key×V)} (e:H a=some (.dK kvs)):TyOf K H (.ref a) (.type "dict")
 |dZ {a:aZ} {o:Obj} {kvs:List (Key×V)} (e:H a=some (.frz o (.dK kvs))):TyOf K H (.ref a) (.type "dict")
 |dT {a:aZ} {kvs:List (List Key×V)} (e:H a=some (.dT kvs)):TyOf K H (.ref a) (.type "dict")
 | ins {a C dx:aZ} {fs:List (Str×V)} (e:H a=some (.ins C dx fs)) (cl:Cls K C) (ha:bU K (.ref C) "__class__"=some (some (.builtin "object.__class__")))
   (hn:PySem.W.specialIn K (.builtin "object.__class__") "__get__"=some (some (.builtin "getset_descriptor.__get__"))) (htk:PySem.W.takesIn K (.builtin "object.__class__")=some true)
   (hm:PySem.W.mroIn K C (.type "object")=some true):TyOf K H (.ref a) (.ref C)
theorem vQm{x:V}{u t:Value}(I:Inv X pins σ H s)(d:RelV x u)(m:TyOf X.K H x t)(e:bV X.K t c=some b)(h:∀tk,Q (.bool b) {s with toks:=tk}):
  aH (model X.prog X.w) A (call (.builtin "isinstance") [u,c]) Q E s:=by
 cases m with
 |non=>cases(show u=Value.none from d);exact bL PySem.W.kitx_none I.kIn True.intro e (fun z=>nomatch z) h
 |bl y=>cases(show u=Value.bool y from d);exact bL PySem.W.kitx_bool I.kIn True.intro e (fun z=>nomatch z) h
 |int i=>obtain⟨t,q⟩:=(show∃t,u=Value.int i t from d);cases q;exact bL PySem.W.kitx_int I.kIn True.intro e (fun z=>nomatch z) h
 |str y=>obtain⟨t,q⟩:=(show∃t,u=Value.str y t from d);cases q;exact bL PySem.W.kitx_str I.kIn True.intro e (fun z=>nomatch z) h
 |flt y=>obtain⟨t,q⟩:=(show∃t,u=Value.float y t from d);cases q;exact bL PySem.W.kitx_float I.kIn True.intro e (fun z=>nomatch z) h
 | @lst a j ea=>
   cases(show u=Value.ref a from d);obtain⟨_,_,n,_,f⟩:=(show vT X.prog X.w H s.heap a (.lst j) from I.hok a _ ea)
   exact bL PySem.W.kitx_list I.kIn ⟨_,f,rfl⟩ e (fun z=>nomatch z) h
 | @frz a ob j ea=>
   cases(show u=Value.ref a from d);obtain⟨_,_,_,n,_,f⟩:=(show vT X.prog X.w H s.heap a (.frz ob (.lst j)) from I.hok a _ ea)
   exact bL PySem.W.kitx_list I.kIn ⟨_,f,rfl⟩ e (fun z=>nomatch z) h
 | @tup a j ea=>
   cases(show u=Value.ref a from d);obtain⟨_,_,_,p⟩:=(show vT X.prog X.w H s.heap a (.tup j) from I.hok a _ ea)
   obtain⟨o,f,g,_⟩:=p;exact bL PySem.W.kitx_tuple I.kIn ⟨o,f,g⟩ e (fun z=>nomatch z) h
 | @dK a kvs ea=>
   cases(show u=Value.ref a from d);obtain⟨_,_,r,_,p⟩:=(show vT X.prog X.w H s.heap a (.dK kvs) from I.hok a _ ea)
   obtain⟨o,k,l,f,g,_⟩:=p;exact bL PySem.W.kitx_dict I.kIn ⟨o,f,g.1⟩ e (fun z=>nomatch z) h
 | @dZ a ob kvs ea=>
   cases(show u=Value.ref a from d);obtain⟨_,_,_,r,_,p⟩:=(show vT X.prog X.w H s.heap a (.frz ob (.dK kvs)) from I.hok a _ ea)
   obtain⟨o,k,l,f,g,_⟩:=p;exact bL PySem.W.kitx_dict I.kIn ⟨o,f,g.1⟩ e (fun z=>nomatch z) h
 | @dT a kvs ea=>
   cases(show u=Value.ref a from d);obtain⟨_,_,j,_,o,k,l,f,g,_⟩:=(show vT X.prog X.w H s.heap a (.dT kvs) from I.hok a _ ea)
   exact bL PySem.W.kitx_dict I.kIn ⟨o,f,g.1⟩ e (fun z=>nomatch z) h
 | @ins a C dx fs ea cl ha hn htk hm=>
   cases(show u=Value.ref a from d);obtain⟨mA,O,_⟩:=qXz I.hok ea;obtain⟨v,J,_⟩:=O.look;exact bL (PySem.W.kitx_own (cl.get _) cl.hd ha hn htk hm) I.kIn J e (fun z=>nomatch z) h
end
structure Room(k:Nat)(A:cW):Prop where
 hd:A.handled=none
 dp:A.depth+3 * k+5<recursionLimit
 un:A.units+16 * k+200<eX
 gd:A.guards=some []
theorem Room.mono{k:Nat}(r:Room k A)(h:j<=k):Room j A:=⟨r.hd,by have:=r.dp;omega,by have:=r.un;omega,r.gd⟩
theorem Room.deeper{k:Nat}(r:Room (k+1) A)(env:Env):Room k (A.deeper env):=
 ⟨r.hd,by have:=r.dp;show A.depth+1+3 * k+5<_;omega,by have:=r.un;show A.units+3+16 * k+200<_;omega,r.gd⟩
theorem vWo:(A.under (.builtin "type.__call__" ⟨.ref C::us,kw⟩)).depth =A.depth+1:=by
 first|rfl|simp[guardIds]
theorem vWn:(A.under (.builtin "type.__call__" ⟨.ref C::us,kw⟩)).units =A.units+1:=by
 first|rfl|simp[Code.frames]
theorem vJh:(A.under (.builtin "type.__call__" ⟨.ref C::us,kw⟩)).guards =A.guards:=by
 first|rfl|simp[guardIds]
theorem Room.make{k:Nat}(r:Room (k+1) A)(C:aZ)(us:List Value)(a:List (Str×Value)):Room k (A.under (.builtin "type.__call__" ⟨.ref C::us,a⟩)):=
 ⟨r.hd,by have:=r.dp;rw[vWo];omega,by have:=r.un;rw[vWn];omega,by rw[vJh];exact r.gd⟩
theorem Room.depth{k:Nat}(r:Room k A):A.depth<recursionLimit:=by have:=r.dp;omega
theorem Room.units{k:Nat}(r:Room k A):A.units+64<eX:=by have:=r.un;omega
noncomputable def tNil:TA:=fun _ H Q=>Q [] H
noncomputable def qKv(a:TE)(b:TA):TA:=fun σ H Q=>a σ H fun x c=>b σ c fun d e=>Q (x::d) e
section
variable{X:Cx}{e:Expr}{es:List Expr}{te:TE}{t:TA}{pos:Pos}
theorem qZa:PA X [] tNil:=fun _ _ _ _ H Q I h=>Calls.spliced_nil ⟨[],H,I,.nil,h⟩
theorem xP(c:PE X e te)(d:PA X es t)(hs:aX (e::es) X.env=(false,eval e X.env)::aX es X.env:=by rfl):PA X (e::es) (qKv te t):=by
 intro b a s σ H Q I h;rw[hs];refine Calls.spliced_cons (thn (c a s σ H _ I h) fun u f ⟨x,g,i,j,k⟩=>?_);exact thn (d b a f σ g _ i k) fun q r ⟨l,m,n,o,p⟩=>⟨x::l,m,n,.cons j o,p⟩
noncomputable def tTup(t:TA):TE:=fun σ H Q=>t σ H fun a b=>a.length<=aI/\∀p,b p=none->Q (.ref p) (upd b p (.tup a))
noncomputable def tLst(t:TA):TE:=fun σ H Q=>t σ H fun a b=>a.length<=aI/\∀p,b p=none->Q (.ref p) (upd b p (.lst a))
theorem zY3{x1}(h:PA X es t):PE X (.Tuple es x1 pos) (tTup t):=by
 intro a s σ H Q I hq;refine wpAny_Tuple_spliced (thn (h pos a s σ H _ I hq) fun g c ⟨i,d,f,r,z,q⟩=>⟨by rw[←r.length];exact z,?_⟩);have j:d c.heap.objs.size=none:=f.hok.fresh (aB _);refine⟨.ref c.heap.objs.size,upd d c.heap.objs.size (.tup i),f.laid (t' :=c.toks) (fun b u e=>aY _ e) (aB _) ?_,rfl,q _ j⟩;exact⟨z,g,r,⟨_,aS _ rfl,rfl,_,rfl⟩⟩
theorem zY5(h:PA X es t):PE X (.List es pos) (tLst t):=by
 intro a s σ H Q I hq;refine wpAny_List_spliced (thn (h pos a s σ H _ I hq) fun g c ⟨i,d,f,r,z,q⟩=>⟨by rw[←r.length];exact z,?_⟩);have j:d c.heap.objs.size=none:=f.hok.fresh (aB _);refine⟨.ref c.heap.objs.size,upd d c.heap.objs.size (.lst i),f.laid (t' :=c.toks) (fun b u e=>aY _ e) (aB _) ?_,rfl,q _ j⟩;exact⟨z,g,0,r,aS _ rfl⟩
end
noncomputable abbrev Sp:=List V->Hp->VK->XK->Prop
noncomputable abbrev CXT:=List Env->Hp->aJ->XK->Value->aJ->Prop
structure Env0(P:bZ)(w:bP)(K:aQ)(mg:Str->Option Value)(base:Heap)(A:cW)(outer:List Env)(s:aJ)(H:Hp):Prop where
 frames:A.frames=some outer
 mod:Mod K mg base
 bs:∀b o,base.get? b=some o->s.heap.get? b=some o/\H b=none
 bsz:base.objs.size<=s.heap.objs.size
 funs:s.heap.FunFrames base outer
 frf:∀b∈frs outer,H b=none
 hok:HOk P w H s.heap
 bare:AllBare s.gens
noncomputable def CE(a:List Env)(P:bZ)(w:bP)(H:Hp)(s:aJ)(Q:VK)(u:Value)(s' :aJ):Prop:=
 ∃v b,s'.os=s.os/\AllBare s'.gens/\Un (frs a) [] H b s.heap s'.heap/\HOk P w b s'.heap/\RelV v u/\Q v b
noncomputable def CR(CX:CXT)(a:List Env)(P:bZ)(w:bP)(H:Hp)(s:aJ)(Q:VK)(E:XK)(r:Result)(s' :aJ):Prop:=
 match r with
 |.ok (.ret u)=>CE a P w H s Q u s'
 |.ok _=>False
 |.error e=>CX a H s E e s'
structure FnOk(P:bZ)(w:bP)(K:aQ)(mg:Str->Option Value)(base:Heap)(CX:CXT)(k:Nat)(f:aZ)(fd:bQ)(ps:List Str)(sp:Sp):Prop where
 len:∀vs H Q E,sp vs H Q E->vs.length=ps.length
 run:∀(A:cW) (outer:List Env) (s:aJ) (H:Hp) (args:Args) (us:List Value) (vs:List V) (Q:VK) (E:XK),Room k A->Env0 P w K mg base A outer s H->BindsTo s fd args (ps.zip us)->Vals vs us->sp vs H Q E->
  codeAny (model P w) A (.call (.ref f) args) (CR CX outer P w H s Q E) s
theorem FnOk.imp{P:bZ}{w:bP}{k:Nat}{f:aZ}{b:Sp}(F:FnOk P w K mg base CX k f fd ps sp)(h:∀vs H Q E,b vs H Q E->sp vs H Q E):FnOk P w K mg base CX k f fd ps b :=
 ⟨fun vs H Q E q=>F.len vs H Q E (h _ _ _ _ q),fun A a s H c d vs Q E e g hb i hs=>F.run A a s H c d vs Q E e g hb i (h _ _ _ _ hs)⟩
theorem Env0.make{P:bZ}{w:bP}{s:aJ}(e:Env0 P w K mg base A outer s H)(C:aZ)(us:List Value)(a:List (Str×Value)):
  Env0 P w K mg base (A.under (.builtin "type.__call__" ⟨.ref C::us,a⟩)) outer s H:=⟨by first|exact e.frames|(simpa[Around.under,Code.envs,Code.isFrame,pushEnvs] using e.frames),e.mod,e.bs,e.bsz,e.funs,e.frf,e.hok,e.bare⟩
section
variable{X:Cx}{pins:List (aZ×Obj)}{σ:St}{H:Hp}{s s' :aJ}
theorem Inv.env0(I:Inv X pins σ H s):Env0 X.prog X.w X.K X.mg X.base X.A X.stack s H:=
 ⟨I.ok.frames,I.ok.mod,I.bs,aG I.ok.bsz I.sz,I.stack,I.stkFree,I.hok,I.bare⟩
theorem Inv.after{Q:VK}{u:Value}(I:Inv X pins σ H s)(h:CE X.stack X.prog X.w H s Q u s'):EP X pins σ Q u s' :=by
 obtain⟨v,f,i,a,un,c,r,q⟩:=h;obtain⟨j,g,d,t,e⟩:=s';obtain rfl:e =s.os:=i;exact⟨v,f,I.call (h' :=j) (g' :=g) (d' :=d) (t' :=t) (ch:=[]) un c a (fun b z=>absurd z (by simp)),r,q⟩
end
noncomputable def zXf(sp:Sp)(a:List V)(E:XK)(t:TA):TE:=fun σ H Q=>t σ H fun b c=>sp (b ++ a) c Q E
noncomputable def vWy(C:aZ)(m:Str)(sp:Sp)(b:List V)(E:XK)(d:TE)(t:TA):TE:=fun σ H Q=>d σ H fun x c=>∃a e fs,x=.ref a/\c a=some (.ins C e fs)/\fs.lookup m=none/\
 t σ c fun f g=>sp (x::(f ++ b)) g Q E
noncomputable def vK8(C:aZ)(sp:Sp)(b:List V)(E:XK)(t:TA):TE:=fun σ H Q=>t σ H fun d c=>∀x a,c x=none->c a=none->a≠x->
 sp (.ref x::(d ++ b)) (upd (upd c a (.own x)) x (.ins C a [])) (fun v e=>v=.non /\Q (.ref x) e) E
noncomputable def wK(K:aQ)(b:bQ)(a:List Str)(ds:List Value):Prop:=
 ∀(s:aJ) (us:List Value),K.In s.heap->(us ++ ds).length =a.length->BindsTo s b ⟨us,[]⟩ (a.zip (us ++ ds))
theorem wK.all(h:∀us:List Value,us.length=ps.length->bindArgs fd ⟨us,[]⟩=pure (ps.zip us)):wK K fd ps []:=fun s us _ a=>by
 rw[bK]at a⊢;exact .of_eq (h us a)
noncomputable def jP(CX:CXT)(X:Cx)(E:XK):Prop:=∀(pins:List (aZ×Obj)) (σ:St) (H:Hp) (s:aJ) (e:Value) (s' :aJ),Inv X pins σ H s->CX X.stack H s E e s' ->X.xe e s'
section
variable{X:Cx}{CX:CXT}{k:Nat}{f C:aZ}{fd:bQ}{ps:List Str}{sp:Sp}{dvs:List V}{ds:List Value}{E:XK}{x m:Str}{p pos apos:Pos}{e o:Expr}{es:List Expr}{ta:TE}{t:TA}
theorem vJq{σ:St}{s:aJ}{Q:VK}(F:FnOk X.prog X.w X.K X.mg X.base CX k f fd ps sp)(c:Room k X.A)(hb:wK X.K fd ps ds)(hd:Vals dvs ds)(d:jP CX X E)(I:Inv X pins σ H s)(r:Vals vs us)(h:sp (vs ++ dvs) H Q E):aH (model X.prog X.w) X.A (call (.ref f) us) (EP X pins σ Q) X.xe s:=by
 have b:Vals (vs ++ dvs) (us ++ ds):=r.append hd;have g:(us ++ ds).length =ps.length:=by rw[←b.length];exact F.len _ _ _ _ h
 refine wpAny_call (codeAny_mono (F.run X.A X.stack s H ⟨us,[]⟩ (us ++ ds) (vs ++ dvs) Q E c I.env0 (hb s us I.kIn g) b h) fun r i a=>?_);cases r with
 |error e=>exact d pins σ H s e i I a
 | ok fl=>
   cases fl with
   |ret u=>exact I.after a
   |next=>exact False.elim a
   |brk=>exact False.elim a
   |cont=>exact False.elim a
theorem zJ6(F:FnOk X.prog X.w X.K X.mg X.base CX k f fd ps sp)(g:Room k X.A)(i:Gl X x)(j:X.mg x=some (.ref f))(hk:cD X.K (.ref f)=true)(hb:wK X.K fd ps ds)(hd:Vals dvs ds)(l:jP CX X E)(m:PA X (e::es) t)(b:(x == ("__debug__":Str))=false:=by decide)(n:aX (e::es) X.env=(false,eval e X.env)::aX es X.env:=by rfl)(c:(cV pos (aX es X.env)).any (·.1)=false:=by rfl):
  PE X (.Call (.Name x p) (e::es) [] pos) (zXf sp dvs E t):=by
 intro a s σ H Q I h;refine dR (qQs I i j ?_ b);refine PySem.W.callWith_K (h₀:=X.base) I.ok.mod.kin hk (thn (m pos a s σ H _ I h) fun o u ⟨v,y,d,r,q⟩=>⟨d.kIn,?_⟩) n c;exact vJq F g hb hd l d r q
theorem vXo(p:PE X o ta)(c:Cls X.K C)(i:Meth X.K C m f)(F:FnOk X.prog X.w X.K X.mg X.base CX k f fd ps sp)(v:Room k X.A)(hb:wK X.K fd ps ds)(hd:Vals dvs ds)(y:jP CX X E)(z:PA X (e::es) t)(d:aX (e::es) X.env=(false,eval e X.env)::aX es X.env:=by rfl)(g:(cV pos (aX es X.env)).any (·.1)=false:=by rfl)(B:eval (.Call (.Attribute o m apos) (e::es) [] pos) X.env=(do
   let ov ←eval o X.env;standAt apos.atName;let (f,first) ←holding [ov] (getMethod ov m pl);callWith pos f first (cV pos (aX (e::es) X.env)) (backToKw pos (keywordEach [] X.env))):=by rfl):
  PE X (.Call (.Attribute o m apos) (e::es) [] pos) (vWy C m sp dvs E ta t):=by
 intro b s σ H Q I h;refine PySem.W.methodCall_KW (pl:=pl) (thn (p b s σ H _ I h) fun u D ⟨x,G,j,J,a,O,fs,L,M,l,q⟩=>?_) B;subst L;obtain rfl:u=Value.ref a:=J;refine qKd j M c i l ?_
 refine PySem.W.callWith_K (first:=[.ref a]) (h₀:=X.base) I.ok.mod.kin i.kp (thn (z pos b D σ G _ j q) fun us P ⟨vs,R,n,r,N⟩=>⟨n.kIn,?_⟩) d g;exact vJq (us:=.ref a::us) (vs:=.ref a::vs) F v hb hd y n (.cons rfl r) N
theorem zVz(g:PE X o ta)(c:Cls X.K C)(e:Meth X.K C m f)(F:FnOk X.prog X.w X.K X.mg X.base CX k f fd ps sp)(i:Room k X.A)(hb:wK X.K fd ps ds)(hd:Vals dvs ds)(j:jP CX X E)(n:eval (.Call (.Attribute o m apos) [] [] pos) X.env=(do
   let ov ←eval o X.env;standAt apos.atName;let (f,first) ←holding [ov] (getMethod ov m pl);callWith pos f first (cV pos (aX [] X.env)) (backToKw pos (keywordEach [] X.env))):=by rfl):
  PE X (.Call (.Attribute o m apos) [] [] pos) (vWy C m sp dvs E ta tNil):=by
 intro b s σ H Q I h;refine PySem.W.methodCall_KW (pl:=pl) (thn (g b s σ H _ I h) fun u v ⟨x,y,d,p,a,z,fs,r,t,l,q⟩=>?_) n;subst r;obtain rfl:u=Value.ref a:=p;refine qKd d t c e l ?_
 exact PySem.W.callWith_K0 (first:=[.ref a]) d.kIn e.kp (vJq (us:=[.ref a]) (vs:=[.ref a]) F i hb hd j d (.cons rfl .nil) q)
structure Mk(K:aQ)(C f:aZ):Prop where
 makes:PySem.W.makesIn K C=true
 init:bU K (.ref C) "__init__"=some (some (.ref f))
 fn:PySem.W.isFn K (.ref f)=true
 kp:cD K (.ref C)=true
theorem vZl{σ:St}{s:aJ}{Q:VK}(M:Mk X.K C f)(F:FnOk X.prog X.w X.K X.mg X.base CX k f fd ps sp)(g:Room (k+1) X.A)(hb:wK X.K fd ps ds)(hd:Vals dvs ds)(i:jP CX X E)(I:Inv X pins σ H s)(r:Vals vs us)(h:∀x dx,H x=none->H dx=none->dx≠x->sp (.ref x::(vs ++ dvs)) (upd (upd H dx (.own x)) x (.ins C dx [])) (fun v H2=>v=.non /\Q (.ref x) H2) E):
  aH (model X.prog X.w) X.A (call (.ref C) us) (EP X pins σ Q) X.xe s:=by
 have c:=h (s.heap.objs.size+1) s.heap.objs.size (I.hok.fresh (cS _)) (I.hok.fresh (aB _)) (bJ (Nat.lt_succ_self _));have b:=Inv.made (C:=C) I;have d:Vals (V.ref (s.heap.objs.size+1)::(vs ++ dvs)) (Value.ref (s.heap.objs.size+1)::(us ++ ds)):=.cons rfl (r.append hd);have j:(Value.ref (s.heap.objs.size+1)::us ++ ds).length =ps.length:=by
  have e:=d.length;rw[F.len _ _ _ _ c]at e;exact e.symm
 refine wpAny_call (zV7 (f:=f) I.kIn M.makes M.init (beq_iff_eq.mp M.fn) (codeAny_mono (F.run _ X.stack _ _ ⟨Value.ref (s.heap.objs.size+1)::us,[]⟩ (Value.ref (s.heap.objs.size+1)::(us ++ ds)) _ _ E (g.make C us [])
  (b.env0.make C us []) (hb _ (Value.ref (s.heap.objs.size+1)::us) b.kIn j) d c) fun r l a =>?_))
 cases r with
 |error e=>exact i pins σ _ _ e l b a
 | ok fl=>
   cases fl with
   | ret u=>
     obtain⟨v,m,n,o,p,q⟩:=b.after a;subst p;exact⟨o,⟨V.ref (s.heap.objs.size+1),m,n,rfl,q⟩⟩
   |next=>exact False.elim a
   |brk=>exact False.elim a
   |cont=>exact False.elim a
theorem zJ3(M:Mk X.K C f)(F:FnOk X.prog X.w X.K X.mg X.base CX k f fd ps sp)(g:Room (k+1) X.A)(i:Gl X x)(j:X.mg x=some (.ref C))(hb:wK X.K fd ps ds)(hd:Vals dvs ds)(l:jP CX X E)(m:PA X (e::es) t)(b:(x == ("__debug__":Str))=false:=by decide)(n:aX (e::es) X.env=(false,eval e X.env)::aX es X.env:=by rfl)(c:(cV pos (aX es X.env)).any (·.1)=false:=by rfl):
  PE X (.Call (.Name x p) (e::es) [] pos) (vK8 C sp dvs E t):=by
 intro a s σ H Q I h;refine dR (qQs I i j ?_ b);refine PySem.W.callWith_K (h₀:=X.base) I.ok.mod.kin M.kp (thn (m pos a s σ H _ I h) fun o u ⟨v,y,d,r,q⟩=>⟨d.kIn,?_⟩) n c;exact vZl M F g hb hd l d r q
theorem zV0(M:Mk X.K C f)(F:FnOk X.prog X.w X.K X.mg X.base CX k f fd ps sp)(c:Room (k+1) X.A)(d:Gl X x)(e:X.mg x=some (.ref C))(hb:wK X.K fd ps ds)(hd:Vals dvs ds)(g:jP CX X E)(a:(x == ("__debug__":Str))=false:=by decide):PE X (.Call (.Name x p) [] [] pos) (vK8 C sp dvs E tNil):=by
 intro b s σ H Q I h;refine dR (qQs I d e ?_ a);exact PySem.W.callWith_K0 I.kIn M.kp (vZl (us:=[]) M F c hb hd g I .nil h)
end
structure FnScope(N P:List Str)(sc:Scope):Prop where
 kind:sc.kind=.function
 co:sc.isCoroutine=false
 gen:sc.isGenerator=false
 nd:N.Nodup
 pre:N.take P.length=P
 par:∀x∈P,sc.names.lookup x=some .local \/sc.names.lookup x=some .cell
 nofree:∀y∈sc.names,y.2≠ .free
theorem vQu{x:Str}:∀{binds:List (Str×Value)} {m:Str->Option Value},(∀v,(x,v)∉binds)->bindL kindOf binds m x=m x
 |[],_,_=>rfl
 | (n,v)::r,m,h=>by
   unfold bindL;rw[vQu fun w a=>h w (aM _ a)];split
   ·grind
   ·rfl
theorem vQw{x:Str}:∀{binds:List (Str×Value)} {m:Str->Option Value},(∀v,(x,v)∉binds)->bindC kindOf binds m x=m x
 |[],_,_=>rfl
 | (n,v)::r,m,h=>by
   unfold bindC;rw[vQw fun w a=>h w (aM _ a)];split
   ·rfl
   ·grind
theorem vQv{x:Str}{v:Value}:∀{P:List Str} {vs:List Value} {i:Nat} {m:Str->Option Value},P.Nodup->P[i]?=some x->vs[i]?=some v->kindOf x=some .local ->
  bindL kindOf (P.zip vs) m x=some v
 |[],_,_,_,_,h,_,_=>by simp at h
 |_::_,[],_,_,_,_,h,_=>by simp at h
 | p::P,w::vs,0,m,nd,h1,h2,hk=>by
   simp at h1 h2;subst h1;subst h2;show bindL kindOf ((p,w)::P.zip vs) m p=_;unfold bindL;rw[vQu fun v a=>(dC.mp nd).1 (List.of_mem_zip a).1,if_pos hk];simp
 | p::P,w::vs,i + 1,m,nd,h1,h2,hk=>by
   unfold bindL;exact vQv (i:=i) (dC.mp nd).2 (by simpa using h1) (by simpa using h2) hk
theorem vQx{x:Str}{v:Value}:∀{P:List Str} {vs:List Value} {i:Nat} {m:Str->Option Value},P.Nodup->P[i]?=some x->vs[i]?=some v->kindOf x≠some .local ->
  bindC kindOf (P.zip vs) m x=some v
 |[],_,_,_,_,h,_,_=>by simp at h
 |_::_,[],_,_,_,_,h,_=>by simp at h
 | p::P,w::vs,0,m,nd,h1,h2,hk=>by
   simp at h1 h2;subst h1;subst h2;show bindC kindOf ((p,w)::P.zip vs) m p=_;unfold bindC;rw[vQw fun v a=>(dC.mp nd).1 (List.of_mem_zip a).1,if_neg hk];simp
 | p::P,w::vs,i + 1,m,nd,h1,h2,hk=>by
   unfold bindC;exact vQx (i:=i) (dC.mp nd).2 (by simpa using h1) (by simpa using h2) hk
noncomputable def qV7(N:List Str)(vs:List V):St:=vs.map some ++ List.replicate (N.length - vs.length) none
noncomputable def cxOf(CX:CXT)(P:bZ)(w:bP)(K:aQ)(h:Str->Option Value)(base:Heap)(N:List Str)(c:Str)(a:Scope)(f:aZ)(g:Value)(A:cW)(b:List Env)(s:aJ)(H:Hp)(E:XK):Cx where
 prog:=P;w:=w;K:=K;mg:=h;base:=base;A:=A.deeper (envOfC c a s.heap.objs.size f g);N:=N;s₀:=s;H₀:=H;env:=envOfC c a s.heap.objs.size f g;outer:=b;stack:=envOfC c a s.heap.objs.size f g::b;ex:=[]
 calm:=true;fn:=fun _=>true
 pn:=[]
 xe:=fun e i =>aH (model P w) (A.deeper (envOfC c a s.heap.objs.size f g)) (leaving (envOfC c a s.heap.objs.size f g) e) (fun _ d =>CX b H s E e d) (fun j d =>CX b H s E j d) i
theorem cell_has{a:Scope}{x:Str}(h:a.names.lookup x=some .cell):∃c,(cellsFrom n a.names []).lookup x=some c:=by
 have q:=PySem.W.cellsFrom_some a.names n [] (.inl h);exact Option.isSome_iff_exists.mp q
theorem vKe{P:bZ}{w:bP}{f:aZ}{l:Value}{s t:aJ}{E:XK}(S:FnScope N ps scope)(hd:A.handled=none)(a:Env0 P w K mg base A outer s H)(hl:vs.length=ps.length)(r:Vals vs us)(x:InCallC s s.heap.objs.size (bindL (envOfC qual scope s.heap.objs.size f l).kindOf (ps.zip us) fun _=>none) (cellsFrom (s.heap.objs.size+1) scope.names []) (bindC (envOfC qual scope s.heap.objs.size f l).kindOf (ps.zip us) fun _=>none) t):
  Inv (cxOf CX P w K mg base N qual scope f l A outer s H E) [] (qV7 N vs) H t:=by
 have D:ps.length<=N.length:=by have:=congrArg List.length S.pre;rw[bG]at this;omega
 obtain⟨m,I,rfl,B⟩:=x.done;have d:∀b:aZ,b∉(cxOf CX P w K mg base N qual scope f l A outer s H E).ex :=fun b z=>absurd (show b∈([]:List aZ) from z) (by simp)
 refine⟨⟨a.mod,S.kind,rfl,rfl,aB _,fun y z c m o=>?_,fun y hy=>?_,fun y c _ h=>?_,fun _=>hd,Around.frames_deeper a.frames,.inr ⟨rfl,rfl⟩,fun b z=>absurd z (d b),a.bs,a.bsz,fun b _ _=>d b,fun b z=>absurd z (d b),a.funs,a.frf⟩,
  rfl,a.bare,Un.kept B,⟨_,x.toInCall.ns,fun i y v m o J=>?_⟩,fun y c h=>⟨_,x.cell y c h⟩,a.hok.fresh (aB _),fun y c h=>?_,fun p g=>absurd (show p∈([]:List (aZ×Obj)) from g) (by simp),a.hok.kept B,?_⟩
 ·exact name_of_addr x.apart (cY m) (cY o)
 ·have hy:scope.names.lookup y=some .cell \/scope.names.lookup y=some .free :=hy;rcases hy with hy|hy
  ·exact cell_has hy
  ·exact absurd rfl (S.nofree _ (cY hy))
 ·exact Nat.le_of_lt (x.above y c (cY h))
 ·have L:i<vs.length:=by
   unfold qV7 at o;grind
  have F:vs[i]?=some v:=by
   unfold qV7 at o;grind
  obtain⟨u,C,G⟩:=r.get F;have g:ps[i]?=some y:=by
   rw[←S.pre,List.getElem?_take_of_lt (by omega)];exact m
  have j:ps.Nodup:=by rw[←S.pre];exact S.nd.sublist (List.take_sublist _ _)
  refine⟨u,G,?_⟩;rcases S.par y (List.mem_of_getElem? g) with k|k
  ·exact .inl ⟨k,vQv j g C k⟩
  ·obtain⟨c,e⟩:=cell_has (n:=s.heap.objs.size + 1) k;refine .inr ⟨.inl k,c,e,?_⟩;have q:=x.cell y c e;rw[vQx j g C (by show scope.names.lookup y≠_;rw[k];decide)]at q;exact q
 ·exact a.hok.fresh (Nat.le_of_lt (x.above y c (cY h)))
 ·unfold qV7;show _=N.length;grind
theorem jVh{P:bZ}{w:bP}{k:Nat}{f:aZ}{name:Str}{d:Arguments}{F kV i G c L T:Value}{an U:Option aZ}{p:Array (Option Value)}(X:K.lookup f=some ⟨T,U,.func (cJ name qual d body scope F kV i G an c L),p⟩)(z:PySem.W.codeIn K c qual=true)(S:FnScope N ps scope)(len:∀vs H Q E,sp vs H Q E->vs.length=ps.length)(g:∀(A:cW) (a:List Env) (s:aJ) (H:Hp) (vs:List V) (Q:VK) (E:XK),Room k (A.deeper (envOfC qual scope s.heap.objs.size f c))->sp vs H Q E->
   ∃t,PSs (cxOf CX P w K mg base N qual scope f c A a s H E) body t/\t {nx:=fun _ H' =>Q .non H',rt:=Q} (qV7 N vs) H):
  FnOk P w K mg base CX (k+1) f (cJ name qual d body scope F kV i G an c L) ps sp:=by
 refine⟨len,fun A a s H M Y vs Q E B j hb r l=>?_⟩;have Z:=len _ _ _ _ l;have O:K.In s.heap:=j.mod.kin.keeps fun b o e=>(j.bs b o e).1
 have lim:s.heap.NoLimit:=j.mod.nolimit.keeps fun b o e=>(j.bs b o e).1
 have h:∀y∈ps.zip Y,scope.names.lookup y.1=some .local \/(scope.names.lookup y.1=some .cell /\((cellsFrom (s.heap.objs.size+1) scope.names []).lookup y.1).isSome =true):=fun⟨n,v⟩ hy=>by
  rcases S.par n (List.of_mem_zip hy).1 with q|q
  ·exact .inl q
  ·exact .inr ⟨q,PySem.W.cellsFrom_some _ _ _ (.inl q)⟩
 refine codeAny_call_function B.depth (O _ _ X) rfl S.co S.gen rfl (PySem.W.codeRec_of O z) (hb _ _ _ _ ?_);refine wpAny_newFunctionEnv_cells S.kind h fun env he R x=>?_
 subst he;refine⟨lim.keeps x.toInCall.keep,codeAny_func ?_⟩;obtain⟨t,ht,hq⟩:=g A a s H vs Q E (B.deeper _) l;have I:Inv (cxOf CX P w K mg base N qual scope f c A a s H E) [] (qV7 N vs) H R:=vKe S B.hd j Z r x;refine bM (ht [] R (qV7 N vs) H _ I hq) (fun fl C hs=>?_) fun e C hs=>hs
 have m:∀{σ' :St} {H' :Hp} {v:V} {u:Value},Inv (cxOf CX P w K mg base N qual scope f c A a s H E) [] σ' H' C ->RelV v u->Q v H' ->CE a P w H s Q u C :=
  fun {σ' H' v u} J D q=>⟨v,H',J.os,J.bare,J.base,J.hok,D,q⟩
 cases fl with
 | ret u=>
   obtain⟨v,σ',H',J,D,q⟩:=hs;exact m J D q
 | next=>
   obtain⟨σ',H',J,q⟩:=hs;exact m (v:=V.non) (u:=Value.none) J rfl q
 | brk=>
   obtain⟨_,_,_,q⟩:=hs;exact False.elim q
 | cont=>
   obtain⟨_,_,_,q⟩:=hs;exact False.elim q
section
variable{X:Cx}{x:Str}{p pos:Pos}{e:Expr}{es:List Expr}{t:TA}{id T:String}{r:List V->Hp->VK->Prop}
noncomputable def tCB(r:List V->Hp->VK->Prop)(t:TA):TE:=fun σ H Q=>t σ H fun a b=>r a b Q
theorem qJ3(d:jS X (.builtin id) r)(f:Gl X x)(g:X.mg x=none)(i:cH x=some (.builtin id))(j:PA X (e::es) t)(k:x≠"__name__":=by decide)(b:(x == ("__debug__":Str))=false:=by decide)(l:aX (e::es) X.env=(false,eval e X.env)::aX es X.env:=by rfl)(c:(cV pos (aX es X.env)).any (·.1)=false:=by rfl):PE X (.Call (.Name x p) (e::es) [] pos) (tCB r t):=by
 intro a s σ H Q I h;refine dR (qJg I f g i ?_ k b);exact PyProof.Rows.callWith_builtin1 (thn (j pos a s σ H _ I h) fun m n ⟨o,q,u,v,w⟩=>d a n σ q o m Q u v w) l c
theorem qWt(d:jS X (.type T) r)(f:Gl X x)(g:X.mg x=none)(i:cH x=some (.type T))(j:PA X (e::es) t)(k:x≠"__name__":=by decide)(b:(x == ("__debug__":Str))=false:=by decide)(l:aX (e::es) X.env=(false,eval e X.env)::aX es X.env:=by rfl)(c:(cV pos (aX es X.env)).any (·.1)=false:=by rfl):PE X (.Call (.Name x p) (e::es) [] pos) (tCB r t):=by
 intro a s σ H Q I h;refine dR (qJg I f g i ?_ k b);exact cN (thn (j pos a s σ H _ I h) fun m n ⟨o,q,u,v,w⟩=>d a n σ q o m Q u v w) l c
end
end L2
namespace HT
open PySem PyProof.Rows
variable{sl:aZ}{vl vu:Value}{lo hi:Option Int}
section
variable{prog:bZ}{w:bP}{A:cW}{E:Value->aJ->Prop}{s:aJ}
noncomputable def sIx(n d:Nat):Option Int->Nat
 |none=>d
 |some v=>if v<0 then(v+(n:Int)).toNat else min v.toNat n
theorem vXf(n d k:Nat):sIx n d (some (k:Int))=min k n:=by
 show(if(k:Int)<0 then((k:Int)+(n:Int)).toNat else min (k:Int).toNat n)=min k n;rw[if_neg (by omega),Int.toNat_natCast]
theorem zYj(n d:Nat)(hd:d<=n)(o:Option Int):sIx n d o<=n:=by
 cases o with
 |none=>exact hd
 | some v=>
   show(if v<0 then(v+(n:Int)).toNat else min v.toNat n)<=n;by_cases a:v<0
   ·rw[if_pos a];omega
   ·rw[if_neg a];exact Nat.min_le_right _ _
theorem vYe(v:Int)(n d:Nat):(if v<0 then max (v+(n:Int)) 0 else min v (n:Int))=((sIx n d (some v):Nat):Int):=by
 show(if v<0 then max (v+(n:Int)) 0 else min v (n:Int))=(((if v<0 then(v+(n:Int)).toNat else min v.toNat n):Nat):Int);by_cases a:v<0
 ·simp only[if_pos a];omega
 ·simp only[if_neg a];omega
theorem vWx(lo hi:Option Int)(n:Nat):Builtin.Slice.sliceAdjust lo hi 1 (n:Int)=(((sIx n 0 lo:Nat):Int),((sIx n n hi:Nat):Int)):=by
 have a:¬((1:Int)<0):=by omega
 unfold Builtin.Slice.sliceAdjust;simp only[a,if_false];refine Prod.ext ?_ ?_
 ·cases lo with
  |none=>rfl
  |some v=>exact vYe v n 0
 ·cases hi with
  |none=>rfl
  |some v=>exact vYe v n n
theorem vWd(i j:Nat):Builtin.Slice.slicePlaces (i:Int) (j:Int) 1=j - i:=by
 unfold Builtin.Slice.slicePlaces;have a:(1:Int) > 0:=by omega
 simp only[a,if_true,Int.ediv_one];split <;> omega
theorem qY6{v:Value}{o:Option Int}{Q:Option Int->aJ->Prop}(p:IsPart v o)(h:Q o s):aH (model prog w) A (Builtin.Slice.slicePartIndex v) Q E s:=by
 cases p with
 |none=>exact slicePart_none h
 |int i t=>exact slicePart_int h
theorem qW2{n:Nat}{Q:Int×Int×Nat->aJ->Prop}(hs:s.heap.IsSliceOf sl vl vu .none)(pl:IsPart vl lo)(c:IsPart vu hi)(h:Q (((sIx n 0 lo:Nat):Int),1,sIx n n hi - sIx n 0 lo) s):aH (model prog w) A (Builtin.Slice.sliceApplied (.ref sl) (pure (n:Int))) Q E s:=by
 obtain⟨e,a,d,b⟩:=id hs;unfold Builtin.Slice.sliceApplied Builtin.Slice.sliceFields;refine aV (aV (bA a b (x:=vl) rfl (aV (bA a b (x:=vu) rfl (aV (bA a b (x:=.none) rfl (aE ?_)))))));refine aV (slicePart_none ?_);show aH _ _ (if((1:Int) == 0)=true then _ else _) _ _ s;rw[if_neg (by decide)];refine aV (qY6 pl (aV (qY6 c (aV (aE ?_)))));show aH _ _ (match Builtin.Slice.sliceAdjust lo hi 1 (n:Int) with|(lo,hi)=>pure (lo,(1:Int),Builtin.Slice.slicePlaces lo hi 1)) _ _ s;rw[vWx lo hi n];show aH _ _ (pure (((sIx n 0 lo:Nat):Int),(1:Int),Builtin.Slice.slicePlaces ((sIx n 0 lo:Nat):Int) ((sIx n n hi:Nat):Int) 1)) _ _ s;rw[vWd];exact aE h
theorem zVx(xs:Array Value)(i k:Nat):((List.range k).filterMap fun(m:Nat)=>xs[((i:Int)+(m:Int) * 1).toNat]?).toArray =((xs.toList.drop i).take k).toArray :=by
 have e:(fun(m:Nat)=>xs[((i:Int)+(m:Int) * 1).toNat]?)=fun m=>xs[i+m]?:=by
  funext m;have:((i:Int)+(m:Int) * 1).toNat =i+m:=by omega
  rw[this]
 rw[e];have:=pick_run xs i k;rw[List.filterMap_map]at this;have a:((fun x=>xs[x]?) ∘ fun x=>i+x)=fun m=>xs[i+m]?:=rfl
 rw[a]at this;rw[this]
theorem qWd{t:aZ}{a:Array Value}{Q:Value->aJ->Prop}(c:IsTup s.heap t a)(hs:s.heap.IsSliceOf sl vl vu .none)(pl:IsPart vl lo)(i:IsPart vu hi)(j:¬(sIx a.size 0 lo=0/\sIx a.size a.size hi=a.size))(h:Q (.ref s.heap.objs.size) {s with heap:=s.heap.push {cls:=.type "tuple",data:=.seq ((a.toList.drop (sIx a.size 0 lo)).take (sIx a.size a.size hi - sIx a.size 0 lo)).toArray }})(hsz:a.size<=aI):aH (model prog w) A (getItem (.ref t) (.ref sl)) Q E s:=by
 have b:sizeOk (.seq ((a.toList.drop (sIx a.size 0 lo)).take (sIx a.size a.size hi - sIx a.size 0 lo)).toArray):=by
  show((a.toList.drop (sIx a.size 0 lo)).take (sIx a.size a.size hi - sIx a.size 0 lo)).toArray.size<=aI;rw[aN,bG,dY,Array.length_toList];omega
 have n:sIx a.size a.size hi<=a.size:=zYj _ _ (aB _) hi;obtain⟨k,d,e,l⟩:=id hs;have f:s.TypeIs (.ref sl) "slice":=⟨k,d,e⟩
 unfold getItem;try with_reducible refine dA ?_
 first|refine aV (aE ?_)|skip
 refine aV (wpAny_sequenceKey c.typeIs (by decide) ?_)
 refine aV (dJ (name:=Str.ofString "__getitem__") c.typeIs PyProof.Rows.slot_tuple_getitem
  (wpAny_call_entry PyProof.Rows.slot_tuple_getitem c.typeIs entry_tuple_getitem ?_ (args_tuple_getitem _ _)))
 show aH _ _ (Builtin.Tuple.tupleItemsOf (.ref t) >>=_) _ _ s;refine aV (tupleItemsOf_ c ?_);refine aV (wpAny_typeOf f ?_);rw[if_pos (by decide)];refine aV (qW2 hs pl i ?_);have g:¬((((sIx a.size 0 lo:Nat):Int) == 0 && (1:Int) == 1 && (sIx a.size a.size hi - sIx a.size 0 lo) == a.size)=true):=by
  intro q;rw[aP,aP]at q;have o:((sIx a.size 0 lo:Nat):Int)=0:=eq_of_beq q.1.1;have p:sIx a.size a.size hi - sIx a.size 0 lo=a.size:=eq_of_beq q.2;exact j ⟨by omega,by omega⟩
 show aH _ _ (if(((sIx a.size 0 lo:Nat):Int) == 0 && (1:Int) == 1 && (sIx a.size a.size hi - sIx a.size 0 lo) == a.size)=true then _ else _) _ _ s;rw[if_neg g,zVx]
 first
  |exact aV (m:=Builtin.Tuple.tupleExact _) (cI (aE ⟨_,rfl,aE h⟩) b)
  |exact aV (m:=Builtin.Tuple.tupleExact _) (cI (aV (aE (aE ⟨_,rfl,aE h⟩))) b)
  |exact aV (aV (m:=Builtin.Tuple.tupleExact _) (cI (aE (aE ⟨_,rfl,aE h⟩)) b))
  |exact aV (aV (m:=Builtin.Tuple.tupleExact _) (cI (aE ⟨_,rfl,aE h⟩) b))
end
end HT
namespace L2
open PySem PySem.Spec PyProof.Rows
variable{n t':Nat}{i:Int}{pins:List (aZ×Obj)}{σ:St}{H:Hp}{p:aZ}{xs:List V}{its its':List Value}{A:cW}{y:V}{u v:Value}
noncomputable abbrev TO:=St->Hp->(Option Int->Hp->Prop)->Prop
noncomputable def PO(X:Cx)(e:Option Expr)(t:TO):Prop:=
 ∀(pins:List (aZ×Obj)) (s:aJ) (σ:St) (H:Hp) (Q:Option Int->Hp->Prop),Inv X pins σ H s->t σ H Q->
  aH (model X.prog X.w) X.A (evalPart e X.env) (fun u b =>∃o a,Inv X pins σ a b /\IsPart u o/\Q o a) X.xe s
noncomputable def tNoPart:TO:=fun _ H Q=>Q none H
noncomputable def jQi(t:TE):TO:=fun σ H Q=>t σ H fun x a=>∃i,x=.int i/\Q (some i) a
theorem vWp{ns:List Int}:∀{us:List Value},Vals (ns.map V.int) us->IntsAre us ns:=by
 induction ns with
 |nil=>intro us r;cases r;exact .nil
 | cons n ns ih=>
   intro us r;cases r with
   | cons r1 r2=>
     obtain⟨t,e⟩:=r1;subst e;exact .cons n t (ih r2)
section
variable{X:Cx}{e:Expr}{te:TE}{lo hi:Option Expr}{tl th:TO}{pos p2:Pos}
theorem zJz:PO X none tNoPart:=by
 intro a s σ H Q I h;exact aE ⟨none,H,I,.none,h⟩
theorem zJy(h:PE X e te):PO X (some e) (jQi te):=by
 intro a s σ H Q I hw;refine thn (h a s σ H _ I hw) fun u g ⟨x,b,c,d,f⟩=>?_
 obtain⟨i,rfl,q⟩:=f;obtain⟨t,rfl⟩:=d;exact⟨some i,b,c,.int i t,q⟩
noncomputable def SlR(X:Cx)(r:V->Option Int->Option Int->Hp->VK->Prop):Prop:=
 ∀(pins:List (aZ×Obj)) (s:aJ) (σ:St) (H:Hp) (x:V) (v vl vu:Value) (lo hi:Option Int) (sl:aZ) (Q:VK),Inv X pins σ H s->RelV x v->s.heap.IsSliceOf sl vl vu .none ->IsPart vl lo->IsPart vu hi->r x lo hi H Q->
  ∃T a,typeLookup (.type T) "__getitem__"=pure (some (.builtin a))/\s.TypeIs v T/\aH (model X.prog X.w) X.A (getItem v (.ref sl)) (EP X pins σ Q) X.xe s
noncomputable def tSl(r:V->Option Int->Option Int->Hp->VK->Prop)(a:TE)(b c:TO):TE:=fun σ H Q=>a σ H fun x d=>b σ d fun l e=>c σ e fun u f=>r x l u f Q
theorem qYu{r:V->Option Int->Option Int->Hp->VK->Prop}(i:SlR X r)(j:PE X e te)(hl:PO X lo tl)(k:PO X hi th):PE X (.Subscript e (.Slice lo hi none p2) pos) (tSl r te tl th):=by
 intro a s σ H Q I h;refine Subscript_ (thn (j a s σ H _ I h) fun v m ⟨x,n,o,p,t⟩=>?_);refine wpAny_Slice (thn (hl a m σ n _ o t) fun d y ⟨l,z,B,C,D⟩=>thn (k a y σ z _ B D) fun f c ⟨u,g,E,F,G⟩=>?_);rw[evalPart_none];refine aE ?_
 have J:Inv X a σ g {c with heap:=c.heap.push {cls:=.type "slice",data:=.fields #[d,f,.none]}}:=E.kept (t' :=c.toks) fun b N q=>aY _ q
 obtain⟨T,O,K,L,M⟩:=i a {c with heap:=c.heap.push {cls:=.type "slice",data:=.fields #[d,f,.none]}} σ g x v d f l u c.heap.objs.size Q J p (Heap.IsSliceOf.new ..) C F G;show aH (model X.prog X.w) X.A (subscriptTail e (.Slice lo hi none p2) v (.ref c.heap.objs.size)) (EP X a σ Q) X.xe {c with heap:=c.heap.push {cls:=.type "slice",data:=.fields #[d,f,.none]}};exact tail_any (ops:=[.ref c.heap.objs.size,v]) L K M (by with_unfolding_all rfl)
noncomputable def cutV(xs:List V)(lo hi:Option Int):List V:=(xs.drop (HT.sIx xs.length 0 lo)).take (HT.sIx xs.length xs.length hi - HT.sIx xs.length 0 lo)
theorem qXm(xs:List V)(lo hi:Option Int):(cutV xs lo hi).length <=xs.length:=by
 unfold cutV;rw[bG,dY];omega
noncomputable def rSlT(K:aQ):V->Option Int->Option Int->Hp->VK->Prop:=fun x c d H Q=>∃a b,x=.ref a/\SqT K H a b/\
 ¬(HT.sIx b.length 0 c=0/\HT.sIx b.length b.length d=b.length)/\∀p,H p=none->Q (.ref p) (upd H p (.tup (cutV b c d)))
theorem zYe:SlR X (rSlT X.K):=by
 intro f s σ H x v vl vu lo hi sl Q I rx hs pl pu h;obtain⟨a,d,rfl,j,k,q⟩:=h;cases rx;obtain⟨e,r,g,i⟩:=I.tuple j;have c:e.toArray.size=d.length:=by rw[aN];exact r.length.symm
 refine⟨"tuple",_,PyProof.Rows.slot_tuple_getitem.lookup,g.typeIs,?_⟩;refine HT.qWd g hs pl pu (by rw[c];exact k) ?_ (by rw[c];exact i)
 rw[c];refine⟨.ref s.heap.objs.size,_,I.laid (t' :=s.toks) (o:=.tup (cutV d lo hi)) (fun b l q=>aY _ q) (aB _) ?_,rfl,q _ (I.hok.fresh (aB _))⟩;exact⟨aG (qXm d lo hi) i,_,(r.drop (HT.sIx d.length 0 lo)).take (HT.sIx d.length d.length hi - HT.sIx d.length 0 lo),IsTup.new _ _⟩
end
noncomputable def ixN(n:Nat)(i:Int):Option Nat:=if 0<=i then(if i<n then some i.toNat else none) else if -(n:Int)<=i then some (i+n).toNat else none
noncomputable def atI{α:Type}(xs:List α)(i:Int):Option α:=(ixN xs.length i).bind fun j=>xs[j]?
theorem vVk{j:Nat}(h:ixN n i=some j):seqIndex? i n=some j/\j<n/\ -(n:Int)<=i/\i<n:=by
 unfold ixN at h;by_cases b:0<=i
 ·rw [if_pos b] at h;by_cases a:i<n
  ·rw [if_pos a] at h;have e:i.toNat=j:=Option.some.inj h;exact⟨by rw[seqIndex_of b a,e],by omega,by omega,a⟩
  ·rw[if_neg a]at h;cases h
 ·rw [if_neg b] at h;by_cases a: -(n:Int)<=i
  ·rw [if_pos a] at h;have e:(i+n).toNat =j:=Option.some.inj h;exact⟨by rw[seqIndex_neg (by omega) a,e],by omega,a,by omega⟩
  ·rw[if_neg a]at h;cases h
theorem vVq{α:Type}{xs:List α}{v:α}(h:atI xs i=some v):∃j,seqIndex? i xs.length=some j/\xs[j]?=some v/\j<xs.length/\ -(xs.length:Int)<=i/\i<xs.length:=by
 unfold atI at h;cases e:ixN xs.length i with
 |none=>rw[e]at h;cases h
 | some j=>
   rw[e]at h;obtain⟨a,b,c,d⟩:=vVk e;exact⟨j,a,h,b,c,d⟩
noncomputable def qX4(b:Expr):Prop:=∀o i,subscripted b false o i=operate [o,i] (getItem o i)
noncomputable def IxR(X:Cx)(r:R2):Prop:=
 ∀(value slice:Expr) (pins:List (aZ×Obj)) (s:aJ) (σ:St) (H:Hp) (x y:V) (v u:Value) (Q:VK),Inv X pins σ H s->RelV x v->RelV y u->r x y H Q->
  subscripted slice false v u=operate [v,u] (getItem v u)->aH (model X.prog X.w) X.A (subscriptTail value slice v u) (EP X pins σ Q) X.xe s
noncomputable def MtR(X:Cx)(a:String)(r:V->List V->Hp->VK->Prop):Prop:=
 ∀(pins:List (aZ×Obj)) (s:aJ) (σ:St) (H:Hp) (x:V) (xs:List V) (v:Value) (us:List Value) (Q:VK),Inv X pins σ H s->RelV x v->Vals xs us->r x xs H Q->
  aH (model X.prog X.w) X.A (call (.builtin a) (v::us)) (EP X pins σ Q) X.xe s
section
variable{X:Cx}{a b:Expr}{ta tb:TE}{pos:Pos}
theorem IxR.or{r r' :R2}(h:IxR X r)(h' :IxR X r'):IxR X (fun x y H Q=>r x y H Q\/r' x y H Q):=by
 intro a b c s σ H x y v u Q I rx ry q hs;rcases q with q|q
 ·exact h a b c s σ H x y v u Q I rx ry q hs
 ·exact h' a b c s σ H x y v u Q I rx ry q hs
theorem jQu{r:R2}(d:IxR X r)(e:PE X a ta)(hb:PE X b tb)(hs:qX4 b):PE X (.Subscript a b pos) (tOp r ta tb):=by
 intro c s σ H Q I h;exact Subscript_ (binT e hb I h fun v u f x y g i j k q=>d a b c f σ g x y v u Q i j k q (hs _ _))
noncomputable def rIxL(K:aQ):R2:=fun x y H Q=>∃p a i v,x=.ref p/\y=.int i/\SqL K H p a/\atI a i=some v/\Q v H
noncomputable def rIxT(K:aQ):R2:=fun x y H Q=>∃p a i v,x=.ref p/\y=.int i/\SqT K H p a/\atI a i=some v/\Q v H
noncomputable def rIxS:R2:=fun x y H Q=>∃z i c,x=.str z/\y=.int i/\z.length<=aI/\atI z.cps.toList i=some c/\Q (.str ⟨#[c]⟩) H
theorem zWi:IxR X (rIxL X.K):=by
 intro d e a s σ H x y v u Q I rx ry h hs;obtain⟨p,G,i,z,rfl,rfl,o,A,q⟩:=h;cases rx;obtain⟨t,rfl⟩:=ry;obtain⟨f,r,g,J⟩:=I.list o;obtain⟨j,c,B,L,C,D⟩:=vVq A;obtain⟨w,m,k⟩:=r.get B;have E:=r.length;have M:=qWj;have b:EP X a σ Q w s:=⟨z,H,I,k,q⟩
 by_cases n:0<=i
 ·have l:i.toNat=j:=by
   rw[seqIndex_of n D]at c;exact Option.some.inj c
  exact item_listR g.isList n (by omega) (by rw[l];simpa using m) b hs
 ·have l:(i+(f.toArray.size:Int)).toNat =j:=by
   rw[seqIndex_neg (by omega) C]at c;rw[aN,←E];exact Option.some.inj c
  exact subscriptTail_builtinR (x:=w) g.isList.typeIs slot_list_getitem.lookup
   (wpAny_getItem_list_neg (Q:=fun r F =>r=w/\EP X a σ Q r F) g.isList (by omega) (by rw[aN] <;> omega) (by omega) (by rw[l];simpa using m) ⟨rfl,b⟩) hs
theorem zKp:IxR X (rIxT X.K):=by
 intro b c a s σ H x y v u Q I rx ry h hs;obtain⟨p,C,i,z,rfl,rfl,g,k,q⟩:=h;cases rx;obtain⟨t,rfl⟩:=ry;obtain⟨l,r,f,D⟩:=I.tuple g;obtain⟨j,m,n,E,F,G⟩:=vVq k;obtain⟨w,o,d⟩:=r.get n;have A:=r.length;have J:=qWj;have e:EP X a σ Q w s:=⟨z,H,I,d,q⟩
 exact subscriptTail_builtinR (x:=w) f.typeIs slot_tuple_getitem.lookup
  (getItem_tuple (j:=j) (Q:=fun r B =>r=w/\EP X a σ Q r B) f (by omega) (by omega) (by rw[aN,←A];exact m) (by simpa using o) ⟨rfl,e⟩) hs
theorem zKq:IxR X rIxS:=by
 intro a b d s σ H x y v u Q I rx ry h hs;obtain⟨z,i,c,rfl,rfl,p,f,q⟩:=h;obtain⟨t,rfl⟩:=rx;obtain⟨r,rfl⟩:=ry;obtain⟨j,e,g,w,k,l⟩:=vVq f;have m:z.cps.toList.length=z.length:=by simp[Str.length]
 rw[m]at e k l;have A:=qWj;exact tail_any (typeIs_str s z t) slot_str_getitem.lookup (getItem_str (c:=c) (by
  have n:decide (i < -(2 ^ 63:Int))=false:=decide_eq_false (by omega);have o:decide (i≥2 ^ 63)=false:=decide_eq_false (by omega);rw[n,o,Bool.or_false]) (by rw[e];simpa using g) ⟨.str ⟨#[c]⟩,H,I.tok _,⟨_,rfl⟩,q⟩) hs
noncomputable def rIx(K:aQ):R2:=fun x y H Q=>rIxL K x y H Q\/rIxT K x y H Q\/rIxS x y H Q
theorem zKr:IxR X (rIx X.K):=zWi.or (zKp.or zKq)
theorem vWm(a:List Value)(n j:Nat)(u:Value):Obj.mapSeq (·.setIfInBounds j u) {cls:=.type "list",data:=.seq a.toArray n}={cls:=.type "list",data:=.seq (a.set j u).toArray n}:=by
 simp[Obj.mapSeq]
theorem Inv.lst{s:aJ}(I:Inv X pins σ H s)(h:H p=some (.lst xs)):
  ∃(a:List Value) (n:Nat),Vals xs a/\s.heap.get? p=some {cls:=.type "list",data:=.seq a.toArray n}/\xs.length<=aI:=by
 obtain⟨z,a,n,r,e⟩:=I.hok p _ h;exact⟨a,n,r,e,z⟩
theorem Inv.lstUpd{s:aJ}{ys:List V}{a:Nat}{f:Obj->Obj}(I:Inv X pins σ H s)(h:H p=some (.lst xs))(d:s.heap.get? p=some {cls:=.type "list",data:=.seq its.toArray n})(c:f {cls:=.type "list",data:=.seq its.toArray n}={cls:=.type "list",data:=.seq its'.toArray a })(r:Vals ys its')(g:ys.length<=aI)(t:Nat):
  Inv X pins σ (upd H p (.lst ys)) {s with heap:=s.heap.update p f,toks:=t}:=by
 have e:(s.heap.update p f).get? p=some {cls:=.type "list",data:=.seq its'.toArray a }:=by
  rw[dN f d (by rw[c] <;> rfl),c]
 refine I.write (x:=p) (e:=p) (by rw[h];trivial) (.inl rfl) (fun b u hb q=>(dL _ _ (Ne.symm hb)).trans q) ⟨_,e⟩ ?_
 exact⟨g,its',a,r,e⟩
noncomputable def rSetL:V->V->V->Hp->(Hp->Prop)->Prop:=fun o i v H Q=>∃p a k j,o=.ref p/\i=.int k/\H p=some (.lst a)/\ixN a.length k=some j/\Q (upd H p (.lst (a.set j v)))
theorem zVm:PSet X rSetL:=by
 intro a s σ H o i v ov iv u Q I ro ri rv h;obtain⟨p,y,k,j,rfl,rfl,g,z,q⟩:=h;cases ro;obtain⟨t,rfl⟩:=ri;obtain⟨b,n,r,d,A⟩:=I.lst g;obtain⟨c,B,l,m⟩:=vVk z;have e:=r.length;have C:=qWj;have w :Inv X a σ (upd H p (.lst (y.set j v))) {s with heap:=s.heap.update p (Obj.mapSeq (·.setIfInBounds j u))}:=
  I.lstUpd g d (vWm b n j u) (r.set rv j) (by rw[bS];exact A) s.toks
 by_cases x:0<=k
 ·have f:k.toNat=j:=by
   rw[seqIndex_of x m]at c;exact Option.some.inj c
  exact PySem.W.ki_setAt d x (by omega) (by rw[aN,←e];exact m) (by rw[f];exact⟨_,w,q⟩)
 ·have f:(k+(b.toArray.size:Int)).toNat =j:=by
   rw[seqIndex_neg (by omega) l]at c;rw[aN,←e];exact Option.some.inj c
  exact PySem.W.ki_setBack d (by omega) (by rw[aN,←e];exact l) (by omega) (by rw[f];exact⟨_,w,q⟩)
theorem vVv(lo hi:Option Int)(n:Nat):(sliceBounds lo hi none n).1=((HT.sIx n 0 lo:Nat):Int)/\(sliceBounds lo hi none n).2.1=((HT.sIx n n hi:Nat):Int)/\(sliceBounds lo hi none n).2.2=1:=by
 refine⟨?_,?_,rfl⟩
 ·cases lo with
  |none=>simp[sliceBounds,HT.sIx]
  | some i=>
    simp only[sliceBounds,HT.sIx,Option.getD_none,if_true];grind
 ·cases hi with
  |none=>simp[sliceBounds,HT.sIx]
  | some i=>
    simp only[sliceBounds,HT.sIx,Option.getD_none,if_true];grind
theorem qKn(a:List Value)(lo hi:Option Int):slicePick a.toArray lo hi none=((a.drop (HT.sIx a.length 0 lo)).take (HT.sIx a.length a.length hi - HT.sIx a.length 0 lo)).toArray :=by
 obtain⟨b,c,d⟩:=vVv lo hi a.toArray.size;unfold slicePick;rw[b,c,d];simp only[sliceRange_one,pick_run] <;> rfl
noncomputable def rSlL(K:aQ):V->Option Int->Option Int->Hp->VK->Prop:=fun x c d H Q=>∃a b,x=.ref a/\SqL K H a b/\∀p,H p=none->Q (.ref p) (upd H p (.lst (cutV b c d)))
theorem zJa:SlR X (rSlL X.K):=by
 intro e s σ H x v vl vu lo hi sl Q I rx hs pl pu h;obtain⟨a,c,rfl,g,q⟩:=h;cases rx;obtain⟨i,r,f,j⟩:=I.list g;have d:=r.length;refine⟨"list",_,slot_list_getitem.lookup,f.isList.typeIs,?_⟩;refine wpAny_getItem_list_slice f.isList hs pl pu .none (by simp) ?_ (by rw[aN] <;> omega)
 rw[qKn,←d];refine⟨.ref s.heap.objs.size,_,I.laid (t' :=s.toks) (o:=.lst (cutV c lo hi)) (fun b k q=>aY _ q) (aB _) ?_,rfl,q _ (I.hok.fresh (aB _))⟩;exact⟨aG (qXm c lo hi) j,_,0,(r.drop (HT.sIx c.length 0 lo)).take (HT.sIx c.length c.length hi - HT.sIx c.length 0 lo),aS _ rfl⟩
noncomputable def qZ6:V->Bool
 |.non =>true
 |.bl _=>true
 |.int _=>true
 |.str _=>true
 |_=>false
noncomputable def eqV:V->V->Bool
 |.non,.non =>true
 |.bl a,.bl b=>a == b
 |.bl a,.int b=>(if a then 1 else 0) == b
 |.int a,.bl b=>a == (if b then 1 else 0)
 |.int a,.int b=>a == b
 |.str a,.str b=>a == b
 |_,_=>false
theorem zK6{s:aJ}{x:V}(e:RelV y u)(c:RelV x v)(g:qZ6 y=true)(f:qZ6 x=true):eW A s u v (eqV y x):=by
 cases y with
 | non=>
   cases e;cases x with
   |non=>cases c;exact SeqAt.EqAt.same _
   |bl b=>cases c;exact SeqAt.EqAt.none_bool b
   |int b=>obtain⟨t,rfl⟩:=c;exact SeqAt.EqAt.none_int b t
   |str b=>obtain⟨t,rfl⟩:=c;exact SeqAt.EqAt.none_str b t
   |_=>exact absurd (show false=true from f) aR
 | bl a=>
   cases e;cases x with
   |non=>cases c;exact SeqAt.EqAt.bool_none a
   |bl b=>cases c;exact SeqAt.EqAt.bool_bool a b
   |int b=>obtain⟨t,rfl⟩:=c;exact SeqAt.EqAt.bool_int a b t
   |str b=>obtain⟨t,rfl⟩:=c;exact SeqAt.EqAt.bool_str a b t
   |_=>exact absurd (show false=true from f) aR
 | int a=>
   obtain⟨d,rfl⟩:=e;cases x with
   |non=>cases c;exact SeqAt.EqAt.int_none a d
   |bl b=>cases c;exact SeqAt.EqAt.int_bool a d b
   |int b=>obtain⟨t,rfl⟩:=c;exact SeqAt.EqAt.int_int a d b t
   |str b=>obtain⟨t,rfl⟩:=c;exact SeqAt.EqAt.int_str a d b t
   |_=>exact absurd (show false=true from f) aR
 | str a=>
   obtain⟨d,rfl⟩:=e;cases x with
   |non=>cases c;exact SeqAt.EqAt.str_none a d
   |bl b=>cases c;exact SeqAt.EqAt.str_bool a d b
   |int b=>obtain⟨t,rfl⟩:=c;exact SeqAt.EqAt.str_int a d b t
   |str b=>obtain⟨t,rfl⟩:=c;exact SeqAt.EqAt.str_str a d b t
   |_=>exact absurd (show false=true from f) aR
 |_=>exact absurd (show false=true from g) aR
noncomputable def eqU(x:V)(u:Value):Bool:=match u with
 |.none =>eqV .non x
 |.bool b=>eqV (.bl b) x
 |.int i _=>eqV (.int i) x
 |.str z _=>eqV (.str z) x
 |_=>false
theorem zQ8{x:V}(r:RelV y u)(f:qZ6 y=true):eqU x u=eqV y x:=by
 cases y with
 |non=>cases r;rfl
 |bl b=>cases r;rfl
 |int i=>obtain⟨t,rfl⟩:=r;rfl
 |str z=>obtain⟨t,rfl⟩:=r;rfl
 |_=>exact absurd (show false=true from f) aR
theorem qJz{x:V}:∀{xs:List V} {us:List Value},Vals xs us->xs.all qZ6=true->us.any (eqU x)=xs.any fun y=>eqV y x
 |_,_,.nil,_=>rfl
 | y::xs,u::us, .cons r t,f=>by
   rw[dM,aP]at f;rw[List.any_cons,List.any_cons,zQ8 r f.1,qJz t f.2]
theorem qZg{s:aJ}{x:V}(a:RelV x v)(b:qZ6 x=true):∀{xs:List V} {us:List Value},Vals xs us->xs.all qZ6=true->∀u∈us,eW A s u v (eqU x u)
 |_,_,.nil,_=>fun u hu=>by cases hu
 | y::xs,u::us, .cons r t,f=>fun c hu=>by
   rw[dM,aP]at f;rcases aA.mp hu with rfl|hu
   ·rw[zQ8 r f.1];exact zK6 r a f.1 b
   ·exact qZg a b t f.2 c hu
noncomputable def inV(x:V)(xs:List V):Bool:=xs.any fun y=>eqV y x
noncomputable def rIn(K:aQ)(neg:Bool):R2:=fun x y H Q=>∃p a,y=.ref p/\(SqL K H p a\/SqT K H p a)/\qZ6 x=true/\a.all qZ6=true/\Q (.bl (if neg then !inV x a else inV x a)) H
theorem vY4:OpR X (cR .In) (rIn X.K false):=by
 intro d s σ H x y v u Q I rx ry h;obtain⟨p,g,rfl,hq,e,fs,q⟩:=h;cases ry;rcases hq with hq|hq
 ·obtain⟨a,r,b,f⟩:=I.list hq;refine SeqAt.in_listAt (eqU x) b.isList (fun w c=>qZg rx e r fs w (by simpa using c)) ⟨.bl _,H,I,rfl,?_⟩;rw[show a.toArray.any (eqU x)=a.any (eqU x) by simp,qJz r fs];exact q
 ·obtain⟨a,r,b,f⟩:=I.tuple hq;refine SeqAt.in_tupleAt (eqU x) b (fun w c=>qZg rx e r fs w (by simpa using c)) ⟨.bl _,H,I,rfl,?_⟩;rw[show a.toArray.any (eqU x)=a.any (eqU x) by simp,qJz r fs];exact q
theorem vVx:OpR X (cR .NotIn) (rIn X.K true):=by
 intro d s σ H x y v u Q I rx ry h;obtain⟨p,g,rfl,hq,e,fs,q⟩:=h;cases ry;rcases hq with hq|hq
 ·obtain⟨a,r,b,f⟩:=I.list hq;refine SeqAt.notIn_listAt (eqU x) b.isList (fun w c=>qZg rx e r fs w (by simpa using c)) ⟨.bl _,H,I,rfl,?_⟩;rw[show a.toArray.any (eqU x)=a.any (eqU x) by simp,qJz r fs];exact q
 ·obtain⟨a,r,b,f⟩:=I.tuple hq;refine SeqAt.notIn_tupleAt (eqU x) b (fun w c=>qZg rx e r fs w (by simpa using c)) ⟨.bl _,H,I,rfl,?_⟩;rw[show a.toArray.any (eqU x)=a.any (eqU x) by simp,qJz r fs];exact q
theorem vV3:jS X (.builtin "len") (fun xs H Q=>∃p ys,xs=[.ref p]/\(SqL X.K H p ys\/SqT X.K H p ys)/\Q (.int ys.length) H):=by
 intro e s σ H xs us Q I r h;obtain⟨p,ys,rfl,hq,q⟩:=h;obtain⟨u,rfl,f⟩:=qV6 r;cases f;have i:=qWj;rcases hq with hq|hq
 ·obtain⟨b,c,d,g⟩:=I.list hq;have a:=c.length;exact Calls.call_len_list d.isList (by simp only[aN] <;> omega) ⟨.int ys.length,H,I.tok _,⟨s.toks+1,by rw[aN,a]⟩,q⟩
 ·obtain⟨b,c,d,g⟩:=I.tuple hq;have a:=c.length;exact len_tuple d (by simp only[aN] <;> omega) ⟨.int ys.length,H,I.tok _,⟨s.toks+1,by rw[aN,a]⟩,q⟩
theorem vV2:jS X (.builtin "len") (fun xs H Q=>∃z,xs=[.str z]/\z.length<=aI/\Q (.int z.length) H):=by
 intro a s σ H xs us Q I r h;obtain⟨z,rfl,b,q⟩:=h;obtain⟨u,rfl,t,rfl⟩:=qV6 r;have c:=qWj;exact len_str (by omega) ⟨.int z.length,H,I.tok _,⟨_,rfl⟩,q⟩
theorem jS.or{f:Value}{r r' :List V->Hp->VK->Prop}(h:jS X f r)(h' :jS X f r'):jS X f (fun xs H Q=>r xs H Q\/r' xs H Q):=by
 intro a s σ H xs us Q I rs q;rcases q with q|q
 ·exact h a s σ H xs us Q I rs q
 ·exact h' a s σ H xs us Q I rs q
theorem vV1:jS X (.type "list") (fun xs H Q=>∃p ys,xs=[.ref p]/\(SqL X.K H p ys\/SqT X.K H p ys)/\∀l,H l=none->Q (.ref l) (upd H l (.lst ys))):=by
 intro g s σ H xs us Q I r h;obtain⟨p,ys,rfl,hq,q⟩:=h;obtain⟨u,rfl,A⟩:=qV6 r;cases A
 have i:∀(a:List Value),Vals ys a->ys.length<=aI->∀(c :Heap) (d :Nat),(∀b z,s.heap.get? b=some z ->c.get? b=some z)->
   c.get? s.heap.objs.size=some {cls:=.type "list",dict:=none,data:=.seq a.toArray d,slots:=#[]}->EP X g σ Q (.ref s.heap.objs.size) {s with heap:=c }:=fun a f j c d k e=>
  ⟨.ref s.heap.objs.size,_,I.laid (t' :=s.toks) k (aB _) (show vT X.prog X.w _ c _ (.lst ys) from⟨j,a,d,f,e⟩),rfl,q _ (I.hok.fresh (aB _))⟩
 rcases hq with hq|hq
 ·obtain⟨a,f,t,j⟩:=I.list hq;have m:=f.length;obtain⟨o,v,x,n,y⟩:=t.isList;exact call_list_seq p (.inl rfl) v x y (fun c d k e=>i a f j c d k e) (by simp only[aN] <;> omega)
 ·obtain⟨a,f,t,j⟩:=I.tuple hq;have m:=f.length;obtain⟨o,v,x,n,y⟩:=t;exact call_list_seq p (.inr rfl) v x y (fun c d k e=>i a f j c d k e) (by simp only[aN] <;> omega)
theorem qKu:jS X (.type "tuple") (fun xs H Q=>∃p ys,xs=[.ref p]/\((SqL X.K H p ys/\∀l,H l=none->Q (.ref l) (upd H l (.tup ys)))\/(SqT X.K H p ys/\Q (.ref p) H))):=by
 intro a s σ H xs us Q I r h;obtain⟨p,ys,rfl,h⟩:=h;obtain⟨u,rfl,n⟩:=qV6 r;cases n;rcases h with⟨f,q⟩|⟨f,q⟩
 ·obtain⟨c,g,i,j⟩:=I.list f;have k:=g.length;refine call_tuple_list i.isList (fun d t=>?_) (by simp only[aN] <;> omega);have m:Inv X a σ H {s with heap:=d }:=I.kept (t' :=s.toks) t;have v:Inv X a σ (upd H d.objs.size (.tup ys)) {s with heap:=d.push {cls:=.type "tuple",data:=.seq c.toArray}}:=
   m.laid (t' :=s.toks) (fun b o e=>aY _ e) (aB _) (show vT X.prog X.w _ _ _ (.tup ys) from⟨j,c,g,IsTup.new _ _⟩)
  exact⟨.ref d.objs.size,_,v,rfl,q _ (m.hok.fresh (aB _))⟩
 ·obtain⟨c,g,i,j⟩:=I.tuple f;exact call_tuple_same i ⟨.ref p,H,I,rfl,q⟩
noncomputable def tyV(K:aQ)(T:String)(x:V)(H:Hp):Prop:=match x with
 |.str _=>T="str"
 |.int _=>T="int"
 | .ref p=>(T="list"/\∃b,SqL K H p b)\/(T="tuple"/\∃o,K.lookup p=some o/\o.cls= .type "tuple"/\o.dict=none)\/
   (T="dict"/\((∃a,H p=some (.dK a))\/∃a,H p=some (.dT a)))\/(T="set"/\∃S n,H p=some (.set S n))
 |_=>False
theorem zX5{s:aJ}{T:String}{x:V}(I:Inv X pins σ H s)(r:RelV x v)(f:tyV X.K T x H):
  s.TypeIs v T/\∀a,v=.ref a->∃ob,s.heap.get? a=some ob/\ob.dict=none:=by
 cases x with
 | str z=>
   obtain⟨t,rfl⟩:=r;cases(show T="str" from f);exact⟨typeIs_str s z t,fun _ e=>nomatch e⟩
 | int i=>
   obtain⟨t,rfl⟩:=r;cases(show T="int" from f);exact⟨typeIs_int s i t,fun _ e=>nomatch e⟩
 | ref p=>
   cases r;rcases f with⟨rfl,u,l⟩|⟨rfl,o,b,m,g⟩|⟨rfl,b⟩|⟨rfl,S,n,b⟩
   ·obtain⟨q,_,k,_⟩:=I.list l;refine⟨k.isList.typeIs,fun a e=>?_⟩;cases e;obtain⟨o,n,e,c,g,_⟩:=k;exact⟨o,e,g⟩
   ·refine⟨⟨o,I.kIn p o b,m⟩,fun a e=>?_⟩;cases e;exact⟨o,I.kIn _ o b,g⟩
   ·have z:∃o,s.heap.get? p=some o/\o.ExactDict:=by
     rcases b with⟨h,b⟩|⟨h,b⟩
     ·obtain⟨_,_,_,_,o,_,_,e,d,_⟩:=I.hok p _ b;exact⟨o,e,d⟩
     ·obtain⟨_,_,_,_,o,_,_,e,d,_⟩:=I.hok p _ b;exact⟨o,e,d⟩
    obtain⟨o,e,d⟩:=z;refine⟨⟨o,e,d.1⟩,fun a j=>?_⟩;cases j;exact⟨o,e,d.2.1⟩
   ·obtain⟨o,_,_,_,e,d,_⟩:=I.hok p _ b;refine⟨⟨o,e,d.1⟩,fun a j=>?_⟩;cases j;exact⟨o,e,d.2.1⟩
 |_=>exact False.elim f
noncomputable def tBM(K:aQ)(T:String)(r:V->List V->Hp->VK->Prop)(to:TE)(t:TA):TE:=fun σ H Q=>to σ H fun x a=>tyV K T x a/\t σ a fun b c=>r x b c Q
variable{o e:Expr}{es:List Expr}{to:TE}{t:TA}{name:Str}{apos cpos:Pos}{T id:String}{r:V->List V->Hp->VK->Prop}
theorem jQv(m:PlainAttrs T)(f:Slot T name id)(i:typeOf (.builtin id)=pure (.type "method_descriptor"))(n:MtR X id r)(p:PE X o to)(q:PA X (e::es) t)(c:attributeBase o name X.env (eval o X.env)=eval o X.env:=by rfl)(g:((cV cpos (aX (e::es) X.env)).all (fun x=>!x.1) && (backToKw cpos (keywordEach [] X.env)).all (fun x=>x.1.isSome)
   && decide ((e::es).length+([]:List Keyword).length+(if([]:List Keyword).isEmpty then 0 else 1)<30))=true:=by rfl)(d:(apos.endLine == cpos.line)=true:=by rfl)(hs:aX (e::es) X.env=(false,eval e X.env)::aX es X.env:=by rfl)(b:(cV cpos (aX es X.env)).any (·.1)=false:=by rfl):
  PE X (.Call (.Attribute o name apos) (e::es) [] cpos) (tBM X.K T r to t):=by
 intro a s σ H Q I h;refine wpAny_Call_method_late c g d rfl (thn (p a s σ H _ I h) fun v u ⟨x,w,j,k,y,z⟩=>?_);obtain⟨A,B⟩:=zX5 j k y;refine⟨T,id,m,f,i,A,B,?_⟩;have l:=q cpos a u σ w _ j z;rw[hs]at l⊢;refine Calls.callWith_builtin (by show(false || (cV cpos (aX es X.env)).any (·.1))=false;rw[b] <;> rfl) (Calls.evalArgs_plain ?_);exact thn l fun C D ⟨E,F,G,J,L⟩=>n a D σ F x E v C Q G k J L
end
noncomputable def MtM(X:Cx)(a:String)(r:V->List V->Hp->VK->Prop):Prop:=
 ∀(pins:List (aZ×Obj)) (s:aJ) (σ:St) (H:Hp) (x:V) (xs:List V) (v:Value) (us:List Value) (Q:VK),Inv X pins σ H s->RelV x v->Vals xs us->r x xs H Q->
  aH (model X.prog X.w) X.A (call (.builtin a) (v::us)) (EP X pins σ Q) X.xe s
theorem Vals.one:∀{x:V} {us:List Value},Vals [x] us->∃u,us=[u]/\RelV x u
 |_,_,.cons r .nil =>⟨_,rfl,r⟩
section
variable{X:Cx}{pins:List (aZ×Obj)}{σ:St}{H:Hp}{s:aJ}{l b:aZ}{xs ys zs:List V}
theorem Inv.lset{f:Array Value->Array Value}(I:Inv X pins σ H s)(a:H l=some (.lst xs))(e:s.heap.get? l=some {cls:=.type "list",data:=.seq its.toArray n})(b:f its.toArray=its'.toArray)(c:Vals ys its')(d:ys.length<=aI):
  Inv X pins σ (upd H l (.lst ys)) {s with heap:=s.heap.update l (Obj.mapSeq f),toks:=t' }:=by
 have q:=PySem.IsL.update e f;rw[b]at q;refine I.write (x:=l) (e:=l) (by rw[a];exact trivial) (.inl rfl) (fun h u hb g=>(dL s.heap (Obj.mapSeq f) (Ne.symm hb)).trans g) ⟨_,q⟩ ?_
 exact⟨d,its',_,c,q⟩
theorem Inv.lnew(I:Inv X pins σ H s)(a:Vals ys its)(b:ys.length<=aI):
  Inv X pins σ (upd H s.heap.objs.size (.lst ys)) {s with heap:=s.heap.push {cls:=.type "list",data:=.seq its.toArray},toks:=t' }:=
 I.laid (fun _ _ q=>aY _ q) (aB _) ⟨b,its,0,a,aS _ rfl⟩
theorem Inv.fresh(I:Inv X pins σ H s):H s.heap.objs.size=none:=I.hok.fresh (aB _)
theorem Inv.lstM(I:Inv X pins σ H s)(b:H l=some (.lst xs)):xs.length<=aI/\∃(a:List Value) (n:Nat),Vals xs a/\xs.length=a.length/\s.heap.get? l=some {cls:=.type "list",data:=.seq a.toArray n}:=by
 obtain⟨z,a,n,r,e⟩:=I.hok l _ b;exact⟨z,a,n,r,r.length,e⟩
end
section
variable{X:Cx}
noncomputable def rAppend:V->List V->Hp->VK->Prop:=fun x b H Q=>∃l a y,x=.ref l/\b=[y]/\H l=some (.lst a)/\a.length<aI/\Q .non (upd H l (.lst (a ++ [y])))
theorem vQi:MtM X "list.append" rAppend:=by
 intro b s σ H x vs v us Q I rx rv h;obtain⟨l,f,y,rfl,rfl,c,g,q⟩:=h;cases rx;obtain⟨u,rfl,d⟩:=rv.one;obtain⟨z,a,n,r,i,e⟩:=I.lstM c;refine call_meets F.slot_list_append ⟨_,e,rfl⟩ F.entry_list_append (F.args_list_append_2 _ _) (PySem.list_append l a.toArray n u (by rw[aN];omega)) ⟨e,?_⟩;refine⟨.non,_,I.lset (its' :=a ++ [u]) c e (by simp) (r.append (.cons d .nil)) ?_,rfl,q⟩;rw[aU,List.length_singleton];omega
end
end L2
namespace Att
open PySem PySem.W PySem.Calls PyProof.Rows
variable{P:Params}{l:OpenLaw}{n:Nat}
theorem qXq{h:Heap}:∀(ns:List Int) (vs:List Value),WellAll P h vs (ns.map WData.int)->IntsAre vs ns:=by
 intro ns;induction ns with
 | nil=>
   intro vs w;cases w;exact .nil
 | cons n ns ih=>
   intro vs w;cases w with
   | cons a b=>
     cases a;exact .cons _ _ (ih _ b)
theorem vYt(q:l.most=some n){h:Heap}{b:List WData}{c:List Value}(e:l.row.toRowW.claim.pre b=true)(g:WellAll P h c b):
  ∃a vs ns,c=[Value.ref a]/\b=[WData.list (ns.map WData.int)]/\h.get? a=some {cls:=.type "list",data:=.seq vs.toArray}/\IntsAre vs ns/\ns.length<=n:=by
 have i:WShape.hasAll [] b [.list .int]=true:=(pre_splitW e).1;have k:l.pre.holds [] {args:=b}=true:=(pre_splitW e).2;obtain⟨d,r,rfl,m,o⟩:=hasAllW_cons i;obtain rfl:=hasAllW_nil o;obtain⟨s,rfl,p⟩:=hasW_list m;obtain⟨ns,rfl⟩:=items_int p;have f:ns.length<=n:=by
  have j:(WTm.not (.lt (.lit (.int (n:Int))) (.len (.arg 0)))).holds [] {args:=[.list (ns.map .int)]}=true:=by
   have j:=(holds_andW k).1;grind
  have t:=condW_of j (w_not (w_lt w_lit (w_len_list (w_arg rfl))));grind
 cases g with
 | cons w1 w2=>
   cases w2;cases w1 with
   |list ho hall=>exact⟨_,_,ns,rfl,rfl,ho,qXq ns _ hall,f⟩
theorem vYx(l:OpenLaw)(a:List WData):l.row.toRowW.claim.post a (.bool true) a=true:=
 postW_of (r:=l.row.toRowW) (X:=(true == true))
  (show WShape.has [] (.bool true) .bool =true by first|rfl|decide|simp[WShape.has,WShape.arms,WShape.armsAll])
  (show(WTm.eq .res (.lit (.bool true))).value [] {args:=a,res:=some (.bool true),after:=a}=some (.bool (true == true)) from w_eq_bool (w_res rfl) w_lit) rfl
theorem vJn{q:bZ}{loose:List Str}{XP:(Str->Option Value)->Heap->Prop}{YP:bP->Heap->Prop}{d:DefRec}(h:l.most=some n)(g:d.params.defaults=[])(call:∀(w:bP) (s₀ s₁:aJ) (mg mb:Str->Option Value) (fa:aZ) (o:Obj) (pm cd doc:Value) (a:aZ) (vs:List Value) (ns:List Int),
   Ground q loose [] XP w s₀ mg mb s₁.heap->YP w s₁.heap->
   s₁.heap.get? fa=some o->o.data=.func (docDef d.name d.params d.body d.scope pm cd doc)->s₁.heap.CodeRec cd d.name->mg d.name=some (.ref fa)->
   s₁.heap.get? a=some {cls:=.type "list",data:=.seq vs.toArray}->IntsAre vs ns->ns.length<=n->s₁.gens=#[]->
   codeAny (model l.prog w) callerA (.call (.ref fa) ⟨[.ref a],[]⟩) (fun r s' =>r=.ok (.ret (.bool true))/\OldK s₁.heap s'.heap/\s'.os=s₁.os/\AllBare s'.gens) s₁):
  WalkO q loose XP YP l.row.toRowW d [] (fun f vs=>PySem.call f vs):=by
 intro w s₀ s₁ mg mb G Y fa o pm cd doc dV kV ho hd hcd hD hmg hg args vals as hpre hlay hrd hwl hlo
 obtain rfl:dV=.none :=Dflts.none hD g
 obtain rfl:kV=.none :=Dflts.noKw hD
 obtain⟨a,vs,ns,rfl,rfl,c,b,e⟩:=vYt h hpre hwl
 refine enter_call (codeAny_mono (call w s₀ s₁ mg mb fa o pm cd doc a vs ns G Y ho (fd_plain hd) hcd hmg c b e hg) fun r s' i=>?_)
 obtain⟨rfl,j,k,m⟩:=i
 exact⟨.inl ⟨.bool true,.bool true,[],rfl,fun _=>rfl,.bool true,vYx l _,fun _=>⟨List.Pairwise.nil,fun _ p=>(nomatch p)⟩⟩,j,k,m⟩
end Att
namespace L2
open PySem PySem.Spec PyProof.Rows
variable{P:bZ}{w:bP}{K:aQ}{mg:Str->Option Value}{a f p C:aZ}{fd:bQ}{n t' i:Nat}{qual:Str}{ps:List Str}{oc doc pm cdv ct:Value}{od:Option aZ}{osl:Array (Option Value)}{A:cW}{pos:Pos}{H H1 H2:Hp}{X:Cx}{pins:List (aZ×Obj)}{σ:St}{fp ch:List aZ}{E:Value->aJ->Prop}
theorem vQa:∀{vs:List Value} {ns:List Int},IntsAre vs ns->Vals (ns.map V.int) vs
 |_,_,.nil =>.nil
 |_,_,.cons n t h=>.cons ⟨t,rfl⟩ (vQa h)
noncomputable def Only(H:Hp):Prop:=∀b,H b=none\/∃o a,H b=some (.frz o (.lst a))
theorem zZa{I:Str->Option Value}{CX:CXT}{k:Nat}{J:aZ}{x:Str}{sp:Sp}{s₁:aJ}{vs:List Value}{ns:List Int}(R:K.In s₁.heap)(j:s₁.heap.Ns cX mg)(hb:s₁.heap.Ns builtinsNs I)(L:∀x:Str,x≠"__name__"->I x=cH x)(l:s₁.heap.NoLimit)(X:s₁.gens=#[])(G:s₁.heap.get? a=some {cls:=.type "list",data:=.seq vs.toArray})(hi:IntsAre vs ns)(hl:ns.length<=aI)(Y:Room k callerA)(F:∀base:Heap,K.In base->base.Ns cX mg->FnOk P w K mg base CX k J fd [x] sp)(i:∀(s:aJ) (u:Value),BindsTo s fd ⟨[u],[]⟩ [(x,u)])(M:∀H:Hp,Only H->SqL K H a (ns.map V.int)->sp [.ref a] H (fun v _=>v=.bl true) fun _ _ _=>False)(N:∀H e s',CX [] H s₁ (fun _ _ _=>False) e s' ->False):
  codeAny (model P w) callerA (.call (.ref J) ⟨[.ref a],[]⟩) (fun r s' =>r=.ok (.ret (.bool true))/\OldK s₁.heap s'.heap/\s'.os=s₁.os/\AllBare s'.gens) s₁:=by
 have S:=vQa hi;have p:=hi.length
 have g:∀H:Hp,Only H->SqL K H a (ns.map V.int)->HOk P w H s₁.heap->(∀b,H b≠none->b=a)->(H a≠none->K.lookup a=none)->
   codeAny (model P w) callerA (.call (.ref J) ⟨[.ref a],[]⟩) (fun r s' =>r=.ok (.ret (.bool true))/\OldK s₁.heap s'.heap/\s'.os=s₁.os/\AllBare s'.gens) s₁:=by
  intro H T Z t U hK;have c:∀{b:aZ} {o:Obj},s₁.heap.get? b=some o->H b=none->(hidT s₁.heap H).get? b=some o:=fun e n=>zZm e n
  have O:∀{b:aZ} {o:Obj} {y:Array DictEntry} {A:Nat},s₁.heap.get? b=some o->o.data=.dict y A->H b=none:=fun {b o y A} e d=>by
   cases q:H b with
   |none=>rfl
   | some u=>
     have Q :b=a:=U b (by rw[q];simp);subst Q;rw[G]at e;cases e;have d' :Data.seq vs.toArray _=Data.dict y A:=d;cases d'
  have f:∀{b:aZ} {m:Str->Option Value},s₁.heap.Ns b m->(hidT s₁.heap H).Ns b m:=fun {b m} ⟨o,y,A,e,d,r⟩=>⟨o,y,A,c e (O e d),d,r⟩
  have B:K.In (hidT s₁.heap H):=fun b o e=>c (R b o e) (by
   cases q:H b with
   |none=>rfl
   | some u=>
     have Q :b=a:=U b (by rw[q];simp);subst Q;rw[hK (by rw[q];simp)]at e;cases e)
  have hM:Mod K mg (hidT s₁.heap H):=⟨B,f j,⟨I,f hb,L⟩,let ⟨mc,h1,h2⟩:=l;⟨mc,f h1,h2⟩⟩
  have e0:Env0 P w K mg (hidT s₁.heap H) callerA [] s₁ H:=⟨rfl,hM,fun b o e=>zWd e,Nat.le_of_eq (vKg _ _),trivial,fun b hb=>absurd (show b∈([]:List aZ) from hb) (by simp),t,.of_eq X⟩
  refine codeAny_mono ((F _ B (f j)).run callerA [] s₁ H ⟨[.ref a],[]⟩ [.ref a] [.ref a] _ _ Y e0 (i s₁ (.ref a)) (.cons rfl .nil) (M H T Z)) fun r s' h=>?_
  cases r with
  |error e=>exact(N H e s' h).elim
  | ok fl=>
    cases fl with
    |next=>exact False.elim h
    |brk=>exact False.elim h
    |cont=>exact False.elim h
    | ret u=>
      obtain⟨v,H',os,C,un,D,r',q⟩:=h;have q' :v=.bl true:=q;subst q';obtain rfl:u=Value.bool true:=r';refine⟨rfl,OldK.of_keep fun b o e=>?_,os,C⟩;cases q:H b with
      |none=>exact un.keep b o e q (by intro z;exact absurd (show b∈([]:List aZ) from z) (by simp)) (by simp)
      | some u=>
        rcases T b with z|⟨ob,xs,z⟩
        ·rw[q]at z;cases z
        ·have z2:=un.frzs b ob _ z;obtain⟨W,_⟩:=t b _ z;obtain⟨e2,_⟩:=D b _ z2;rw[e]at W;cases W;exact e2
 cases hk:K.lookup a with
 | some o=>
   have e:=R a o hk;rw[G]at e;cases e;refine g (fun _=>none) (fun _=>.inl rfl) (.inr ⟨_,vs.toArray,_,hk,rfl,rfl,rfl,by rw[aN,p];exact hl,by simpa using S⟩) (fun b u z=>by have E :(none:Option HO)=some u:=z;cases E) (fun b z=>absurd rfl z) fun z=>absurd rfl z
 | none=>
   refine g (fun b=>if b=a then some (.frz {cls:=.type "list",data:=.seq vs.toArray} (.lst (ns.map V.int))) else none) (fun b=>?_) (.inl (.inr ⟨{cls:=.type "list",data:=.seq vs.toArray},if_pos rfl⟩)) (fun b u z=>?_) (fun b z=>?_) fun _=>hk
   ·by_cases hb:b=a
    ·exact .inr ⟨_,_,if_pos hb⟩
    ·exact .inl (if_neg hb)
   ·by_cases hb:b=a
    ·have E :=(if_pos hb).symm.trans z;cases E;subst hb;exact⟨G,by rw[aW];exact hl,vs,_,S,G⟩
    ·have E :=(if_neg hb).symm.trans z;cases E
   ·by_cases hb:b=a
    ·exact hb
    ·exact absurd (if_neg hb) z
theorem zZ5{l:PySem.W.OpenLaw}{k:Nat}{q:bZ}{loose:List Str}{XP:(Str->Option Value)->Heap->Prop}{YP:bP->Heap->Prop}{d:DefRec}{K:Params->aQ}{CX:bP->CXT}{sp:bP->Sp}{x:Str}(D:l.most=some n)(r:n<=aI)(t:d.params.defaults=[])(E:Room k callerA)(I:∀(w:bP) (h:Heap),YP w h->(K w.params).In h)(F:∀(w:bP) (j:Str->Option Value) (p:aZ) (h:Heap),(K w.params).In h->h.Ns cX j->j d.name=some (.ref p)->
   ∃y:bQ,(∀(s:aJ) (u:Value),BindsTo s y ⟨[u],[]⟩ [(x,u)])/\
    ∀base:Heap,(K w.params).In base->base.Ns cX j->FnOk l.prog w (K w.params) j base (CX w) k p y [x] (sp w))(z:∀(w:bP) (H:Hp) (a:aZ) (ns:List Int),ns.length<=n->Only H->SqL (K w.params) H a (ns.map V.int)->sp w [.ref a] H (fun v _=>v=.bl true) fun _ _ _=>False)(A:∀(w:bP) (H:Hp) (s:aJ) (e:Value) (s' :aJ),CX w [] H s (fun _ _ _=>False) e s' ->False):
  PySem.W.WalkO q loose XP YP l.row.toRowW d [] (fun f vs=>PySem.call f vs):=by
 refine Att.vJn D t fun w s₀ s₁ j Q p o R S J a vs ns G Y U X L B m i c M=>?_
 have C:=I w _ Y;obtain⟨y,hb,N⟩:=F w j p _ C G.T.g B;exact zZa C G.T.g G.T.b G.T.builtins G.T.nolimit M m i (aG c r) E N hb (fun H O P=>z w H a ns c O P) fun H e s' =>A w H s₁ e s'
noncomputable abbrev E0:XK:=fun _ _ _=>False
structure Fun(K:aQ)(x qual:Str)(st:Stmt)(f:aZ)(fd:bQ):Prop where
 ex:∃(oc:Value) (od:Option aZ) (kV doc pm:Value) (an:Option aZ) (cdv ct:Value) (osl:Array (Option Value)),
  fd=cJ x qual (j4 st) (zM st) (qU st) .none kV doc pm an cdv ct/\K.lookup f=some ⟨oc,od,.func fd,osl⟩/\PySem.W.codeIn K cdv qual=true
 kp:cD K (.ref f)=true
section
variable{P:bZ}{w:bP}{K:aQ}{mg:Str->Option Value}{base:Heap}
theorem Fun.binds{x:Str}{st:Stmt}(F:Fun K x qual st f fd)(h:∀(kV a c:Value) (an:Option aZ) (b d:Value) (us:List Value),us.length=ps.length->bindArgs (cJ x qual (j4 st) (zM st) (qU st) .none kV a c an b d) ⟨us,[]⟩=pure (ps.zip us)):wK K fd ps []:=by
 obtain⟨i,j,kV,a,c,an,b,d,e,rfl,k,g⟩:=F.ex;exact .all (h kV a c an b d)
theorem vQ6{x:Str}{st:Stmt}{an:Option aZ}{kV:Value}(l:K.lookup f=some ⟨oc,od,.func (cJ x qual (j4 st) (zM st) (qU st) .none kV doc pm an cdv ct),osl⟩)(c:PySem.W.codeIn K cdv qual=true)(k:cD K (.ref f)=true):Fun K x qual st f (cJ x qual (j4 st) (zM st) (qU st) .none kV doc pm an cdv ct):=⟨⟨oc,od,kV,doc,pm,an,cdv,ct,osl,rfl,l,c⟩,k⟩
end
theorem qJq{k:Nat}(a:Room k A):A.units+1<eX:=Nat.lt_of_le_of_lt (Nat.add_le_add_left (by decide:1<=64) _) a.units
theorem vYr(h:n<=1000):n<aI:=Nat.lt_of_le_of_lt h (by decide)
section
variable{X:Cx}
theorem pv(i:Nat){x:Str}(b:X.N[i]?=some x:=by rfl)(c:Vis X.env.scope x:=by first|exact Or.inl rfl|exact Or.inr (Or.inl rfl)|exact Or.inr (Or.inr rfl))(hd:(x == ("__debug__":Str))=false:=by decide)(a:(x == ("__classdict__":Str))=false:=by decide):PE X (.Name x pos) (tVar i):=zQt b c hd a
end
noncomputable def Same(H H' :Hp):Prop:=∀b o,H b=some o->H' b=some o
theorem Same.refl(H:Hp):Same H H:=fun _ _ h=>h
theorem Same.trans(a:Same H H1)(b:Same H1 H2):Same H H2:=fun c o h=>b c o (a c o h)
structure FnAt(K:aQ)(mg:Str->Option Value)(x:Str)(st:Stmt)(ps:List Str)(f:aZ)(fd:bQ):Prop where
 F:Fun K x x st f fd
 b:wK K fd ps []
 m:mg x=some (.ref f)
theorem Same.upd{o:HO}(h:H p=Option.none):Same H (upd H p o):=fun b u e=>by
 rw[qF (vC e h)];exact e
theorem Same.tup{H':Hp}{xs:List V}(e:Same H H')(h:SqT K H a xs):SqT K H' a xs:=by
 rcases h with(h|⟨o,h⟩)|h
 ·exact .inl (.inl (e _ _ h))
 ·exact .inl (.inr ⟨o,e _ _ h⟩)
 ·exact .inr h
theorem zQl:(2:Nat)<=aI:=by decide
theorem zWw{h:Heap}{x:Str}{st:Stmt}{an:Option aZ}{kV:Value}(X:K.In h)(G:h.Ns cX mg)(a:PySem.W.nsIn K cX x=some (some (.ref f)))(l:K.lookup f=some ⟨oc,od,.func (cJ x x (j4 st) (zM st) (qU st) .none kV doc pm an cdv ct),osl⟩)(c:PySem.W.codeIn K cdv x=true)(k:cD K (.ref f)=true)(b:∀(kV doc pm:Value) (an:Option aZ) (cdv ct:Value) (us:List Value),us.length=ps.length->bindArgs (cJ x x (j4 st) (zM st) (qU st) .none kV doc pm an cdv ct) ⟨us,[]⟩=pure (ps.zip us)):
  FnAt K mg x st ps f (cJ x x (j4 st) (zM st) (qU st) .none kV doc pm an cdv ct):=
 ⟨vQ6 l c k,(vQ6 l c k).binds b,PySem.W.mg_of X G a⟩
section
variable{X:Cx}
theorem zJ9:OpR X (binaryOp .Mult) (rI IntMulOk fun i j=>.int (i * j)):=opI fun _ _ _ _ _ _ _ a q=>mul_int q a
noncomputable def vW8(_ j:Int):Prop:=0<j/\j.natAbs.log2<9000
theorem zV5:OpR X (binaryOp .FloorDiv) (rI vW8 fun i j=>.int (i / j)):=opI fun i j _ _ _ _ _ a q=>by
 have b:(0:Int)<j:=a.1;refine floordiv_int (by omega) ?_ (.inl (PyProof.noPylong_of_log2 a.2))
 rw[Int.fdiv_eq_ediv_of_nonneg _ (Int.le_of_lt b)];exact q
noncomputable def rIsi(K:aQ):List V->Hp->VK->Prop:=fun a H Q=>∃x n t b,a=[x,.ty n]/\TyOf K H x t/\bV K t (.type n)=some b/\Q (.bl b) H
theorem zZ2:jS X (.builtin "isinstance") (rIsi X.K):=by
 intro a s σ H xs us Q I r h;obtain⟨x,n,t,b,rfl,c,e,q⟩:=h;obtain⟨u,d,rfl,f,g⟩:=vV4 r;cases(show d =Value.type n from g);exact vQm I f c e fun i=>⟨.bl b,H,I.tok i,rfl,q⟩
noncomputable def zXl(K:aQ):List V->Hp->VK->Prop:=fun a H Q=>∃x C t b,a=[x,.ref C]/\TyOf K H x t/\bV K t (.ref C)=some b/\Q (.bl b) H
theorem vK5:jS X (.builtin "isinstance") (zXl X.K):=by
 intro a s σ H xs us Q I r h;obtain⟨x,n,t,b,rfl,c,e,q⟩:=h;obtain⟨u,d,rfl,f,g⟩:=vV4 r;cases(show d =Value.ref n from g);exact vQm I f c e fun i=>⟨.bl b,H,I.tok i,rfl,q⟩
end
noncomputable def cCx(X:Cx)(a:Scope)(cl:List (Str×aZ))(C:aZ)(Nc:List Str)(s:aJ)(H:Hp)(b:List aZ):Cx where
 prog:=X.prog;w:=X.w;K:=X.K;mg:=X.mg;base:=X.base;A:=X.A;N:=Nc;s₀:=s;H₀:=H;env:=compEnvC a cl C X.env;outer:=X.stack;stack:=X.stack;ex:=b;fn:=fun _=>false
 calm:=X.calm;pn:=[]
 xe:=fun _ _=>False
noncomputable def PTs(X:Cx)(a:List Expr)(t:TT):Prop:=
 ∀(pins:List (aZ×Obj)) (s:aJ) (σ:St) (H:Hp) (Q:Bool->Hp->Prop),Inv X pins σ H s->t σ H Q->
  aH (model X.prog X.w) X.A (forIn a true fun c r=>if r=true then do let ok ←isTrue c X.env (eval c X.env);pure (ForInStep.yield ok) else pure (ForInStep.yield r)) (TP X pins σ Q) X.xe s
noncomputable def tTrue:TT:=fun _ H Q=>Q true H
theorem zJn:PTs X [] tTrue:=fun _ _ _ H _ I h=>wpAny_tests_nil ⟨H,I,h⟩
theorem zJm{c:Expr}{t:TT}(h:PT X c t):PTs X [c] t:=fun a s σ H Q I q=>wpAny_tests_one (h a s σ H Q I q)
theorem vWv{prog:bZ}{R:Result->aJ->Prop}{s:aJ}{e a f:Expr}{g:List Expr}{d:Scope}{it acc:Value}{env:Env}(I:Nat->aJ->Prop)(turn:∀n s,I n s->aH (model prog w) A (pyNext it) (fun r s₁=>match r with
   |none=>R (.ok .next) s₁
   | some v=>aH (model prog w) A (letOwnedTupleGo a it v) (fun _ s₂=>aH (model prog w) A (assign a env v) (fun _ s₃=>
     aH (model prog w) A (forIn g true fun c r=>if r=true then do let ok ←isTrue c env (eval c env);pure (ForInStep.yield ok) else pure (ForInStep.yield r)) (fun ok s₄=>
      if ok=true then aH (model prog w) A (eval e env) (fun x s₅=>
       aH (model prog w) A (call (.builtin "list.append") [acc,x]) (fun _ s₆=>∃m,m<n/\I m s₆) (fun _ _=>False) s₅) (fun _ _=>False) s₄
      else∃m,m<n/\I m s₄) (fun _ _=>False) s₃) (fun _ _=>False) s₂) (fun _ _=>False) s₁) (fun _ _=>False) s)(n:Nat)(h:I n s):
  codeAny (model prog w) A (.compLoop (.ListComp e [⟨a,f,g,0⟩] d pos) 0 it acc env) R s:=by
 refine codeAny_loop rfl I (fun n s i=>?_) n h;refine wpAny_noted ?_
 refine aV (wpAny_standAt (aV (bM (turn n s i) (fun r s₁ h₁=>?_) fun _ _ b =>b.elim)));cases r with
 |none=>exact aE h₁
 | some v=>
   refine aV (bM h₁ (fun _ s₂ h₂=>aV (bM h₂ (fun _ s₃ h₃=>aV (bM h₃ (fun ok s₄ h₄=>?_) fun _ _ b =>b.elim)) fun _ _ b =>b.elim)) fun _ _ b =>b.elim);cases ok with
   |false=>exact aE ⟨rfl,h₄⟩
   | true=>
     exact aV (aV (bM h₄ (fun x s₅ h₅=>aV (bM h₅ (fun _ s₆ h₆=>aE (aE ⟨rfl,h₆⟩)) fun _ _ b =>b.elim)) fun _ _ b =>b.elim))
noncomputable def zX2(J:It)(g:TG)(f:TT)(h:TE)(σ0:St)(Q:VK)(D:aZ)(j:Hp):Prop:=
 ∃W:Nat->Nat->St->List V->Hp->Prop,(∃m,W 0 m σ0 [] j)/\∀i m σ2 ys H2,W i m σ2 ys H2->H2 D=some (.lst ys)/\ys.length<aI/\
  ((J.stop i H2/\Q (.ref D) H2)\/(J.go i H2/\∀x c,J.yld i H2 x c->g x σ2 c fun σ4 k=>f σ4 k fun b d=>
    if b=true then h σ4 d fun v e=>e D=some (.lst ys)/\∃a,a<m/\W (i+1) a σ4 (ys ++ [v]) (upd e D (.lst (ys ++ [v])))
    else∃a,a<m/\W (i+1) a σ4 ys d))
noncomputable def tComp(b:TI)(g:TG)(d:TT)(e:TE)(σc:St->St):TE:=fun σ H Q=>b σ H fun J a=>∀D,a D=none->zX2 J g d e (σc σ) Q D (upd a D (.lst []))
structure Caps(X:Cx)(scope:Scope)(cl:List (Str×aZ))(Nc:List Str)(σc:St->St):Prop where
 clos:closureFor scope X.env=pure cl
 kind:scope.kind=.function
 nocell:∀y∈scope.names,y.2≠ .cell
 names:∀y∈scope.names,y.2=.local ->scope.names.lookup y.1=some .local
 cells:∀x c,cl.lookup x=some c->X.env.cells.lookup x=some c
 has:∀x,((relabel scope X.env).names.lookup x=some .cell \/(relabel scope X.env).names.lookup x=some .free)->∃c,cl.lookup x=some c
 len:∀σ,(σc σ).length =Nc.length
 cap:∀σ (i:Nat) x v,Nc[i]?=some x->(σc σ)[i]?=some (some v)->Vis (relabel scope X.env) x->
  ((relabel scope X.env).names.lookup x=some .cell \/(relabel scope X.env).names.lookup x=some .free)/\
  (X.env.kindOf x=some .cell \/X.env.kindOf x=some .free)/\∃j:Nat,X.N[j]?=some x/\σ[j]?=some (some v)/\Vis X.env.scope x
section
variable{X:Cx}{tg iter elt:Expr}{ifs:List Expr}{scope:Scope}{cl:List (Str×aZ)}{Nc:List Str}{σc:St->St}{pos:Pos}{wi:TI}{g:TG}{tt:TT}{te:TE}
theorem zVb{s:aJ}(I:Inv X pins σ H s)(c:Caps X scope cl Nc σc)(g:s.heap.objs.size<=C)(d:∀b∈fp,FpOk X pins H b)(f:∀b∈fp,b<s.heap.objs.size):
  (cCx X scope cl C Nc s H fp).Ok where
 mod:=I.ok.mod;kind:=c.kind;glob:=I.ok.glob;blt:=I.ok.blt;above:=g;inj:=fun x y a i j=>I.ok.inj x y a (c.cells x a i) (c.cells y a j)
 has:=c.has;cab:=fun _ _ h _=>absurd (show false=true from h) aR
 hd:=I.ok.hd;frames:=I.ok.frames;stk:=.inl rfl;exf:=fun b hb=>⟨fun z=>absurd (aF (f b hb) g) (by
    have k :b=C:=z;rw[k];exact cK _),fun x a h z=>(d b hb).2.2.2.2.1 x a (c.cells x a h) z⟩
 bs:=I.bs;bsz:=aG I.ok.bsz I.sz;noex:=fun b o e hb=>by
  rcases(d b hb).2.2.2.1 with z|z
  ·exact I.ok.noex b o e z
  ·exact absurd (aF (aC e) (aG I.ok.bsz z)) (cK _)
 exfs:=fun b hb z=>by
  rcases aA.mp (I.stkSub b z) with q|q
  ·exact(d b hb).2.1 q
  ·exact(d b hb).2.2.1 q
 funs:=I.stack;frf:=I.stkFree
theorem zW9{s:aJ}{h' :Heap}{m:Str->Option Value}(I:Inv X pins σ H s)(c:Caps X scope cl Nc σc)(n:s.heap.objs.size<=C)(r:∀b∈fp,FpOk X pins H b)(g:∀b∈fp,b<s.heap.objs.size)(hk:∀b o,s.heap.get? b=some o->h'.get? b=some o)(t:h'.Ns C m):
  Inv (cCx X scope cl C Nc s H fp) [] (σc σ) H {s with heap:=h',toks:=t' }:=by
 refine⟨zVb I c n r g,rfl,I.bare,Un.kept hk,⟨m,t,fun i x v w y A=>?_⟩,fun x a h=>?_,I.hok.fresh n,fun x a h=>I.freeC x a (c.cells x a h),fun p B=>absurd (show p∈([]:List (aZ×Obj)) from B) (by simp),I.hok.kept hk,c.len σ⟩
 ·obtain⟨q,k2,j,D,E,F⟩:=c.cap σ i x v w y A;obtain⟨N,_,G⟩:=I.loc;obtain⟨u,J,K⟩:=G j x v D E F;refine⟨u,J,.inr ⟨q,?_⟩⟩;rcases K with⟨z,_⟩|⟨_,a,L,d⟩
  ·rcases k2 with k2|k2 <;> rw[k2]at z <;> cases z
  ·obtain⟨M,f⟩:=c.has x q;have e:=c.cells x M f;rw[L]at e;cases e;obtain⟨o,k,l⟩:=d;exact⟨a,f,⟨o,hk _ _ k,l⟩⟩
 ·obtain⟨v,o,k,l⟩:=I.cell x a (c.cells x a h);exact⟨v,o,hk _ _ k,l⟩
theorem qKh{s:aJ}{Q:VK}{J:It}{it:aZ}{O:Nat->Heap->Prop}{RR:Value->aZ->Result->aJ->Prop}(hc:X.calm=true)(c:Caps X scope cl Nc σc)(hg:∀C s H fp,PG (cCx X scope cl C Nc s H fp) tg g)(ht:∀C s H fp,PTs (cCx X scope cl C Nc s H fp) ifs tt)(he:∀C s H fp,PE (cCx X scope cl C Nc s H fp) elt te)(I:Inv X pins σ H s)(T:Turn X.prog X.w X.K tg J fp it O)(st:O 0 s.heap)(hf:∀b∈fp,FpOk X pins H b)(h:∀D,H D=none->zX2 J g tt te (σc σ) Q D (upd H D (.lst [])))(hRR:∀D C H' s' m,Inv X pins σ H' s' ->H' C=none->s.heap.objs.size<=C->s'.heap.Ns C m->Q (.ref D) H' ->RR (.ref D) C (.ok .next) s'):
  aH (model X.prog X.w) X.A (newList []) (fun acc s₃=>aH (model X.prog X.w) X.A (newFunctionEnv scope X.env.globals cl [] X.env.qual none .none (some X.env)) (fun j s₄=>
   codeAny (model X.prog X.w) X.A (.compStart (.ListComp elt [⟨tg,iter,ifs,0⟩] scope pos) 0 (.ref it) acc {j with scope:=relabel scope X.env}) (RR acc j.locals) s₄) E s₃) E s:=by
 have P:∀b∈fp,b<s.heap.objs.size:=fun b hb=>by
  obtain⟨o,e,_⟩:=T.obj _ _ st b hb;exact aC e
 obtain⟨W,⟨m0,w0⟩,turn⟩:=h s.heap.objs.size (I.hok.fresh (aB _));refine cI (wpAny_newFunctionEnv c.nocell (by intro y hy;simp at hy) (fun h₁ hns₁ hsb₁=>?_) c.kind);dsimp only at hns₁ hsb₁⊢;have I1:Inv X pins σ (upd H s.heap.objs.size (.lst [])) {s with heap:=s.heap.push {cls:=.type "list",dict:=none,data:=.seq ([]:List Value).toArray }}:=
  I.laid (t' :=s.toks) (fun b u e=>aY _ e) (aB _) ⟨eJ _,[],0,.nil,aS _ rfl⟩
 generalize R:s.heap.push {cls:=.type "list",dict:=none,data:=.seq ([]:List Value).toArray }=G at hns₁ hsb₁ I1⊢;have hG:G.objs.size=s.heap.objs.size+1:=by rw[←R,cM]
 have S:∀b o,G.get? b=some o->h₁.get? b=some o:=fun b o e=>hsb₁.extBut b o (bJ (aC e)) (aY _ e)
 have a:∀b∈fp,FpOk X pins (upd H s.heap.objs.size (.lst [])) b:=fun b hb=>
  ⟨by rw[qF (bJ (P b hb))];exact(hf b hb).1,(hf b hb).2⟩
 have k:∀b∈fp,b<G.objs.size:=fun b hb=>aF (P b hb) (by rw[hG];exact cS _)
 have I2:=zW9 (C:=G.objs.size) (t' :=s.toks+([]:List (Str×Value)).length) I1 c (aB _) a k S hns₁;have U:O 0 h₁:=T.keep _ _ _ st fun b hb o e=>S b o (by rw[←R];exact aY _ e)
 have t:∀{H' :Hp},(∀b∈fp,H' b=none)->∀b∈fp,FpOk (cCx X scope cl G.objs.size Nc {s with heap:=G} (upd H s.heap.objs.size (.lst [])) fp) [] H' b:=fun {H'} hn b hb=>by
  have ok:=zVb (C:=G.objs.size) I1 c (aB _) a k;obtain⟨e1,e2⟩:=ok.exf b hb;exact⟨hn b hb,e1,ok.exfs b hb,.inl hb,e2,fun p hp=>absurd (show p∈([]:List (aZ×Obj)) from hp) (by simp)⟩
 have l:∀s₃:aJ,s₃={s with heap:=h₁,toks:=s.toks+([]:List (Str×Value)).length }->
   codeAny (model X.prog X.w) X.A (.compLoop (.ListComp elt [⟨tg,iter,ifs,0⟩] scope pos) 0 (.ref it) (.ref s.heap.objs.size) (compEnvC scope cl G.objs.size X.env))
    (RR (.ref s.heap.objs.size) G.objs.size) s₃:=by
  rintro s₃ rfl
  refine vWv (fun n s' =>∃i σ' B H',Inv (cCx X scope cl G.objs.size Nc {s with heap:=G} (upd H s.heap.objs.size (.lst [])) fp) [] σ' H' s' /\O i s'.heap/\(∀b∈fp,H' b=none)/\W i n σ' B H') ?_ m0
   ⟨0,σc σ,[],_,I2,U,fun b hb=>(a b hb).1,w0⟩
  rintro n s5 ⟨i,σ5,B,Y,I5,Z,fr5,w5⟩;obtain⟨hD,hsz,alt⟩:=turn i n σ5 B Y w5;rcases alt with⟨stop,q⟩|⟨go,step⟩
  ·refine thn (T.done (cCx X scope cl G.objs.size Nc {s with heap:=G} (upd H s.heap.objs.size (.lst [])) fp) rfl rfl rfl hc i [] s5 σ5 Y _ I5 (t fr5) Z stop) fun r s6 ⟨hr,M⟩=>?_
   subst hr;obtain⟨m6,n6,_⟩:=M.loc;have I7:Inv X pins σ Y s6:=I1.call' M.os M.base M.hok M.bare fun b hb=>⟨(a b hb).2.2.2.1,(a b hb).2.1,(a b hb).2.2.2.2.1,(a b hb).2.2.2.2.2⟩
   exact hRR _ _ Y s6 m6 I7 M.free (by rw[hG];exact cS _) n6 q
  ·refine thn (T.item (cCx X scope cl G.objs.size Nc {s with heap:=G} (upd H s.heap.objs.size (.lst [])) fp) rfl rfl rfl hc i [] s5 σ5 Y _ I5 (t fr5) Z go) fun r s6 ⟨u,hr,h6⟩=>?_
   subst hr;refine thn h6 fun _ s7 ⟨x,H7,I7,r7,y7,F,fr7⟩=>?_
   have I7' :=I7.pinned (t fr7) (T.obj _ _ F);refine thn (hg _ _ _ _ _ s7 σ5 H7 x u _ I7' r7 (step x H7 y7)) fun _ s8 ⟨σ8,H8,I8,q8⟩=>?_
   refine thn (ht _ _ _ _ _ s8 σ8 H8 _ I8 q8) fun ok s9 ⟨H9,I9,q9⟩=>?_
   have f:∀{σ' :St} {H' :Hp} {s' :aJ} {L :List V} {N :Nat},Inv (cCx X scope cl G.objs.size Nc {s with heap:=G} (upd H s.heap.objs.size (.lst [])) fp) ([] ++ qYf fp s7.heap) σ' H' s' ->N<n->W (i+1) N σ' L H' ->
     ∃m,m<n/\∃i σ' B H',Inv (cCx X scope cl G.objs.size Nc {s with heap:=G} (upd H s.heap.objs.size (.lst [])) fp) [] σ' H' s' /\O i s'.heap/\(∀b∈fp,H' b=none)/\W i m σ' B H' :=fun {σ' H' s' L N} J7 hm hw=>by
    refine⟨N,hm,i+1,σ',L,H',J7.unpinned,T.keep _ _ _ F fun b hb o e=>(J7.pin (b,o) (bY _ (bY _ (qQc hb e)))).1,fun b hb=>?_,hw⟩;obtain⟨o,e,d⟩:=T.obj _ _ F b hb;exact(J7.pin (b,o) (bY _ (bY _ (qQc hb e)))).2.1
   cases ok with
   | false=>
     rw[if_neg aR]at q9⊢;obtain⟨N,hm,hw⟩:=q9;exact f I9 hm hw
   | true=>
     rw[if_pos rfl]at q9⊢;refine thn (he _ _ _ _ _ s9 σ8 H9 _ I9 q9) fun v s10 ⟨y,H10,I10,r10,hD10,N,hm,hw⟩=>?_
     refine thn (vQi _ s10 σ8 H10 (.ref s.heap.objs.size) [y] (.ref s.heap.objs.size) [v] (fun _ H' =>H' =upd H10 s.heap.objs.size (.lst (B ++ [y]))) I10 rfl (.cons r10 .nil) ⟨_,B,y,rfl,rfl,hD10,hsz,rfl⟩) fun _ s11 ⟨z,H11,I11,_,e11⟩=>?_
     subst e11;exact f I11 hm hw
 exact codeAny_compStart_list (l _ rfl) (T.self _ 0 _ _ _ U (l _ rfl))
theorem zJ4(l:X.calm=true)(c:Caps X scope cl Nc σc)(hi:PI X tg iter wi)(n:∀C s H f,PG (cCx X scope cl C Nc s H f) tg g)(r:∀C s H f,PTs (cCx X scope cl C Nc s H f) ifs tt)(t:∀C s H f,PE (cCx X scope cl C Nc s H f) elt te)(hs:∀x,foldedSetIterable iter X.env x=pure x:=by intro _;rfl):PE X (.ListComp elt [⟨tg,iter,ifs,0⟩] scope pos) (tComp wi g tt te σc):=by
 intro i s σ H Q I h;rw[eval_ListComp];refine wpAny_comprehension_free (use:=none) rfl hs c.clos c.kind c.names (thn (hi i s σ H _ I h) fun v N u=>thn u fun w O y=>?_);obtain⟨it,f,P,J,R,rfl,j,T,k,A,W⟩:=y;refine qKh (Q:=Q) l c n r t j T k A W ?_
 intro D C B E m F G d K q;refine⟨m,K,fun S sb=>⟨.ref D,B,?_,rfl,q⟩⟩;have L:C≠X.env.locals:=Nat.ne_of_gt (aF j.lt d);refine F.turned (t' :=E.toks) (it:=C) (fun b o hb e=>sb.extBut b o hb e) G L (.inr (aG j.sz d)) (fun x a e z=>?_) (fun p M z=>?_)
 ·obtain⟨v,q⟩:=j.cell x a e;exact absurd (aF q.lt d) (by rw[z];exact cK _)
 ·exact absurd (aF (aC (j.pin p M).1) d) (by rw[z];exact cK _)
theorem zJv{y:Str}{r j:Pos}(hc:X.calm=true)(hN:X.N.Nodup)(B:X.N[i]?=some y)(hy:Loc X.env.scope y)(c:Caps X scope cl Nc σc)(hi:PI X tg iter wi)(hg:∀C s H l,PG (cCx X scope cl C Nc s H l) tg g)(ht:∀C s H l,PTs (cCx X scope cl C Nc s H l) ifs tt)(he:∀C s H l,PE (cCx X scope cl C Nc s H l) elt te)(E:swapsWith (.ListComp elt [⟨tg,iter,ifs,0⟩] scope pos) (some (.Name y r)) j.line X.env=pure true:=by rfl)(hs:∀x,foldedSetIterable iter X.env x=pure x:=by intro _;rfl)(hf:X.fn y=true\/X.env.scope.names.lookup y=some .local :=by first|exact .inl rfl|exact .inr rfl|assumption):
  PS X (.Assign [.Name y r] (.ListComp elt [⟨tg,iter,ifs,0⟩] scope pos) j) (tAsg (tComp wi g tt te σc) (qK6 i)):=by
 intro d s σ H D I h;rw[exec_Assign_Name_used _ _ _ _ E];refine aV (wpAny_standAt (aV ?_));show aH _ X.A (do let _ ←comprehension (.ListComp elt [⟨tg,iter,ifs,0⟩] scope pos) scope X.env _ (newList []) false (eval iter X.env) (some (assign (.Name y r) X.env))) _ _ s
 refine aV (bM (wpAny_comprehension_free (use:=some (assign (.Name y r) X.env)) (Q:=fun _ u =>SP X d D .next u) rfl hs c.clos c.kind c.names
  (thn (hi d s σ H _ I h) fun v s1 h1=>thn h1 fun itv s2 h2=>?_)) (fun _ u hq=>aE (aE hq)) fun _ _ e=>e)
 obtain⟨it,l,tn,J,H2,rfl,n,T,F,f2,W⟩:=h2;refine qKh (Q:=fun v w =>D.nx (σ.set i (some v)) w) hc c hg ht he n T F f2 W ?_
 intro L C w u m S U f hn q;have V:C≠X.env.locals:=Nat.ne_of_gt (aF n.lt f);have G:C∉X.fs:=n.nofs f;obtain⟨oC,es,ep,K,t,M⟩:=id hn;have k:∀v,oC.data≠ .cell v:=fun v z=>by rw[t]at z;cases z
 have O :Inv X (d ++ [(C,oC)]) σ w u :=S.pins_of fun p P=>by
  rcases bR.mp P with z|z
  ·exact S.pin p (bY _ z)
  ·have e:p=(C,oC):=by simpa using z
   subst e;exact⟨K,U,V,G,k⟩
 show aH _ X.A (assign (.Name y r) X.env (.ref L)) _ _ _;refine wpAny_assign_Name (qZe O hN B hy (v:=.ref L) rfl (fun Y Z=>?_) hf);have R:Y.heap.Ns C m:=⟨oC,es,ep,(Z.pin (C,oC) (by simp)).1,t,M⟩
 refine⟨m,R,fun h' sb=>⟨σ.set i (some (.ref L)),w,?_,q⟩⟩;refine Z.unpinned.turned (t' :=Y.toks) (it:=C) (fun b o hb e=>sb.extBut b o hb e) U V (.inr (aG n.sz f)) (fun x a e z=>?_) (fun p P z=>?_)
 ·obtain⟨v,q⟩:=n.cell x a e;exact absurd (aF q.lt f) (by rw[z];exact cK _)
 ·exact absurd (aF (aC (n.pin p P).1) f) (by rw[z];exact cK _)
theorem jVo(hk:scope.kind=.function)(a:∀x∈scope.names,x.2≠ .free)(b:∀x∈scope.names,x.2≠ .cell)(d:∀y∈scope.names,y.2=.local ->scope.names.lookup y.1=some .local):
  Caps X scope [] Nc (fun _=>List.replicate Nc.length none) where
 clos:=closureFor_none a;kind:=hk;nocell:=b;names:=d;cells:=fun x c e=>by cases e
 has:=fun x h=>by
  have f:(relabel scope X.env).names =scope.names:=by
   unfold relabel;refine map_eq_self fun y g=>?_
   obtain⟨n,k⟩:=y;have:(k == NameKind.free)=false:=by simpa using a _ g
   simp[this]
  rw[f]at h;rcases h with h|h
  ·exact absurd rfl (b _ (cY h))
  ·exact absurd rfl (a _ (cY h))
 len:=fun _=>by simp
 cap:=fun σ i x v _ e _=>by
  rw[List.getElem?_replicate]at e;split at e <;> cases e
end
section
variable{X:Cx}{pins:List (aZ×Obj)}{σ:St}{H:Hp}{s:aJ}{h' :Heap}
theorem Inv.turnedLaid{o:HO}(I:Inv X pins σ H s)(k:∀b u,b∉ch->s.heap.get? b=some u->h'.get? b=some u)(d:∀b∈ch,FpOk X pins H b)(h:s.heap.objs.size<=p)(new:vT X.prog X.w (upd H p o) h' p o):Inv X pins σ (upd H p o) {s with heap:=h',toks:=t' }:=by
 have f:=I.hok.fresh h;have g:∀b u,H b=some u->b∉ch:=fun b u e z=>by rw[(d b z).1]at e;cases e
 refine I.call (g' :=s.gens) (d' :=s.drawn) (ch:=ch) ⟨fun b u e _ _ a=>k b u a e,fun b u e _ _ a=>⟨u.slots,k b u a e⟩,fun b u e n _=>?_,fun b u e a=>⟨u,k b u a e⟩,fun b i e=>?_,fun b u i e=>?_,fun b j e=>?_⟩ (fun b u e=>?_) I.bare
  fun b hb=>⟨(d b hb).2.2.2.1,(d b hb).2.1,(d b hb).2.2.2.2.1,(d b hb).2.2.2.2.2⟩
 ·rw [qF (bJ (aF (aC e) h))];exact n
 ·rw [qF (vC e f)];exact e
 ·rw [qF (vC e f)];exact e
 ·exact⟨#[],by rw[qF (vC e f),e];simp⟩
 ·by_cases hb:b=p
  ·subst hb;rw[upd_same]at e;cases e;exact new
  ·rw [qF hb] at e;refine(I.hok b u e).stay (fun c v a q=>k c v ?_ q) (fun c q=>by rw[qF (vC q f)];exact q) fun c i q=>by rw[qF (vC q f)];exact q
   rcases a with z|z
   ·rw [z];exact g b u e
   ·exact g c _ z
theorem Inv.turnedAll(I:Inv X pins σ H s)(k:∀b u,b∉ch->s.heap.get? b=some u->h'.get? b=some u)(d:∀b∈ch,FpOk X pins H b):Inv X pins σ H {s with heap:=h',toks:=t' }:=by
 have f:∀b u,H b=some u->b∉ch:=fun b u e z=>by rw[(d b z).1]at e;cases e
 refine I.call (g' :=s.gens) (d' :=s.drawn) (ch:=ch) ⟨fun b u e _ _ a=>k b u a e,fun b u e _ _ a=>⟨u.slots,k b u a e⟩,fun b u e n _=>n,fun b u e a=>⟨u,k b u a e⟩,fun b g e=>e,fun b u g e=>e,fun b h e=>⟨#[],by rw[e];simp⟩⟩ (fun b u e=>?_) I.bare
  fun b hb=>⟨(d b hb).2.2.2.1,(d b hb).2.1,(d b hb).2.2.2.2.1,(d b hb).2.2.2.2.2⟩
 refine(I.hok b u e).stay (fun c v a q=>k c v ?_ q) (fun c q=>q) fun c g q=>q
 rcases a with z|z
 ·rw [z];exact f b u e
 ·exact f c _ z
end
theorem vT.there{h:Heap}{o:HO}(x:vT P w H h a o):∃ob,h.get? a=some ob:=by
 cases o with
 |lst xs=>obtain⟨_,_,_,_,e⟩:=x;exact⟨_,e⟩
 |tup xs=>obtain⟨_,_,_,_,e,_⟩:=x;exact⟨_,e⟩
 |dK kvs=>obtain⟨_,_,_,_,o,_,_,e,_⟩:=x;exact⟨_,e⟩
 |dT kvs=>obtain⟨_,_,_,_,o,_,_,e,_⟩:=x;exact⟨_,e⟩
 |set S n=>obtain⟨o,_,_,_,e,_⟩:=x;exact⟨_,e⟩
 |ins C dx fs=>obtain⟨_,_,_,e,_⟩:=x;exact⟨_,e⟩
 |own y=>exact x
 |xd fs=>obtain⟨_,⟨_,_,_,e,_⟩,_⟩:=x;exact⟨_,e⟩
 |rng lo hi=>obtain⟨_,_,_,e⟩:=x;exact⟨_,e⟩
 |frz ob u=>obtain⟨e,_⟩:=x;exact⟨_,e⟩
 |tbl ps=>exact⟨_,(show h.get? a=some _ from x)⟩
 |tab l c q=>obtain⟨_,e,_⟩:=x;exact⟨_,e⟩
 |met f y=>exact⟨_,(show h.get? a=some _ from x)⟩
 |ext φ=>obtain⟨_,e,_⟩:=x;exact e
theorem HOk.there{h:Heap}{o:HO}(x:HOk P w H h)(e:H a=some o):∃ob,h.get? a=some ob:=(x a o e).there
theorem HOk.untracked{h:Heap}(x:HOk P w H h)(e:h.get? a=none):H a=none:=by
 cases q:H a with
 |none=>rfl
 | some u=>
   obtain⟨b,z⟩:=x.there q;grind
structure ExcCls(K:aQ)(mg:Str->Option Value)(x:Str)(C:aZ):Prop where
 m:mg x=some (.ref C)
 ex:PySem.W.excIn K C [.type "ValueError",.type "Exception",.type "BaseException",.type "object"] "ValueError.__new__"=true
noncomputable def vJ1(X:Cx)(C:aZ)(R:Hp->Prop):Prop:=
 ∀(pins:List (aZ×Obj)) (σ:St) (H:Hp) (s:aJ) (h' :Heap) (ea:aZ) (vs:List Value),Inv X pins σ H s->Heap.MadeExcOf s.heap h' ea (.ref C) vs->R H->X.xe (.ref ea) {s with heap:=h' }
theorem zWz{h:Heap}{d:List Value}{a:String}(X:K.In h)(q:PySem.W.excIn K C d a=true):
  ∃bm N nm q bs hdct sn sub ab col dd k0 k1 k2 k3 k5 mN,h.get? C=some (excClassObj nm q C N bs bm hdct sn sub ab col dd k0 k1 k2 k3 k5 a)/\h.Ns N mN/\mN "__init__"=none/\OwnTail h d bm:=by
 unfold PySem.W.excIn at q;split at q
 ·rename_i dd j g k;split at q
  ·rename_i u bm k0 k1 k2 k3 n k5 i hs;simp only[aP,beq_iff_eq,dG]at q;obtain⟨⟨⟨⟨⟨rfl,rfl⟩,b⟩,m⟩,c⟩,e⟩:=q;obtain⟨nm,bs,o,p,r,s,sn,sub,ab,col,t⟩:=j;dsimp only at i b c e;subst i b;have f:g=#[k0,k1,k2,k3,some (.builtin n),k5]:=by
    obtain⟨l⟩:=g;simp only at hs;rw[hs]
   subst f;exact⟨bm,p,nm,r,bs,s,sn,sub,ab,col,dd,k0,k1,k2,k3,k5,_,X _ _ k,.of_isNs (PySem.W.isNs_of_in X c),PySem.W.nsMap_none_of_in X c e,PySem.W.tail_of_in X m⟩
  ·cases q
 ·cases q
section
variable{X:Cx}
noncomputable def zX8(a:TE)(R:Hp->Prop):TS:=fun _ σ H=>a σ H fun v b=>([v]:List V).length =1/\R b
theorem zVu{x:Str}{R:Hp->Prop}{e:Expr}{i:TE}{o a:Pos}(c:ExcCls X.K X.mg x C)(p:Gl X x)(d:X.calm=true)(r:PE X e i)(t:vJ1 X C R)(hs:aX [e] X.env=[(false,eval e X.env)]:=by rfl)(j:(x == ("__debug__":Str))=false:=by decide):
  PS X (.Raise (some (.Call (.Name x o) [e] [] a)) none pos) (zX8 i R):=by
 intro b s σ H D I h;obtain⟨bm,N,nm,q,bs,hdct,sn,sub,ab,col,dd,k0,k1,k2,k3,k5,mN,u,v,k,T⟩:=zWz I.ok.mod.kin c.ex
 refine wpAny_Raise_call_subT (C:=C) (nm:=nm) (q:=q) (N:=N) (bs:=bs) (bm:=bm) (hdct:=hdct) (sn:=sn) (sub:=sub) (ab:=ab) (col:=col) (dd:=dd) (k0:=k0) (k1:=k1) (k2:=k2) (k3:=k3) (k5:=k5)
  dS (mN:=mN) (T.hasType dS.hasBase) (I.ok.hd d) (by rw[hs];rfl) k (qQs I p c.m ⟨rfl,?_⟩ j)
 have w:PA X [e] (qKv i tNil):=xP r qZa hs;have n:=w a b s σ H (fun f l=>f.length=1/\R l) I h;rw[hs]at n⊢;refine Calls.evalArgs_plain (bM n (fun f z A=>?_) fun _ _ y=>y);obtain⟨M,l,g,B,E,F⟩:=A;refine⟨rfl,?_,g.bk _ _ u,v.keeps g.bk,T.keeps g.bk,fun G J L=>t b σ l z G J f g L F⟩;show f.length<=aI;rw[←B.length,E];decide
end
noncomputable abbrev Cx.marked(X:Cx)(a:aZ):Cx:={X with A:=X.A.mark (some (.ref a)),calm:=false,xe:=fun _ _=>False}
section
variable{X:Cx}{pins:List (aZ×Obj)}{σ:St}{H:Hp}{s:aJ}{ea:aZ}
theorem Inv.marked(I:Inv X pins σ H s)(a:aZ):Inv (X.marked a) pins σ H s:=
 ⟨⟨I.ok.mod,I.ok.kind,I.ok.glob,I.ok.blt,I.ok.above,I.ok.inj,I.ok.has,I.ok.cab,fun h=>absurd (show false=true from h) aR,I.ok.frames,I.ok.stk,I.ok.exf,I.ok.bs,I.ok.bsz,I.ok.noex,I.ok.exfs,I.ok.funs,I.ok.frf⟩,
   I.os,I.bare,I.base,I.loc,I.cell,I.free,I.freeC,I.pin,I.hok,I.len⟩
theorem Inv.unmarked(I:Inv (X.marked ea) pins σ H s)(hd:X.calm=true->X.A.handled=none):Inv X pins σ H s:=
 ⟨⟨I.ok.mod,I.ok.kind,I.ok.glob,I.ok.blt,I.ok.above,I.ok.inj,I.ok.has,I.ok.cab,hd,I.ok.frames,I.ok.stk,I.ok.exf,I.ok.bs,I.ok.bsz,I.ok.noex,I.ok.exfs,I.ok.funs,I.ok.frf⟩,
   I.os,I.bare,I.base,I.loc,I.cell,I.free,I.freeC,I.pin,I.hok,I.len⟩
theorem Inv.adopt{o:HO}(I:Inv X pins σ H s)(a:H p=none)(h0:X.s₀.heap.get? p=none)(h:p≠X.env.locals)(i:∀x c,X.env.cells.lookup x=some c->c≠p)(j:∀q∈X.pn ++ pins,q.1≠p)(new:vT X.prog X.w (upd H p o) s.heap p o):Inv X pins σ (upd H p o) s:=by
 refine⟨I.ok,I.os,I.bare,⟨I.base.keep,I.base.slot,fun b u e n k=>?_,I.base.there,fun b f e=>?_,fun b u f e=>?_,fun b l e=>?_⟩,I.loc,I.cell,?_,fun x c e=>?_,fun q g=>?_,fun b u e=>?_,I.len⟩
 ·rw [qF (fun z=>by rw [z,h0] at e;cases e)];exact I.base.free b u e n k
 ·have z:=I.base.tups b f e;rw[qF (vC z a)];exact z
 ·have z:=I.base.frzs b u f e;rw[qF (vC z a)];exact z
 ·obtain⟨d,z⟩:=I.base.tbls b l e;exact⟨d,by rw[qF (vC z a)];exact z⟩
 ·rw [qF h.symm];exact I.free
 ·rw [qF (i x c e)];exact I.freeC x c e
 ·obtain⟨m,r,t⟩:=I.pin q g;exact⟨m,by rw[qF (j q g)];exact r,t⟩
 ·by_cases hb:b=p
  ·subst hb;rw[upd_same]at e;cases e;exact new
  ·rw [qF hb] at e;exact(I.hok b u e).stay (fun c v _ q=>q) (fun c q=>by rw[qF (vC q a)];exact q) fun c f q=>by rw[qF (vC q a)];exact q
theorem vQb{M:Model}{x:Str}{Q:Unit->aJ->Prop}(I:Inv X pins σ H s)(G:X.N.Nodup)(hi:X.N[i]?=some x)(f:X.env.scope.names.lookup x=some .local)(h:∀s',Inv X pins (σ.set i none) H s' ->Q () s'):aH M A (do bindName X.env x .none;unbindBehindTheSuite X.env x pos) Q E s:=by
 refine aV (wpAny_bindName (qZe I G hi (Or.inl f) (v:=.non) rfl (fun s1 a=>?_) (.inr f)));have r:(X.env.scope.kind ==.class || (X.env.scope.kind ==.module && X.env.locals != X.env.globals))=false:=by rw[I.ok.kind];rfl
 obtain⟨m,L,J⟩:=a.loc;have l:i<(σ.set i (some V.non)).length :=by
  rw[a.len];exact(aD.mp hi).1
 obtain⟨u,ru,O⟩:=J i x .non hi (by rw[bS]at l;simp[l]) (Or.inl f);have P:m x=some u:=by
  rcases O with⟨_,z⟩|⟨z,_⟩
  ·exact z
  ·have C :X.env.kindOf x=some .local :=f;rcases z with z|z <;> rw[C]at z <;> cases z
 unfold unbindBehindTheSuite;refine wpAny_onRaise (wpAny_unbindName_local f L P r fun R v D sb=>?_);refine h _ ?_
 have g:HOk X.prog X.w H R :=fun b S e=>by
  refine(a.hok b S e).stay (fun c K hc q=>(sb.2 c ?_).trans q) (fun _ q=>q) fun _ _ q=>q
  rintro rfl;rcases hc with z|hc
  ·rw[←z,a.free]at e;cases e
  ·rw[a.free]at hc;cases hc
 refine⟨I.ok,a.os,a.bare,⟨fun b o e n hb f=>?_,fun b o e n hb f=>?_,a.base.free,fun b o e f=>?_,a.base.tups,a.base.frzs,a.base.tbls⟩,⟨_,D,fun j y T t B U=>?_⟩,fun y c e=>?_,a.free,a.freeC,fun p W=>?_,g,by rw[bS];exact I.len⟩
 ·exact(sb.2 b (bJ (aF (aC e) I.ok.above))).trans (a.base.keep b o e n hb f)
 ·obtain⟨Y,t⟩:=a.base.slot b o e n hb f;exact⟨Y,(sb.2 b (bJ (aF (aC e) I.ok.above))).trans t⟩
 ·obtain⟨Z,t⟩:=a.base.there b o e f;exact⟨Z,(sb.2 b (bJ (aF (aC e) I.ok.above))).trans t⟩
 ·have F:j≠i:=fun z=>by
   subst z;rw[List.getElem?_set]at B;split at B
   ·split at B <;> cases B
   ·rename_i z;exact absurd rfl z
  rw[bH (Ne.symm F)]at B;obtain⟨u',r',q⟩:=J j y T t (by rw[bH (Ne.symm F)];exact B) U;refine⟨u',r',?_⟩;rcases q with⟨k,e⟩|⟨k,c,e,z⟩
  ·refine .inl ⟨k,?_⟩;have:y≠x:=fun e=>F (qYw G t (e▸hi))
   simp[this,e]
  ·exact .inr ⟨k,c,e,z.sameBut sb (a.cne y c e)⟩
 ·obtain⟨K,z⟩:=a.cell y c e;exact⟨K,z.sameBut sb (a.cne y c e)⟩
 ·obtain⟨e,n,ne,nf,d⟩:=a.pin p W;exact⟨(sb.2 p.1 ne).trans e,n,ne,nf,d⟩
theorem vZ7{d s' :aJ}{cls a0:Value}{B f:Heap}(g:Inv X pins σ H1 d)(os:s'.os=d.os)(h:AllBare s'.gens)(un:Un (frs X.stack) [] H1 H2 d.heap s'.heap)(p:HOk X.prog X.w H2 s'.heap)(A:Heap.FlyingW B X.stack ea cls a0 f)(r:∀b o,s'.heap.get? b=some o->b∉frs X.stack->(H2 b≠none\/d.heap.get? b≠none)->B.get? b=some o)(C:s'.heap.UpToSlots f):Inv X pins σ H2 {s' with heap:=f}:=by
 have l:∀b,b∉([]:List aZ):=fun b=>by simp
 have m:∀b o,s'.heap.get? b=some o->b∉frs X.stack->(H2 b≠none\/d.heap.get? b≠none)->f.get? b=some o:=fun b o e D E=>A.1 b o (r b o e D E)
 have i:∀b o,d.heap.get? b=some o->b∈frs X.stack->∃s,f.get? b=some {o with slots:=s}:=fun b o e hb=>by
  obtain⟨_,j,a,y⟩:=g.stack.mem hb;rw[e]at a;cases a;obtain⟨s,t⟩:=un.slot b o e (g.stkFree b hb) hb (l b);obtain⟨x,F⟩:=C b _ t y;exact⟨x,F⟩
 have k:∀b u,H2 b=some u->b∉frs X.stack:=fun b u e hb=>by
  obtain⟨_,j,a,y⟩:=g.stack.mem hb;rw[un.free b j a (g.stkFree b hb) (l b)]at e;cases e
 refine g.call' (s' :={s' with heap:=f}) (ch:=[]) os ⟨fun b o e n hb _=>?_,fun b o e n hb _=>i b o e hb,un.free,fun b o e G=>?_,un.tups,un.frzs,un.tbls⟩ (fun b u e=>?_) h fun b hb=>absurd hb (l b)
 ·exact m b o (un.keep b o e n hb (l b)) hb (.inr (by rw[e];simp))
 ·by_cases hb:b∈frs X.stack
  ·obtain⟨s,z⟩:=i b o e hb;exact⟨_,z⟩
  ·obtain⟨j,t⟩:=un.there b o e G;exact⟨j,m b j t hb (.inr (by rw[e];simp))⟩
 ·refine(p b u e).stay (fun c v H q=>?_) (fun _ q=>q) fun _ _ q=>q
  rcases H with z|z
  ·subst z;exact m c v q (k c u e) (.inl (by rw[e];simp))
  ·exact m c v q (k c _ z) (.inl (by rw[z];simp))
noncomputable def jVs(p:aZ)(cls:Value)(h:Heap):Prop:=∃o,h.get? p=some o/\o.cls=cls
end
end L2
namespace L2
open PySem PySem.Spec PySem.W PySem.Calls PyProof.Rows
variable{M:Model}{R:Result->aJ->Prop}{tk:Tok}
structure ExcKit(K:Frag)(C:aZ):Prop where
 ga:findIn K (.ref C) "__getattribute__"=some (some (.builtin "BaseException.__getattribute__"))
 gx:findIn K (.ref C) "__getattr__"=some none
 cl:findIn K (.ref C) "__class__"=some (some (.builtin "object.__class__"))
 mo:mroIn K C (.type "object")=some true
 mb:mroIn K C (.type "BaseException")=some true
section
variable{prog:bZ}{w:bP}{A:cW}{E:Value->aJ->Prop}{h:Heap}{g:Array GenState}{d:Drawn}{t:Nat}{os:OsState}{a C:aZ}{o:Obj}{K:Frag}
theorem vJv(b:h.get? a=some o)(c:o.cls=.ref C):Looks M h (typeOf (.ref a)) (.ref C):=c▸(Looks.ld b).andThen .now
open Builtin Builtin.ObjectAttr Builtin.Getset_descriptor in
theorem zW1{b:Value}(X:K.In h)(k:ExcKit K C)(c:h.get? a=some o)(e:o.cls=.ref C)(f:R (.ok (.ret (.ref C))) ⟨h,g,d,t,os⟩):
  codeAny (model prog w) A (.call (.builtin "getset_descriptor.__get__") ⟨[.builtin "object.__class__",.ref a,b],[]⟩) R ⟨h,g,d,t,os⟩:=by
 have i:=vJv (M:=model prog w) c e;have j:=looks_mroIn (M:=model prog w) X k.mo;refine codeAny_call_builtin KF.slot_gs.plain KF.entry_gs (KF.slot_gs.check _ _ _ _ _ _ _ _ KF.type_class (KF.args_gs _ _ _) ?_);unfold Builtin.«getset_descriptor.__get__» descrGet;rw[dga_obj];refine aV (aE ?_);unfold descrGetter descrCheckInstance descrNameAndClass isInstance;simp only[KF.owner_class];repeat lk
 refine⟨Code.quiet_builtin _ (by decide +kernel),codeAny_builtin KF.entry_class ?_⟩;unfold Builtin.«object.__class__» shownTypeOf;repeat lk
 exact f
theorem vKm{Q:Fin->aJ->Prop}(X:K.In h)(k:ExcKit K C)(b:h.get? a=some o)(c:o.cls=.ref C)(f:Q (.done (.ret (.ref C))) ⟨h,g,d,t,os⟩):
  aH (model prog w) A (Builtin.«object.__getattribute__» ⟨[.ref a,.str "__class__" tk],[]⟩) Q E ⟨h,g,d,t,os⟩:=by
 have i:=F.typeOf_object_class;have j:=F.slot_gs_get.lookup;have l:=F.slot_gs_set.lookup;have e:=looks_findIn (M:=model prog w) X k.cl;repeat (any_goals (first|assumption|with_reducible refine e.at ?_|(with_reducible refine cU b ?_;rw[c])|wp_step))
 refine zW1 X k b c ?_
 repeat (any_goals (first|assumption|wp_step))
theorem vQp{c:Value}{Q:Unit->aJ->Prop}(X:K.In h)(k:ExcKit K C)(e:h.get? a=some o)(f:o.cls=.ref C)(i:Q () ⟨h,g,d,t,os⟩):
  aH M A (checkBuiltinCall "BaseException.__getattribute__" ⟨[.ref a,c],[]⟩) Q E ⟨h,g,d,t,os⟩:=by
 have m:builtinKind "BaseException.__getattribute__"=some .slot :=by decide +kernel
 have b:splitId "BaseException.__getattribute__"=some ("BaseException","__getattribute__"):=by decide +kernel
 have j:=vJv (M:=M) e f;have l:=looks_mroIn (M:=M) X k.mb;simp only[checkBuiltinCall,b];repeat (first|with_reducible refine j.at ?_|with_reducible refine l.at ?_|wp_step)
 exact i
theorem zZs(X:K.In h)(k:ExcKit K C)(b:h.get? a=some o)(c:o.cls=.ref C)(e:R (.ok (.ret (.ref C))) ⟨h,g,d,t,os⟩):
  codeAny (model prog w) A (.call (.builtin "BaseException.__getattribute__") ⟨[.ref a,.str "__class__" tk],[]⟩) R ⟨h,g,d,t,os⟩:=
 codeAny_call_builtin F.attrBase_ValueError.ga.plain F.entry_bexc_ga (vQp X k b c (vKm X k b c e))
theorem zK3{c b:Bool}{Q:Value->aJ->Prop}(X:K.In h)(k:ExcKit K C)(e:h.get? a=some o)(f:o.cls=.ref C)(n:Q (.ref C) ⟨h,g,d,t,os⟩):
  aH (model prog w) A (getAttrBy (.ref a) (.str "__class__" tk) c b) Q E ⟨h,g,d,t,os⟩:=by
 have p:=F.attrBase_ValueError.ga.bind (.ref a);have i:(b && onTheHeap (Value.builtin "BaseException.__getattribute__"))=false:=by cases b <;> rfl
 have j:(Value.builtin "BaseException.__getattribute__" == Value.builtin "object.__getattribute__")=false:=by decide +kernel
 have l:=looks_findIn (M:=model prog w) X k.ga;have m:=looks_findIn (M:=model prog w) X k.gx;repeat (any_goals (first|assumption|with_reducible refine l.at ?_|with_reducible refine m.at ?_|(with_reducible refine cU e ?_;rw[f])|wp_step))
 refine zZs X k e f ?_
 repeat (any_goals (first|assumption|wp_step))
theorem zZt{Q:Option Value->aJ->Prop}(X:K.In h)(k:ExcKit K C)(b:h.get? a=some o)(c:o.cls=.ref C)(e:Q (some (.ref C)) ⟨h,g,d,t+1,os⟩):
  aH (model prog w) A (getAttr? (.ref a) "__class__") Q E ⟨h,g,d,t,os⟩:=by
 repeat (any_goals (first|assumption|with_reducible apply zK3 X k b c|wp_step))
theorem zZb(k:ExcKit K C):KitX K (.ref a) (.ref C) (jVs a (.ref C)) where
 ty:=fun _ _ _ ⟨_,e,c⟩=>vJv e c
 it:=fun _ _ X _=>by
  obtain⟨d,b,_⟩:=cT.mp k.mo;unfold clsIn at b;split at b
  ·rename_i l m f g i;intro t u v w k q;exact aV (wpAny_loadPart (k _ _ (X _ _ i)) (aE q))
  ·cases b
 ne:=fun h p x r n y X j=>by
  obtain⟨d,b,_⟩:=cT.mp k.mo;refine Bool.eq_false_iff.mpr fun q=>?_
  have e:C=p:=Value.ref.inj (beq_iff_eq.mp q);subst e;unfold clsIn at b;split at b
  ·rename_i l m f g i;have z:=(X _ _ i).symm.trans j;cases z
  ·cases b
 ca:=fun {_ _ _ _ _ s} X ⟨o,e,c⟩ q=>by
  exact zZt X k e c q
end
section
variable{X:Cx}
theorem zVp{c:V}{u v:Value}(h:(∃n,c=.ty n)\/∃a,c=.ref a)(r:RelV c u)(q:RelV c v):u=v:=by
 rcases h with⟨n,rfl⟩|⟨n,rfl⟩
 ·exact(show u=Value.type n from r).trans (show v=Value.type n from q).symm
 ·exact(show u=Value.ref n from r).trans (show v=Value.ref n from q).symm
end
end L2
namespace L2
open PySem PySem.Spec PyProof.Rows
variable{l:aZ}{Q:Value->aJ->Prop}{u:Value}{P:bZ}{w:bP}{H H':Hp}{xs:List (List Key×aZ×Value)}{h':Heap}{X:Cx}{pins:List (aZ×Obj)}{σ:St}
section
variable{X:Cx}
theorem zZi{a:List Value}{ns:List Int}(i:IntsAre a ns):∀(j:Nat) v,a[j]?=some v->∃t,v=Value.int (ns.getD j 0) t:=by
 induction i with
 |nil=>grind
 |cons n t i ih=>grind
theorem zZ1(k:X.calm=true):jS X (.builtin "sum") (fun xs H Q=>∃(p:aZ) (ns:List Int),xs=[.ref p]/\SqL X.K H p (ns.map V.int)/\Q (.int ns.sum) H):=by
 intro f s σ H xs us Q I r h;obtain⟨p,ns,rfl,l,q⟩:=h;obtain⟨u,rfl,m⟩:=qV6 r;cases m;obtain⟨a,n,c,_⟩:=I.list l;have g:IntsAre a ns:=vWp n;have i:p<s.heap.objs.size:=by obtain⟨_,e,_⟩:=c.isList;exact aC e
 refine call_sum_walkG (wpAny_pyIter_list c.isList ?_);refine⟨s.heap.objs.size,_,_,_,_,_,fun j=>ns.getD j 0,rfl,Walks.list (A:=X.A.in1) (I.ok.hd k) s.heap.objs.size p (bJ i) a.toArray,⟨⟨_,aS _ rfl,rfl,rfl⟩,c.isList.at fun o e=>aY _ e⟩,fun b hb=>?_,fun j v t=>zZi g j v (by simpa using t),fun C w t' x=>?_⟩
 ·have d :b=s.heap.objs.size\/b=p:=by simpa using hb
  rcases d with rfl|rfl
  ·rw[cM];exact Nat.lt_succ_self _
  ·rw[cM];exact Nat.lt_succ_of_lt i
 ·refine⟨.int ns.sum,H,I.kept (t' :=w) fun b o e=>x b o (fun z=>?_) (aY _ e),⟨t',?_⟩,q⟩
  ·have y :b=s.heap.objs.size:=by simpa using z
   exact absurd (aC e) (by rw[y];exact cK _)
  ·have B:a.toArray.size=ns.length:=by rw [aN];exact g.length
   rw[preSum_getD,B,dI (aB _)]
end
section
variable{X:Cx}{pins:List (aZ×Obj)}{σ:St}{H:Hp}{s:aJ}
theorem vK3:jS X (.builtin "isinstance") (fun xs H Q=>∃a vs n b,xs=[.ref a,.ty n]/\SqT X.K H a vs/\bV X.K (.type "tuple") (.type n)=some b/\Q (.bl b) H):=by
 intro c s σ H xs us Q I r h;obtain⟨a,vs,n,b,rfl,d,e,q⟩:=h;obtain⟨u,f,rfl,g,i⟩:=vV4 r;cases(show u=Value.ref a from g);cases(show f =Value.type n from i);obtain⟨j,_,⟨o,k,l,_⟩,_⟩:=I.tuple d;exact bL PySem.W.kitx_tuple I.kIn ⟨o,k,l⟩ e (fun z=>nomatch z) fun m=>⟨.bl b,H,I.tok m,rfl,q⟩
end
structure Feed(i l:aZ)(P:Nat->Heap->Prop)(f:Nat->Option Value):Prop where
 obj:∀k h,P k h->∃o,h.get? i=some o/\∀v,o.data≠ .cell v
 keep:∀k (h g:Heap),P k h->(∀b o,b=i\/b=l->h.get? b=some o->g.get? b=some o)->P k g
 item:∀{prog:bZ} {w:bP} {A:cW} {E:Value->aJ->Prop} {s:aJ} {k:Nat} {x:Value} {Q:Value->aJ->Prop},P k s.heap->f k=some x->
  (∀g,P (k+1) g->eK i s.heap g->Q x {s with heap:=g})->aH (model prog w) A (Builtin.SmallTypes.nextOf (.ref i)) Q E s
 stop:∀{prog:bZ} {w:bP} {A:cW} {E:Value->aJ->Prop} {s:aJ} {k:Nat} {Q:Value->aJ->Prop},A.handled=none->P k s.heap->f k=none->
  (∀g e,Heap.ExtBut i s.heap g->(∃o,g.get? e=some o/\o.cls=.type "StopIteration")->E (.ref e) {s with heap:=g})->aH (model prog w) A (Builtin.SmallTypes.nextOf (.ref i)) Q E s
section
variable{prog:bZ}{w:bP}{A:cW}{E:Value->aJ->Prop}{s:aJ}
theorem vWq{i:aZ}(u:l≠i)(xs:Array Value):Feed i l (fun k h=>h.IsTupleIter i l k/\h.IsTuple l xs) (fun k=>xs[k]?) where
 obj:=fun k h p=>by
  obtain⟨⟨o,e,_,d⟩,_⟩:=p;exact⟨o,e,fun v z=>by rw[d]at z;cases z⟩
 keep:=fun k h g p q=>⟨p.1.at fun o e=>q i o (.inl rfl) e,by
  obtain⟨o,e,r⟩:=p.2;exact⟨o,q l o (.inr rfl) e,r⟩⟩
 item:=by
  intro j w A E s k x Q p y H;obtain⟨⟨I,c,B,b⟩,⟨C,n,cl,D,t⟩⟩:=id p;unfold Builtin.SmallTypes.nextOf;refine aV (dJ (name:=Str.ofString "__next__") p.1.typeIs dU (wpAny_call_entry dU p.1.typeIs PySem.F.entry_tuple_iterator_next ?_ (PySem.F.args_tuple_iterator_next_1 _)));show aH _ _ (field (.ref i) 0 >>=_) _ _ s;refine aV (bA c b (x:=.ref l) rfl ?_);show aH _ _ (if(Value.ref l == Value.none)=true then _ else _) _ _ s;rw[if_neg (show¬((Value.ref l == Value.none)=true) from aR)];show aH _ _ (field (.ref i) 1 >>=_) _ _ s;refine aV (bA c b (x:=.int k 0) rfl ?_);show aH _ _ (seqItems? (.ref l) >>=_) _ _ s;refine aV (dB n t ?_);have f :xs[k]?=some x:=y;simp only[Int.toNat_natCast,f];refine aV (wpAny_setField c b (by simp) (aE ⟨x,rfl,aE (H _ ⟨?_,?_⟩ (Heap.SameBut.update ..))⟩))
  ·exact⟨_,dN _ c (Obj.isFreed_of_fields (Obj.data_mapFields b _)),(Obj.cls_mapFields ..).trans B,by rw[Obj.data_mapFields b];simp[rawInt]⟩
  ·exact⟨C,((Heap.SameBut.update ..).2 l u).trans n,cl,D,t⟩
 stop:=by
  intro j w A E s k Q G p y J;obtain⟨⟨I,c,B,b⟩,⟨C,n,cl,D,t⟩⟩:=id p;unfold Builtin.SmallTypes.nextOf;refine aV (dJ (name:=Str.ofString "__next__") p.1.typeIs dU (wpAny_call_entry dU p.1.typeIs PySem.F.entry_tuple_iterator_next ?_ (PySem.F.args_tuple_iterator_next_1 _)));show aH _ _ (field (.ref i) 0 >>=_) _ _ s;refine aV (bA c b (x:=.ref l) rfl ?_);show aH _ _ (if(Value.ref l == Value.none)=true then _ else _) _ _ s;rw[if_neg (show¬((Value.ref l == Value.none)=true) from aR)];show aH _ _ (field (.ref i) 1 >>=_) _ _ s;refine aV (bA c b (x:=.int k 0) rfl ?_);show aH _ _ (seqItems? (.ref l) >>=_) _ _ s;refine aV (dB n t ?_);have f :xs[k]?=none:=y;simp only[Int.toNat_natCast,f];refine aV (wpAny_rule (aV (wpAny_setField c b (by simp) ?_)));show aH _ _ (newExc (.type "StopIteration") [] >>=_) _ _ _;refine aV ?_
  simp only[newExc,newTuple];refine aV (cI ?_ (by size_fits));refine aV (m:=firstArgMember _ _) (wpAny_of_eq (a:=Value.none) (by first|rfl|(simp only[firstArgMember];rfl)) (cI ?_ (by size_fits)));simp only[raiseNew];refine aV (wpAny_handled ?_);first|rw[show A.in1.handled=none from G]|rw[G]
  refine aV (aE (wpAny_throw ?_));exact J _ _ (((Heap.SameBut.update ..).extBut.push _).push _) ⟨_,aS _ rfl,rfl⟩
variable{z TI TO i1 i2 l1 l2:aZ}{P1 P2:Nat->Heap->Prop}{f1 f2:Nat->Option Value}{k1 k2:Nat}{x y a b:Value}
theorem vYj{Q:Option Value->aJ->Prop}(q:Feed i1 l1 P1 f1)(r:Feed i2 l2 P2 f2)(D:ZipApart z TI TO i1 i2 l1 l2)(h:IsZip s.heap z TI TO .none)(U:IsPair s.heap TI (.ref i1) (.ref i2))(V:IsPair s.heap TO a b)(W:P1 k1 s.heap)(X:P2 k2 s.heap)(Y:f1 k1=some x)(Z:f2 k2=some y)(hQ:∀g,IsZip g z TI TO (rawInt s.heap.objs.size)->IsPair g TO x y->P1 (k1+1) g->P2 (k2+1) g->IsPair g s.heap.objs.size x y->
   (∀c o,c≠z->c≠TO->c≠i1->c≠i2->s.heap.get? c=some o->g.get? c=some o)->Q (some (.ref s.heap.objs.size)) {s with heap:=g}):
  aH (model prog w) A (pyNext (.ref z)) Q E s:=by
 have L:s.TypeIs (.ref z) "zip":=⟨_,h,rfl⟩
 unfold pyNext;refine aV (wpAny_attempt (dJ (name:=Str.ofString "__next__") L PySem.F.slot_zip_next (wpAny_call_entry PySem.F.slot_zip_next L PySem.F.entry_zip_next ?_ (PySem.F.args_zip_next_1 _))));show aH _ _ (field (.ref z) 2 >>=_) _ _ _;refine aV (bA h rfl (x:=.bool false) rfl ?_);show aH _ _ (field (.ref z) 3 >>=_) _ _ _;refine aV (bA h rfl (x:=.ref TI) rfl (aV (dB U rfl ?_)));show aH _ _ (Builtin.SmallTypes.ownedTupleIsFree (.ref z) >>=_) _ _ _;refine aV ?_
 unfold Builtin.SmallTypes.ownedTupleIsFree;refine aV (bA h rfl (x:=.none) rfl (aE ?_));simp only[if_true];refine aV (wpAny_rule (aV (bA h rfl (x:=.ref TO) rfl ?_)));refine aV (dO h (by simp) fun g1 G i=>?_);replace G:IsZip g1 z TI TO .ellipsis :=G;refine aV ?_
 simp only[List.zipIdx_cons,List.zipIdx_nil,List.forIn_cons,List.forIn_nil];refine aV (aV (wpAny_onRaise ?_));show aH _ _ (Builtin.SmallTypes.nextOf (.ref i1) >>=_) _ _ _;have q1:P1 k1 g1:=q.keep _ _ _ W fun c o d e=>i.extBut _ _ (by rcases d with rfl|rfl;exact D.i1z;exact D.l1z) e
 refine aV (q.item q1 Y fun g2 r1 j=>aE ?_);have M:IsPair g2 TO a b:=j.extBut _ _ D.TOi1 (i.extBut _ _ D.TOz V);refine aV (dB M rfl (aV (wpAny_updateSeq_pair M fun N H k=>?_)));replace H:IsPair N TO x b:=H;refine aV (wpAny_letGo (aE (aV (aV (wpAny_onRaise ?_)))));show aH _ _ (Builtin.SmallTypes.nextOf (.ref i2) >>=_) _ _ _;have q2:P2 k2 N:=r.keep _ _ _ X fun c o d e=>k.extBut _ _ (by rcases d with rfl|rfl;exact D.TOi2.symm;exact D.l2TO) (j.extBut _ _ (by rcases d with rfl|rfl;exact D.i12.symm;exact D.l2i1) (i.extBut _ _ (by rcases d with rfl|rfl;exact D.i2z;exact D.l2z) e))
 refine aV (r.item q2 Z fun g4 r2 b4=>aE ?_);have O:IsPair g4 TO x b:=b4.extBut _ _ D.TOi2 H;refine aV (dB O rfl (aV (wpAny_updateSeq_pair O fun f t l=>?_)));replace t:IsPair f TO x y:=t;refine aV (wpAny_letGo (aE (aE (aV (dB t rfl (aV (wpAny_newTuple ?_)))))));have sz:f.objs.size=s.heap.objs.size:=by rw[l.1,b4.1,k.1,j.1,i.1]
 have P:IsZip f z TI TO .ellipsis :=l.extBut _ _ D.TOz.symm (b4.extBut _ _ D.i2z.symm (k.extBut _ _ D.TOz.symm (j.extBut _ _ D.i1z.symm G)));have m:∀c o,c≠z->c≠TO->c≠i1->c≠i2->s.heap.get? c=some o->f.get? c=some o:=fun c o u v I J e=>
  l.extBut _ _ v (b4.extBut _ _ J (k.extBut _ _ v (j.extBut _ _ I (i.extBut _ _ u e))))
 have s1:P1 (k1+1) f:=q.keep _ _ _ r1 fun c o d e=>l.extBut _ _ (by rcases d with rfl|rfl;exact D.TOi1.symm;exact D.l1TO) (b4.extBut _ _ (by rcases d with rfl|rfl;exact D.i12;exact D.l1i2) (k.extBut _ _ (by rcases d with rfl|rfl;exact D.TOi1.symm;exact D.l1TO) e))
 have s2:P2 (k2+1) f:=r.keep _ _ _ r2 fun c o d e=>l.extBut _ _ (by rcases d with rfl|rfl;exact D.TOi2.symm;exact D.l2TO) e
 have p:z<f.objs.size:=aC P;show aH _ _ (Builtin.SmallTypes.ownedTupleHandOut (.ref z) (.ref f.objs.size) >>=_) _ _ _;refine aV ?_
 unfold Builtin.SmallTypes.ownedTupleHandOut;have z6:IsZip (f.push {cls:=.type "tuple",data:=.seq #[x,y]}) z TI TO .ellipsis :=aY _ P;refine aV (dO z6 (by simp) fun g7 K R=>?_);replace K:IsZip g7 z TI TO (rawInt f.objs.size):=K;refine dO K (by simp) fun B C S=>?_
 replace C:IsZip B z TI TO (rawInt f.objs.size):=C;have up:∀c o,c≠z->f.get? c=some o->B.get? c=some o:=fun c o n e=>S.extBut _ _ n (R.extBut _ _ n (aY _ e))
 have T:IsPair B f.objs.size x y:=S.extBut _ _ (Nat.ne_of_gt p) (R.extBut _ _ (Nat.ne_of_gt p) (aS _ rfl));rw[sz]at C T;refine aE ⟨_,rfl,aE ?_⟩;show Q (some (.ref f.objs.size)) _;rw[sz]
 exact hQ B C (up _ _ D.TOz t) (q.keep _ _ _ s1 fun c o d e=>up c o (by rcases d with rfl|rfl;exact D.i1z;exact D.l1z) e) (r.keep _ _ _ s2 fun c o d e=>up c o (by rcases d with rfl|rfl;exact D.i2z;exact D.l2z) e) T
  fun c o u v I J e=>up c o u (m c o u v I J e)
theorem zVe{Q:Option Value->aJ->Prop}(H:A.handled=none)(t:Feed i1 l1 P1 f1)(I:Feed i2 l2 P2 f2)(D:ZipApart z TI TO i1 i2 l1 l2)(k:IsZip s.heap z TI TO .none)(P:IsPair s.heap TI (.ref i1) (.ref i2))(R:IsPair s.heap TO a b)(S:P1 k1 s.heap)(U:P2 k2 s.heap)(m:f1 k1=none\/f2 k2=none)(V:∀g,(∀c o,c≠z->c≠TO->c≠i1->c≠i2->s.heap.get? c=some o->g.get? c=some o)->Q none {s with heap:=g}):aH (model prog w) A (pyNext (.ref z)) Q E s:=by
 have J:s.TypeIs (.ref z) "zip":=⟨_,k,rfl⟩
 have h:∀(g:Heap) (e:aZ),(∀c o,c≠z->c≠TO->c≠i1->c≠i2->s.heap.get? c=some o->g.get? c=some o)->(∃o,g.get? e=some o/\o.cls=.type "StopIteration")->
   aH (model prog w) A (do let b ←isInstance (.ref e) (.type "StopIteration");if b=true then pure none else throw (.ref e)) Q E {s with heap:=g}:=fun g e k1 k2=>by
  obtain⟨o,W,i⟩:=k2;refine aV (wpAny_isInstance (T:="StopIteration") (b:=true) ⟨o,W,i⟩ isSubtype_stop ?_);exact aE (V g k1)
 unfold pyNext;refine aV (wpAny_attempt (dJ (name:=Str.ofString "__next__") J PySem.F.slot_zip_next (wpAny_call_entry PySem.F.slot_zip_next J PySem.F.entry_zip_next ?_ (PySem.F.args_zip_next_1 _))));show aH _ _ (field (.ref z) 2 >>=_) _ _ _;refine aV (bA k rfl (x:=.bool false) rfl ?_);show aH _ _ (field (.ref z) 3 >>=_) _ _ _;refine aV (bA k rfl (x:=.ref TI) rfl (aV (dB P rfl ?_)));show aH _ _ (Builtin.SmallTypes.ownedTupleIsFree (.ref z) >>=_) _ _ _;refine aV ?_
 unfold Builtin.SmallTypes.ownedTupleIsFree;refine aV (bA k rfl (x:=.none) rfl (aE ?_));simp only[if_true];refine aV (wpAny_rule (aV (bA k rfl (x:=.ref TO) rfl ?_)));refine aV (dO k (by simp) fun g1 r n=>?_);replace r:IsZip g1 z TI TO .ellipsis :=r;refine aV ?_
 simp only[List.zipIdx_cons,List.zipIdx_nil,List.forIn_cons,List.forIn_nil];refine aV (aV (wpAny_onRaise ?_));show aH _ _ (Builtin.SmallTypes.nextOf (.ref i1) >>=_) _ _ _;have K:P1 k1 g1:=t.keep _ _ _ S fun c o i e=>n.extBut _ _ (by rcases i with rfl|rfl;exact D.i1z;exact D.l1z) e
 cases hx:f1 k1 with
 | none=>
   refine aV (t.stop H K hx fun u e j v=>?_);obtain⟨y,d,f⟩:=v;have L:IsZip u z TI TO .ellipsis :=j _ _ D.i1z.symm r;have B:e≠z:=fun q=>by subst q;rw[L]at d;cases d;simp at f
   exact dO L (by simp) fun C _ l=>h C e (fun c o p _ G _ q=>l.extBut _ _ p (j _ _ G (n.extBut _ _ p q))) ⟨y,l.extBut _ _ B d,f⟩
 | some x=>
   have X:f2 k2=none:=by
    rcases m with q|q
    ·rw[hx]at q;cases q
    ·exact q
   refine aV (t.item K hx fun u r1 j=>aE ?_);have M:IsPair u TO a b:=j.extBut _ _ D.TOi1 (n.extBut _ _ D.TOz R);refine aV (dB M rfl (aV (wpAny_updateSeq_pair M fun C O3 l=>?_)));refine aV (wpAny_letGo (aE (aV (aV (wpAny_onRaise ?_)))));show aH _ _ (Builtin.SmallTypes.nextOf (.ref i2) >>=_) _ _ _;have Y:P2 k2 C:=I.keep _ _ _ U fun c o i e=>l.extBut _ _ (by rcases i with rfl|rfl;exact D.TOi2.symm;exact D.l2TO) (j.extBut _ _ (by rcases i with rfl|rfl;exact D.i12.symm;exact D.l2i1) (n.extBut _ _ (by rcases i with rfl|rfl;exact D.i2z;exact D.l2z) e))
   refine aV (I.stop H Y X fun Z e b4 v=>?_);obtain⟨y,d,f⟩:=v;have N:IsZip Z z TI TO .ellipsis :=b4 _ _ D.i2z.symm (l.extBut _ _ D.TOz.symm (j.extBut _ _ D.i1z.symm r));have B:e≠z:=fun q=>by subst q;rw[N]at d;cases d;simp at f
   exact dO N (by simp) fun g5 _ O=>h g5 e (fun c o p n2 G n4 q=>O.extBut _ _ p (b4 _ _ n4 (l.extBut _ _ n2 (j.extBut _ _ G (n.extBut _ _ p q))))) ⟨y,O.extBut _ _ B d,f⟩
end
section
variable{κ:Type}[DecidableEq κ]
noncomputable def valV(a:List (κ×V))(k:κ):Option V:=(a.find? fun b=>decide (b.1=k)).map (·.2)
noncomputable def putK(a:List (κ×V))(k:κ)(v:V):List (κ×V):=
 if(a.any fun b=>decide (b.1=k))=true then a.map (fun b=>if b.1=k then(b.1,v) else b) else a ++ [(k,v)]
theorem qJ0{p:κ×V}{r:List (κ×V)}{k:κ}(e:p.1=k):valV (p::r) k=some p.2:=by simp[valV,List.find?_cons,e]
theorem qJ1{p:κ×V}{r:List (κ×V)}{k:κ}(e:¬p.1=k):valV (p::r) k=valV r k:=by simp[valV,List.find?_cons,e]
theorem vZe(k:κ):∀a:List (κ×V),(a.any fun b=>decide (b.1=k))=(valV a k).isSome
 |[]=>rfl
 | p::r=>by
   rw[List.any_cons];by_cases e:p.1=k
   ·simp only[qJ0 e,decide_eq_true e,Bool.true_or,Option.isSome_some]
   ·rw[qJ1 e,decide_eq_false e,Bool.false_or];exact vZe k r
theorem qXj(a:List (κ×V))(k:κ)(v:V):(putK a k v).length <=a.length+1:=by
 unfold putK;grind
theorem RelO.isSome_eq{o:Option V}{u:Option Value}(r:RelO o u):o.isSome=u.isSome:=by
 cases o with
 | none=>cases u with
   |none=>rfl
   |some _=>exact(show False from r).elim
 | some _=>cases u with
   |none=>exact(show False from r).elim
   |some _=>rfl
theorem RelO.getD{o:Option V}{u:Option Value}{d:V}{d' :Value}(r:RelO o u)(a:RelV d d'):RelV (o.getD d) (u.getD d'):=by
 cases o with
 | none=>cases u with
   |none=>exact a
   |some _=>exact(show False from r).elim
 | some _=>cases u with
   |none=>exact(show False from r).elim
   |some _=>exact r
theorem KV.val{a:List (κ×V)}{vs:List (κ×Value)}(r:KV a vs)(k:κ):RelO (valV a k) (valueAt vs k):=by
 unfold KV at r;induction r with
 |nil=>exact True.intro
 | @cons p q ps qs h t ih=>
   obtain⟨d,f⟩:=h;by_cases e:p.1=k
   ·have c :q.1=k:=d.symm.trans e;have b:valueAt (q::qs) k=some q.2:=by simp[valueAt,List.find?_cons,c]
    rw[qJ0 e,b];exact f
   ·have c :¬q.1=k:=fun z=>e (d.trans z)
    have b:valueAt (q::qs) k=valueAt qs k:=by simp[valueAt,List.find?_cons,c]
    rw[qJ1 e,b];exact ih
theorem KV.any{a:List (κ×V)}{vs:List (κ×Value)}(r:KV a vs)(k:κ):(a.any fun b=>decide (b.1=k))=vs.any fun b=>decide (b.1=k):=by
 induction r with
 |nil=>rfl
 |cons h t ih=>grind
theorem KV.repl{b:List (κ×V)}{vs:List (κ×Value)}(r:KV b vs)(k:κ){y:V}(c:RelV y u):
  KV (b.map fun a=>if a.1=k then(a.1,y) else a) (vs.map fun a=>if a.1=k then(a.1,u) else a):=by
 induction r with
 |nil=>exact .nil
 | @cons p q ps qs h t ih=>
   rw[aO,aO];refine .cons ?_ ih;grind
theorem KV.put{a:List (κ×V)}{vs:List (κ×Value)}(r:KV a vs)(k:κ){y:V}(b:RelV y u):KV (putK a k y) (stored vs k u):=by
 unfold putK stored;rw[r.any k];by_cases e:(vs.any fun c=>decide (c.1=k))=true
 ·rw[if_pos e,if_pos e];exact r.repl k b
 ·rw[if_neg e,if_neg e];exact Paired.snoc r ⟨rfl,b⟩
theorem KV.length{a:List (κ×V)}{vs:List (κ×Value)}(r:KV a vs):a.length=vs.length:=Paired.length r
end
theorem qK4{k:Key}(r:RelV (kV k) u):(jU P w).is k u=true:=by
 cases k with
 |inl i=>obtain⟨t,e⟩:=(show∃t,u=Value.int i t from r);subst e;exact vJg P w i t
 |inr x=>obtain⟨t,e⟩:=(show∃t,u=Value.str x t from r);subst e;exact vJf P w x t
theorem vQl:∀{ks:List Key} {us:List Value},Vals (ks.map kV) us->ItemsAre (jU P w) ks us
 |[],_,r=>by rw[List.map_nil]at r;cases r;exact .nil
 | k::ks,_,r=>by
   cases r with
   |cons h t=>exact .cons (qK4 h) (vQl t)
noncomputable abbrev KT(H:Hp):List (List Key×V)->List (List Key×aZ×Value)->Prop:=Paired fun p q=>p.1=q.1/\H q.2.1=some (.tup (p.1.map kV))/\RelV p.2 q.2.2
theorem KT.val{a:List (List Key×V)}(r:KT H a xs)(k:List Key):RelO (valV a k) ((atKey xs k).map (·.2)):=by
 induction r with
 |nil=>exact True.intro
 | @cons p q ps qs h t ih=>
   obtain⟨d,_,f⟩:=h;by_cases e:p.1=k
   ·have c :q.1=k:=d.symm.trans e;have b:atKey (q::qs) k=some q.2:=by simp[atKey,c]
    rw[qJ0 e,b];exact f
   ·have c :¬q.1=k:=fun z=>e (d.trans z)
    have b:atKey (q::qs) k=atKey qs k:=by simp[atKey,c]
    rw[qJ1 e,b];exact ih
theorem KT.repl{a:List (List Key×V)}(r:KT H a xs)(k:List Key){y:V}(c:RelV y u):
  KT H (a.map fun b=>if b.1=k then(b.1,y) else b) (xs.map (putAt k u)):=by
 induction r with
 |nil=>exact .nil
 | @cons p q ps qs h t ih=>
   rw[aO,aO];refine .cons ?_ ih;obtain⟨d,e,f⟩:=h;unfold putAt;grind
theorem KT.put{a:List (List Key×V)}(r:KT H a xs)(k:List Key){b:aZ}{y:V}(hb:H b=some (.tup (k.map kV)))(c:RelV y u):
  KT H (putK a k y) (storedH xs k b u):=by
 have e:(a.any fun d=>decide (d.1=k))=(atKey xs k).isSome :=by
  rw[vZe,(r.val k).isSome_eq,Option.isSome_map]
 unfold putK storedH;rw[e];by_cases q:(atKey xs k).isSome =true
 ·rw[if_pos q,if_pos q];exact r.repl k c
 ·rw[if_neg q,if_neg q];exact Paired.snoc r ⟨rfl,hb,c⟩
theorem KT.keeps{a:List (List Key×V)}(r:KT H a xs)(c:∀b ys,H b=some (.tup ys)->H' b=some (.tup ys)):KT H' a xs:=
 Paired.mapP r fun _ _ z=>⟨z.1,c _ _ z.2.1,z.2.2⟩
section
variable{P:bZ}{w:bP}{H:Hp}{h:Heap}{a:aZ}
theorem zXk{u:HO}(ok:HOk P w H h)(e:Rd H a u):vT P w H h a u:=e.ok ok
theorem qXe{b:List (Key×V)}(ok:HOk P w H h)(e:Rd H a (.dK b)):b.length<=aI/\(a == eY)=false/\∃vs,KV b vs/\h.DictOf (jU P w) a vs:=
 show vT P w H h a (.dK b) from zXk ok e
theorem jVj{b:List (Key×V)}(ok:HOk P w H h)(e:H a=some (.dK b)):b.length<=aI/\(a == eY)=false/\∃vs,KV b vs/\h.DictOf (jU P w) a vs:=qXe ok (.inl e)
theorem qWl{b:List Key}(ok:HOk P w H h)(e:H a=some (.tup (b.map kV))):(tupleKind (jU P w)).is h b a:=by
 obtain⟨_,c,r,o,d,f,n,g⟩:=(show vT P w H h a (.tup (b.map kV)) from ok a _ e)
 exact⟨o,c.toArray,n,d,f,g,by simpa using vQl r⟩
theorem qX9{b:List (List Key×V)}(ok:HOk P w H h)(e:Rd H a (.dT b)):b.length<=aI/\(a == eY)=false/\
  ∃xs,KT H b xs/\h.DictOfH (tupleKind (jU P w)) a xs:=by
 obtain⟨z,y,xs,r,o,c,d,f,g,i,j,k⟩:=(show vT P w H h a (.dT b) from zXk ok e)
 refine⟨z,y,xs,r,o,c,d,f,g,i,j,fun x hx=>?_,k⟩;have all:∀{l:List (List Key×V)} {m:List (List Key×aZ×Value)},KT H l m->∀x∈m,(tupleKind (jU P w)).is h x.1 x.2.1:=by
  intro l m q;induction q with
  |nil=>intro x hx;exact nomatch hx
  | @cons p q ps qs hq t ih=>
    intro x hx;rcases aA.mp hx with e|hx
    ·subst e;exact qWl ok (by rw[←hq.1];exact hq.2.1)
    ·exact ih x hx
 exact all r x hx
theorem jVi{b:List (List Key×V)}(ok:HOk P w H h)(e:H a=some (.dT b)):b.length<=aI/\(a == eY)=false/\
  ∃xs,KT H b xs/\h.DictOfH (tupleKind (jU P w)) a xs:=qX9 ok (.inl e)
end
noncomputable def DGet(H:Hp)(a:aZ)(y:V)(r:Option V):Prop:=
 (∃c k,Rd H a (.dK c)/\y=kV k/\r=valV c k)\/∃c k b,Rd H a (.dT c)/\y=.ref b/\H b=some (.tup (k.map kV))/\r=valV c k
noncomputable def DPut(H:Hp)(a:aZ)(y v:V)(H' :Hp):Prop:=
 (∃c k,H a=some (.dK c)/\y=kV k/\c.length<aI/\H' =upd H a (.dK (putK c k v)))\/
 ∃c k b,H a=some (.dT c)/\y=.ref b/\H b=some (.tup (k.map kV))/\c.length<aI/\H' =upd H a (.dT (putK c k v))
theorem DGet.k{a:aZ}{b:List (Key×V)}{k:Key}(e:H a=some (.dK b)):DGet H a (kV k) (valV b k):=.inl ⟨b,k,.inl e,rfl,rfl⟩
theorem DPut.k{a:aZ}{b:List (Key×V)}{k:Key}{v:V}(e:H a=some (.dK b))(hl:b.length<aI):DPut H a (kV k) v (upd H a (.dK (putK b k v))):=.inl ⟨b,k,e,rfl,hl,rfl⟩
section
variable{X:Cx}{pins:List (aZ×Obj)}{σ:St}{H:Hp}{s:aJ}{a:aZ}{y v:V}{u r:Value}{o:Option V}{A:cW}{E:Value->aJ->Prop}
theorem Inv.big(I:Inv X pins σ H s):eY<s.heap.objs.size:=by
 have h:cX<s.heap.objs.size:=(I.mod.glob.keeps I.bk).lt;exact Nat.lt_trans (by decide) h
theorem vKu(t:A.units+1<eX)(I:Inv X pins σ H s)(g:DGet H a y (some v))(r:RelV y u)(h:∀f s',Inv X pins σ H s' ->RelV v f ->Q f s'):
  aH (model X.prog X.w) A (getItem (.ref a) u) Q E s:=by
 rcases g with⟨i,k,e,j,l⟩|⟨i,k,b,e,j,x,l⟩
 ·subst j;obtain⟨z,B,C,c,m⟩:=qXe I.hok e;obtain⟨f,n,d⟩:=RelO.some_of (v:=v) (o:=valueAt C k) (by rw[l];exact c.val k);exact wpAny_getItem_of (qK4 r) m.mapOf n (h f _ (I.tok _) d)
 ·subst j;cases(show u=Value.ref b from r);obtain⟨z,B,D,c,m⟩:=qX9 I.hok e;obtain⟨f,n,d⟩:=RelO.some_of (v:=v) (o:=(atKey D k).map (·.2)) (by rw[l];exact c.val k);obtain⟨p,F,q⟩:=bX.mp n;refine wpAny_getItem_heap (tupleKind_room_in1 t) (qWl I.hok x) m F ?_
  rw[q];exact h f _ (I.tok _) d
theorem d_in(n:A.units+1<eX)(I:Inv X pins σ H s)(g:DGet H a y o)(m:RelV y u)(h:∀s',Inv X pins σ H s' ->Q (.bool o.isSome) s'):
  aH (model X.prog X.w) A (cR .In u (.ref a)) Q E s:=by
 rcases g with⟨d,k,e,f,l⟩|⟨d,k,b,e,f,p,l⟩
 ·subst f;obtain⟨z,i,r,c,j⟩:=qXe I.hok e;refine wpAny_in_of (qK4 m) i j.mapOf ?_
  rw[←(c.val k).isSome_eq,←l];exact h _ (I.tok _)
 ·subst f;cases(show u=Value.ref b from m);obtain⟨z,i,t,c,j⟩:=qX9 I.hok e;refine wpAny_in_heap (tupleKind_room_in1 n) (qWl I.hok p) i j ?_
  have q:=(c.val k).isSome_eq;rw[Option.isSome_map]at q;rw[←q,←l];exact h _ (I.tok _)
theorem zW7(n:A.units+1<eX)(I:Inv X pins σ H s)(g:DGet H a y o)(m:RelV y u)(h:∀s',Inv X pins σ H s' ->Q (.bool (!o.isSome)) s'):
  aH (model X.prog X.w) A (cR .NotIn u (.ref a)) Q E s:=by
 rcases g with⟨d,k,e,f,l⟩|⟨d,k,b,e,f,p,l⟩
 ·subst f;obtain⟨z,i,r,c,j⟩:=qXe I.hok e;refine wpAny_notIn_of (qK4 m) i j.mapOf ?_
  rw[←(c.val k).isSome_eq,←l];exact h _ (I.tok _)
 ·subst f;cases(show u=Value.ref b from m);obtain⟨z,i,t,c,j⟩:=qX9 I.hok e;refine wpAny_notIn_heap (tupleKind_room_in1 n) (qWl I.hok p) i j ?_
  have q:=(c.val k).isSome_eq;rw[Option.isSome_map]at q;rw[←q,←l];exact h _ (I.tok _)
theorem vYd{t' :Nat}{ob:HO}(I:Inv X pins σ H s)(c:Mut (H a))(hs:eK a s.heap h')(d:∃q,h'.get? a=some q)(new:vT X.prog X.w (upd H a ob) h' a ob):
  Inv X pins σ (upd H a ob) {s with heap:=h',toks:=t' }:=
 I.write (x:=a) (e:=a) c (.inl rfl) (fun b q hb z=>(hs.2 b hb).trans z) d new
theorem zK7{b:List (Key×V)}{vs:List (Key×Value)}(z:b.length<=aI)(hd:(a == eY)=false)(c:KV b vs)(dd:h'.DictOf (jU P w) a vs):
  vT P w H' h' a (.dK b):=⟨z,hd,vs,c,dd⟩
theorem vKt{Q:Unit->aJ->Prop}(J:A.units+1<eX)(I:Inv X pins σ H s)(g:DPut H a y v H')(B:RelV y u)(C:RelV v r)(h:∀s',Inv X pins σ H' s' ->Q () s'):
  aH (model X.prog X.w) A (setItem (.ref a) u r) Q E s:=by
 rcases g with⟨d,k,e,m,l,n⟩|⟨d,k,b,e,m,D,l,n⟩
 ·subst m n;obtain⟨z,o,K,f,p⟩:=jVj I.hok e;have t:K.length<=aI:=by rw[←f.length];exact z
  have x:(putK d k v).length <=aI:=by have:=qXj d k v;omega
  refine wpAny_setItem_pairs (hsz:=t) (qK4 B) p fun F i hs=>h _ ?_
  have L:∃q,F.get? a=some q:=let ⟨q,_,_,j,_⟩:=i;⟨q,j⟩;exact vYd I (by rw[e];exact True.intro) hs L (zK7 x o (f.put k C) i)
 ·subst m n;cases(show u=Value.ref b from B);obtain⟨z,o,M,f,p⟩:=jVi I.hok e;have t:M.length<=aI:=by rw[←Paired.length f];exact z
  have x:(putK d k v).length <=aI:=by have:=qXj d k v;omega
  refine wpAny_setItem_heap (hsz:=t) (tupleKind_room_in1 J) (qWl I.hok D) p fun F i hs=>h _ ?_
  obtain⟨q,N,O,j,P,R,S,_,T⟩:=i;refine vYd I (by rw[e];exact True.intro) hs ⟨q,j⟩ ⟨x,o,_,(f.put k D C).keeps fun c U G=>?_,q,N,O,j,P,R,S,T⟩;rw[qF (jQ6 G e (fun z=>nomatch z))];exact G
end
section
variable{X:Cx}{pins:List (aZ×Obj)}{σ:St}{H:Hp}{s:aJ}{a:aZ}{kvs:List (Key×V)}{k:Key}{u:Value}{A:cW}{E:Value->aJ->Prop}
theorem jVm(I:Inv X pins σ H s)(e:Rd H a (.dK kvs))(h:∀t s',Inv X pins σ H s' ->Q (.int kvs.length t) s'):aH (model X.prog X.w) A (call (.builtin "len") [.ref a]) Q E s:=by
 obtain⟨z,c,f,b,d⟩:=qXe I.hok e;refine call_len_dict c d (by rw[←b.length];rw[sizeLine_eq]at z;omega) ?_
 rw[←b.length];exact h _ _ (I.tok _)
end
theorem vJk{s:aJ}{a:aZ}{y:V}{o:Option V}(I:Inv X pins σ H s)(g:DGet H a y o):s.TypeIs (.ref a) "dict":=by
 rcases g with⟨c,k,e,_,_⟩|⟨c,k,b,e,_,_,_⟩
 ·obtain⟨_,_,f,_,d⟩:=qXe I.hok e;exact d.typeIs
 ·obtain⟨_,_,h,_,d⟩:=qX9 I.hok e;exact d.typeIs
noncomputable def jQn(c d e:TE):TS:=fun D σ H=>e σ H fun v f=>c σ f fun x g=>d σ g fun y h=>∃a b,x=.ref a/\DPut h a y v b/\D.nx σ b
section
variable{X:Cx}{o i e value:Expr}{pos pos' tpos:Pos}{td ty tv:TE}
theorem zJu(c:X.A.units+1<eX)(d:PE X o td)(hi:PE X i ty)(e:PE X value tv)(hs:swapsWith value (some (.Subscript o i pos')) pos.line X.env=pure false):
  PS X (.Assign [.Subscript o i pos'] value pos) (jQn td ty tv):=by
 intro b s σ H D I h;refine wpAny_Assign_Subscript (thn (e b s σ H _ I h) fun r f ⟨v,j,k,l,m⟩=>thn (d b f σ j _ k m) fun u n ⟨x,p,q,t,w⟩=>thn (hi b n σ p _ q w) fun J K ⟨y,L,z,B,a,C,E,g,F⟩=>?_) hs;subst E;obtain rfl:u=Value.ref a:=t;exact vKt c z g B l fun M G=>⟨σ,C,G,F⟩
end
theorem zZz(h:Heap)(hb:eY<h.objs.size):vT P w H (h.push {cls:=.type "dict",data:=.dict #[]}) h.objs.size (.dK []):=
 ⟨eJ _,beq_eq_false_iff_ne.mpr (Ne.symm (bJ hb)),[],.nil,Heap.DictOf.new h⟩
noncomputable def tDNewK:TE:=fun _ H Q=>∀p,H p=none->Q (.ref p) (upd H p (.dK []))
section
variable{X:Cx}{pos:Pos}
theorem zV1:PE X (.Dict [] [] pos) tDNewK:=fun b s σ H Q I h=>
 wpAny_Dict_empty ⟨.ref s.heap.objs.size,_,I.laid (a:=s.heap.objs.size) (o:=.dK []) (t' :=s.toks) (fun _ _ q=>aY _ q) (aB _) (zZz s.heap I.big),rfl,h _ (I.hok.fresh (aB _))⟩
end
structure M1(X:Cx)(o:Expr)(m:Str)(apos:Pos)(e:Expr)(cpos:Pos):Prop where
 base:attributeBase o m X.env (eval o X.env)=eval o X.env
 few:((cV cpos (aX [e] X.env)).all (fun x=>!x.1) && (backToKw cpos (keywordEach [] X.env)).all (fun x=>x.1.isSome)
  && decide (([e]:List Expr).length+([]:List Keyword).length+(if([]:List Keyword).isEmpty then 0 else 1)<30))=true
 line:(apos.endLine == cpos.line)=true
 trees:cV cpos (aX [e] X.env)=[(false,eval e X.env)]
noncomputable def IsD(H:Hp)(a:aZ):Prop:=(∃b,Rd H a (.dK b))\/∃b,Rd H a (.dT b)
theorem zKy{s:aJ}{a:aZ}(I:Inv X pins σ H s)(d:IsD H a):
  s.TypeIs (.ref a) "dict"/\(∀b,Value.ref a=.ref b->∃ob,s.heap.get? b=some ob/\ob.dict=none)/\(a == eY)=false:=by
 rcases d with⟨f,e⟩|⟨f,e⟩
 ·obtain⟨_,g,j,_,c⟩:=qXe I.hok e;refine⟨c.typeIs,fun b q=>?_,g⟩;cases q;obtain⟨ob,_,_,h,i,_⟩:=c;exact⟨ob,h,i.2.1⟩
 ·obtain⟨_,g,k,_,c⟩:=qX9 I.hok e;refine⟨c.typeIs,fun b q=>?_,g⟩;cases q;obtain⟨ob,_,_,h,i,_⟩:=c;exact⟨ob,h,i.2.1⟩
section
variable{X:Cx}{pins:List (aZ×Obj)}{σ:St}{H:Hp}{s:aJ}{a:aZ}{y d:V}{u r:Value}{o:Option V}{A:cW}{E:Value->aJ->Prop}
theorem zK9(n:A.units+1<eX)(I:Inv X pins σ H s)(g:DGet H a y o)(m:RelV y u)(h:∀w' s',Inv X pins σ H s' ->RelV (o.getD .non) w' ->Q w' s'):
  aH (model X.prog X.w) A (call (.builtin "dict.get") [.ref a,u]) Q E s:=by
 rcases g with⟨f,k,e,i,l⟩|⟨f,k,b,e,i,p,l⟩
 ·subst i;obtain⟨z,j,r,c,d⟩:=qXe I.hok e;refine call_meetsIn PySem.F.slot_dict_get d.typeIs PySem.F.entry_dict_get (PySem.F.args_dict_get_2 _ _) (meets_dict_get (jU X.prog X.w) a (qK4 m) j) ⟨_,d.mapOf,h _ _ (I.tok _) ?_⟩;rw[l];exact(c.val k).getD rfl
 ·subst i;cases(show u=Value.ref b from m);obtain⟨z,j,q,c,d⟩:=qX9 I.hok e;refine call_meetsIn PySem.F.slot_dict_get d.typeIs PySem.F.entry_dict_get (PySem.F.args_dict_get_2 _ _) (meetsH_dict_get (tupleKind (jU X.prog X.w)) a b j) ⟨tupleKind_room_in1 n,k,q,qWl I.hok p,d,h _ _ (I.tok _) ?_⟩;rw[l];exact(c.val k).getD rfl
end
noncomputable def zYb(d e:TE):TE:=fun σ H Q=>d σ H fun x b=>∃a,x=.ref a/\IsD b a/\e σ b fun y c=>∃o,DGet c a y o/\Q (o.getD .non) c
section
variable{X:Cx}{o e f:Expr}{apos cpos:Pos}{td ty tx:TE}
theorem zV2(i:X.A.units+1<eX)(j:PE X o td)(k:PE X e ty)(m:M1 X o "get" apos e cpos):PE X (.Call (.Attribute o "get" apos) [e] [] cpos) (zYb td ty):=by
 intro b s σ H Q I h;refine wpAny_Call_method m.base m.few m.line PySem.F.plainAttrs_dict PySem.F.slot_dict_get PySem.F.type_dict_get (thn (j b s σ H _ I h) fun u l ⟨x,n,f,p,a,q,d,r⟩=>?_);subst q;obtain rfl:u=Value.ref a:=p;obtain⟨t,v,_⟩:=zKy f d;refine⟨t,v,?_⟩;rw[m.trees];refine Calls.callWith_builtin rfl (Calls.evalArgs_plain (Calls.spliced_cons (thn (k b l σ n _ f r) fun E G ⟨y,w,z,B,J,g,C⟩=>Calls.spliced_nil ?_)));exact zK9 i z g B fun K L D c =>⟨_,w,D,c,C⟩
end
theorem vKl{i:aZ}(a:l≠i)(xs:Array Value):Feed i l (fun k h=>h.IsListIter i l k/\h.IsList l xs) (fun k=>xs[k]?) where
 obj:=fun k h p=>by
  obtain⟨⟨o,e,_,d⟩,_⟩:=p;exact⟨o,e,fun v z=>by rw[d]at z;cases z⟩
 keep:=fun k h g p q=>⟨p.1.at fun o e=>q i o (.inl rfl) e,by
  obtain⟨o,e,r⟩:=p.2;exact⟨o,q l o (.inr rfl) e,r⟩⟩
 item:=fun p b f=>wpAny_nextOf_list_item p.1 p.2 b fun g j c=>f g ⟨j,p.2.extBut c.extBut a⟩ c
 stop:=fun m p b n=>wpAny_nextOf_list_end m p.1 p.2 b n
end L2
namespace L2
open PySem PySem.Spec PySem.W PyProof.Rows
section
variable{X:Cx}
theorem zKd(c:X.A.units+1<eX):OpR X (cR .In) (fun x y H Q=>∃a o,y=.ref a/\DGet H a x o/\Q (.bl o.isSome) H):=by
 intro b s σ H x y u v Q I ru rv h;obtain⟨a,o,rfl,g,q⟩:=h;cases(show v=Value.ref a from rv);exact d_in c I g ru fun e d =>⟨.bl _,H,d,rfl,q⟩
theorem vY2(c:X.A.units+1<eX):OpR X (cR .NotIn) (fun x y H Q=>∃a o,y=.ref a/\DGet H a x o/\Q (.bl (!o.isSome)) H):=by
 intro b s σ H x y u v Q I ru rv h;obtain⟨a,o,rfl,g,q⟩:=h;cases(show v=Value.ref a from rv);exact zW7 c I g ru fun e d =>⟨.bl _,H,d,rfl,q⟩
end
end L2
namespace L2
open PySem PySem.Spec PyProof.Rows
variable{P:bZ}{w:bP}{K:aQ}{pos p:Pos}{e1:Expr}{ta:TA}{a:aZ}{M:Model}
noncomputable def Ite(K:aQ)(a:aZ):It:=
 ⟨fun i H=>∃b x,SqL K H a b/\b[i]?=some x,
  fun i H v c =>∃p,v=.ref p/\H p=none/\∀b x,SqL K H a b->b[i]?=some x->c =upd H p (.tup [.int (i:Int),x]),
  fun i H=>∃b,SqL K H a b/\b.length<=i⟩
theorem vYn{m:List Expr}{S:Nat}(a e it:aZ)(n:e≠it):
  Turn P w K (.Tuple m S pos) (Ite K a) [e,it] e (fun i h=>(∃d,IsEnum h e it (i:Int) d)/\h.IsListIter it a i) where
 mem:=by simp
 obj:=fun i h st c b=>by
  obtain⟨⟨d,f⟩,⟨o2,y,c2,T⟩⟩:=st;have j :c=e\/c=it:=by simpa using b
  rcases j with rfl|rfl
  ·exact⟨_,f,fun v q=>by have U :Data.fields _=Data.cell v:=q;cases U⟩
  ·exact⟨_,y,fun v q=>by rw[T]at q;cases q⟩
 keep:=fun i h N st k=>by
  obtain⟨⟨d,f⟩,V⟩:=st;exact⟨⟨d,k e (by simp) _ f⟩,V.at fun o l =>k it (by simp) o l⟩
 item:=by
  intro X z A B b i p s σ H E I hf st hg;subst z A B;obtain⟨W,x,t,O⟩:=hg;obtain⟨C,D,F,G⟩:=I.list t;obtain⟨u,Y,Z⟩:=D.get O;obtain⟨⟨d,f⟩,g⟩:=st;refine wpAny_pyNext_enum_item f g F.isList (x:=u) (by simpa using Y) n fun N a1 a2 a3 a4 J=>?_
  refine⟨_,rfl,wpAny_letOwnedTupleGo_enum a1 fun L r sb=>?_⟩;have nz:s.heap.objs.size≠e:=Nat.ne_of_gt (aC f);have M:∀c o,c∉ [e,it]->s.heap.get? c=some o->L.get? c=some o:=fun c o b l =>by
   simp only[aA,List.not_mem_nil,or_false,not_or]at b;exact sb.extBut c o b.1 (J c o b.1 b.2 l)
  refine⟨.ref s.heap.objs.size,upd H s.heap.objs.size (.tup [.int (i:Int),x]),I.turnedLaid (t' :=s.toks+1) M hf (aB _) ⟨zQl,[.int (i:Int) s.toks,u],.cons ⟨_,rfl⟩ (.cons Z .nil),⟨_,sb.extBut _ _ nz a3,rfl,_,rfl⟩⟩,rfl,
   ⟨_,rfl,I.hok.fresh (aB _),fun xs' x' e1 Q=>?_⟩,⟨⟨_,r⟩,a2.extBut sb.extBut n.symm⟩,fun c b=>?_⟩
  ·rw [I.list_inj e1 t,O] at Q;cases Q;rfl
  ·obtain⟨o,l,_⟩:∃o,s.heap.get? c=some o/\True:=by
    have j :c=e\/c=it:=by simpa using b
    obtain⟨o2,y,_⟩:=g;rcases j with rfl|rfl
    ·exact⟨_,f,trivial⟩
    ·exact⟨_,y,trivial⟩
   rw[qF (bJ (aC l))];exact(hf c b).1
 done:=by
  intro X z A B b i p s σ H E I hf st hg;subst z A B;obtain⟨W,t,R⟩:=hg;obtain⟨C,D,F,G⟩:=I.list t;obtain⟨⟨d,f⟩,g⟩:=st;have l1:=D.length;refine wpAny_pyNext_enum_end (I.ok.hd b) f g F.isList (by simp;omega) fun N J=>⟨rfl,I.turnedAll (t' :=s.toks) (ch:=[e,it]) (fun c o b l =>?_) hf⟩
  simp only[aA,List.not_mem_nil,or_false,not_or]at b;exact J c o b.2 l
 self:=fun _ _ _ _ _ st h=>let ⟨_,f⟩:=st.1;wpAny_pyIter_enum f h
section
variable{X:Cx}{elts:List Expr}{kk:Nat}{tpos:Pos}
noncomputable def jVc(K:aQ)(c:TA):TI:=fun σ H R=>c σ H fun d b=>∃a,d=[.ref a]/\(∃e,SqL K b a e)/\R (Ite K a) b
theorem zJ1(l:Gl X "enumerate")(m:X.mg "enumerate"=none)(n:PA X [e1] ta)(hs:aX [e1] X.env=[(false,eval e1 X.env)]:=by rfl)(b:aX [] X.env=[]:=by rfl):PI X (.Tuple elts kk tpos) (.Call (.Name "enumerate" p) [e1] [] pos) (jVc X.K ta):=by
 intro d s σ H R I h;refine Call_ (qJg I l m Boot.«enumerate» (cN (thn (n pos d s σ H _ I h) fun C f ⟨D,o,i,t,v⟩=>?_) (by rw[hs,b]) (by rw[b];rfl)));obtain⟨a,e,⟨E,w⟩,q⟩:=v;subst e;obtain⟨u,rfl,r⟩:=qV6 t;cases(show u=Value.ref a from r);obtain⟨x,F,y,z⟩:=i.list w;refine call_enumerate_list y.isList fun G k j A B=>?_
 refine wpAny_pyIter_enum k ?_
 refine⟨f.heap.objs.size+1,[f.heap.objs.size+1,f.heap.objs.size],_,_,o,rfl,i.kept (t' :=f.toks) B,vYn a _ _ (Nat.succ_ne_self _),⟨⟨_,k⟩,j⟩,fun c J=>?_,q⟩;have g :f.heap.objs.size<=c:=by
  grind
 exact i.fpOk g (i.hok.fresh g)
end
noncomputable def Itv(K:aQ)(a:aZ)(n:Nat):It:=
 ⟨fun i H=>∃b x,SqL K H a b/\b.length=n/\i<n/\b[n - 1 - i]?=some x,fun i H x c =>c =H/\∀b,SqL K H a b->b[n - 1 - i]?=some x,fun i H=>∃b,SqL K H a b/\b.length=n/\i=n⟩
theorem zVh{S:Expr}(a it:aZ)(n:Nat)(j:a≠it):Turn P w K S (Itv K a n) [it] it (fun i h=>h.IsRevIter it a ((n:Int) - 1 - (i:Int))) where
 mem:=by simp
 obj:=fun i h st b hb=>by
  have e:b=it:=by simpa using hb
  subst e;obtain⟨o,e,c,d⟩:=st;exact⟨o,e,fun v z=>by rw[d]at z;cases z⟩
 keep:=fun i h l st k=>by
  obtain⟨o,e,c,d⟩:=st;exact⟨o,k it (by simp) o e,c,d⟩
 item:=by
  intro X B C D F i g s σ H E I hf st hg;subst B C D;obtain⟨T,x,t,U,Q,R⟩:=hg;obtain⟨f,y,p,V⟩:=I.list t;obtain⟨u,Y,Z⟩:=y.get R;have hl:=y.length;obtain⟨G,J,f2,L,M,N⟩:=hf it (by simp);have W:=Walks.listRev (prog:=X.prog) (w:=X.w) (A:=X.A) (I.ok.hd F) it a j f.toArray;have m:f.toArray.size=n:=by rw[aN];omega
  refine W.item i s _ _ (by omega) ⟨by omega,by rw[m];exact st,p.isList⟩ fun v l q pv O keep=>?_
  have ev:v=u:=by
   rw[m]at pv;have h2:f.toArray[n - 1 - i]?=some u:=by simpa using Y
   rw[h2]at pv;cases pv;rfl
  subst ev;have r:l.IsRevIter it a ((n:Int) - 1 - ((i+1:Nat):Int)):=by
   have:=O.2.1;rw[m]at this;exact this
  have I1:Inv X g σ H {s with heap:=l,toks:=q}:=I.turned (t' :=q) (fun b o hb e=>keep b o (by simpa using hb) e) G J L M N;obtain⟨o,e,c,d⟩:=id r;exact⟨v,rfl,vZa (s:={s with heap:=l,toks:=q}) e c d (by decide) ⟨x,H,I1,Z,⟨rfl,fun ys hy=>by rw[I.list_inj hy t];exact R⟩,r,fun b hb=>(hf b hb).1⟩⟩
 done:=by
  intro X B C D F i g s σ H E I hf st hg;subst B C D;obtain⟨T,t,U,Q⟩:=hg;obtain⟨f,y,p,V⟩:=I.list t;have hl:=y.length;obtain⟨G,J,f2,L,M,N⟩:=hf it (by simp);have W:=Walks.listRev (prog:=X.prog) (w:=X.w) (A:=X.A) (I.ok.hd F) it a j f.toArray;have m:f.toArray.size=n:=by rw[aN];omega
  refine W.done s _ _ ⟨aB _,by rw[m];rw[←Q]at st⊢;exact st,p.isList⟩ fun l q keep=>⟨rfl,I.turned (t' :=q) (fun b o hb e=>keep b o (by simpa using hb) e) G J L M N⟩
 self:=fun _ _ _ _ _ st h=>wpAny_pyIter_revIter st h
section
variable{X:Cx}{tg:Expr}
noncomputable def iRev(K:aQ)(d:TA):TI:=fun σ H R=>d σ H fun e b=>∃a c,e=[.ref a]/\SqL K b a c/\R (Itv K a c.length) b
theorem zY0(m:Gl X "reversed")(n:X.mg "reversed"=none)(t:PA X [e1] ta)(hs:aX [e1] X.env=[(false,eval e1 X.env)]:=by rfl)(f:aX [] X.env=[]:=by rfl):PI X tg (.Call (.Name "reversed" p) [e1] [] pos) (iRev X.K ta):=by
 intro g s σ H R I h;refine Call_ (qJg I m n Boot.«reversed» (cN (thn (t pos g s σ H _ I h) fun D c ⟨E,v,i,w,x⟩=>?_) (by rw[hs,f]) (by rw[f];rfl)));obtain⟨a,j,e,y,q⟩:=x;subst e;obtain⟨u,rfl,r⟩:=qV6 w;cases(show u=Value.ref a from r);obtain⟨d,z,A,B⟩:=i.list y;have k:c.heap.IsList a d.toArray:=A.isList;have len:=z.length;have C:a≠c.heap.objs.size:=let ⟨o,e,_⟩:=k;bJ (aC e);refine call_reversed_list k ?_
 have l:({c with heap:=c.heap.push (revObj a ((d.toArray.size:Int) - 1))}:aJ).heap.IsRevIter c.heap.objs.size a ((j.length:Int) - 1 - ((0:Nat):Int)):=⟨_,aS _ rfl,rfl,by rw[show(j.length:Int) - 1 - ((0:Nat):Int)=(d.toArray.size:Int) - 1 by rw[aN];omega];rfl⟩
 refine wpAny_pyIter_revIter l ?_
 refine⟨c.heap.objs.size,[c.heap.objs.size],_,_,v,rfl,i.kept (t' :=c.toks) fun b o e=>aY _ e,zVh a _ _ C,l,fun b hb=>?_,q⟩;have e:b=c.heap.objs.size:=by simpa using hb
 subst e;exact i.fpOk (aB _) (i.hok.fresh (aB _))
end
noncomputable def dxO(o:Obj):Option aZ×Option Value:=(o.dict,match o.data with|.fields vs=>vs[2]? |_=>none)
noncomputable def DkH(h h' :Heap):Prop:=∀b o,h.get? b=some o->∃a,h'.get? b=some a /\dxO a =dxO o
theorem DkH.refl(h:Heap):DkH h h:=fun _ o e=>⟨o,e,rfl⟩
theorem DkH.trans{h1 h2 a:Heap}(x:DkH h1 h2)(y:DkH h2 a):DkH h1 a:=fun b o e=>by
 obtain⟨o1,c,d⟩:=x b o e;obtain⟨o2,f,g⟩:=y b o1 c;grind
theorem DkH.push(h:Heap)(o:Obj):DkH h (h.push o):=fun _ u e=>⟨u,aY _ e,rfl⟩
noncomputable def TmF(f:Obj->Obj):Prop:=∀o:Obj,dxO (f o)=dxO o/\(o.isFreed=false->(f o).isFreed =false)
theorem DkH.update{h:Heap}{f:Obj->Obj}(c:TmF f):DkH h (h.update a f):=fun b o e=>by
 by_cases hb:a=b
 ·subst hb;exact⟨f o,dN f e ((c o).2 (Heap.get?_some_iff.mp e).2),(c o).1⟩
 ·exact⟨o,(dL h f hb).trans e,rfl⟩
inductive Tm{α:Type}:Sem α->Prop
 |pure (a:α):Tm (.pure a)
 |raise (e:Value):Tm (.raise e)
 |unsupported (w:String):Tm (.unsupported w)
 |load {a:aZ} {p:Option Value} {k:Obj->Sem α} (h:∀o,Tm (k o)):Tm (.load a p k)
 |update {a:aZ} {p:Option Value} {f:Obj->Obj} {k:Unit->Sem α} (hf:TmF f) (h:Tm (k ())):Tm (.update a p f k)
 |alloc {o:Obj} {k:aZ->Sem α} (h:∀a,Tm (k a)):Tm (.alloc o k)
 |ask {k:Setting->Sem α} (h:∀a,Tm (k a)):Tm (.ask k)
 |rule {t:String} {k:Unit->Sem α} (h:Tm (k ())):Tm (.rule t k)
 |stack {k:List (Code×Pos)->Sem α} (h:∀l,Tm (k l)):Tm (.stack k)
section
variable{α β:Type}
theorem Tm.bind{m:Sem α}{f:α->Sem β}(h:Tm m)(k:∀a,Tm (f a)):Tm (m.bind f):=by
 induction h with
 |pure a=>exact k a
 |raise e=>exact .raise e
 |unsupported w=>exact .unsupported w
 |load _ ih=>exact .load ih
 |update hf _ ih=>exact .update hf ih
 |alloc _ ih=>exact .alloc ih
 |ask _ ih=>exact .ask ih
 |rule _ ih=>exact .rule ih
 |stack _ ih=>exact .stack ih
theorem Tm.bind'{m:Sem α}{f:α->Sem β}(h:Tm m)(k:∀a,Tm (f a)):Tm (m >>=f):=h.bind k
theorem Tm.wp{Γ:PySem.Ctx}{m:Sem α}(h:Tm m):∀{Q:α->Pos->aJ->Prop} {E:Value->Pos->aJ->Prop} {p:Pos} {s:aJ},Sem.wp M Γ m Q E p s->
  Sem.wp M Γ m (fun a b s' =>Q a b s' /\DkH s.heap s'.heap) (fun e b s' =>E e b s' /\DkH s.heap s'.heap) p s:=by
 induction h with
 |pure a=>intro Q E p s w;rw[Sem.wp_pure]at w⊢;exact⟨w,.refl _⟩
 |raise e=>intro Q E p s w;rw[Sem.wp_raise]at w⊢;exact⟨w,.refl _⟩
 |unsupported w=>intro Q E p s w;rw[Sem.wp_unsupported]at w;exact w.elim
 | load _ ih=>
   intro Q E p s w;rw[Sem.wp_load]at w⊢;obtain⟨o,e,w⟩:=w;exact⟨o,e,ih o w⟩
 | update hf _ ih=>
   intro Q E p s w;rw[Sem.wp_update]at w⊢;exact⟨w.1,Sem.wp_mono M Γ _ (fun _ _ _ q=>⟨q.1,(DkH.update hf).trans q.2⟩) (fun _ _ _ q=>⟨q.1,(DkH.update hf).trans q.2⟩) _ _ (ih w.2)⟩
 | alloc _ ih=>
   intro Q E p s w;rw[Sem.wp_alloc]at w⊢;exact Sem.wp_mono M Γ _ (fun _ _ _ q=>⟨q.1,(DkH.push _ _).trans q.2⟩) (fun _ _ _ q=>⟨q.1,(DkH.push _ _).trans q.2⟩) _ _ (ih _ w)
 |ask _ ih=>intro Q E p s w;rw[Sem.wp_ask]at w⊢;exact ih _ w
 |rule _ ih=>intro Q E p s w;rw[Sem.wp_rule]at w⊢;exact ih w
 |stack _ ih=>intro Q E p s w;rw[Sem.wp_stack]at w⊢;exact ih _ w
theorem Tm.any{A:cW}{m:Sem α}{Q:α->aJ->Prop}{E:Value->aJ->Prop}{s:aJ}(h:Tm m)(w:aH M A m Q E s):
  aH M A m (fun a s' =>Q a s' /\DkH s.heap s'.heap) (fun e s' =>E e s' /\DkH s.heap s'.heap) s:=fun Γ p hΓ=>h.wp (w Γ p hΓ)
end
theorem vJ7{f:Array Value->Array Value}(a:∀vs,(f vs)[2]?=vs[2]?):TmF (Obj.mapFields f):=fun o=>by
 obtain⟨c,d,b,e⟩:=o;cases b <;> first|exact⟨rfl,fun h=>h⟩|exact⟨Prod.ext rfl (a _),fun h=>h⟩
theorem vVa(a:aZ):Tm (load a):=.load fun o=>.pure o
theorem vQc{f:Obj->Obj}(h:TmF f):Tm (update a f):=.update h (.pure ())
theorem zVj(o:Obj):Tm (alloc o):=.alloc fun a=>.pure a
theorem vJa(v:Value):Tm (fieldsOf v):=by
 unfold fieldsOf;split
 ·refine .bind' (vVa _) fun o=>?_
  split <;> first|exact .pure _|exact .unsupported _
 ·exact .unsupported _
theorem qJ2(v:Value)(i:Nat):Tm (field v i):=by
 refine .bind' (vJa v) fun a=>?_
 split <;> first|exact .pure _|exact .unsupported _
theorem qZn(v:Value)(i:Nat)(x:Value)(hi:i≠2:=by decide):Tm (setField v i x):=by
 unfold setField;split
 ·unfold updateField;refine .bind' (vVa _) fun o=>?_
  split
  ·split
   ·exact vQc (vJ7 fun a=>Array.getElem?_setIfInBounds_ne hi)
   ·exact .unsupported _
  ·exact .unsupported _
 ·exact .unsupported _
theorem qVw(e:Value)(f:Option aZ):Tm (setFlight e f):=by
 refine .bind' (qJ2 _ _) fun a=>?_
 split
 ·exact qZn _ _ _
 ·exact .pure _
theorem qZq:∀l:List Env,Tm (readyFrames l)
 |[]=>.pure _
 | env::outer=>by
   unfold readyFrames;split
   ·refine .bind' (vVa _) fun o=>?_
    split
    ·exact .pure _
    ·refine .bind' ?_ fun _=> .bind' ?_ fun _=> .bind' (vQc fun o=>⟨rfl,fun h=>?_⟩) fun _=>qZq outer
     ·unfold behindIsImport;split
      ·exact .pure _
      ·split
       ·exact .pure _
       ·exact .bind' (qJ2 _ _) fun _=>.pure _
     ·unfold keptBack;split
      ·split
       ·exact .pure _
       ·unfold underTheClaimsCaller;exact .bind' (.bind' (.stack fun _=>.pure _) fun _=>.pure _) fun _=>.pure _
      ·exact .pure _
     ·obtain⟨c,d,a,b⟩:=o;cases a <;> first|rfl|exact h
   ·exact .unsupported _
theorem vJ8(env:Env):Tm (PySem.frameOf env):=by
 refine .bind' (.bind' (.stack fun _=>.pure _) fun _=>.pure _) fun l=>.bind' ?_ fun o=>?_
 ·unfold frameObject;split
  ·exact .pure _
  ·exact .bind' (qZq _) fun _=>.pure _
 ·split <;> first|exact .pure _|exact .unsupported _
theorem vVu(t:String)(vs:List Value):Tm (newFields t vs):=by
 unfold newFields newObj;dsimp only;have k:Tm (newObjAsIs (.type t) (.fields vs.toArray)):=by
  exact .bind' (zVj _) fun _=>.pure _
 split
 ·exact .bind' (.unsupported _) fun _=>k
 ·exact k
theorem qWa(e:Value)(env:Env):Tm (noteFrame e env):=by
 unfold noteFrame;split
 ·refine .bind' (qJ2 _ _) fun a=>?_
  have b:∀f,Tm (do setField e 1 (←EntryCells.newEntry a (←PySem.frameOf env) .none (rawInt f) .none (←entryPlaceOf f (a !=.none)))):=fun f=>by
   refine .bind' (vJ8 _) fun d=>.bind' ?_ fun g=>.bind' ?_ fun t=>qZn _ _ _
   ·unfold entryPlaceOf;refine .bind' (.stack fun _=>.pure _) fun c=>?_
    split <;> exact .pure _
   ·unfold EntryCells.newEntry;exact vVu _ _
  split
  ·refine .bind' (qJ2 _ _) fun x=>?_
   split
   ·exact .pure _
   ·exact .bind' (qZn _ _ _) fun _=>b _
  ·exact b _
 ·exact .unsupported _
theorem qY5(env:Env)(e:Value):Tm (leaving env e):=.bind' (qWa _ _) fun _=>qVw _ _
end L2
namespace L2
open PySem PySem.Spec PySem.W PySem.Calls PyProof.Rows
variable{rest:List Value}{w:bP}{C:aZ}{pos:Pos}
noncomputable abbrev vErr:List Value:=[.type "ValueError",.type "Exception",.type "BaseException",.type "object"]
structure IniCls(K:Frag)(C fI:aZ):Prop where
 ob:∃nm q N bs bm hdct sn sub ab col dd k0 k1 k2 k3 k5,K.lookup C=some (excClassObj nm q C N bs bm hdct sn sub ab col dd k0 k1 k2 k3 k5 "ValueError.__new__")/\tailIn K vErr bm=true
 ini:findIn K (.ref C) "__init__"=some (some (.ref fI))
 fn:typeIn K (.ref fI)=some (.type "function")
 sa:findIn K (.ref C) "__setattr__"=some (some (.builtin "object.__setattr__"))
 hd:hasDictIn K C=true
section
variable{prog:bZ}{w:bP}{A:cW}{E:Value->aJ->Prop}{h:Heap}{g:Array GenState}{d:Drawn}{t:Nat}{os:OsState}{K:Frag}{C fI:aZ}
theorem qKp{Q:Fin->aJ->Prop}(X:K.In h)(k:IniCls K C fI)(s:∀h' e,Heap.MadeExcOf h h' e (.ref C) rest->aH (model prog w) A (call (.ref fI) (.ref e::rest)) (fun r s' =>r=.none /\Q (.done (.ret (.ref e))) s') E ⟨h',g,d,t,os⟩)(f:rest.length<=aI):
  aH (model prog w) A (Builtin.«type.__call__» ⟨.ref C::rest,[]⟩) Q E ⟨h,g,d,t,os⟩:=by
 obtain⟨J,q,N,bs,u,n,L,v,O,y,P,R,S,U,V,W,z,B⟩:=k.ob;have j:=X _ _ z;have T:=tail_of_in X B;have F:=dS;repeat (first|with_reducible refine cU j ?_|with_reducible refine wpAny_madeBy_exc j ?_|wp_step)
 refine codeAny_call_builtin_code (Code.quiet_builtin _ F.quiet) (wpAny_check_new_subT F T j ?_);refine codeAny_exc_new_subT F T j ?_ f;generalize i:(h.push {cls:=.type "tuple",data:=.seq rest.toArray}).push {cls:=.ref C,data:=.fields #[.ref h.objs.size,.none,.none,.none,.bool false,.none]}=h1;have keep:∀b o,h.get? b=some o->h1.get? b=some o:=fun b o e=>by rw[←i];exact aY _ (aY _ e)
 have c:h1.get? (h.objs.size+1)=some {cls:=.ref C,data:=.fields #[.ref h.objs.size,.none,.none,.none,.bool false,.none]}:=by rw[←i];heap_get
 have l:h1.get? h.objs.size=some {cls:=.type "tuple",data:=.seq rest.toArray}:=by rw[←i];exact aY _ (Heap.get?_push_at rfl rfl)
 have p:K.In h1:=fun a o e=>keep a o (X a o e)
 have D:=looks_findIn (M:=model prog w) p k.ini;have G:=bind_fn (M:=model prog w) p (.ref (h.objs.size+1)) k.fn;have m:(Value.ref C::u).contains (.ref C)=true:=by simp
 repeat (first|with_reducible refine cU c ?_|(with_reducible refine wpAny_isSubtype_exc (keep _ _ j) ?_;rw[m])|wp_step)
 refine D.at ?_
 refine dA (aV (G.at ?_));refine aV (bM (s h1 (h.objs.size+1) ⟨keep,Heap.get?_none_of_le (cS _),h.objs.size,c,Heap.get?_none_of_le (aB _),l⟩) (fun r s' H=>?_) fun _ _ x=>x);obtain⟨rfl,I⟩:=H;wp_walk;exact I
theorem zZk{Q:Value->aJ->Prop}(X:K.In h)(k:IniCls K C fI)(f:∀h' e,Heap.MadeExcOf h h' e (.ref C) rest->aH (model prog w) (A.under (.builtin "type.__call__" ⟨.ref C::rest,[]⟩)) (call (.ref fI) (.ref e::rest)) (fun r s' =>r=.none /\Q (.ref e) s') E ⟨h',g,d,t,os⟩)(a:rest.length<=aI):
  aH (model prog w) A (call (.ref C) rest) Q E ⟨h,g,d,t,os⟩:=by
 obtain⟨m,q,N,bs,n,b,o,i,p,j,s,u,v,x,y,z,l,B⟩:=k.ob;have c:=X _ _ l;have D:=tc_lookup;have F:=tc_bind (.ref C);refine wpAny_call (codeAny_of_tree ?_);repeat (any_goals (first|assumption|with_reducible refine cU c ?_|wp_step))
 refine⟨rfl,?_⟩;exact codeAny_call_builtin_at (Code.quiet_builtin _ (by decide +kernel)) entry_typeCall (wpAny_check_type_call_sub c (qKp X k f a))
end
noncomputable def ExcR(e:aZ)(cls:Value)(t:aZ)(a:Option aZ):Heap->Prop:=fun h=>∃o,h.get? e=some o/\o.cls=cls/\o.data=.fields #[.ref t,.none,.none,.none,.bool false,.none]/\o.dict=a
theorem vKf{prog:bZ}{A:cW}{E:Value->aJ->Prop}{s:aJ}{env:Env}{K:Frag}{fI:aZ}{x:Str}{z b:Pos}{c:List Expr}{Q:Flow->aJ->Prop}(k:IniCls K C fI)(O:A.handled=none)(i:(cV b (aX c env)).any (·.1)=false)(h:aH (model prog w) A (eval (.Name x z) env) (fun f s₁=>f=.ref C/\aH (model prog w) A (evalArgs (.ref C) true (cV b (aX c env)) [])
   (fun a s₂=>a.kw=[]/\a.pos.length<=aI/\K.In s₂.heap/\
    ∀h' e,Heap.MadeExcOf s₂.heap h' e (.ref C) a.pos->aH (model prog w) (A.under (.builtin "type.__call__" ⟨.ref C::a.pos,[]⟩)) (call (.ref fI) (.ref e::a.pos))
     (fun r s' =>r=.none /\K.In s'.heap/\(∃t j,ExcR e (.ref C) t j s'.heap)/\E (.ref e) s') E {s₂ with heap:=h' }) E s₁) E s):
  aH (model prog w) A (exec (.Raise (some (.Call (.Name x z) c [] b)) none pos) env) Q E s:=by
 obtain⟨nm,q,N,bs,P,B,sn,R,ab,S,dd,k0,k1,k2,k3,k5,D,U⟩:=k.ob;have F:=dS;rw[arm_exec_Raise];refine aV (wpAny_standAt ?_);unfold raiseStmt;refine aV (aV (bM (wpAny_Call_ofName (Q:=fun v s₃=>K.In s₃.heap/\∃e t j,v=.ref e/\ExcR e (.ref C) t j s₃.heap/\E (.ref e) s₃) (bM h (fun f s₁ h₁=>?_) fun _ _ x=>x)) (fun v s₃ h₃=>aV (wpAny_standAt (aE ?_))) fun _ _ x=>x))
 ·obtain⟨rfl,h₁⟩:=h₁;unfold callWith;refine aV (dA (bM h₁ (fun a s₂ h₂=>aV (wpAny_standAt ?_)) fun _ _ x=>x));obtain⟨G,n⟩:=a;obtain⟨p,l,H,h₂⟩:=h₂;obtain rfl:n=[]:=p;obtain⟨V,g,d,W,X⟩:=s₂;simp only[i];refine aV (wpAny_keeperOf_exc (H _ _ D) ?_);refine aV (zZk H k (fun h' e Y=>bM (h₂ h' e Y) (fun r s' I=>⟨I.1,aV (dA (wpAny_point (aE ?_)))⟩) fun _ _ x=>x) l);obtain⟨_,m,⟨t,j,Z⟩,u⟩:=I;exact⟨m,e,t,j,rfl,Z,u⟩
 ·obtain⟨m,e,t,j,rfl,⟨o,he,J,L,_⟩,u⟩:=h₃;have T:=tail_of_in m U;have M:=m _ _ D;obtain⟨V,g,d,W,X⟩:=s₃;have y:(Value.ref C::P).contains (.type "BaseException")=true:=by rw[List.contains_cons,T.hasType F.hasBase,Bool.or_true]
  obtain⟨oc,od,odt,osl⟩:=o;dsimp only at J L;subst J L;repeat (first|with_reducible refine cU he ?_|with_reducible refine cU M ?_|(with_reducible refine wpAny_isSubtype_exc M ?_;rw[y])|wp_step)
  exact wpAny_raiseNew_none O u
theorem vJc{h:Heap}{l:List Value}(a:Value)(T:OwnTail h vErr l):refuseLoop a "__setattr__" l=pure ():=by
 induction T with
 |base=>exact PySem.F.store_ValueError.passes a
 |own _ _ _ _ ih=>rw[refuseLoop_ref];exact ih
section
variable{prog:bZ}{w:bP}{A:cW}{E:Value->aJ->Prop}{s:aJ}{K:Frag}{C fI x t:aZ}{name:Str}{v:Value}
theorem zWo{Q:Unit->aJ->Prop}(X:K.In s.heap)(k:IniCls K C fI)(O:findIn K (.ref C) name=some none)(P:ExcR x (.ref C) t none s.heap)(h:∀h',ExcR x (.ref C) t (some s.heap.objs.size) h' ->h'.Ns1 s.heap.objs.size (fun y=>if y=name then some v else none)->(∀b o,b≠x->s.heap.get? b=some o->h'.get? b=some o)->h'.objs.size=s.heap.objs.size+1->Q () {s with heap:=h',toks:=s.toks+2}):
  aH (model prog w) A (setAttr (.ref x) name v) Q E s:=by
 obtain⟨nm,q,N,bs,D,M,sn,R,ab,S,dd,k0,k1,k2,k3,k5,U,V⟩:=k.ob;obtain⟨o,j,W,Y,f⟩:=P;obtain⟨oc,od,Z,G⟩:=o;subst W Y f;have l:=PySem.F.store_object;have I:InstAt s.heap x _ C none:=⟨j,rfl,rfl,trivial⟩
 have T:=tail_of_in X V;obtain⟨B,g,d⟩:∃B,clsIn K C=some B/\B.mro=.ref C::D:=⟨_,by unfold clsIn;rw[U],rfl⟩
 have m:B.hasDict=true:=by
  obtain⟨cd',hcd,m⟩:=any_some k.hd;grind
 have hm:Looks (model prog w) s.heap (mroOf (.ref C)) (.ref C::D):=d▸(looks_clsIn X g).andThen .now;have p:(Value.ref C::D).contains (.type "object")=true:=by rw[List.contains_cons,T.hasType (show vErr.contains (.type "object")=true by decide),Bool.or_true]
 have r :Looks (model prog w) s.heap (isInstance (.ref x) (.type "object")) true:=I.type.andThen (looks_mroIn X (by unfold mroIn;rw[g,cB,d];exact congrArg some p));refine set_plain X I k.sa ?_
 refine codeAny_call_builtin l.slot.plain l.entry (@check_slot (model prog w) _ _ {s with toks:=s.toks+1} "object.__setattr__" "object" "__setattr__" (.ref x) [.str name s.toks,v] [] _ l.kind l.split r (l.args (.ref x) (.str name s.toks) v) ?_);rw[osa_eq,refuse_eq];refine aV (aV (I.type.here (s:={s with toks:=s.toks+1}) (aV (hm.here (s:={s with toks:=s.toks+1}) ?_))));rw[refuseLoop_ref,vJc _ T];refine aE (aV (I.type.here (s:={s with toks:=s.toks+1}) (aV ((looks_findIn X O).here (s:={s with toks:=s.toks+1}) (aV (aE ?_))))));have u:x≠s.heap.objs.size:=bJ (aC j);have hx₁:=aY (h:=s.heap) {cls:=.type "dict",data:=.dict #[]} j;refine aV (aE (aV ?_));refine aV (wpAny_loadPart j (aV ((looks_clsIn X g).here (s:={s with toks:=s.toks+1}) ?_)));rw[m];refine aV (wpAny_alloc' (aV (wpAny_update' hx₁ ?_)));generalize c:(s.heap.push {cls:=.type "dict",data:=.dict #[]}).update x (fun o=> {o with dict:=some s.heap.objs.size})=h1;have gd:h1.get? s.heap.objs.size=some {cls:=.type "dict",data:=.dict #[]}:=by rw[←c];exact(Heap.get?_update_ne _ _ _ _ u.symm).trans (Heap.get?_push_at rfl rfl)
 have gx:h1.get? x=some {cls:=.ref C,dict:=some s.heap.objs.size,data:=.fields #[.ref t,.none,.none,.none,.bool false,.none],slots:=G}:=by rw[←c];exact dN _ hx₁ rfl
 have gb:∀b o,b≠x->s.heap.get? b=some o->h1.get? b=some o:=fun b o n e=>by rw[←c];exact(Heap.get?_update_ne _ _ _ _ n).trans (aY _ e)
 have nd:h1.Ns s.heap.objs.size (fun _=>none):=⟨_,#[],_,gd,rfl,fun e j=>absurd j (by simp),fun _=>rfl⟩
 have sz:h1.objs.size=s.heap.objs.size+1:=by rw[←c,Heap.size_update,cM]
 refine aE (a:=some s.heap.objs.size) (aV (aE (aV (wpAny_nsSet1 (s:={s with heap:=h1,toks:=s.toks+1}) (Heap.Ns1.of_empty nd) fun h2 z i=>?_))));obtain⟨oD,esD,epD,H,J,L⟩:=z.count (Within.cons name v Within.nil);refine aV (wpAny_lookBehind H (by rw[J];exact pastItsLine_dict (aG L (by rw[aK,List.length_nil,sizeLine_eq];omega))) ?_);refine aE (h h2 ⟨_,(i.2 x u).trans gx,rfl,rfl,rfl⟩ z (fun b o n e=>(i.2 b (bJ (aC e))).trans (gb b o n e)) (i.1.trans sz))
end
noncomputable def sXF(K:Frag)(C:aZ)(c d:TE)(f:Str):TS:=fun D σ H=>d σ H fun y g=>c σ g fun x a=>∃e t,x=.ref e/\a e=some (.ext (ExcR e (.ref C) t none))/\findIn K (.ref C) f=some none/\
 ∀b,a b=none->D.nx σ (upd (upd a e (.ext (ExcR e (.ref C) t (some b)))) b (.xd [(f,y)]))
theorem vZ5{P:bZ}{H:Hp}{h:Heap}{e t:aZ}{cls:Value}{f:Option aZ}(x:ExcR e cls t f h):vT P w H h e (.ext (ExcR e cls t f)):=by
 obtain⟨o,a,b,c,d⟩:=x;exact⟨⟨o,a,b,c,d⟩,⟨o,a⟩,fun g i ⟨o,a,b,c,d⟩ k=>⟨o,k o a,b,c,d⟩⟩
theorem zJq{X:Cx}{fI:aZ}{o d:Expr}{B E:TE}{f:Str}{i:Pos}(k:IniCls X.K C fI)(G:PE X o B)(J:PE X d E)(hs:swapsWith d (some (.Attribute o f i)) pos.line X.env=pure false):
  PS X (.Assign [.Attribute o f i] d pos) (sXF X.K C B E f):=by
 intro j s σ H D I h;refine plainObj_wpAny_Assign_Attribute (thn (J j s σ H _ I h) fun u L ⟨y,M,N,O,q⟩=>thn (G j L σ M _ N q) fun P l ⟨x,F,n,Q,e,t,R,r,S,T⟩=>?_) hs;subst R;obtain rfl:P=Value.ref e:=Q;obtain⟨φ,_,_⟩:=(show vT X.prog X.w F l.heap e _ from n.hok e _ r)
 refine zWo n.kIn k S φ fun h' x1 U V sz=>?_
 have A:F l.heap.objs.size=none:=n.hok.fresh (aB _);have ne:e≠l.heap.objs.size:=vC r A;refine⟨σ,_,?_,T _ A⟩;have W:=n.write (x:=e) (e:=e) (o:=.ext (ExcR e (.ref C) t (some l.heap.objs.size))) (h' :=h') (t' :=l.toks+2) (by rw[r];exact True.intro) (.inl rfl) V (let ⟨o,a,_⟩:=x1;⟨o,a⟩) (vZ5 x1);have lt:∀b o,l.heap.get? b=some o->l.heap.objs.size≠b:=fun b o z=>Nat.ne_of_gt (aC z)
 refine W.adopt (by rw[qF ne.symm];exact A) ?_ ?_ (fun y c z=>?_) (fun p Y=>?_) ?_
 ·cases q:X.s₀.heap.get? l.heap.objs.size with
  |none=>rfl
  | some o=>
    exact absurd (aF (aC q) n.sz) (cK _)
 ·obtain⟨m,⟨o,_,_,z,_⟩,_⟩:=n.loc;grind
 ·obtain⟨v,o,z,_⟩:=n.cell y c z;grind
 ·exact(lt _ _ (n.pin p Y).1).symm
 ·refine⟨_,U,fun g=>?_⟩;by_cases z:g=f
  ·subst z;simp only[List.lookup,beq_self_eq_true];exact O
  ·have Z :(g == f)=false:=by simpa using z
   rw[if_neg z];simp only[List.lookup,Z];exact True.intro
end L2
namespace L2
open PySem PySem.Spec PyProof.Rows
variable{P:bZ}{w:bP}{X:Cx}{H:Hp}{a b f C:aZ}{K:aQ}{mg:Str->Option Value}{base:Heap}{N ps:List Str}{qual:Str}{scope:Scope}{cdv cls:Value}{A:cW}{outer:List Env}{E:XK}{fd:bQ}{sp:Sp}
noncomputable def CXd(P:bZ)(w:bP):CXT:=fun a H s E e c =>∃(ea:aZ) (cls a0:Value) (H' :Hp) (B:Heap) (ox:Option aZ),
 e=.ref ea/\c.os=s.os/\AllBare c.gens/\Un (frs a) [] H H' s.heap c.heap/\HOk P w H' c.heap/\Heap.FlyingW B a ea cls a0 c.heap/\
 (∀b o,c.heap.get? b=some o->b∉frs a->(H' b≠none\/s.heap.get? b≠none)->B.get? b=some o)/\H' ea=none/\s.heap.get? ea=none/\(∃d,c.heap.get? ea=some d/\dxO d=(ox,some .none))/\E cls ox H'
theorem jQx:jP (CXd P w) X E0:=fun _ _ _ _ _ _ _ h=>by
 obtain⟨_,_,_,_,_,_,_,_,_,_,_,_,_,_,_,_,z⟩:=h;exact z.elim
noncomputable def but1(H:Hp)(a:aZ):Hp:=fun b=>if b=a then none else H b
theorem qZ2:but1 H a a=none:=if_pos rfl
theorem qJy(h:b≠a):but1 H a b=H b:=if_neg h
theorem vQt{o:HO}(h:but1 H a b=some o):b≠a/\H b=some o:=by
 by_cases z:b=a
 ·subst z;rw[qZ2]at h;cases h
 ·exact⟨z,by rwa [qJy z]at h⟩
theorem zXa(h:H a=none):but1 H a=H:=by
 funext b;by_cases z:b=a
 ·subst z;rw[qZ2,h]
 ·exact qJy z
theorem qXl{s:aJ}{F:List (aZ×Obj)}{σ:St}{k:Hp}{m:aJ}{h' :Heap}{a t:aZ}{ox:Option aZ}(I:Inv (cxOf (CXd P w) P w K mg base N qual scope f cdv A outer s H E) F σ k m)(T:∀b o,m.heap.get? b=some o->h'.get? b=some o)(x:s.heap.get? a=none)(hL:a≠s.heap.objs.size)(G:ExcR a cls t ox h')(ne:k a=none\/∃φ,k a=some (.ext φ))(he:E cls ox (but1 k a)):
  (cxOf (CXd P w) P w K mg base N qual scope f cdv A outer s H E).xe (.ref a) {m with heap:=h' }:=by
 obtain⟨oe,J,L,p,M⟩:=G;have fr:(A.deeper (envOfC qual scope s.heap.objs.size f cdv)).frames =some (envOfC qual scope s.heap.objs.size f cdv::outer):=I.ok.frames;have Z:∀g∈(envOfC qual scope s.heap.objs.size f cdv::outer),∀b,g.frame=some b->b∈frs (envOfC qual scope s.heap.objs.size f cdv::outer):=fun g he b hb=>bO.mpr ⟨g,he,hb⟩
 have B:∀b,b∈frs (envOfC qual scope s.heap.objs.size f cdv::outer)->b=s.heap.objs.size\/b∈frs outer:=fun b hb=>by
  obtain⟨g,he,U⟩:=bO.mp hb;rcases aA.mp he with rfl|he
  ·exact .inl (Option.some.inj U).symm
  ·exact .inr (bO.mpr ⟨g,he,U⟩)
 have C:∀b o,s.heap.get? b=some o->b≠s.heap.objs.size:=fun b o e=>bJ (aC e)
 have nx:∀b,b∉([]:List aZ):=fun b=>by simp
 have nfr:∀b,b∈frs (envOfC qual scope s.heap.objs.size f cdv::outer)->b≠a:=fun b hb z=>by
  rcases B b hb with q|q
  ·exact hL (z.symm.trans q)
  ·obtain⟨_,D,j,_⟩:=I.ok.funs.mem q;rw[z]at j;have V:s.heap.get? a=some D :=j;rw[x]at V;cases V
 have k2:∀b o,h'.get? b=some o->b∉frs (envOfC qual scope s.heap.objs.size f cdv::outer)->b≠a->(PySem.W.hideAll h' (a::frs (envOfC qual scope s.heap.objs.size f cdv::outer))).get? b=some o:=fun b o e n1 n2=>
  PySem.W.hideAll_get _ e fun z=>(aA.mp z).elim n2 n1
 have ff:h'.FunFrames (PySem.W.hideAll h' (a::frs (envOfC qual scope s.heap.objs.size f cdv::outer))) (envOfC qual scope s.heap.objs.size f cdv::outer):=
  PySem.W.funFrames_hide (h:=h') (I.stack.of_keeps fun b o e hn=>⟨o,T b o e,rfl⟩) fun g he b hb=>aM _ (Z g he b hb)
 show aH _ _ (leaving _ _) _ _ _;refine bM ((qY5 _ _).any (wpAny_leaving_firstW (s:={m with heap:=h' }) (base:=PySem.W.hideAll h' (a::frs (envOfC qual scope s.heap.objs.size f cdv::outer))) (a0:=.ref t) fr ff rfl J (fun b o q=>PySem.W.of_hideAll _ q) ?_ p rfl rfl (E:=fun _ _=>False) (Q:=fun _ s' =>∃i,s' ={m with heap:=i }/\Heap.LeftW (PySem.W.hideAll h' (a::frs (envOfC qual scope s.heap.objs.size f cdv::outer))) (envOfC qual scope s.heap.objs.size f cdv::outer) a oe.cls (.ref t) h' i) fun i hL' =>⟨i,rfl,hL'⟩)) (fun _ s' hq=>?_) fun _ _ z=>z.1.elim
 ·cases q:(PySem.W.hideAll h' (a::frs (envOfC qual scope s.heap.objs.size f cdv::outer))).get? a with
  |none=>rfl
  |some o=>rw[PySem.W.hideAll_none _ cC]at q;cases q
 obtain⟨⟨i,rfl,b1,⟨_,_,b2⟩,b3,sm⟩,dk⟩:=hq;have O:∀b o,m.heap.get? b=some o->b∉frs outer->b≠s.heap.objs.size->b≠a->i.get? b=some o:=fun b o e n1 n2 X=>b1 b o (k2 b o (T b o e) (fun z=>(B b z).elim n2 n1) X)
 have R:∀b o,m.heap.get? b=some o->b∈frs outer->∃sl,i.get? b=some {o with slots:=sl}:=fun b o e hb=>by
  obtain⟨_,D,j,hd⟩:=I.funs.mem hb;rw[e]at j;cases j;exact sm b o (T b o e) hd
 have trk:∀b u,k b=some u->b∉frs outer/\b≠s.heap.objs.size:=fun b u e=>by
  refine⟨fun z=>?_,fun z=>?_⟩
  ·have:=I.stkFree b (bO.mpr (by
    obtain⟨g,he,U⟩:=bO.mp z;exact⟨g,aM _ he,U⟩))
   rw[this]at e;cases e
  ·have z' :k s.heap.objs.size=none:=I.free;rw[z,z']at e;cases e
 have l:∀b o,s.heap.get? b=some o->b≠a:=fun b o e z=>by rw[z,x]at e;cases e
 have d:∀{b:aZ} {u:HO},k b=some u->(∀φ,u≠ .ext φ)->but1 k a b=some u:=fun {b u} e hn=>by
  rw[qJy]
  ·exact e
  ·rintro rfl;rcases ne with z|⟨φ,z⟩ <;> rw[z]at e <;> cases e
   exact hn φ rfl
 obtain⟨oe',q1,V⟩:=dk a oe J;refine⟨a,cls,.ref t,but1 k a,PySem.W.hideAll h' (a::frs (envOfC qual scope s.heap.objs.size f cdv::outer)),ox,rfl,I.os,I.bare,⟨fun b o e n hb _=>?_,fun b o e n hb _=>?_,fun b o e n G=>?_,fun b o e G=>?_,fun b xs e=>d (I.base.tups b xs e) fun _ z=>(nomatch z),fun b o u e=>d (I.base.frzs b o u e) fun _ z=>(nomatch z),fun b ps e=>?_⟩,
  fun b u e=>?_,⟨b1,PySem.W.hideAll_none _ cC,b2,L▸b3⟩,fun b o e nb hh=>?_,qZ2,x,⟨oe',q1,V.trans (by unfold dxO;rw[M,p];rfl)⟩,he⟩
 ·exact O b o (I.base.keep b o e n hb (nx b)) hb (C b o e) (l b o e)
 ·obtain⟨sl,Y⟩:=I.base.slot b o e n hb (nx b);obtain⟨sl',r⟩:=R b _ Y hb;exact⟨sl',r⟩
 ·rw[qJy (l b o e)];exact I.base.free b o e n G
 ·obtain⟨D,Y⟩:=I.base.there b o e G;by_cases hb:b∈frs outer
  ·obtain⟨sl,r⟩:=R b D Y hb;exact⟨_,r⟩
  ·exact⟨D,O b D Y hb (C b o e) (l b o e)⟩
 ·obtain⟨S,z⟩:=I.base.tbls b ps e;exact⟨S,d z fun _ z=>(nomatch z)⟩
 ·obtain⟨n0,e⟩:=vQt e;refine(I.hok b u e).stay (fun c v hc q=>?_) (fun c q=>d q fun _ z=>(nomatch z)) fun c xs q=>d q fun _ z=>(nomatch z)
  rcases hc with z|z
  ·subst z;exact O c v q (trk c u e).1 (trk c u e).2 n0
  ·refine O c v q (trk c _ z).1 (trk c _ z).2 ?_
   rintro rfl;rcases ne with y|⟨φ,y⟩ <;> rw[y]at z <;> cases z
 ·have r:(∃o2,m.heap.get? b=some o2)/\b≠s.heap.objs.size/\b≠a:=by
   rcases hh with z|z
   ·cases q:but1 k a b with
    |none=>exact absurd q z
    | some u=>
      obtain⟨n0,q⟩:=vQt q;exact⟨I.hok.there q,(trk b u q).2,n0⟩
   ·cases q:s.heap.get? b with
    |none=>exact absurd q z
    |some o1=>exact⟨I.base.there b o1 q (nx b),C b o1 q,l b o1 q⟩
  obtain⟨⟨o2,r⟩,nL,X⟩:=r;have e3:=O b o2 r nb nL X;rw[e]at e3;cases e3;exact k2 b _ (T b _ r) (fun z=>(B b z).elim nL nb) X
theorem wD{s:aJ}:
  jP (CXd P w) (cxOf (CXd P w) P w K mg base N qual scope f cdv A outer s H E) E:=by
 intro pins σ H1 s1 e s' I hcx;obtain⟨m,t,a0,p,B,ox,rfl,S,x,un,y,fl,C,T,sea,⟨oe,U,D⟩,he⟩:=hcx;have fr:(A.deeper (envOfC qual scope s.heap.objs.size f cdv)).frames =some (envOfC qual scope s.heap.objs.size f cdv::outer):=I.ok.frames;have V:∀b,b∈frs (envOfC qual scope s.heap.objs.size f cdv::outer)->b=s.heap.objs.size\/b∈frs outer:=fun b hb=>by
  obtain⟨l,he,O⟩:=bO.mp hb;rcases aA.mp he with rfl|he
  ·exact .inl (Option.some.inj O).symm
  ·exact .inr (bO.mpr ⟨l,he,O⟩)
 have hof:∀b,b∈frs outer->b∈frs (envOfC qual scope s.heap.objs.size f cdv::outer):=fun b hb=>by
  obtain⟨l,he,O⟩:=bO.mp hb;exact bO.mpr ⟨l,aM _ he,O⟩
 have W:∀b o,s.heap.get? b=some o->b≠s.heap.objs.size:=fun b o e=>bJ (aC e)
 have d:∀b,b∉([]:List aZ):=fun b=>by simp
 have h:Un (frs outer) [] H H1 s.heap s1.heap:=I.base;have i:Un (frs (envOfC qual scope s.heap.objs.size f cdv::outer)) [] H1 p s1.heap s'.heap:=un;refine bM ((qY5 _ _).any (wpAny_leaves_onW fr rfl fl (E:=fun _ _=>False) (Q:=fun _ t' =>∃a,t' ={s' with heap:=a }/\Heap.FlyingW B outer m t a0 a /\s'.heap.UpToSlots a) fun a j X=>⟨a,rfl,j,X⟩)) (fun _ t' hq=>?_) fun _ _ z=>z.1.elim
 obtain⟨⟨a,rfl,j,X⟩,dk⟩:=hq;obtain⟨Y,q1,q2⟩:=dk m oe U;have k2:∀b o,s'.heap.get? b=some o->b∉frs (envOfC qual scope s.heap.objs.size f cdv::outer)->(p b≠none\/s1.heap.get? b≠none)->a.get? b=some o:=fun b o e r R=>j.1 b o (C b o e r R)
 have slt:∀b o,s1.heap.get? b=some o->b∈frs (envOfC qual scope s.heap.objs.size f cdv::outer)->∃Z,a.get? b=some {o with slots:=Z}:=fun b o e hb=>by
  obtain⟨_,F,k,hd⟩:=I.stack.mem hb;rw[e]at k;cases k;obtain⟨Z,g⟩:=i.slot b o e (I.stkFree b hb) hb (d b);obtain⟨sl',G⟩:=X b _ g hd;grind
 have fr2:∀b u,p b=some u->b∉frs (envOfC qual scope s.heap.objs.size f cdv::outer):=fun b u e hb=>by
  obtain⟨_,F,k,hd⟩:=I.stack.mem hb;rw[i.free b F k (I.stkFree b hb) (d b)]at e;cases e
 have J:∀b o,s.heap.get? b=some o->b∉frs outer->b∉frs (envOfC qual scope s.heap.objs.size f cdv::outer):=fun b o e n z=>(V b z).elim (W b o e) n
 have thr:∀b o,s.heap.get? b=some o->∃F,a.get? b=some F :=fun b o e=>by
  obtain⟨o1,g⟩:=h.there b o e (d b);by_cases hb:b∈frs (envOfC qual scope s.heap.objs.size f cdv::outer)
  ·grind
  ·obtain⟨o2,G⟩:=i.there b o1 g (d b);grind
 refine⟨m,t,a0,p,B,ox,rfl,S.trans I.os,x,⟨fun b o e n hb _=>?_,fun b o e n hb _=>?_,fun b o e n _=>?_,fun b o e _=>thr b o e,fun b xs e=>i.tups b xs (h.tups b xs e),fun b o u e=>i.frzs b o u (h.frzs b o u e),fun b ps e=>?_⟩,fun b u e=>?_,j,fun b o e nb hh=>?_,T,?_,⟨Y,q1,q2.trans D⟩,he⟩
 ·have g:=h.keep b o e n hb (d b);have r:=h.free b o e n (d b);have L:=J b o e hb;exact k2 b o (i.keep b o g r L (d b)) L (.inr (by rw[g];simp))
 ·obtain⟨Z,g⟩:=h.slot b o e n hb (d b);grind
 ·obtain⟨o1,g⟩:=h.there b o e (d b);exact i.free b o1 g (h.free b o e n (d b)) (d b)
 ·obtain⟨m1,g⟩:=h.tbls b ps e;obtain⟨m2,G⟩:=i.tbls b _ g;grind
 ·refine(y b u e).stay (fun c v hc q=>?_) (fun _ q=>q) fun _ _ q=>q
  grind
 ·have st:b∉frs (envOfC qual scope s.heap.objs.size f cdv::outer)/\(p b≠none\/s1.heap.get? b≠none)/\∃o2,s'.heap.get? b=some o2:=by
   rcases hh with z|z
   ·cases q:p b with
    |none=>grind
    |some u=>exact⟨fr2 b u q,.inl (by simp),y.there q⟩
   ·cases q:s.heap.get? b with
    |none=>grind
    | some o1=>
      obtain⟨o3,M⟩:=h.there b o1 q (d b);exact⟨J b o1 q nb,.inr (by rw[M];simp),i.there b o3 M (d b)⟩
  obtain⟨r,R,o2,G⟩:=st;have M:=k2 b o2 G r R;rw[e]at M;cases M;exact C b _ G r R
 ·cases q:s.heap.get? m with
  |none=>rfl
  | some o=>
    obtain⟨F,g⟩:=h.there m o q (d m);grind
theorem vVb{s:aJ}:
  vJ1 (cxOf (CXd P w) P w K mg base N qual scope f cdv A outer s H E) C (fun a=>E (.ref C) none a):=by
 intro b σ a s2 h' ea vs I hm he;obtain⟨t,g,_,_⟩:=hm.there;have c:a ea=none:=I.hok.untracked hm.new;refine qXl I (t:=t) (ox:=none) (cls:=.ref C) hm.keeps ?_ ?_ ⟨_,g,rfl,rfl,rfl⟩ (.inl c) (by rw[zXa c];exact he)
 ·cases q:s.heap.get? ea with
  |none=>rfl
  | some o=>
    obtain⟨h,d⟩:=I.base.there ea o q (by show ea∉([]:List aZ);simp);rw[hm.new]at d;cases d
 ·rintro rfl;obtain⟨m,⟨o,_,_,z,_⟩,_⟩:=I.loc;have e :s2.heap.get? s.heap.objs.size=some o:=z;rw[hm.new]at e;cases e
noncomputable def qX3(X:Cx)(C:aZ)(R:aZ->aZ->Hp->Prop):Prop:=
 ∀(pins:List (aZ×Obj)) (σ:St) (H:Hp) (s:aJ) (ea t dx:aZ),Inv X pins σ H s->H ea=some (.ext (ExcR ea (.ref C) t (some dx)))->X.s₀.heap.get? ea=none->R ea dx H->X.xe (.ref ea) s
theorem vJ9{s:aJ}:
  qX3 (cxOf (CXd P w) P w K mg base N qual scope f cdv A outer s H E) C (fun a c b=>E (.ref C) (some c) (but1 b a)):=by
 intro d σ b s2 a t c I hx sea he;obtain⟨φ,_,_⟩:=(show vT P w b s2.heap a _ from I.hok a _ hx)
 refine qXl I (t:=t) (h' :=s2.heap) (fun _ _ e=>e) sea ?_ φ (.inr ⟨_,hx⟩) he;rintro rfl;have z:b s.heap.objs.size=none:=I.free;grind
theorem Fun.okD{x:Str}{st:Stmt}{k:Nat}(F:Fun K x qual st f fd)(S:FnScope N ps (qU st))(len:∀vs H Q E,sp vs H Q E->vs.length=ps.length)(c:∀(b:Value) (A:cW) (a:List Env) (s:aJ) (H:Hp) (vs:List V) (Q:VK) (E:XK),Room k (A.deeper (envOfC qual (qU st) s.heap.objs.size f b))->sp vs H Q E->
   ∃t,PSs (cxOf (CXd P w) P w K mg base N qual (qU st) f b A a s H E) (zM st) t/\t {nx:=fun _ H' =>Q .non H',rt:=Q} (qV7 N vs) H):FnOk P w K mg base (CXd P w) (k+1) f fd ps sp:=by
 obtain⟨l,m,kV,g,n,an,b,o,h,rfl,i,d⟩:=F.ex;exact jVh i d S len fun A a s H vs Q E j e=>c b A a s H vs Q E j e
noncomputable def zZ6(C:aZ)(sp:Sp)(e:TE)(R:aZ->aZ->Hp->Prop):TS:=fun _ σ H=>e σ H fun v b=>([v]:List V).length =1/\∀a t,b a=none->
 sp (.ref a:: [v]) (upd b a (.ext (ExcR a (.ref C) t none))) (fun r c=>r=.non /\∃d,c a=some (.ext (ExcR a (.ref C) t (some d)))/\R a d c) E0
theorem vYu{k:Nat}{fI:aZ}{x:Str}{e:Expr}{M:TE}{R:aZ->aZ->Hp->Prop}{np g N:Pos}(c:IniCls X.K C fI)(F:FnOk X.prog X.w X.K X.mg X.base (CXd X.prog X.w) k fI fd ps sp)(hr:Room (k+1) X.A)(hb:wK X.K fd ps [])(hg:Gl X x)(hm:X.mg x=some (.ref C))(i:X.calm=true)(O:X.ex=[])(he:PE X e M)(ht:qX3 X C R)(hs:aX [e] X.env=[(false,eval e X.env)]:=by rfl)(P:(x == ("__debug__":Str))=false:=by decide):
  PS X (.Raise (some (.Call (.Name x np) [e] [] g)) none N) (zZ6 C sp M R):=by
 intro d s σ H D I h;refine vKf c (I.ok.hd i) (by rw[hs];rfl) (qQs I hg hm ⟨rfl,?_⟩ P);have hA:PA X [e] (qKv M tNil):=xP he qZa hs;have h1:=hA g d s σ H (fun vs l=>vs.length=1/\∀a t,l a=none->sp (.ref a::vs) (upd l a (.ext (ExcR a (.ref C) t none))) (fun r H2=>r=.non /\∃G,H2 a=some (.ext (ExcR a (.ref C) t (some G)))/\R a G H2) E0) I h;rw[hs]at h1⊢;refine Calls.evalArgs_plain (bM h1 (fun us J h2=>?_) fun _ _ y=>y);obtain⟨ws,l,j,rv,Q,q1⟩:=h2;obtain⟨v,rfl⟩:∃v,ws=[v]:=by
  cases ws with
  |nil=>cases Q
  |cons v r=>grind
 obtain⟨u,rfl,ru⟩:=qV6 rv;refine⟨rfl,by show 1<=aI;decide,j.kIn,fun S a f =>?_⟩;obtain⟨t,T,_,_⟩:=f.there;have hn:l a=none:=j.hok.untracked f.new;have I2:Inv X d σ l {J with heap:=S }:=j.kept f.keeps;have U:∀b o,J.heap.get? b=some o->b≠a:=fun b o e z=>by rw[z,f.new]at e;cases e
 have n:X.s₀.heap.get? a=none:=by
  cases q:X.s₀.heap.get? a with
  |none=>rfl
  | some o=>
    obtain⟨o',z⟩:=j.base.there a o q (by rw[O];simp);grind
 have L:Inv X d σ (upd l a (.ext (ExcR a (.ref C) t none))) {J with heap:=S }:=by
  refine I2.adopt hn n ?_ (fun y cc e=>?_) (fun p hp=>?_) (vZ5 ⟨_,T,rfl,rfl,rfl⟩)
  ·obtain⟨m,⟨o,_,_,z,_⟩,_⟩:=j.loc;grind
  ·obtain⟨v,o,z,_⟩:=j.cell y cc e;grind
  ·exact U _ _ (j.pin p hp).1
 have B:=q1 a t hn;have r2:Vals [V.ref a,v] [Value.ref a,u]:=.cons rfl rv;have hl:([Value.ref a,u] ++ []).length =ps.length:=by rw[bK,←r2.length];exact F.len _ _ _ _ B
 have W:=hb {J with heap:=S } [.ref a,u] L.kIn hl;refine wpAny_call (codeAny_mono (F.run _ X.stack _ _ ⟨[.ref a,u],[]⟩ [.ref a,u] _ _ _ (hr.make C [u] []) (L.env0.make C [u] []) W r2 B) fun r Y E=>?_);cases r with
 |error e=>exact(jQx d σ _ _ e Y L E:_)
 | ok fl=>
   cases fl with
   | ret u' =>
     obtain⟨v',H',Z,rv',ev,G,hx,hR⟩:=L.after E;subst ev;obtain⟨φ,_,_⟩:=(show vT X.prog X.w H' Y.heap a _ from Z.hok a _ hx)
     exact⟨rv',Z.kIn,⟨t,_,φ⟩,ht d σ H' Y a t G Z hx n hR⟩
   |next=>exact False.elim E
   |brk=>exact False.elim E
   |cont=>exact False.elim E
noncomputable def ExcD(p:aZ)(cls:Value)(ox:Option aZ):Heap->Prop:=fun h=>∃o,h.get? p=some o/\o.cls=cls/\dxO o=(ox,some .none)/\∃a,o.data=.fields a
theorem zZu{h:Heap}{e:aZ}{d:Option aZ}(x:ExcD e cls d h):vT P w H h e (.ext (ExcD e cls d)):=by
 obtain⟨o,a,b,c⟩:=x;exact⟨⟨o,a,b,c⟩,⟨o,a⟩,fun f g ⟨o,a,b,c⟩ k=>⟨o,k o a,b,c⟩⟩
end L2
namespace DX
open PySem L2 PyProof.Rows
variable{H H' F':Hp}{v:V}{vs ws us:List V}{i j C n:Nat}{Z B' W' Y' B W:Fp}{α β κ:Type}{c:Nat->aZ}{π:List Nat}{env env' args:Ev}{σ σ' τ:L2.St}{io:Bool}{Q:VK}{E:XK}{X:Cx}{e tg:Expr}{op:Operator}{t':TT}{w:bP}{ss:List SV}{N ps Nc:List Str}{g:SG}{body:SS}{it:SI}{pos np cpos:Pos}{m qual:Str}{P:bZ}{mg:Str->Option Value}{base:Heap}{fd:bQ}{kd:Kd}{as:List Am}{a0:Am}{pl:Sem Bool}{q:Nat×List Str×List O}{scope:Scope}{CX:CXT}
inductive Kd where
 |lst|tup|dct (ks:List Key)|dcT (ks:List (List Key))|obj (C:Nat) (fs:List Str)|exc (C:Nat) (fs:List Str)
inductive D where
 |non|int (i:Int)|str (s:Str)|bl (b:Bool)|fn (j:Nat)|nd (k:Kd) (ds:List D)
inductive O where
 |fz (d:D)|ow (k:Kd) (os:List O)
abbrev D.tup(ds:List D):D:=.nd .tup ds
noncomputable abbrev Fp:=aZ->Nat
noncomputable def one(p:aZ):Fp:=fun a=>if a=p then 1 else 0
theorem wF{p:aZ}:one p p=1:=if_pos rfl
theorem xO{p a:aZ}(h:a≠p):one p a=0:=if_neg h
noncomputable def hide(T:Fp)(H:Hp):Hp:=fun a=>if T a=0 then H a else none
theorem vM{T:Fp}{a:aZ}(h:T a=0):hide T H a=H a:=if_pos h
theorem qJs{T:Fp}{a:aZ}(h:T a≠0):hide T H a=none:=if_neg h
theorem jH{T:Fp}{a:aZ}{o:HO}(h:hide T H a=some o):T a=0/\H a=some o:=by
 by_cases z:T a=0
 ·rw[vM z]at h;exact⟨z,h⟩
 ·rw[qJs z]at h;cases h
theorem vY{T:Fp}:Same (hide T H) H:=fun _ _ h=>(jH h).2
theorem zK{T b :Fp}(h:∀a o,T a=0->H a=some o->b a=0/\H' a=some o):Same (hide T H) (hide b H'):=fun a o e=>by
 obtain⟨z,q⟩:=jH e;obtain⟨c,d⟩:=h a o z q;rw[vM c];exact d
theorem zG{T b :Fp}(h:∀a,T a=0->b a=0):Same (hide T H) (hide b H):=zK fun a _ z q=>⟨h a z,q⟩
theorem zI{T b :Fp}(h:∀a,T a=0↔b a=0):hide T H=hide b H:=by
 funext a;by_cases z:T a=0
 ·rw[vM z,vM ((h a).mp z)]
 ·rw[qJs z,qJs fun c =>z ((h a).mpr c)]
theorem qY0{T:Fp}{p:aZ}{o:HO}(h:T p≠0):hide T (upd H p o)=hide T H:=by
 funext a;by_cases z:T a=0
 ·rw[vM z,vM z,qF fun q=>h (by rw[←q];exact z)]
 ·rw[qJs z,qJs z]
noncomputable def Hb:HO->Prop
 |.tup _=>False
 |.frz _ _=>False
 |.tbl _=>False
 |.tab _ _ _=>False
 |.xd _=>False
 |_=>True
theorem jE{K:aQ}{a:aZ}{xs:List V}(e:Same H H')(h:SqL K H a xs):SqL K H' a xs:=by
 rcases h with(h|⟨o,h⟩)|h
 ·exact .inl (.inl (e _ _ h))
 ·exact .inl (.inr ⟨o,e _ _ h⟩)
 ·exact .inr h
noncomputable def XdAt(F:Hp)(fs:List Str)(vs:List V):Option aZ->Prop
 |none=>fs=[]
 |some dx=>F dx=some (.xd (fs.zip vs))
theorem vXi{F:Hp}(e:Same F F'){p:aZ}{u:HO}(h:Rd F p u):Rd F' p u:=h.elim (fun x=>.inl (e _ _ x)) fun⟨o,x⟩=>.inr ⟨o,e _ _ x⟩
noncomputable def NdAt(K:aQ)(c:Nat->aZ)(F:Hp)(p:aZ):Kd->List V->Prop
 |.lst,vs=>SqL K F p vs
 |.tup,vs=>SqT K F p vs
 |.dct ks,vs=>ks.length=vs.length/\ks.Nodup/\Rd F p (.dK (ks.zip vs))
 |.dcT ks,vs=>ks.length=vs.length/\ks.Nodup/\F p=some (.dT (ks.zip vs))
 |.obj C fs,vs=>fs.length=vs.length/\∃b,F p=some (.ins (c C) b (fs.zip vs))
 |.exc C fs,vs=>fs.length=vs.length/\∃a,F p=some (.ext (ExcD p (.ref (c C)) a))/\XdAt F fs vs a
noncomputable def OwAt(c:Nat->aZ)(H:Hp)(p:aZ):Kd->List V->Prop
 |.lst,vs=>H p=some (.lst vs)
 |.tup,_=>False
 |.dct ks,vs=>ks.length=vs.length/\ks.Nodup/\H p=some (.dK (ks.zip vs))
 |.dcT ks,vs=>ks.length=vs.length/\ks.Nodup/\H p=some (.dT (ks.zip vs))
 |.obj C fs,vs=>fs.length=vs.length/\∃a,H p=some (.ins (c C) a (fs.zip vs))
 |.exc _ _,_=>False
section
variable{K:aQ}{c:Nat->aZ}{F F' H H' :Hp}{p:aZ}{k:Kd}{vs:List V}
theorem NdAt.same(e:Same F F')(h:NdAt K c F p k vs):NdAt K c F' p k vs:=by
 cases k with
 |lst=>exact jE e h
 |tup=>exact e.tup h
 |dct ks=>exact⟨h.1,h.2.1,vXi e h.2.2⟩
 |dcT ks=>exact⟨h.1,h.2.1,e _ _ h.2.2⟩
 |obj C fs=>obtain⟨a,f,b⟩:=h;exact⟨a,f,e _ _ b⟩
 | exc C fs=>
   obtain⟨a,g,b,d⟩:=h;refine⟨a,g,e _ _ b,?_⟩;cases g with
   |none=>exact d
   |some f=>exact e _ _ d
theorem OwAt.nd(h:OwAt c H p k vs)(e:F p=H p):NdAt K c F p k vs:=by
 cases k with
 |lst=>exact SqL.of (e.trans h)
 |tup=>exact h.elim
 |dct ks=>exact⟨h.1,h.2.1,.inl (e.trans h.2.2)⟩
 |dcT ks=>exact⟨h.1,h.2.1,e.trans h.2.2⟩
 |obj C fs=>obtain⟨a,d,b⟩:=h;exact⟨a,d,e.trans b⟩
 |exc C fs=>exact h.elim
theorem OwAt.eq(h:OwAt c H p k vs)(e:H' p=H p):OwAt c H' p k vs:=by
 cases k with
 |lst=>exact e.trans h
 |tup=>exact h.elim
 |dct ks=>exact⟨h.1,h.2.1,e.trans h.2.2⟩
 |dcT ks=>exact⟨h.1,h.2.1,e.trans h.2.2⟩
 |obj C fs=>obtain⟨a,d,b⟩:=h;exact⟨a,d,e.trans b⟩
 |exc C fs=>exact h.elim
theorem OwAt.hb(h:OwAt c H p k vs):∃o,H p=some o/\Hb o:=by
 cases k with
 |lst=>exact⟨_,h,trivial⟩
 |tup=>exact h.elim
 |dct ks=>exact⟨_,h.2.2,trivial⟩
 |dcT ks=>exact⟨_,h.2.2,trivial⟩
 |obj C fs=>obtain⟨a,d,b⟩:=h;exact⟨_,b,trivial⟩
 |exc C fs=>exact h.elim
end
inductive DAt(K:aQ)(c:Nat->aZ)(F:Hp):V->D->Prop
 |non:DAt K c F .non .non
 |int (i:Int):DAt K c F (.int i) (.int i)
 |str (s:Str):DAt K c F (.str s) (.str s)
 |bl (b:Bool):DAt K c F (.bl b) (.bl b)
 |fn (j:Nat):DAt K c F (.ref (c j)) (.fn j)
 |nd {p:aZ} {k:Kd} {vs:List V} {ds:List D} (h:NdAt K c F p k vs) (len:vs.length=ds.length) (r:∀(i:Nat) (v:V) (d:D),vs[i]?=some v->ds[i]?=some d->DAt K c F v d):DAt K c F (.ref p) (.nd k ds)
structure DsAt(K:aQ)(c:Nat->aZ)(F:Hp)(vs:List V)(ds:List D):Prop where
 len:vs.length=ds.length
 r:∀(i:Nat) (v:V) (d:D),vs[i]?=some v->ds[i]?=some d->DAt K c F v d
section
variable{K:aQ}{c:Nat->aZ}{F F' :Hp}
theorem DAt.un{k:Kd}{ds:List D}(h:DAt K c F v (.nd k ds)):∃p vs,v=.ref p/\NdAt K c F p k vs/\DsAt K c F vs ds:=by
 cases h with
 |nd h l r=>exact⟨_,_,rfl,h,l,r⟩
theorem DAt.of{p:aZ}{k:Kd}{ds:List D}(h:NdAt K c F p k vs)(r:DsAt K c F vs ds):DAt K c F (.ref p) (.nd k ds):=.nd h r.len r.r
theorem DAt.same(e:Same F F'){d:D}(h:DAt K c F v d):DAt K c F' v d:=by
 induction h with
 |non=>exact .non
 |int i=>exact .int i
 |str i=>exact .str i
 |bl i=>exact .bl i
 |fn i=>exact .fn i
 |nd h l r ih=>exact .nd (h.same e) l ih
theorem DsAt.same(e:Same F F'){ds:List D}(h:DsAt K c F vs ds):DsAt K c F' vs ds:=⟨h.len,fun i v d a b=>(h.r i v d a b).same e⟩
theorem DsAt.nil:DsAt K c F [] []:=⟨rfl,fun i v d h _=>by simp at h⟩
theorem DsAt.cons{d:D}{ds:List D}(h:DAt K c F v d)(k:DsAt K c F vs ds):DsAt K c F (v::vs) (d::ds):=by
 refine⟨by rw[aK,aK,k.len],fun i u x a b=>?_⟩;cases i with
 |zero=>grind
 |succ i=>exact k.r i u x (by simpa using a) (by simpa using b)
theorem DsAt.un{d:D}{ds:List D}(h:DsAt K c F vs (d::ds)):∃v r,vs=v::r/\DAt K c F v d/\DsAt K c F r ds:=by
 cases vs with
 |nil=>cases h.len
 |cons v r=>exact⟨v,r,rfl,h.r 0 v d rfl rfl,Nat.succ.inj h.len,fun i u x a b=>h.r (i+1) u x (by simpa using a) (by simpa using b)⟩
theorem DsAt.un0(h:DsAt K c F vs []):vs=[]:=List.eq_nil_of_length_eq_zero h.len
theorem DsAt.get{ds:List D}{d:D}(h:DsAt K c F vs ds)(e:ds[i]?=some d):∃v,vs[i]?=some v/\DAt K c F v d:=by
 have a:i<vs.length:=by rw[h.len];exact(aD.mp e).1
 exact⟨vs[i],aL a,h.r i _ d (aL a) e⟩
theorem DsAt.append{ds es:List D}(h:DsAt K c F vs ds)(k:DsAt K c F ws es):DsAt K c F (vs ++ ws) (ds ++ es):=by
 refine⟨by rw[aU,aU,h.len,k.len],fun i v d a b=>?_⟩;by_cases e:i<vs.length
 ·rw [List.getElem?_append_left e] at a;rw[List.getElem?_append_left (by rw[←h.len];exact e)]at b;exact h.r i v d a b
 ·rw [eZ (by omega)] at a;rw[eZ (by rw[←h.len];omega),←h.len]at b;exact k.r _ v d a b
theorem DsAt.take{ds:List D}(n:Nat)(h:DsAt K c F vs ds):DsAt K c F (vs.take n) (ds.take n):=by
 refine⟨by rw[bG,bG,h.len],fun i v d a b=>?_⟩;rw[List.getElem?_take]at a b;split at a
 ·rename_i z;rw[if_pos z]at b;exact h.r i v d a b
 ·cases a
theorem DsAt.drop{ds:List D}(n:Nat)(h:DsAt K c F vs ds):DsAt K c F (vs.drop n) (ds.drop n):=by
 refine⟨by rw[dY,dY,h.len],fun i v d a b=>?_⟩;rw[List.getElem?_drop]at a b;exact h.r _ v d a b
end
mutual
def OAt(K:aQ)(c:Nat->aZ)(F H:Hp):O->V->Fp->Prop
 |.fz d,v,Z=>DAt K c F v d/\∀a,Z a=0
 |.ow k os,v,Z=>∃p b e,v=.ref p/\OwAt c H p k b/\OsAt K c F H os b e /\∀a,Z a=one p a+e a
def OsAt(K:aQ)(c:Nat->aZ)(F H:Hp):List O->List V->Fp->Prop
 |[],vs,Z=>vs=[]/\∀a,Z a=0
 |o::os,vs,Z=>∃v r b d,vs=v::r/\OAt K c F H o v b/\OsAt K c F H os r d/\∀a,Z a=b a+d a
end
mutual
def fzO:O->D
 |.fz d=>d
 |.ow k os=>.nd k (fzOs os)
def fzOs:List O->List D
 |[]=> []
 |o::os=>fzO o::fzOs os
end
theorem qJ7:∀os:List O,fzOs os=os.map fzO
 |[]=>by simp[fzOs]
 |o::os=>by rw[fzOs,aO,qJ7 os]
section
variable{K:aQ}{c:Nat->aZ}{F F' H H' :Hp}{v:V}{vs:List V}{Z Z' :Fp}{d:D}{k:Kd}{os:List O}{o:O}
theorem OAt.fz:OAt K c F H (.fz d) v Z↔DAt K c F v d/\∀a,Z a=0:=by rw[OAt]
theorem OAt.ow:OAt K c F H (.ow k os) v Z↔∃p vs Z',v=.ref p/\OwAt c H p k vs/\OsAt K c F H os vs Z' /\∀a,Z a=one p a+Z' a:=by rw[OAt]
theorem OsAt.nil:OsAt K c F H [] vs Z↔vs=[]/\∀a,Z a=0:=by rw[OsAt]
theorem OsAt.cons:OsAt K c F H (o::os) vs Z↔∃v r b d,vs=v::r/\OAt K c F H o v b/\OsAt K c F H os r d/\∀a,Z a=b a+d a:=by rw[OsAt]
mutual
theorem OAt.keepM(e:∀v d,DAt K c F v d->DAt K c F' v d):∀{o:O} {v:V} {Z:Fp},(∀a,Z a≠0->H' a=H a)->OAt K c F H o v Z->OAt K c F' H' o v Z
 | .fz d,v,Z,_,h=>by
   rw[OAt.fz]at h⊢;exact⟨e _ _ h.1,h.2⟩
 | .ow k os,v,Z,q,h=>by
   rw[OAt.ow]at h⊢;obtain⟨p,f,g,a,b,c,d⟩:=h;exact⟨p,f,g,a,b.eq (q p (by rw[d,wF];omega)),OsAt.keepM e (fun a z=>q a (by rw[d];omega)) c,d⟩
theorem OsAt.keepM(e:∀v d,DAt K c F v d->DAt K c F' v d):∀{os:List O} {vs:List V} {Z:Fp},(∀a,Z a≠0->H' a=H a)->OsAt K c F H os vs Z->OsAt K c F' H' os vs Z
 |[],vs,Z,_,h=>by rw[OsAt.nil]at h⊢;exact h
 | o::os,vs,Z,q,h=>by
   rw[OsAt.cons]at h⊢;obtain⟨v,r,f,g,a,b,c,d⟩:=h;exact⟨v,r,f,g,a,OAt.keepM e (fun a z=>q a (by rw[d];omega)) b,OsAt.keepM e (fun a z=>q a (by rw[d];omega)) c,d⟩
end
theorem OAt.keep(e:Same F F'){o:O}(q:∀a,Z a≠0->H' a=H a)(h:OAt K c F H o v Z):OAt K c F' H' o v Z:=OAt.keepM (fun _ _ h=>h.same e) q h
theorem OsAt.keep(e:Same F F'){os:List O}(q:∀a,Z a≠0->H' a=H a)(h:OsAt K c F H os vs Z):OsAt K c F' H' os vs Z:=OsAt.keepM (fun _ _ h=>h.same e) q h
mutual
theorem OAt.dat(e:Same F F'):∀{o:O} {v:V} {Z:Fp},(∀a,Z a≠0->F' a=H a)->OAt K c F H o v Z->DAt K c F' v (fzO o)
 | .fz d,v,Z,_,h=>by
   rw[OAt.fz]at h;rw[fzO];exact h.1.same e
 | .ow k os,v,Z,q,h=>by
   rw[OAt.ow]at h;obtain⟨p,f,g,rfl,b,c,d⟩:=h;rw[fzO];exact .of (b.nd (q p (by rw[d,wF];omega))) (OsAt.dat e (fun a z=>q a (by rw[d];omega)) c)
theorem OsAt.dat(e:Same F F'):∀{os:List O} {vs:List V} {Z:Fp},(∀a,Z a≠0->F' a=H a)->OsAt K c F H os vs Z->DsAt K c F' vs (fzOs os)
 |[],vs,Z,_,h=>by rw[OsAt.nil]at h;rw[h.1,fzOs];exact .nil
 | o::os,vs,Z,q,h=>by
   rw[OsAt.cons]at h;obtain⟨v,r,f,g,rfl,b,c,d⟩:=h;rw[fzOs];exact .cons (OAt.dat e (fun a z=>q a (by rw[d];omega)) b) (OsAt.dat e (fun a z=>q a (by rw[d];omega)) c)
end
mutual
theorem OAt.hb:∀{o:O} {v:V} {Z:Fp} {a:aZ},OAt K c F H o v Z->Z a≠0->∃u,H a=some u/\Hb u
 |.fz d,v,Z,a,h,q=>by rw[OAt.fz]at h;exact absurd (h.2 a) q
 | .ow k os,v,Z,a,h,q=>by
   rw[OAt.ow]at h;obtain⟨p,e,f,rfl,b,c,d⟩:=h;by_cases z:a=p
   ·subst z;exact b.hb
   ·exact OsAt.hb c (by rw[d,xO z]at q;omega)
theorem OsAt.hb:∀{os:List O} {vs:List V} {Z:Fp} {a:aZ},OsAt K c F H os vs Z->Z a≠0->∃u,H a=some u/\Hb u
 |[],vs,Z,a,h,q=>by rw[OsAt.nil]at h;exact absurd (h.2 a) q
 | o::os,vs,Z,a,h,q=>by
   rw[OsAt.cons]at h;obtain⟨v,r,e,f,rfl,b,c,d⟩:=h;by_cases z:e a=0
   ·exact OsAt.hb c (by rw[d]at q;omega)
   ·exact OAt.hb b z
end
theorem OAt.cast(h:OAt K c F H o v Z)(e:∀a,Z' a=Z a):OAt K c F H o v Z' :=by rw[show Z' =Z from funext e];exact h
theorem OsAt.length:∀{os:List O} {vs:List V} {Z:Fp},OsAt K c F H os vs Z->vs.length=os.length
 |[],vs,Z,h=>by rw[OsAt.nil]at h;rw[h.1];rfl
 | o::os,vs,Z,h=>by
   obtain⟨v,r,a,e,rfl,b,c,d⟩:=h;rw[aK,aK,c.length]
theorem OsAt.fzs:∀{ds:List D} {vs:List V} {Z:Fp},OsAt K c F H (ds.map .fz) vs Z↔DsAt K c F vs ds/\∀a,Z a=0
 | [],vs,Z=>by
   rw[List.map_nil,OsAt.nil];exact⟨fun h=>⟨by rw[h.1];exact .nil,h.2⟩,fun h=>⟨h.1.un0,h.2⟩⟩
 | d::ds,vs,Z=>by
   rw[aO,OsAt.cons];constructor
   ·rintro⟨v,r,e,f,rfl,b,c,d⟩;rw[OAt.fz]at b;rw[OsAt.fzs]at c;exact⟨.cons b.1 c.1,fun a=>by rw[d,b.2,c.2]⟩
   ·rintro⟨h,z⟩;obtain⟨v,r,rfl,b,c⟩:=h.un;exact⟨v,r,fun _=>0,fun _=>0,rfl,OAt.fz.mpr ⟨b,fun _=>rfl⟩,OsAt.fzs.mpr ⟨c,fun _=>rfl⟩,fun a=>z a⟩
theorem OsAt.focus:∀{os:List O} {vs:List V} {Z:Fp} {j:Nat} {o:O},OsAt K c F H os vs Z->os[j]?=some o->∃(v:V) (g R:Fp),vs[j]?=some v/\OAt K c F H o v g/\(∀a,Z a=g a+R a)/\
  ∀l H' o' i f,Same F l ->(∀a,R a≠0->H' a=H a)->OAt K c l H' o' i f ->OsAt K c l H' (os.set j o') (vs.set j i) (fun a=>f a+R a)
 |[],vs,Z,j,o,h,e=>by simp at e
 | o1::os,vs,Z,0,o,h,e=>by
   rw[OsAt.cons]at h;obtain⟨v,r,g,n,rfl,b,c,d⟩:=h;cases e;refine⟨v,g,n,rfl,b,d,fun l H' o' i f m k q=>?_⟩;rw[List.set_cons_zero,List.set_cons_zero,OsAt.cons];exact⟨i,r,f,n,rfl,q,c.keep m k,fun _=>rfl⟩
 | o1::os,vs,Z,j + 1,o,h,e=>by
   rw[OsAt.cons]at h;obtain⟨v,r,g,n,rfl,b,c,d⟩:=h;obtain⟨w,Y,R,p,s,t,u⟩:=OsAt.focus (j:=j) c (by simpa using e);refine⟨w,Y,fun a=>g a+R a,by simpa using p,s,fun a=>by rw[d,t];(try dsimp only at *);omega,fun l H' o' i f m k q=>?_⟩;rw[List.set_cons_succ,List.set_cons_succ,OsAt.cons];exact⟨v,r.set j i,g,_,rfl,b.keep m fun a z=>k a (by(try dsimp only at *);omega),u l H' o' i f m (fun a z=>k a (by(try dsimp only at *);omega)) q,fun a=>by(try dsimp only at *);omega⟩
theorem OsAt.append:∀{os:List O} {vs:List V} {Z:Fp} {os' :List O} {vs' :List V} {Z' :Fp},OsAt K c F H os vs Z->OsAt K c F H os' vs' Z' ->OsAt K c F H (os ++ os') (vs ++ vs') (fun a=>Z a+Z' a)
 | [],vs,Z,os',vs',Z',h,k=>by
   rw[OsAt.nil]at h;simp_all
 | o::os,vs,Z,os',vs',Z',h,k=>by
   obtain⟨v,r,e,f,rfl,b,c,d⟩:=h;rw[List.cons_append,List.cons_append,OsAt.cons];exact⟨v,r ++ vs',e,_,rfl,b,c.append k,fun a=>by rw[d];(try dsimp only at *);omega⟩
theorem OsAt.one:OsAt K c F H [o] [v] Z↔OAt K c F H o v Z:=by
 constructor
 ·rintro⟨f,r,g,i,e,b,c,d⟩;cases e;exact b.cast fun a=>by rw[d,c.2];omega
 ·intro h;exact⟨v,[],Z,fun _=>0,rfl,h,OsAt.nil.mpr ⟨rfl,fun _=>rfl⟩,fun a=>by(try dsimp only at *);omega⟩
end
noncomputable def getP:O->List Nat->Option O
 |o,[]=>some o
 | .ow _ os,j::π=>match os[j]? with
   |some o=>getP o π
   |none=>none
 |.fz _,_::_=>none
noncomputable def setP:O->List Nat->O->O
 |_,[],x=>x
 | .ow k os,j::π,x=> .ow k (match os[j]? with
   |some o=>os.set j (setP o π x)
   |none=>os)
 |.fz d,_::_,_=>.fz d
noncomputable def kids:HO->List V
 |.lst vs=>vs
 |.dK ws=>ws.map (·.2)
 |.dT ws=>ws.map (·.2)
 |.ins _ _ fs=>fs.map (·.2)
 |_=> []
noncomputable def walk(H:Hp):V->List Nat->Option V
 |v,[]=>some v
 | .ref p,j::π=>match H p with
   | some o=>match(kids o)[j]? with
     |some v=>walk H v π
     |none=>none
   |none=>none
 |_,_::_=>none
theorem qZc:∀{ks:List α} {vs:List β},ks.length=vs.length->(ks.zip vs).map (·.2)=vs
 |[],[],_=>rfl
 |k::ks,v::vs,h=>by rw[bI,aO,qZc (Nat.succ.inj h)]
 |[],_::_,h=>by cases h
 |_::_,[],h=>by cases h
theorem OwAt.kids{p:aZ}{k:Kd}(h:OwAt c H p k vs):∃o,H p=some o/\kids o=vs:=by
 cases k with
 |lst=>exact⟨_,h,rfl⟩
 |tup=>exact h.elim
 |dct ks=>exact⟨_,h.2.2,qZc h.1⟩
 |dcT ks=>exact⟨_,h.2.2,qZc h.1⟩
 |obj C fs=>obtain⟨a,d,b⟩:=h;exact⟨_,b,qZc a⟩
 |exc C fs=>exact h.elim
theorem yZ{l:List α}{x:α}(h:l[j]?=some x):l.set j x=l:=by
 apply List.ext_getElem?;grind
theorem qWn{p:aZ}{o:HO}(h:H p=some o)(e:(kids o)[j]?=some v):walk H (.ref p) (j::π)=walk H v π:=by
 simp only[walk,h,e]
section
variable{K:aQ}{c:Nat->aZ}{F F' H H' :Hp}
theorem OAt.focus:∀{π:List Nat} {o o1:O} {v:V} {Z:Fp},OAt K c F H o v Z->getP o π=some o1->∃(l:V) (m R:Fp),walk H v π=some l/\OAt K c F H o1 l m/\(∀a,Z a=m a+R a)/\
  ∀i H' f g,Same F i ->(∀a,R a≠0->H' a=H a)->OAt K c i H' f l g ->OAt K c i H' (setP o π f) v (fun a=>g a+R a)
 | [],o,o1,v,Z,h,e=>by
   cases e;refine⟨v,Z,fun _=>0,by cases v <;> rfl,h,fun a=>rfl,fun i H' f g n k q=>?_⟩;exact q.cast fun _=>rfl
 |j::π,.fz d,o1,v,Z,h,e=>by cases e
 | j::π, .ow k os,o1,v,Z,h,e=>by
   simp only[getP]at e;cases e0:os[j]? with
   |none=>rw[e0]at e;cases e
   | some o=>
     rw[e0]at e;obtain⟨p,t,L,rfl,b,u,d⟩:=h;obtain⟨w,Y,R,r,x,y,A⟩:=u.focus e0;obtain⟨l,m,B,g1,C,D,E⟩:=OAt.focus x e;obtain⟨M,G,I⟩:=b.kids;refine⟨l,m,fun a=>one p a+R a+B a,by rw[qWn G (by rw[I];exact r)];exact g1,C,fun a=>by rw[d,y,D];(try dsimp only at *);omega,fun i H' f g n k q=>?_⟩;have J:=E i H' f g n (fun a z=>k a (by(try dsimp only at *);omega)) q;have s:=A i H' _ w _ n (fun a z=>k a (by(try dsimp only at *);omega)) J;rw[yZ r]at s;simp only[setP,e0];rw[OAt.ow];exact⟨p,t,_,rfl,b.eq (k p (by dsimp only;rw[wF];omega)),s,fun a=>by(try dsimp only at *);omega⟩
end
inductive Slot where
 |un|s (io:Bool) (o:O)
noncomputable abbrev Ev:=List Slot
noncomputable def j8(K:aQ)(c:Nat->aZ)(F H:Hp):Slot->Option V->Fp->Prop
 |.un,_,Z=>∀a,Z a=0
 |.s _ o,some v,Z=>OAt K c F H o v Z
 |.s _ _,none,_=>False
noncomputable def lamQ:Str:="next_out.<locals>.<lambda>"
noncomputable def TabF(c:Nat->aZ)(F:Hp):Prop:=c 77≠0->F (c 77)=some (.tab (c 78) (c 79) lamQ)
theorem TabF.same{F:Hp}(h:TabF c F)(e:Same F F'):TabF c F' :=fun z=>e _ _ (h z)
noncomputable def SlAt(K:aQ)(c:Nat->aZ)(F H:Hp):Ev->L2.St->Fp->Prop
 |[],σ,Z=>(σ=[]/\TabF c F)/\∀a,Z a=0
 |s::env,σ,Z=>∃x r b d,σ=x::r/\j8 K c F H s x b/\SlAt K c F H env r d/\∀a,Z a=b a+d a
section
variable{K:aQ}{c:Nat->aZ}{F F' H H' :Hp}
theorem j8.keepM(e:∀v d,DAt K c F v d->DAt K c F' v d){s:Slot}{x:Option V}(q:∀a,Z a≠0->H' a=H a)(h:j8 K c F H s x Z):j8 K c F' H' s x Z:=by
 cases s with
 |un=>exact h
 | s io o=>
   cases x with
   |none=>exact h.elim
   |some v=>exact OAt.keepM e q h
theorem j8.keep(e:Same F F'){s:Slot}{x:Option V}(q:∀a,Z a≠0->H' a=H a)(h:j8 K c F H s x Z):j8 K c F' H' s x Z:=h.keepM (fun _ _ h=>h.same e) q
theorem SlAt.cast{Z':Fp}(h:SlAt K c F H env σ Z)(e:∀a,Z' a=Z a):SlAt K c F H env σ Z' :=by rw[show Z' =Z from funext e];exact h
theorem j8.hb{s:Slot}{x:Option V}{a:aZ}(h:j8 K c F H s x Z)(q:Z a≠0):∃u,H a=some u/\Hb u:=by
 cases s with
 |un=>exact absurd (h a) q
 | s io o=>
   cases x with
   |none=>exact h.elim
   |some v=>exact OAt.hb h q
theorem SlAt.keepM(e:∀v d,DAt K c F v d->DAt K c F' v d)(t:TabF c F->TabF c F'):∀{env:Ev} {σ:L2.St} {Z:Fp},(∀a,Z a≠0->H' a=H a)->SlAt K c F H env σ Z->SlAt K c F' H' env σ Z
 |[],_,_,_,h=>⟨⟨h.1.1,t h.1.2⟩,h.2⟩
 | s::env,σ,Z,q,h=>by
   obtain⟨x,r,f,g,a,b,i,d⟩:=h;exact⟨x,r,f,g,a,b.keepM e fun a z=>q a (by rw[d];omega),i.keepM e t fun a z=>q a (by rw[d];omega),d⟩
theorem SlAt.keep(e:Same F F')(q:∀a,Z a≠0->H' a=H a)(h:SlAt K c F H env σ Z):SlAt K c F' H' env σ Z:=h.keepM (fun _ _ h=>h.same e) (fun t=>t.same e) q
theorem SlAt.hb:∀{env:Ev} {σ:L2.St} {Z:Fp} {a:aZ},SlAt K c F H env σ Z->Z a≠0->∃u,H a=some u/\Hb u
 |[],_,_,a,h,q=>absurd (h.2 a) q
 | s::env,σ,Z,a,h,q=>by
   obtain⟨x,r,e,g,_,b,f,d⟩:=h;by_cases z:e a=0
   ·exact SlAt.hb f (by rw[d]at q;omega)
   ·exact b.hb z
theorem SlAt.tab:∀{env:Ev} {σ:L2.St} {Z:Fp},SlAt K c F H env σ Z->TabF c F
 |[],_,_,h=>h.1.2
 | _::_,_,_,h=>by
   obtain⟨_,_,_,_,_,_,a,_⟩:=h;exact a.tab
theorem SlAt.len:∀{env:Ev} {σ:L2.St} {Z:Fp},SlAt K c F H env σ Z->env.length=σ.length
 |[],_,_,h=>by rw[h.1.1];rfl
 | s::env,σ,Z,h=>by
   obtain⟨x,r,e,f,rfl,b,a,d⟩:=h;rw[aK,aK,a.len]
theorem SlAt.focus:∀{env:Ev} {σ:L2.St} {Z:Fp} {i:Nat} {s:Slot},SlAt K c F H env σ Z->env[i]?=some s->∃(x:Option V) (g R:Fp),σ[i]?=some x/\j8 K c F H s x g/\(∀a,Z a=g a+R a)/\
  ∀(l H' :Hp) (s' :Slot) (j :Option V) (f Y:Fp),Same F l ->(∀a,R a≠0->H' a=H a)->j8 K c l H' s' j f ->(∀a,Y a=f a+R a)->SlAt K c l H' (env.set i s') (σ.set i j) Y
 |[],_,_,i,s,h,e=>by simp at e
 | s1::env,σ,Z,0,s,h,e=>by
   obtain⟨x,r,g,n,rfl,b,o,d⟩:=h;cases e;exact⟨x,g,n,rfl,b,d,fun l H' s' j f Y m k q y=>⟨j,r,f,n,rfl,q,o.keep m k,y⟩⟩
 | s1::env,σ,Z,i + 1,s,h,e=>by
   obtain⟨x,r,g,n,rfl,b,o,d⟩:=h;obtain⟨y,Y,R,t,u,v,w⟩:=SlAt.focus (i:=i) o (by simpa using e);refine⟨y,Y,fun a=>g a+R a,by simpa using t,u,fun a=>by rw[d,v];dsimp only;omega,fun l H' s' j f A m k q p =>?_⟩;dsimp only at k p;exact⟨x,r.set i j,g,fun a=>f a+R a,rfl,b.keep m fun a z=>k a (by omega),w l H' s' j f _ m (fun a z=>k a (by omega)) q (fun _=>rfl),fun a=>by rw[p];dsimp only;omega⟩
end
noncomputable abbrev hd2(B W:Fp):Fp:=fun a=>B a+W a
structure Cf(K:aQ)(c:Nat->aZ)(env:Ev)(σ:L2.St)(H:Hp)(B W:Fp):Prop where
 at_:SlAt K c (hide (hd2 B W) H) H env σ W
 nd:∀a,B a+W a<=1
 hb:∀a,B a≠0->∃o,H a=some o/\Hb o
noncomputable def pinF(f:Str):Bool:= !(decide (f="place") || decide (f="slots") || decide (f="terms") || decide (f="top") || decide (f="bottom"))
def Pin(x y:Option HO):Prop:=match x with
 |some (.ins C dx fs)=>∃a,y=some (.ins C dx a)/\∀(j:Nat) f v,pinF f=true->fs[j]?=some (f,v)->a[j]?=some (f,v)
 |_=>True
theorem Pin.refl{x:Option HO}:Pin x x:=by
 unfold Pin;grind
theorem Pin.of{x y:Option HO}(h:y=x):Pin x y:=by subst h;exact .refl
theorem Pin.trans{x y z:Option HO}(a:Pin x y)(b:Pin y z):Pin x z:=by
 unfold Pin at a⊢;split
 ·obtain⟨c,rfl,e⟩:=a;obtain⟨d,rfl,f⟩:=b;grind
 ·trivial
theorem Pin.none{y:Option HO}:Pin none y:=trivial
structure Step(env:Ev)(σ:L2.St)(H:Hp)(B W:Fp)(env' :Ev)(σ' :L2.St)(H' :Hp)(V:Fp):Prop where
 same:Same (hide (hd2 B W) H) (hide (hd2 B V) H')
 by_:∀a,B a≠0->H' a=H a
 new:∀a,V a≠0->W a≠0\/H a=none
 dom:∀a,H' a=none->H a=none
 pin:∀a,W a≠0->V a≠0->Pin (H a) (H' a)
 io:∀(i:Nat) (o:O),env'[i]?=some (.s true o)->(∃o0,env[i]?=some (.s true o0))/\σ'[i]?=σ[i]?
 len:env'.length=env.length
section
variable{K:aQ}{c:Nat->aZ}{env env' env2:Ev}{σ σ' σ2:L2.St}{H H' H2:Hp}{B W Y Y2 Z:Fp}
theorem Step.refl:Step env σ H B W env σ H W:=⟨Same.refl _,fun _ _=>rfl,fun _ h=>.inl h,fun _ h=>h,fun _ _ _=>.refl,fun _ o h=>⟨⟨o,h⟩,rfl⟩,rfl⟩
theorem Step.trans(a:Step env σ H B W env' σ' H' Y)(b:Step env' σ' H' B Y env2 σ2 H2 Y2):Step env σ H B W env2 σ2 H2 Y2:=by
 refine⟨a.same.trans b.same,fun z h=>(b.by_ z h).trans (a.by_ z h),fun z h=>?_,fun z h=>a.dom z (b.dom z h),fun z c d=>?_,fun i o h=>?_,b.len.trans a.len⟩
 ·rcases b.new z h with q | q
  ·exact a.new z q
  ·exact .inr (a.dom z q)
 ·rcases b.new z d with q | q
  ·exact(a.pin z c q).trans (b.pin z q d)
  ·rw[a.dom z q];exact .none
 ·obtain⟨⟨o1,c⟩,e⟩:=b.io i o h;obtain⟨q,f⟩:=a.io i o1 c;exact⟨q,e.trans f⟩
theorem Step.lift(b:Step env σ H B' W env' σ' H' Y)(h1:∀a,B' a=B a+Z a)(h2:∀a,W' a=W a+Z a)(c:∀a,Y' a=Y a+Z a):Step env σ H B W' env' σ' H' Y' :=by
 refine⟨?_,fun a h=>b.by_ a (by rw[h1];omega),fun a h=>?_,b.dom,fun a p q=>?_,b.io,b.len⟩
 ·have d:hide (hd2 B W') H=hide (hd2 B' W) H:=zI fun a=>by dsimp only [hd2];rw [h1,h2];omega
  have e:hide (hd2 B Y') H' =hide (hd2 B' Y) H' :=zI fun a=>by dsimp only[hd2];rw[h1,c];omega
  rw[d,e];exact b.same
 ·by_cases z:Y a=0
  ·exact .inl (by rw[c]at h;rw[h2];omega)
  ·rcases b.new a z with q | q
   ·exact .inl (by rw[h2];omega)
   ·exact .inr q
 ·by_cases z:Z a=0
  ·exact b.pin a (by rw[h2]at p;omega) (by rw[c]at q;omega)
  ·exact .of (b.by_ a (by rw[h1];omega))
theorem Step.cast(b:Step env σ H B W env' σ' H' Y)(h1:∀a,B' a=B a)(h2:∀a,W' a=W a)(c:∀a,Y' a=Y a):Step env σ H B' W' env' σ' H' Y' :=by
 rw[show B' =B from funext h1,show W' =W from funext h2,show Y' =Y from funext c];exact b
theorem Cf.cast(b:Cf K c env σ H B W)(h1:∀a,B' a=B a)(h2:∀a,W' a=W a):Cf K c env σ H B' W' :=by
 rw[show B' =B from funext h1,show W' =W from funext h2];exact b
theorem Cf.hbs(h:Cf K c env σ H B W){a:aZ}(q:B a+W a≠0):∃o,H a=some o/\Hb o:=by
 by_cases z:B a=0
 ·exact h.at_.hb (by omega)
 ·exact h.hb a z
theorem Cf.fresh(h:Cf K c env σ H B W){a:aZ}(q:H a=none):B a=0/\W a=0:=by
 have:B a+W a=0:=by
  by_cases z:B a+W a=0
  ·exact z
  ·obtain⟨o,e,_⟩:=h.hbs z;rw[q]at e;cases e
 omega
theorem Cf.grow(h:Cf K c env σ H B W)(e:Same H H'):Cf K c env σ H' B W:=by
 have st:∀a,B a+W a≠0->H' a=H a:=fun a z=>by obtain⟨o,q,_⟩:=h.hbs z;rw[q,e a o q]
 exact⟨h.at_.keep (zK fun a o z q=>⟨z,e a o q⟩) fun a z=>st a (by omega),h.nd,fun a z=>by rw[st a (by omega)];exact h.hb a z⟩
theorem Step.grow(h:Cf K c env σ H B W)(e:Same H H'):Step env σ H B W env σ H' W:=by
 have st:∀a,B a+W a≠0->H' a=H a:=fun a z=>by obtain⟨o,q,_⟩:=h.hbs z;rw[q,e a o q]
 refine⟨zK fun a o z q=>⟨z,e a o q⟩,fun a z=>st a (by omega),fun _ z=>.inl z,fun a z=>?_,fun a z _=>.of (st a (by omega)),fun _ o h=>⟨⟨o,h⟩,rfl⟩,rfl⟩;cases q:H a with
 |none=>rfl
 |some o=>rw[e a o q]at z;cases z
theorem Cf.focus(h:Cf K c env σ H B W){s:Slot}(e:env[i]?=some s):∃(x:Option V) (f R:Fp),σ[i]?=some x/\j8 K c (hide (hd2 B W) H) H s x f/\(∀a,W a=f a+R a)/\
  ∀(H' :Hp) (d W' :Fp) (s' :Slot) (g :Option V) (b :Fp),Same (hide (hd2 B W) H) (hide (hd2 d W') H')->(∀a,W' a=b a+R a)->(∀a,R a≠0->H' a=H a)->j8 K c (hide (hd2 d W') H') H' s' g b ->
   (∀a,d a+W' a<=1)->(∀a,d a≠0->∃o,H' a=some o/\Hb o)->Cf K c (env.set i s') (σ.set i g) H' d W' :=by
 obtain⟨x,f,R,j,l,m,n⟩:=h.at_.focus e;exact⟨x,f,R,j,l,m,fun H' d W' s' g b p r k q nd hb=>⟨n _ H' s' g b W' p k q r,nd,hb⟩⟩
end
noncomputable def getE(env:Ev)(i:Nat)(π:List Nat):Option O:=match env[i]? with
 |some (.s _ o)=>getP o π
 |_=>none
noncomputable def setE(env:Ev)(i:Nat)(π:List Nat)(x:O):Ev:=match env[i]? with
 |some (.s io o)=>env.set i (.s io (setP o π x))
 |_=>env
noncomputable def vI(H:Hp)(σ:L2.St)(i:Nat)(π:List Nat):Option V:=match σ[i]? with
 |some (some v)=>walk H v π
 |_=>none
section
variable{K:aQ}{c:Nat->aZ}{env env' env2:Ev}{σ σ' σ2:L2.St}{H H' H2:Hp}{B W Y Y2 Z:Fp}{i:Nat}{π:List Nat}{o1:O}
theorem qZv{x:O}{o:O}(h:(setE env i π x)[j]?=some (.s true o)):∃a,env[j]?=some (.s true a):=by
 unfold setE at h;grind
theorem qVc{x:O}:(setE env i π x).length =env.length:=by
 unfold setE;grind
theorem Cf.place(h:Cf K c env σ H B W)(e:getE env i π=some o1):∃(g:V) (j R:Fp),vI H σ i π=some g/\OAt K c (hide (hd2 B W) H) H o1 g j/\(∀a,W a=j a+R a)/\
  ∀(H' :Hp) (f W' :Fp) (b :O) (d :Fp),Same (hide (hd2 B W) H) (hide (hd2 f W') H')->(∀a,W' a=d a+R a)->(∀a,R a≠0->H' a=H a)->OAt K c (hide (hd2 f W') H') H' b g d ->
   (∀a,f a+W' a<=1)->(∀a,f a≠0->∃o,H' a=some o/\Hb o)->Cf K c (setE env i π b) σ H' f W' :=by
 unfold getE at e;split at e
 ·rename_i u o l;obtain⟨x,I,w,m,n,y,A⟩:=h.focus l;cases x with
  |none=>exact n.elim
  | some v=>
    obtain⟨g,j,C,g1,D,E,F⟩:=OAt.focus n e;refine⟨g,j,fun a=>C a+w a,by unfold vI;rw[m];exact g1,D,fun a=>by rw[y,E];dsimp only;omega,fun H' f W' b d p r k q nd hb=>?_⟩;dsimp only at r k;have G:=F _ H' b d p (fun a z=>k a (by omega)) q;have t:=A H' f W' (.s u (setP o π b)) (some v) _ p (fun a=>by rw[r];(try dsimp only);omega) (fun a z=>k a (by omega)) G nd hb;rw[yZ m]at t;unfold setE;rw[l];exact t
 ·cases e
theorem Cf.freeze(h:Cf K c env σ H B W)(e:getE env i π=some o1):∃b W',vI H σ i π=some b/\Cf K c (setE env i π (.fz (fzO o1))) σ H B W' /\DAt K c (hide (hd2 B W') H) b (fzO o1)/\Step env σ H B W (setE env i π (.fz (fzO o1))) σ H W' :=by
 obtain⟨b,n,R,k,l,d,m⟩:=h.place e;have f:Same (hide (hd2 B W) H) (hide (hd2 B R) H):=zG fun a z=>by dsimp only[hd2]at *;rw[d]at z;omega
 have g:DAt K c (hide (hd2 B R) H) b (fzO o1):=l.dat f fun a z=>vM (by have:=h.nd a;rw[d]at this;dsimp only[hd2];omega)
 refine⟨b,R,k,m H B R _ (fun _=>0) f (fun a=>by(try dsimp only);omega) (fun _ _=>rfl) (OAt.fz.mpr ⟨g,fun _=>rfl⟩) (fun a=>by have:=h.nd a;rw[d]at this;omega) h.hb,g,?_⟩;exact⟨f,fun _ _=>rfl,fun a z=>.inl (by rw[d];omega),fun _ z=>z,fun _ _ _=>.refl,fun j o q=>⟨qZv q,rfl⟩,qVc⟩
theorem Cf.view(h:Cf K c env σ H B W)(e:getE env i π=some o1):∃a,vI H σ i π=some a/\DAt K c H a (fzO o1):=by
 obtain⟨a,f,R,b,d,g,j⟩:=h.place e;exact⟨a,b,d.dat vY fun _ _=>rfl⟩
theorem Cf.put{u:V}{o:O}(h:Cf K c env σ H B' W)(b:∀a,B' a=B a+Z a)(f:OAt K c (hide (hd2 B' W) H) H o u Z)(hi:i<env.length):∃W',Cf K c (env.set i (.s io o)) (σ.set i (some u)) H B W' /\Same (hide (hd2 B' W) H) (hide (hd2 B W') H)/\∀a,W' a≠0->Z a+W a≠0:=by
 obtain⟨x,j,R,k,l,d,g⟩:=h.focus (aL hi);have e:Same (hide (hd2 B' W) H) (hide (hd2 B fun a=>Z a+R a) H):=zG fun a z=>by dsimp only[hd2]at *;rw[d,b]at z;omega
 refine⟨fun a=>Z a+R a,g H B _ (.s io o) (some u) Z e (fun _=>rfl) (fun _ _=>rfl) (f.keep e fun _ _=>rfl) (fun a=>?_) (fun a z=>h.hb a (by rw[b];omega)),e,fun a z=>?_⟩
 ·have:=h.nd a;rw[d,b]at this;(try dsimp only);omega
 ·dsimp only at z;rw[d];omega
end
inductive Res(α:Type) where
 |ok (a:α)|er (C:Nat) (fs:List (Str×D))|no
noncomputable def Res.bind{α β:Type}(x:Res α)(f:α->Res β):Res β:=match x with
 |.ok a=>f a
 |.er C fs=>.er C fs
 |.no =>.no
noncomputable def Res.wp{α:Type}(x:Res α)(Q:α->Prop)(E:Nat->List (Str×D)->Prop):Prop:=match x with
 |.ok a=>Q a
 |.er C fs=>E C fs
 |.no =>False
noncomputable def opt{α:Type}:Option α->Res α
 |some a=>.ok a
 |none=>.no
theorem qY{f:α->Res β}{Q:β->Prop}{E:Nat->List (Str×D)->Prop}:∀{x:Res α},(x.bind f).wp Q E↔x.wp (fun a=>(f a).wp Q E) E
 |.ok _=>Iff.rfl
 |.er _ _=>Iff.rfl
 |.no =>Iff.rfl
theorem wp_mono{Q b :α->Prop}{E E' :Nat->List (Str×D)->Prop}(c:∀a,Q a->b a)(d:∀C fs,E C fs->E' C fs):∀{x:Res α},x.wp Q E->x.wp b E'
 |.ok a,h=>c a h
 |.er C fs,h=>d C fs h
 |.no,h=>h.elim
theorem qC{f:α->Res β}{Q:β->Prop}{E:Nat->List (Str×D)->Prop}:∀{x:Option α},((opt x).bind f).wp Q E->∃a,x=some a/\(f a).wp Q E
 |some a,h=>⟨a,rfl,h⟩
 |none,h=>h.elim
theorem v7{b:Bool}{x:Res α}{Q:α->Prop}{E:Nat->List (Str×D)->Prop}(h:(cond b x .no).wp Q E):b=true/\x.wp Q E:=by
 cases b with
 |true=>grind
 |false=>exact h.elim
structure StepX(H:Hp)(B W:Fp)(H' :Hp)(Y:Fp):Prop where
 same:Same (hide (hd2 B W) H) (hide (hd2 B Y) H')
 by_:∀a,B a≠0->H' a=H a
 dom:∀a,H' a=none->H a=none
noncomputable def ErAt(K:aQ)(c:Nat->aZ)(F H:Hp)(fs:List (Str×D)):Option aZ->Prop
 |none=>fs=[]
 |some dx=>∃a:List (Str×V),H dx=some (.xd a)/\a.map (·.1)=fs.map (·.1)/\DsAt K c F (a.map (·.2)) (fs.map (·.2))
noncomputable def erP(K:aQ)(c:Nat->aZ)(E:XK)(H:Hp)(B W:Fp):Nat->List (Str×D)->Prop:=fun C fs=>∀a Y b,StepX H B W a Y->ErAt K c (hide (hd2 B Y) a) a fs b->E (.ref (c C)) b a
section
variable{K:aQ}{c:Nat->aZ}{E:XK}{env env' :Ev}{σ σ' :L2.St}{H H' H2:Hp}{B W Y Y2 Z:Fp}{C:Nat}{fs:List (Str×D)}
theorem Step.x(a:Step env σ H B W env' σ' H' Y)(b:StepX H' B Y H2 Y2):StepX H B W H2 Y2:=⟨a.same.trans b.same,fun z h=>(b.by_ z h).trans (a.by_ z h),fun z h=>a.dom z (b.dom z h)⟩
theorem erP.back(a:Step env σ H B W env' σ' H' Y)(h:erP K c E H B W C fs):erP K c E H' B Y C fs:=fun b d e f g=>h b d e (a.x f) g
end
structure Got(K:aQ)(c:Nat->aZ)(env:Ev)(σ:L2.St)(H:Hp)(B W:Fp)(env' :Ev)(H' :Hp)(W' Z:Fp)(o:O)(u:V):Prop where
 st:Step env σ H B W env' σ H' (hd2 W' Z)
 cf:Cf K c env' σ H' (hd2 B Z) W'
 at_:OAt K c (hide (hd2 (hd2 B Z) W') H') H' o u Z
structure GotD(K:aQ)(c:Nat->aZ)(env:Ev)(σ:L2.St)(H:Hp)(B W:Fp)(env' :Ev)(H' :Hp)(W' :Fp)(x:D)(u:V):Prop where
 st:Step env σ H B W env' σ H' W'
 cf:Cf K c env' σ H' B W'
 at_:DAt K c (hide (hd2 B W') H') u x
noncomputable abbrev SE:=Ev->Res (O×Ev)
noncomputable abbrev SV:=Ev->Res (D×Ev)
noncomputable def tE(K:aQ)(c:Nat->aZ)(E:XK)(s:SE):TE:=fun σ H Q=>∃a B W,Cf K c a σ H B W/\(s a).wp (fun r=>∀u b d Z,Got K c a σ H B W r.2 b d Z r.1 u->Q u b) (erP K c E H B W)
noncomputable def tV(K:aQ)(c:Nat->aZ)(E:XK)(s:SV):TE:=fun σ H Q=>∃a B W,Cf K c a σ H B W/\(s a).wp (fun r=>∀u b d,GotD K c a σ H B W r.2 b d r.1 u->Q u b) (erP K c E H B W)
structure ED(X:Cx)(c:Nat->aZ)(E:XK)(e:Expr)(s:SE):Prop where
 h:PE X e (tE X.K c E s)
structure EV(X:Cx)(c:Nat->aZ)(E:XK)(e:Expr)(s:SV):Prop where
 h:PE X e (tV X.K c E s)
theorem PE.imp{t t' :TE}(h:PE X e t)(k:∀σ H Q,t' σ H Q->t σ H Q):PE X e t' :=fun a s σ H Q I q=>h a s σ H Q I (k σ H Q q)
section
variable{K:aQ}{c:Nat->aZ}{E:XK}{env env' env2:Ev}{σ σ' :L2.St}{H H' H2:Hp}{B W W' W2 Y Y2 Z:Fp}{o:O}{u:V}{x:D}
theorem Got.fz(g:Got K c env σ H B W env' H' W' Z o u):GotD K c env σ H B W env' H' W' (fzO o) u:=by
 have d:Same (hide (hd2 (hd2 B Z) W') H') (hide (hd2 B W') H'):=zG fun a z=>by dsimp only[hd2]at *;omega
 have b:Same (hide (hd2 B (hd2 W' Z)) H') (hide (hd2 B W') H'):=zG fun a z=>by dsimp only[hd2]at *;omega
 refine⟨⟨g.st.same.trans b,g.st.by_,fun a h=>g.st.new a (by dsimp only[hd2];omega),g.st.dom,fun a e f=>g.st.pin a e (by dsimp only[hd2];omega),g.st.io,g.st.len⟩,
  ⟨g.cf.at_.keep d fun _ _=>rfl,fun a=>by have:=g.cf.nd a;dsimp only[hd2]at this;omega,fun a h=>g.cf.hb a (by dsimp only[hd2];omega)⟩,g.at_.dat d fun a h=>vM ?_⟩
 have:=g.cf.nd a;dsimp only[hd2]at *;omega
theorem GotD.own(g:GotD K c env σ H B W env' H' W' x u):Got K c env σ H B W env' H' W' (fun _=>0) (.fz x) u:=by
 refine⟨g.st.cast (fun _=>rfl) (fun _=>rfl) fun _=>rfl,g.cf.cast (fun _=>rfl) fun _=>rfl,OAt.fz.mpr ⟨?_,fun _=>rfl⟩⟩;exact g.at_
end
section
variable{X:Cx}{c:Nat->aZ}{E:XK}{e:Expr}
noncomputable def fzS(s:SE):SV:=fun a=>(s a).bind fun r=>.ok (fzO r.1,r.2)
noncomputable def owS(s:SV):SE:=fun a=>(s a).bind fun r=>.ok (.fz r.1,r.2)
theorem ev_e{s:SE}(h:ED X c E e s):EV X c E e (fzS s):=by
 refine⟨PE.imp h.h fun σ H Q=>?_⟩;rintro⟨a,B,W,b,w⟩;exact⟨a,B,W,b,wp_mono (fun r q u d f Z g=>q u d f g.fz) (fun _ _ q=>q) (qY.mp w)⟩
theorem ed_v{s:SV}(h:EV X c E e s):ED X c E e (owS s):=by
 refine⟨PE.imp h.h fun σ H Q=>?_⟩;rintro⟨a,B,W,b,w⟩;exact⟨a,B,W,b,wp_mono (fun r q u d f g=>q u d f _ g.own) (fun _ _ q=>q) (qY.mp w)⟩
end
inductive Hn where
 |d (x:D)|p (i:Nat) (π:List Nat)
noncomputable abbrev SP:=Ev->Option Hn
def HnAt(K:aQ)(c:Nat->aZ)(F:Hp)(σ:L2.St)(H:Hp)(u:V):Hn->Prop
 |.d x=>DAt K c F u x
 |.p i π=>vI H σ i π=some u
noncomputable def tP(K:aQ)(c:Nat->aZ)(s:SP):TE:=fun σ H Q=>∃a B W h,Cf K c a σ H B W/\s a=some h/\∀u,HnAt K c (hide (hd2 B W) H) σ H u h->Q u H
structure EP(X:Cx)(c:Nat->aZ)(e:Expr)(s:SP):Prop where
 h:PE X e (tP X.K c s)
noncomputable def hnO(o:O)(i:Nat)(π:List Nat):Hn:=match o with
 |.fz d=>.d d
 |.ow _ _=>.p i π
noncomputable def hnV(env:Ev):Hn->Res (D×Ev)
 |.d x=>.ok (x,env)
 |.p i π=>(opt (getE env i π)).bind fun o=>.ok (fzO o,setE env i π (.fz (fzO o)))
noncomputable def pV(s:SP):SV:=fun a=>(opt (s a)).bind (hnV a)
theorem vJt{K:aQ}{h:Hn}{u:V}{Q:D×Ev->Prop}{f:Nat->List (Str×D)->Prop}(a:Cf K c env σ H B W)(b:HnAt K c (hide (hd2 B W) H) σ H u h)(w:(hnV env h).wp Q f):
  ∃x env' W',GotD K c env σ H B W env' H W' x u/\Q (x,env'):=by
 cases h with
 |d x=>exact⟨x,env,W,⟨.refl,a,b⟩,w⟩
 | p i π=>
   obtain⟨o,g,j⟩:=qC w;obtain⟨n,W',e,k,l,m⟩:=a.freeze g;have:vI H σ i π=some u:=b;rw[this]at e;cases e;exact⟨_,_,W',⟨m,k,l⟩,j⟩
theorem ev_p{s:SP}(h:EP X c e s):EV X c E e (pV s):=by
 refine⟨PE.imp h.h fun σ H Q=>?_⟩;rintro⟨a,B,W,b,w⟩;obtain⟨f,i,j⟩:=qC w;refine⟨a,B,W,f,b,i,fun u k=>?_⟩;obtain⟨x,d,l,g,q⟩:=vJt b k j;grind
noncomputable def rsv(env:Ev):Hn->Option D
 |.d x=>some x
 | .p i π=>match getE env i π with
   |some o=>some (fzO o)
   |none=>none
theorem j7{K:aQ}{h:Hn}{u:V}{x:D}(b:Cf K c env σ H B W)(a:HnAt K c (hide (hd2 B W) H) σ H u h)(e:rsv env h=some x):DAt K c H u x:=by
 cases h with
 |d y=>cases e;exact DAt.same vY a
 | p i π=>
   simp only[rsv]at e;cases e0:getE env i π with
   |none=>grind
   | some o=>
     rw[e0]at e;cases e;obtain⟨f,g,j⟩:=b.view e0;have:vI H σ i π=some u:=a;grind
inductive Vw(K:aQ)(c:Nat->aZ)(F H:Hp):V->D->Prop
 |d {u:V} {x:D} (h:DAt K c F u x):Vw K c F H u x
 |nd {p:aZ} {k:Kd} {vs:List V} {ds:List D} (h:NdAt K c H p k vs) (r:DsAt K c F vs ds):Vw K c F H (.ref p) (.nd k ds)
section
variable{K:aQ}{c:Nat->aZ}{F F' H H' :Hp}{u:V}{x:D}
theorem Vw.un{k:Kd}{ds:List D}(s:Same F H)(h:Vw K c F H u (.nd k ds)):∃p vs,u=.ref p/\NdAt K c H p k vs/\DsAt K c F vs ds:=by
 generalize e:D.nd k ds=y at h;cases h with
 | d h=>
   subst e;obtain⟨p,vs,a,b,f⟩:=h.un;exact⟨p,vs,a,b.same s,f⟩
 |nd h r=>cases e;exact⟨_,_,rfl,h,r⟩
theorem Vw.same(s:Same F F')(h:Vw K c F H u x):Vw K c F' H u x:=by
 cases h with
 |d h=>exact .d (h.same s)
 |nd h r=>exact .nd h (r.same s)
end
noncomputable def qK2:O->O
 |.fz d=>.fz d
 |.ow k os=>.ow k (os.map fun o=>.fz (fzO o))
noncomputable def rsvB(env:Ev):Hn->Res (D×Ev)
 |.d x=>.ok (x,env)
 |.p i π=>(opt (getE env i π)).bind fun o=>.ok (fzO o,setE env i π (qK2 o))
theorem vXh{K:aQ}{h:Hn}{u:V}{Q:D×Ev->Prop}{y:Nat->List (Str×D)->Prop}(e:Cf K c env σ H B W)(m:HnAt K c (hide (hd2 B W) H) σ H u h)(w:(rsvB env h).wp Q y):
  ∃x env' W',Step env σ H B W env' σ H W' /\Cf K c env' σ H B W' /\Vw K c (hide (hd2 B W') H) H u x/\Q (x,env'):=by
 cases h with
 |d x=>exact⟨x,env,W,.refl,e,.d m,w⟩
 | p i π=>
   obtain⟨o,A,n⟩:=qC w;obtain⟨I,C,R,r,f,g,s⟩:=e.place A;have:vI H σ i π=some u:=m;rw[this]at r;cases r;cases o with
   | fz d=>
     rw[OAt.fz]at f;have q:=s H B W (.fz d) C (Same.refl _) g (fun _ _=>rfl) (OAt.fz.mpr f) e.nd e.hb;exact⟨d,_,W,⟨Same.refl _,fun _ _=>rfl,fun _ z=>.inl z,fun _ z=>z,fun _ _ _=>.refl,fun j o z=>⟨qZv z,rfl⟩,qVc⟩,q,.d f.1,n⟩
   | ow k os=>
     rw[OAt.ow]at f;obtain⟨p,t,E,rfl,b,F,d⟩:=f;have G:∀a,E a≠0->B a+(one p a+R a)=0:=fun a z=>by have:=e.nd a;rw[g,d]at this;omega
     have l:Same (hide (hd2 B W) H) (hide (hd2 B fun a=>one p a+R a) H):=zG fun a z=>by dsimp only[hd2]at *;rw[g,d]at z;omega
     have v:DsAt K c (hide (hd2 B fun a=>one p a+R a) H) t (fzOs os):=F.dat l fun a z=>vM (G a z)
     have q:=s H B (fun a=>one p a+R a) (.ow k (os.map fun o=>.fz (fzO o))) (one p) l (fun _=>rfl) (fun _ _=>rfl)
      (OAt.ow.mpr ⟨p,t,fun _=>0,rfl,b,by rw[show(os.map fun o=>O.fz (fzO o))=(fzOs os).map .fz by rw[qJ7,cL];rfl,OsAt.fzs];exact⟨v,fun _=>rfl⟩,fun _=>rfl⟩) (fun a=>by have:=e.nd a;rw[g,d]at this;(try dsimp only);omega) e.hb
     refine⟨_,_,_,⟨l,fun _ _=>rfl,fun a z=>.inl ?_,fun _ z=>z,fun _ _ _=>.refl,fun j o z=>⟨qZv z,rfl⟩,qVc⟩,q,?_,n⟩
     ·(try dsimp only at z);rw[g,d];omega
     ·rw[fzO];exact .nd (b.nd rfl) v
inductive Oe where
 |p (s:SP)|v (s:SV)
noncomputable def Oe.isP:Oe->Bool
 |.p _=>true
 |.v _=>false
noncomputable def Hn.st:Hn->Bool
 |.d _=>true
 |.p _ π=>π.isEmpty
noncomputable def oV:Oe->SV
 |.p s=>pV s
 |.v s=>s
noncomputable def evO:Oe->Ev->Res (Hn×Ev)
 |.p s,env=>(opt (s env)).bind fun h=>.ok (h,env)
 |.v s,env=>(s env).bind fun r=>.ok (.d r.1,r.2)
noncomputable def tO(K:aQ)(c:Nat->aZ)(E:XK):Oe->TE
 |.p s=>tP K c s
 |.v s=>tV K c E s
structure OD(X:Cx)(c:Nat->aZ)(E:XK)(e:Expr)(o:Oe):Prop where
 h:PE X e (tO X.K c E o)
structure GotH(K:aQ)(c:Nat->aZ)(env:Ev)(σ:L2.St)(H:Hp)(B W:Fp)(o:Oe)(env' :Ev)(H' :Hp)(W' :Fp)(h:Hn)(u:V):Prop where
 st:Step env σ H B W env' σ H' W'
 cf:Cf K c env' σ H' B W'
 at_:HnAt K c (hide (hd2 B W') H') σ H' u h
 pu:o.isP=true->H' =H/\W' =W/\env' =env
noncomputable def jX(K:aQ)(c:Nat->aZ)(F:Hp)(σ:L2.St)(H:Hp):List V->List Hn->Prop
 |[],[]=>True
 |u::us,h::hs=>HnAt K c F σ H u h/\jX K c F σ H us hs
 |_,_=>False
section
variable{K:aQ}{c:Nat->aZ}{E:XK}{env env' env2:Ev}{σ σ' :L2.St}{H H' H2:Hp}{B W W' W2 Y Y2 Z:Fp}{o:Oe}{h:Hn}{u:V}{x:D}{Q:VK}
theorem qQ5{w:Hn×Ev->Prop}(a:Cf K c env σ H B W)(b:(evO o env).wp w (erP K c E H B W))(k:∀r,w r->∀u H' W',GotH K c env σ H B W o r.2 H' W' r.1 u->Q u H'):tO K c E o σ H Q:=by
 cases o with
 | p s=>
   obtain⟨d,e,f⟩:=qC b;exact⟨env,B,W,d,a,e,fun u h=>k _ f u H W ⟨.refl,a,h,fun _=>⟨rfl,rfl,rfl⟩⟩⟩
 |v s=>exact⟨env,B,W,a,wp_mono (fun r q u H' W' g=>k _ q u H' W' ⟨g.st,g.cf,g.at_,fun z=>by cases z⟩) (fun _ _ q=>q) (qY.mp b)⟩
theorem HnAt.step(a:HnAt K c (hide (hd2 B W) H) σ H u h)(g:Same (hide (hd2 B W) H) (hide (hd2 B W') H'))(hs:h.st=true):HnAt K c (hide (hd2 B W') H') σ H' u h:=by
 cases h with
 |d x=>exact DAt.same g a
 | p i π=>
   cases π with
   | nil=>
     have b :vI H σ i []=some u:=a;show vI H' σ i []=some u;unfold vI at b ⊢;cases e:σ[i]? with
     |none=>rw[e]at b;cases b
     | some v=>
       rw[e]at b;cases v with
       |none=>cases b
       |some v=>simpa[walk] using b
   |cons j π=>cases hs
theorem GotH.next{o2:Oe}{h2:Hn}{d:V}(a:GotH K c env σ H B W o env' H' W' h u)(b:GotH K c env' σ H' B W' o2 env2 H2 W2 h2 d)(hs:(h.st || o2.isP)=true):HnAt K c (hide (hd2 B W2) H2) σ H2 u h:=by
 cases e:h.st with
 |true=>exact a.at_.step b.st.same e
 | false=>
   rw[e]at hs;obtain⟨f,g,_⟩:=b.pu (by simpa using hs);subst f g;exact a.at_
end
section
variable{X:Cx}{c:Nat->aZ}{E:XK}{e a b:Expr}{o oa ob:Oe}
theorem od_v{s:SV}(h:EV X c E e s):OD X c E e (.v s):=⟨h.h⟩
theorem od_e{s:SE}(h:ED X c E e s):OD X c E e (.v (fzS s)):=⟨(ev_e h).h⟩
theorem OD.val(h:OD X c E e o):EV X c E e (oV o):=by
 cases o with
 |p s=>exact ev_p ⟨h.h⟩
 |v s=>exact⟨h.h⟩
theorem OD.ow(h:OD X c E e o):ED X c E e (owS (oV o)):=ed_v h.val
end
noncomputable def oC(d:D):Oe:=.p fun _=>some (.d d)
noncomputable def qKz(i:Nat):SP:=fun a=>match a[i]? with
 |some (.s _ o)=>some (hnO o i [])
 |_=>none
noncomputable def oN(i:Nat):Oe:=.p (qKz i)
section
variable{X:Cx}{c:Nat->aZ}{E:XK}{e:Expr}{pos:Pos}
theorem od_c{d:D}(h:PE X e (tC v))(k:∀F,DAt X.K c F v d):OD X c E e (oC d):=by
 refine⟨PE.imp h fun σ H Q=>?_⟩;rintro⟨a,B,W,f,g,b,q⟩;cases b;exact q v (k _)
theorem qQ{i:Int}:OD X c E (.Constant (.int i) j pos) (oC (.int i)):=od_c zY6 fun _=>.int i
theorem qX{x:Str}:OD X c E (.Constant (.str x) j pos) (oC (.str x)):=od_c zY4 fun _=>.str x
theorem zXr{x:Bool}:OD X c E (.Constant (.bool x) j pos) (oC (.bl x)):=od_c jQw fun _=>.bl x
theorem zQ4{K:aQ}{F:Hp}{o:O}{u:V}(h:OAt K c F H o u Z)(w:vI H σ i π=some u):HnAt K c F σ H u (hnO o i π):=by
 cases o with
 |fz d=>rw[OAt.fz]at h;exact h.1
 |ow k os=>exact w
theorem zWe(h:PE X e (tVar i)):OD X c E e (oN i):=by
 refine⟨PE.imp h fun σ H Q=>?_⟩;rintro⟨b,B,W,d,g,a,q⟩;simp only[qKz]at a;cases e1:b[i]? with
 |none=>grind
 | some s=>
   rw[e1]at a;cases s with
   |un=>cases a
   | s io o=>
     cases a;obtain⟨x,j,R,d,f,k,l⟩:=g.focus e1;cases x with
     |none=>exact f.elim
     |some v=>exact⟨v,d,q v (zQ4 f (by unfold vI;rw[d];simp[walk]))⟩
end
noncomputable def PrS1(K:aQ)(c:Nat->aZ)(r:V->Hp->VK->Prop)(f:D->Option D):Prop:=∀(u:V) (H:Hp) (x z:D) (Q:VK),DAt K c H u x->f x=some z->(∀v,(∀F,DAt K c F v z)->Q v H)->r u H Q
noncomputable def PrS2(K:aQ)(c:Nat->aZ)(r:R2)(f:D->D->Option D):Prop:=∀(u w:V) (H:Hp) (x y z:D) (Q:VK),DAt K c H u x->DAt K c H w y->f x y=some z->(∀v,(∀F,DAt K c F v z)->Q v H)->r u w H Q
noncomputable def sp1(f:D->Option D)(a:SP):SP:=fun b=>(a b).bind fun h=>(rsv b h).bind fun x=>(f x).bind fun z=>some (.d z)
noncomputable def sv1(f:D->Option D)(a:Oe):SV:=fun b=>(evO a b).bind fun r=>(opt (rsv r.2 r.1)).bind fun x=>(opt (f x)).bind fun z=>.ok (z,r.2)
noncomputable def o1(f:D->Option D):Oe->Oe
 |.p s=>.p (sp1 f s)
 |a=>.v (sv1 f a)
noncomputable def sp2(f:D->D->Option D)(a b:SP):SP:=fun c=>(a c).bind fun h=>(b c).bind fun e =>(rsv c h).bind fun x=>(rsv c e).bind fun y=>(f x y).bind fun z=>some (.d z)
noncomputable def sv2(f:D->D->Option D)(a b:Oe):SV:=fun d=>(evO a d).bind fun r=>(evO b r.2).bind fun c =>cond (r.1.st || b.isP) ((opt (rsv c.2 r.1)).bind fun x=>(opt (rsv c.2 c.1)).bind fun y=>(opt (f x y)).bind fun z=>.ok (z,c.2)) .no
noncomputable def o2(f:D->D->Option D)(a b:Oe):Oe:=match a,b with
 |.p s,.p t=>.p (sp2 f s t)
 |a,b=>.v (sv2 f a b)
section
variable{X:Cx}{K:aQ}{c:Nat->aZ}{E:XK}{e a b:Expr}{pos:Pos}{oa ob:Oe}
theorem bnd{x:Option α}{f:α->Option β}{b:β}(h:x.bind f=some b):∃a,x=some a/\f a=some b:=cT.mp h
theorem vV5{r:V->Hp->VK->Prop}{f:D->Option D}(j:PrS1 K c r f)(h:tO K c E (o1 f oa) σ H Q):tUn r (tO K c E oa) σ H Q:=by
 cases oa with
 | p s=>
   obtain⟨a,B,W,L,b,l,q⟩:=h;obtain⟨m,n,t⟩:=bnd l;obtain⟨x,d,y⟩:=bnd t;obtain⟨z,e,A⟩:=bnd y;cases A;exact⟨a,B,W,m,b,n,fun u C=>j u H x z Q (j7 b C d) e fun v i=>q v (i _)⟩
 | v s=>
   obtain⟨a,B,W,b,w⟩:=h;refine qQ5 (o:=.v s) b (qY.mp w) fun r F u k G g=>?_
   obtain⟨x,d,I⟩:=qC F;obtain⟨z,e,J⟩:=qC I;exact j u k x z Q (j7 g.cf g.at_ d) e fun v i=>J v k G ⟨g.st,g.cf,i _⟩
theorem zQn{r:R2}{f:D->D->Option D}(d:PrS2 K c r f)(h:tV K c E (sv2 f oa ob) σ H Q):tOp r (tO K c E oa) (tO K c E ob) σ H Q:=by
 obtain⟨e,B,W,g,w⟩:=h;refine qQ5 g (qY.mp w) fun G i u I J g1=>?_
 refine qQ5 g1.cf (wp_mono (fun _ q=>q) (fun C fs j=>j.back g1.st) (qY.mp i)) fun L k v b l a=>?_
 obtain⟨hs,m⟩:=v7 k;obtain⟨x,n,o⟩:=qC m;obtain⟨y,p,s⟩:=qC o;obtain⟨z,t,A⟩:=qC s;exact d u v b x y z Q (j7 a.cf (g1.next a hs) n) (j7 a.cf a.at_ p) t fun v F=>A v b l ⟨g1.st.trans a.st,a.cf,F _⟩
theorem vK9{r:R2}{f:D->D->Option D}(d:PrS2 K c r f)(h:tO K c E (o2 f oa ob) σ H Q):tOp r (tO K c E oa) (tO K c E ob) σ H Q:=by
 cases oa with
 |v s=>exact zQn d h
 | p s=>
   cases ob with
   |v t=>exact zQn d h
   | p t=>
     obtain⟨a,B,W,L,b,g,q⟩:=h;obtain⟨i,j,k⟩:=bnd g;obtain⟨hb,l,m⟩:=bnd k;obtain⟨x,n,o⟩:=bnd m;obtain⟨y,A,C⟩:=bnd o;obtain⟨z,F,e⟩:=bnd C;cases e;exact⟨a,B,W,i,b,j,fun u G=>⟨a,B,W,hb,b,l,fun w I=>d u w H x y z Q (j7 b G n) (j7 b I A) F fun v J=>q v (J _)⟩⟩
theorem jQ1{b:UnaryOp}{r:V->Hp->VK->Prop}{f:D->Option D}(d:UnR X (unaryOp b) r)(e:PrS1 X.K c r f)(g:OD X c E a oa):OD X c E (.UnaryOp b a pos) (o1 f oa):=
 ⟨PE.imp (jQt d g.h) fun _ _ _ h=>vV5 e h⟩
theorem qK1{r:R2}{f:D->D->Option D}(d:OpR X (binaryOp op) r)(e:PrS2 X.K c r f)(g:OD X c E a oa)(hb:OD X c E b ob):OD X c E (.BinOp a op b pos) (o2 f oa ob):=
 ⟨PE.imp (zXp d g.h hb.h) fun _ _ _ h=>vK9 e h⟩
theorem zKh{d:CmpOp}{r:R2}{f:D->D->Option D}(e:OpR X (cR d) r)(g:PrS2 X.K c r f)(i:OD X c E a oa)(hb:OD X c E b ob)(j:behindInMarks d b=false):OD X c E (.Compare a [d] [b] pos) (o2 f oa ob):=
 ⟨PE.imp (zJ5 e i.h hb.h j) fun _ _ _ h=>vK9 g h⟩
end
noncomputable abbrev ST:=Ev->Res (Bool×Ev)
noncomputable def tT(K:aQ)(c:Nat->aZ)(E:XK)(s:ST):TT:=fun σ H Q=>∃a B W,Cf K c a σ H B W/\(s a).wp (fun r=>∀b d,Step a σ H B W r.2 σ b d ->Cf K c r.2 σ b B d ->Q r.1 b) (erP K c E H B W)
structure TD(X:Cx)(c:Nat->aZ)(E:XK)(e:Expr)(s:ST):Prop where
 h:PT X e (tT X.K c E s)
structure WD(X:Cx)(c:Nat->aZ)(E:XK)(e:Expr)(s:ST):Prop where
 h:PW X e (tT X.K c E s)
theorem PT.imp{t:TT}(h:PT X e t)(k:∀σ H Q,t' σ H Q->t σ H Q):PT X e t' :=fun a s σ H Q I q=>h a s σ H Q I (k σ H Q q)
theorem PW.imp{t:TT}(h:PW X e t)(k:∀σ H Q,t' σ H Q->t σ H Q):PW X e t' :=fun b a s σ H Q I q=>h b a s σ H Q I (k σ H Q q)
noncomputable def blOf:D->Option Bool
 |.bl b=>some b
 |_=>none
theorem zXb{K:aQ}{F:Hp}{u:V}{x:D}{b:Bool}(h:DAt K c F u x)(e:blOf x=some b):u=.bl b:=by
 cases h <;> cases e
 rfl
noncomputable def asB(o:Oe):ST:=fun a=>(oV o a).bind fun r=>(opt (blOf r.1)).bind fun b=>.ok (b,r.2)
theorem zX9{K:aQ}{o:Oe}(h:tV K c E (oV o) σ H Q):tO K c E o σ H Q:=by
 cases o with
 |v s=>exact h
 | p s=>
   obtain⟨a,B,W,b,w⟩:=h;obtain⟨e,f,i⟩:=qC w;refine⟨a,B,W,e,b,f,fun u j=>?_⟩;obtain⟨x,d,k,g,q⟩:=vJt b j i;grind
theorem zXg{K:aQ}{o:Oe}{Q:Bool->Hp->Prop}(h:tT K c E (asB o) σ H Q):tO K c E o σ H fun x a=>∃k,x=.bl k/\Q k a:=by
 obtain⟨d,B,W,e,w⟩:=h;refine zX9 ⟨d,B,W,e,wp_mono (fun n f u a i g=>?_) (fun _ _ j=>j) (qY.mp w)⟩;obtain⟨b,l,m⟩:=qC f;exact⟨b,zXb g.at_ l,m a i g.st g.cf⟩
section
variable{X:Cx}{c:Nat->aZ}{E:XK}{e a b d:Expr}{rest:List Expr}{pos:Pos}{sa sb:ST}{oa ob oc:Oe}{o:Oe}
theorem qJc(h:OD X c E e o)(a:∀whole,isTrue e X.env whole=(do let v ←whole;standAt e.pos;holding [v] (truthy v)):=by intro _;rfl):TD X c E e (asB o):=
 ⟨PT.imp (zQq h.h a) fun _ _ _ h=>zXg h⟩
theorem qJd{d:CmpOp}{r:R2}{f:D->D->Option D}(e:OpR X (cR d) r)(g:PrS2 X.K c r f)(i:OD X c E a oa)(hb:OD X c E b ob)(j:behindInMarks d b=false):TD X c E (.Compare a [d] [b] pos) (asB (o2 f oa ob)):=
 ⟨PT.imp (zJo e i.h hb.h j) fun _ _ _ h=>vK9 g (zXg h)⟩
noncomputable def bAnd(s t:ST):ST:=fun a=>(s a).bind fun r=>cond r.1 (t r.2) (.ok (false,r.2))
noncomputable def bOr(s t:ST):ST:=fun a=>(s a).bind fun r=>cond r.1 (.ok (true,r.2)) (t r.2)
noncomputable def bNot(s:ST):ST:=fun a=>(s a).bind fun r=>.ok (!r.1,r.2)
theorem td_w(h:WD X c E e sa):TD X c E e sa:=⟨PW.pt h.h⟩
theorem yE(h:TD X c E a sa):WD X c E (.BoolOp .And [a] pos) sa:=⟨zJl h.h⟩
theorem qWg(h:TD X c E a sa):WD X c E (.BoolOp .Or [a] pos) sa:=⟨zYn h.h⟩
theorem vXa{K:aQ}{s:ST}{Q:Bool->Hp->Prop}(st:Step env σ H B W env' σ' H' W')(f:Cf K c env' σ' H' B W')(h:(s env').wp (fun r=>∀a b,Step env σ H B W r.2 σ' a b->Cf K c r.2 σ' a B b->Q r.1 a) (erP K c E H B W)):tT K c E s σ' H' Q:=
 ⟨env',B,W',f,wp_mono (fun r q a b d e=>q a b (st.trans d) e) (fun C fs g=>g.back st) h⟩
theorem qVi(i:TD X c E a sa)(hb:WD X c E (.BoolOp .And (b::rest) pos) sb):WD X c E (.BoolOp .And (a::b::rest) pos) (bAnd sa sb):=by
 refine⟨PW.imp (zYo i.h hb.h) fun σ H Q=>?_⟩;rintro⟨f,B,W,j,w⟩;refine⟨f,B,W,j,wp_mono (fun l g m n d e=>?_) (fun _ _ o=>o) (qY.mp w)⟩;obtain⟨k,p⟩:=l;cases k with
 |false=>exact g m n d e
 |true=>exact vXa d e g
theorem qX6(i:TD X c E a sa)(hb:WD X c E (.BoolOp .Or (b::rest) pos) sb):WD X c E (.BoolOp .Or (a::b::rest) pos) (bOr sa sb):=by
 refine⟨PW.imp (jQq i.h hb.h) fun σ H Q=>?_⟩;rintro⟨f,B,W,j,w⟩;refine⟨f,B,W,j,wp_mono (fun l g m n d e=>?_) (fun _ _ o=>o) (qY.mp w)⟩;obtain⟨k,p⟩:=l;cases k with
 |true=>exact g m n d e
 |false=>exact vXa d e g
theorem vJp(d:TD X c E a sa):TD X c E (.UnaryOp .Not a pos) (bNot sa):=by
 refine⟨PT.imp (zYp d.h) fun σ H Q=>?_⟩;rintro⟨b,B,W,e,w⟩;exact⟨b,B,W,e,wp_mono (fun i f=>f) (fun _ _ g=>g) (qY.mp w)⟩
end
section
variable{X:Cx}{c:Nat->aZ}{E:XK}{e a b d:Expr}{rest:List Expr}{pos:Pos}{sa sb:ST}{oa ob oc:Oe}{o:Oe}
theorem Got.back{K:aQ}{a:Ev}{b:Hp}{d:Fp}{o:O}{u:V}(st:Step env σ H B W env' σ H' W')(g:Got K c env' σ H' B W' a b d Z o u):Got K c env σ H B W a b d Z o u:=⟨st.trans g.st,g.cf,g.at_⟩
end
noncomputable def fidx(f:Str):List Str->Option Nat
 |[]=>none
 |g::r=>if f=g then some 0 else(fidx f r).map (· + 1)
theorem qVv{f:Str}:∀{fs:List Str} {vs:List V} {j:Nat} {v:V},fidx f fs=some j->vs[j]?=some v->(fs.zip vs).lookup f=some v
 |[],vs,j,v,h,e=>by cases h
 |g::r,[],j,v,h,e=>by simp at e
 | g::r,w::vs,j,v,h,e=>by
   rw[bI];simp only[fidx]at h;by_cases q:f=g
   ·rw [if_pos q] at h;cases h;cases e;rw[List.lookup,show(f == g)=true by rw[q];exact beq_self_eq_true _]
   ·rw [if_neg q] at h;obtain⟨i,a,rfl⟩:=bX.mp h;rw[List.lookup,show(f == g)=false from beq_eq_false_iff_ne.mpr q];exact qVv a (by simpa using e)
noncomputable def kidx{κ:Type}[DecidableEq κ](k:κ):List κ->Option Nat
 |[]=>none
 |g::r=>if g=k then some 0 else(kidx k r).map (· + 1)
theorem qZd{k:Key}:∀{ks:List Key} {vs:List V},ks.length=vs.length->valV (ks.zip vs) k=(kidx k ks).bind fun j=>vs[j]?
 |[],[],_=>rfl
 | g::r,w::vs,h=>by
   rw[bI];simp only[kidx];by_cases q:g=k
   ·rw[if_pos q,qJ0 q];rfl
   ·rw [if_neg q,qJ1 q,qZd (Nat.succ.inj h)];cases kidx k r with
    |none=>rfl
    |some i=>rfl
 |[],_::_,h=>by cases h
 |_::_,[],h=>by cases h
theorem vVj[DecidableEq κ]{k:κ}:∀{ks:List κ} {j:Nat},kidx k ks=some j->j<ks.length/\ks[j]?=some k
 |[],j,h=>by cases h
 | g::r,j,h=>by
   simp only[kidx]at h;by_cases q:g=k
   ·rw[if_pos q]at h;cases h;exact⟨Nat.succ_pos _,by rw[q];rfl⟩
   ·rw [if_neg q] at h;obtain⟨i,a,rfl⟩:=bX.mp h;obtain⟨b,c⟩:=vVj a;exact⟨Nat.succ_lt_succ b,by simpa using c⟩
theorem qK8:∀{π:List Nat} {v u w:V} {j:Nat},walk H v π=some u->walk H u [j]=some w->walk H v (π ++ [j])=some w
 | [],v,u,w,j,h,k=>by
   have:v=u:=by cases v <;> simpa[walk] using h
   rw[this];exact k
 | i::π,v,u,w,j,h,k=>by
   cases v with
   | ref p=>
     rw[List.cons_append];simp only[walk]at h⊢;cases e:H p with
     |none=>rw[e]at h;cases h
     | some o=>
       rw[e]at h;dsimp only at h⊢;cases e2:(kids o)[i]? with
       |none=>rw[e2]at h;cases h
       | some v=>
         rw[e2]at h;exact qK8 h k
   |_=>cases h
theorem vJ4{u w:V}(h:vI H σ i π=some u)(k:walk H u [j]=some w):vI H σ i (π ++ [j])=some w:=by
 unfold vI at h⊢;cases e:σ[i]? with
 |none=>rw[e]at h;cases h
 | some x=>
   rw[e]at h;cases x with
   |none=>cases h
   |some v=>exact qK8 h k
theorem zQy{K:aQ}{F:Hp}{k:Kd}{os:List O}{o:O}{p:aZ}(w:vI H σ i π=some (.ref p))(b:OwAt c H p k vs)(r:OsAt K c F H os vs Z)(e:os[j]?=some o):
  ∃v,vs[j]?=some v/\HnAt K c F σ H v (hnO o i (π ++ [j])):=by
 obtain⟨v,h,R,a,d,l,m⟩:=r.focus e;obtain⟨n,f,g⟩:=b.kids;refine⟨v,a,zQ4 d (vJ4 w ?_)⟩;rw[qWn f (by rw[g];exact a)];simp[walk]
noncomputable def fldD(cs:List Nat)(f:Str):D->Option D
 |.nd (.obj C fs) ds=>cond (cs.contains C) ((fidx f fs).bind fun j=>ds[j]?) none
 |_=>none
noncomputable def zXy(env:Ev)(cs:List Nat)(f:Str):Hn->Option Hn
 |.d x=>(fldD cs f x).map .d
 | .p i π=>match getE env i π with
   |some (.ow (.obj C fs) os)=>cond (cs.contains C) ((fidx f fs).bind fun j=>(os[j]?).bind fun o=>some (hnO o i (π ++ [j]))) none
   |_=>none
noncomputable def oFld(cs:List Nat)(f:Str):Oe->Oe
 |.p s=>.p fun a=>(s a).bind (zXy a cs f)
 |.v s=>.v fun a=>(s a).bind fun r=>(opt (fldD cs f r.1)).bind fun x=>.ok (x,r.2)
noncomputable def xN(K:aQ)(c:Nat->aZ)(cs:List Nat)(f:Str):Prop:=∀C∈cs,Cls K (c C)/\xR K (c C) f
theorem jL{b:Bool}{x:Option α}{y:α}(h:cond b x none=some y):b=true/\x=some y:=by
 cases b with
 |true=>exact⟨rfl,h⟩
 |false=>cases h
theorem qX0{cs:List Nat}(h:cs.contains C=true):C∈cs:=List.contains_iff_mem.mp h
section
variable{X:Cx}{K:aQ}{c:Nat->aZ}{E:XK}{e a b:Expr}{pos:Pos}{o oa ob:Oe}{f:Str}{cs:List Nat}
theorem vX5{F:Hp}{u:V}{x y:D}(ok:xN K c cs f)(h:DAt K c F u x)(e:fldD cs f x=some y):∃a C b fs v,u=.ref a/\F a=some (.ins C b fs)/\Cls K C/\xR K C f/\fs.lookup f=some v/\DAt K c F v y:=by
 unfold fldD at e;split at e
 ·rename_i C fs ds;obtain⟨d,g⟩:=jL e;obtain⟨j,i,k⟩:=bnd g;obtain⟨p,r,rfl,⟨s,b,l⟩,m⟩:=h.un;obtain⟨v,g1,n⟩:=m.get k;obtain⟨o,q⟩:=ok C (qX0 d);exact⟨p,_,b,_,v,rfl,l,o,q,qVv i g1,n⟩
 ·cases e
theorem jO(ok:xN X.K c cs f)(h:OD X c E e o)(hb:attributeBase e f X.env (eval e X.env)=eval e X.env:=by rfl):OD X c E (.Attribute e f pos) (oFld cs f o):=by
 refine⟨PE.imp (zY7 h.h hb) fun σ H Q q=>?_⟩;cases o with
 | p s=>
   obtain⟨env,B,W,h1,z,O,q⟩:=q;obtain⟨M,P,l⟩:=bnd O;refine⟨env,B,W,M,z,P,fun u N=>?_⟩;cases M with
   | d x=>
     obtain⟨y,m,rfl⟩:=bX.mp l;obtain⟨a,C,n,fs,v,rfl,F,G,I,J,L⟩:=vX5 ok N m;exact⟨a,C,n,fs,v,rfl,vY _ _ F,G,I,J,q v L⟩
   | p i π=>
     have t :vI H σ i π=some u:=N;simp only[zXy]at l;cases m:getE env i π with
     |none=>rw[m]at l;cases l
     | some o1=>
       rw[m]at l;cases o1 with
       |fz d=>cases l
       | ow k os=>
         cases k with
         | obj C fs=>
           obtain⟨S,T⟩:=jL l;obtain⟨j,U,V⟩:=bnd T;obtain⟨o2,Y,Z⟩:=bnd V;cases Z;obtain⟨v1,Z1,R,A,D,w3,w4⟩:=z.place m;rw[t]at A;cases A;rw[OAt.ow]at D;obtain⟨p,vs,Z',rfl,b,cc,d⟩:=D;obtain⟨v,g1,g2⟩:=zQy t b cc Y;obtain⟨b1,n,b2⟩:=b;obtain⟨k1,k2⟩:=ok C (qX0 S);exact⟨p,_,n,_,v,rfl,b2,k1,k2,qVv U g1,q v g2⟩
         |_=>cases l
 | v s=>
   obtain⟨env,B,W,z,w⟩:=q;refine⟨env,B,W,z,wp_mono (fun r A u H1 W1 g=>?_) (fun _ _ he=>he) (qY.mp w)⟩;obtain⟨y,m,D⟩:=qC A;obtain⟨a,C,n,fs,v,rfl,F,G,I,J,L⟩:=vX5 ok g.at_ m;exact⟨a,C,n,fs,v,rfl,vY _ _ F,G,I,J,D v H1 W1 ⟨g.st,g.cf,L⟩⟩
end
noncomputable def qXc:D->Option Key
 |.int i=>some (.inl i)
 |.str x=>some (.inr x)
 |_=>none
theorem qJ5{K:aQ}{F:Hp}{u:V}{x:D}{k:Key}(h:DAt K c F u x)(e:qXc x=some k):u=kV k:=by
 cases h <;> cases e <;> rfl
noncomputable def yV:D->Option Int
 |.int i=>some i
 |_=>none
theorem jJ{K:aQ}{F:Hp}{u:V}{x:D}{i:Int}(h:DAt K c F u x)(e:yV x=some i):u=.int i:=by
 cases h <;> cases e <;> rfl
noncomputable def zQa:D->Option Str
 |.str i=>some i
 |_=>none
theorem qYn{K:aQ}{F:Hp}{u:V}{x:D}{i:Str}(h:DAt K c F u x)(e:zQa x=some i):u=.str i:=by
 cases h <;> cases e <;> rfl
noncomputable def idxK(n:Nat)(y:D):Kd->Option Nat
 |.lst =>(yV y).bind fun i=>ixN n i
 |.tup =>(yV y).bind fun i=>ixN n i
 |.dct ks=>(qXc y).bind fun k=>kidx k ks
 |_=>none
noncomputable def ixD(x y:D):Option D:=match x with
 |.nd k ds=>(idxK ds.length y k).bind fun j=>ds[j]?
 |.str z=>(yV y).bind fun i=>(atI z.cps.toList i).bind fun a=>cond (decide (z.length<=aI)) (some (.str ⟨#[a]⟩)) none
 |_=>none
noncomputable def hnIx(env:Ev)(y:D):Hn->Option Hn
 |.d x=>(ixD x y).map .d
 | .p i π=>match getE env i π with
   |some (.ow k os)=>(idxK os.length y k).bind fun j=>(os[j]?).bind fun o=>some (hnO o i (π ++ [j]))
   |_=>none
noncomputable def oIx(a b:Oe):Oe:=match a,b with
 |.p s,.p t=>.p fun c=>(s c).bind fun h=>(t c).bind fun e =>(rsv c e).bind fun y=>hnIx c y h
 |a,b=>.v fun c=>(evO a c).bind fun r=>(evO b r.2).bind fun d =>cond r.1.st ((opt (rsv d.2 d.1)).bind fun y=>(opt (hnIx d.2 y r.1)).bind fun h=>hnV d.2 h) .no
noncomputable def rDGet:R2:=fun x y H Q=>∃a v,x=.ref a/\DGet H a y (some v)/\Q v H
theorem zWj(f:X.A.units+1<eX):IxR X rDGet:=by
 intro b c e s σ H x y v u Q I rx ry h hs;obtain⟨a,z,rfl,g,q⟩:=h;cases rx;exact tail_any (vJk I g) PySem.F.slot_dict_getitem.lookup (vKu f I g ry fun j k i d =>⟨z,H,i,d,q⟩) hs
noncomputable def rIxA(K:aQ):R2:=fun x y H Q=>rIx K x y H Q\/rDGet x y H Q
theorem zKu(a:X.A.units+1<eX):IxR X (rIxA X.K):=zKr.or (zWj a)
section
variable{X:Cx}{K:aQ}{c:Nat->aZ}{E:XK}{e a b:Expr}{pos:Pos}{o oa ob:Oe}
theorem zVc{xs:List α}{i:Int}{v:α}(h:ixN xs.length i=some j)(e:xs[j]?=some v):atI xs i=some v:=by
 unfold atI;rw[h];exact e
theorem vJw{a:aZ}{b:List (Key×V)}{k:Key}(e:Rd H a (.dK b)):DGet H a (kV k) (valV b k):=.inl ⟨b,k,e,rfl,rfl⟩
theorem zXv{p:aZ}{w:V}{k:Kd}{y:D}(h:NdAt K c H p k vs)(g:vs.length=n)(d:DAt K c H w y)(e:idxK n y k=some j)(f:vs[j]?=some v)(q:Q v H):rIxA K (.ref p) w H Q:=by
 subst g;cases k with
 | lst=>
   obtain⟨i,a,b⟩:=bnd e;exact .inl (.inl ⟨p,vs,i,v,rfl,jJ d a,h,zVc b f,q⟩)
 | tup=>
   obtain⟨i,a,b⟩:=bnd e;exact .inl (.inr (.inl ⟨p,vs,i,v,rfl,jJ d a,h,zVc b f,q⟩))
 | dct ks=>
   obtain⟨k,a,b⟩:=bnd e;refine .inr ⟨p,v,rfl,?_,q⟩;rw[qJ5 d a];have:=vJw (k:=k) h.2.2;rw[qZd h.1,b]at this;rw[←f];exact this
 |_=>cases e
theorem zKw{F:Hp}{u w:V}{x y z:D}(s:Same F H)(h:DAt K c F u x)(d:DAt K c H w y)(e:ixD x y=some z)(q:∀v,DAt K c F v z->Q v H):rIxA K u w H Q:=by
 unfold ixD at e;split at e
 ·obtain⟨j,a,b⟩:=bnd e;obtain⟨p,A,rfl,g,f⟩:=h.un;obtain⟨v,g1,k⟩:=f.get b;exact zXv (g.same s) f.len d a g1 (q v k)
 ·rename_i l;obtain⟨i,a,b⟩:=bnd e;obtain⟨m,n,o⟩:=bnd b;obtain⟨r,t⟩:=jL o;cases t;exact .inl (.inr (.inr ⟨l,i,m,qYn h rfl,jJ d a,of_decide_eq_true r,n,q _ (.str _)⟩))
 ·cases e
theorem vXz{h h' :Hn}{u w:V}{y:D}(o:Cf K c env σ H B W)(f:HnAt K c (hide (hd2 B W) H) σ H u h)(g:DAt K c H w y)(e:hnIx env y h=some h')(q:∀v,HnAt K c (hide (hd2 B W) H) σ H v h' ->Q v H):rIxA K u w H Q:=by
 cases h with
 | d x=>
   obtain⟨z,r,rfl⟩:=bX.mp e;exact zKw vY f g r q
 | p i π=>
   have a :vI H σ i π=some u:=f;simp only[hnIx]at e;cases e3:getE env i π with
   |none=>rw[e3]at e;cases e
   | some o1=>
     rw[e3]at e;cases o1 with
     |fz d=>cases e
     | ow k os=>
       obtain⟨j,s,t⟩:=bnd e;obtain⟨o2,A,C⟩:=bnd t;cases C;obtain⟨F,G,R,l,m,I,J⟩:=o.place e3;rw[a]at l;cases l;rw[OAt.ow]at m;obtain⟨p,L,M,rfl,b,n,d⟩:=m;obtain⟨v,g1,E⟩:=zQy a b n A;exact zXv (b.nd rfl) n.length g s g1 (q v E)
theorem vXb(h:tV K c E (fun env=>(evO oa env).bind fun r=>(evO ob r.2).bind fun r' =>cond r.1.st ((opt (rsv r'.2 r'.1)).bind fun y=>(opt (hnIx r'.2 y r.1)).bind fun h=>hnV r'.2 h) .no) σ H Q):tOp (rIxA K) (tO K c E oa) (tO K c E ob) σ H Q:=by
 obtain⟨env,B,W,d,w⟩:=h;refine qQ5 d (qY.mp w) fun t e u A D g1=>?_
 refine qQ5 g1.cf (wp_mono (fun _ q=>q) (fun C fs f=>f.back g1.st) (qY.mp e)) fun F i v j G a=>?_
 obtain⟨hs,k⟩:=v7 i;obtain⟨y,l,m⟩:=qC k;obtain⟨I,n,o⟩:=qC m;refine vXz a.cf (g1.next a (by rw[hs];rfl)) (j7 a.cf a.at_ l) n fun z p=>?_
 obtain⟨x,b,s,g,q⟩:=vJt a.cf p o;exact q z j s ⟨(g1.st.trans a.st).trans g.st,g.cf,g.at_⟩
theorem jQ2(f:X.A.units+1<eX)(g:OD X c E a oa)(hb:OD X c E b ob)(hs:qX4 b:=by exact fun _ _=>rfl):OD X c E (.Subscript a b pos) (oIx oa ob):=by
 refine⟨PE.imp (jQu (zKu f) g.h hb.h hs) fun σ H Q h=>?_⟩;cases oa with
 |v s=>exact vXb h
 | p s=>
   cases ob with
   |v t=>exact vXb h
   | p t=>
     obtain⟨d,B,W,C,e,i,q⟩:=h;obtain⟨j,k,l⟩:=bnd i;obtain⟨m,n,o⟩:=bnd l;obtain⟨y,r,x⟩:=bnd o;exact⟨d,B,W,j,e,k,fun u f=>⟨d,B,W,m,e,n,fun w z=>vXz e f (j7 e z r) x q⟩⟩
end
noncomputable def evOs:List Oe->Ev->Res (List Hn×Ev)
 |[],env=>.ok ([],env)
 |o::os,env=>(evO o env).bind fun r=>cond (r.1.st || os.all Oe.isP) ((evOs os r.2).bind fun a =>.ok (r.1::a.1,a.2)) .no
noncomputable def tOs(K:aQ)(c:Nat->aZ)(E:XK):List Oe->TA
 |[]=>tNil
 |o::os=>qKv (tO K c E o) (tOs K c E os)
structure OsD(X:Cx)(c:Nat->aZ)(E:XK)(es:List Expr)(os:List Oe):Prop where
 h:PA X es (tOs X.K c E os)
theorem qE:OsD X c E [] []:=⟨qZa⟩
theorem vK{es:List Expr}{o:Oe}{os:List Oe}(a:OD X c E e o)(b:OsD X c E es os)(hs:aX (e::es) X.env=(false,eval e X.env)::aX es X.env:=by rfl):OsD X c E (e::es) (o::os):=⟨xP a.h b.h hs⟩
structure GotHs(K:aQ)(c:Nat->aZ)(env:Ev)(σ:L2.St)(H:Hp)(B W:Fp)(os:List Oe)(env' :Ev)(H' :Hp)(W' :Fp)(hs:List Hn)(us:List V):Prop where
 st:Step env σ H B W env' σ H' W'
 cf:Cf K c env' σ H' B W'
 at_:jX K c (hide (hd2 B W') H') σ H' us hs
 pu:os.all Oe.isP=true->H' =H/\W' =W/\env' =env
section
variable{K:aQ}{c:Nat->aZ}{E:XK}
theorem qVj:∀{os:List Oe} {env:Ev} {σ:L2.St} {H:Hp} {B W:Fp} {Q:List V->Hp->Prop} {w:List Hn×Ev->Prop},Cf K c env σ H B W->(evOs os env).wp w (erP K c E H B W)->(∀r,w r->∀us H' W',GotHs K c env σ H B W os r.2 H' W' r.1 us->Q us H')->tOs K c E os σ H Q
 |[],env,σ,H,B,W,Q,w,cf,hw,k=>k _ hw [] H W ⟨.refl,cf,trivial,fun _=>⟨rfl,rfl,rfl⟩⟩
 | o::os,env,σ,H,B,W,Q,w,cf,hw,k=>by
   refine qQ5 cf (qY.mp hw) fun r b u m n g1=>?_
   obtain⟨hs,d⟩:=v7 b;refine qVj g1.cf (wp_mono (fun _ q=>q) (fun C fs f=>f.back g1.st) (qY.mp d)) fun p g us h i a=>?_
   refine k _ g (u::us) h i ⟨g1.st.trans a.st,a.cf,⟨?_,a.at_⟩,fun z=>?_⟩
   ·cases e:r.1.st with
    |true=>exact g1.at_.step a.st.same e
    | false=>
      rw[e]at hs;obtain⟨j,l,_⟩:=a.pu (by simpa using hs);rw[j,l];exact g1.at_
   ·rw [dM,aP] at z;obtain⟨s,t,v⟩:=g1.pu z.1;obtain⟨x,y,A⟩:=a.pu z.2;grind
noncomputable def rsvs(env:Ev):List Hn->Option (List D)
 |[]=>some []
 |h::hs=>(rsv env h).bind fun x=>(rsvs env hs).bind fun a=>some (x::a)
theorem vXg(b:Cf K c env σ H B W):∀{hs:List Hn} {us:List V} {xs:List D},jX K c (hide (hd2 B W) H) σ H us hs->rsvs env hs=some xs->DsAt K c H us xs
 |[],[],xs,_,e=>by cases e;exact .nil
 | h::hs,u::us,xs,a,e=>by
   obtain⟨x,d,f⟩:=bnd e;obtain⟨j,g,i⟩:=bnd f;cases i;exact .cons (j7 b a.1 d) (vXg b a.2 g)
 |[],_::_,_,a,_=>a.elim
 |_::_,[],_,a,_=>a.elim
noncomputable def qQ7:List Hn->Ev->Res (List D×Ev)
 |[],env=>.ok ([],env)
 |h::hs,env=>(rsvB env h).bind fun r=>(qQ7 hs r.2).bind fun a =>.ok (r.1::a.1,a.2)
noncomputable def Vws(K:aQ)(c:Nat->aZ)(F H:Hp):List V->List D->Prop
 |[],[]=>True
 |u::us,x::xs=>Vw K c F H u x/\Vws K c F H us xs
 |_,_=>False
theorem HnAt.mono{F:Hp}{u:V}{h:Hn}(a:HnAt K c F σ H u h)(s:Same F F'):HnAt K c F' σ H u h:=by
 cases h with
 |d x=>exact DAt.same s a
 |p i π=>exact a
theorem jX.mono{F:Hp}(s:Same F F'):∀{us:List V} {hs:List Hn},jX K c F σ H us hs->jX K c F' σ H us hs
 |[],[],_=>trivial
 |u::us,h::hs,a=>⟨a.1.mono s,jX.mono s a.2⟩
 |[],_::_,a=>a.elim
 |_::_,[],a=>a.elim
theorem rsvBs_wp{j:Nat->List (Str×D)->Prop}:∀{hs:List Hn} {us:List V} {env:Ev} {σ:L2.St} {H:Hp} {B W:Fp} {Q:List D×Ev->Prop},Cf K c env σ H B W->jX K c (hide (hd2 B W) H) σ H us hs->(qQ7 hs env).wp Q j->
  ∃xs env' W',Step env σ H B W env' σ H W' /\Cf K c env' σ H B W' /\Vws K c (hide (hd2 B W') H) H us xs/\Q (xs,env')
 |[],[],env,σ,H,B,W,Q,cf,_,w=>⟨[],env,W,.refl,cf,trivial,w⟩
 | h::hs,u::us,env,σ,H,B,W,Q,cf,a,w=>by
   obtain⟨x,i,p,b,f,k,l⟩:=vXh cf a.1 (qY.mp w);obtain⟨xs,d,m,e,g,n,o⟩:=rsvBs_wp f (jX.mono b.same a.2) (qY.mp l);exact⟨x::xs,d,m,b.trans e,g,⟨k.same e.same,n⟩,o⟩
 |[],_::_,_,_,_,_,_,_,_,a,_=>a.elim
 |_::_,[],_,_,_,_,_,_,_,a,_=>a.elim
end
noncomputable def PrSN(K:aQ)(c:Nat->aZ)(r:List V->Hp->VK->Prop)(f:List D->Option D):Prop:=∀(us:List V) (H:Hp) (xs:List D) (z:D) (Q:VK),DsAt K c H us xs->f xs=some z->(∀v,(∀F,DAt K c F v z)->Q v H)->r us H Q
noncomputable def svN(f:List D->Option D)(os:List Oe):SV:=fun a=>(evOs os a).bind fun r=>(opt (rsvs r.2 r.1)).bind fun b=>(opt (f b)).bind fun z=>.ok (z,r.2)
noncomputable def oL(f:List D->Option D)(os:List Oe):Oe:=match os with
 |[.p s]=>.p fun a=>(s a).bind fun h=>(rsv a h).bind fun x=>(f [x]).bind fun z=>some (.d z)
 |os=>.v (svN f os)
section
variable{X:Cx}{K:aQ}{c:Nat->aZ}{E:XK}{e:Expr}{es:List Expr}{pos p:Pos}{x:Str}{id T:String}{r:List V->Hp->VK->Prop}{os:List Oe}
theorem zYa{f:List D->Option D}(b:PrSN K c r f)(h:tV K c E (svN f os) σ H Q):tCB r (tOs K c E os) σ H Q:=by
 obtain⟨d,B,W,e,w⟩:=h;refine qVj e (qY.mp w) fun s i j a k g=>?_
 obtain⟨l,m,n⟩:=qC i;obtain⟨z,o,p⟩:=qC n;exact b j a l z Q (vXg g.cf g.at_ m) o fun v q=>p v a k ⟨g.st,g.cf,q _⟩
theorem zXe{f:List D->Option D}(b:PrSN K c r f)(h:tO K c E (oL f os) σ H Q):tCB r (tOs K c E os) σ H Q:=by
 unfold oL at h;split at h
 ·obtain⟨a,B,W,s,d,e,q⟩:=h;obtain⟨g,i,j⟩:=bnd e;obtain⟨x,k,l⟩:=bnd j;obtain⟨z,m,n⟩:=bnd l;cases n;exact⟨a,B,W,g,d,i,fun u o=>b [u] H [x] z Q (.cons (j7 d o k) .nil) m fun v p=>q v (p _)⟩
 ·exact zYa b h
theorem vZv{f:List D->Option D}(d:jS X (.builtin id) r)(g:PrSN X.K c r f)(i:Gl X x)(j:X.mg x=none)(k:cH x=some (.builtin id))(l:OsD X c E (e::es) os)(m:x≠"__name__":=by decide)(a:(x == ("__debug__":Str))=false:=by decide)(n:aX (e::es) X.env=(false,eval e X.env)::aX es X.env:=by rfl)(b:(cV pos (aX es X.env)).any (·.1)=false:=by rfl):OD X c E (.Call (.Name x p) (e::es) [] pos) (oL f os):=
 ⟨PE.imp (qJ3 d i j k l.h m a n b) fun _ _ _ h=>zXe g h⟩
theorem vY6{f:List D->Option D}(d:jS X (.type T) r)(g:PrSN X.K c r f)(i:Gl X x)(j:X.mg x=none)(k:cH x=some (.type T))(l:OsD X c E (e::es) os)(m:x≠"__name__":=by decide)(a:(x == ("__debug__":Str))=false:=by decide)(n:aX (e::es) X.env=(false,eval e X.env)::aX es X.env:=by rfl)(b:(cV pos (aX es X.env)).any (·.1)=false:=by rfl):OD X c E (.Call (.Name x p) (e::es) [] pos) (oL f os):=
 ⟨PE.imp (qWt d i j k l.h m a n b) fun _ _ _ h=>zXe g h⟩
end
section
variable{K:aQ}{c:Nat->aZ}{E:XK}{env env' :Ev}{σ:L2.St}{H H' :Hp}{B W W' :Fp}{p:aZ}{o:O}{k:Kd}
theorem Got.lay(b:Cf K c env σ H B W)(e:H p=none)(d:Same H H'){ds:List D}(f:OwAt c H' p k vs)(hd:DsAt K c (hide (hd2 (hd2 B W) (one p)) H') vs ds):Got K c env σ H B W env H' W (one p) (.ow k (ds.map .fz)) (.ref p):=by
 obtain⟨i,s⟩:=b.fresh e;have st:∀a,B a+W a≠0->H' a=H a:=fun a z=>by obtain⟨o,q,_⟩:=b.hbs z;rw[q,d a o q]
 have j:∀a o,H a=some o->a≠p:=fun a o q z=>by rw[z,e]at q;cases q
 have g:Same (hide (hd2 B W) H) (hide (hd2 (hd2 B (one p)) W) H'):=zK fun a o z q=>⟨by have:=xO (j a o q);dsimp only[hd2]at *;omega,d a o q⟩
 have l:hide (hd2 B (hd2 W (one p))) H' =hide (hd2 (hd2 B (one p)) W) H' :=zI fun a=>by dsimp only[hd2];omega
 have m:hide (hd2 (hd2 B W) (one p)) H' =hide (hd2 (hd2 B (one p)) W) H' :=zI fun a=>by dsimp only[hd2];omega
 refine⟨⟨by rw[l];exact g,fun a z=>st a (by omega),fun a z=>?_,fun a z=>?_,fun a i _=>.of (st a (by omega)),fun _ o h=>⟨⟨o,h⟩,rfl⟩,rfl⟩,⟨b.at_.keep g fun a z=>st a (by omega),fun a=>?_,fun a z=>?_⟩,OAt.ow.mpr ⟨p,vs,fun _=>0,rfl,f,OsAt.fzs.mpr ⟨by rw[←m];exact hd,fun _=>rfl⟩,fun _=>rfl⟩⟩
 ·by_cases q:a=p
  ·exact .inr (by rw[q];exact e)
  ·exact .inl (by have:=xO q;dsimp only[hd2]at z;omega)
 ·cases q:H a with
  |none=>rfl
  |some o=>rw[d a o q]at z;cases z
 ·have:=b.nd a;by_cases q:a=p
  ·subst q;rw[show hd2 B (one a) a=B a+one a a from rfl,wF];omega
  ·rw[show hd2 B (one p) a=B a+one p a from rfl,xO q];omega
 ·by_cases q:a=p
  ·subst q;exact f.hb
  ·rw [show hd2 B (one p) a=B a + one p a from rfl,xO q] at z;obtain⟨o,n,r⟩:=b.hb a (by omega);exact⟨o,d a o n,r⟩
theorem qYy(f:Cf K c env σ H B W)(b:H p=none)(d:Same H H'):Same (hide (hd2 B W) H) (hide (hd2 (hd2 B W) (one p)) H'):=zK fun a o z q=>⟨by
 have e:a≠p:=fun z=>by rw[z,b]at q;cases q
 have:=xO e;dsimp only[hd2]at *;omega,d a o q⟩
end
noncomputable def PrF(K:aQ)(c:Nat->aZ)(r:List V->Hp->VK->Prop)(f:List D->Option (List D)):Prop:=∀(us:List V) (H:Hp) (T:Fp) (xs ds:List D) (Q:VK),(∀a,T a≠0->∃o,H a=some o/\Hb o)->Vws K c (hide T H) H us xs->f xs=some ds->
 (∀p d b,H p=none->Same H b ->b p=some (.lst d)->DsAt K c (hide (hd2 T (one p)) b) d ds->Q (.ref p) b)->r us H Q
noncomputable def PrA(K:aQ)(c:Nat->aZ)(r:List V->Hp->VK->Prop)(f:List D->Option D):Prop:=∀(us:List V) (H:Hp) (T:Fp) (xs:List D) (z:D) (Q:VK),(∀a,T a≠0->∃o,H a=some o/\Hb o)->Vws K c (hide T H) H us xs->f xs=some z->
 (∀v b,Same H b ->DAt K c (hide T b) v z->Q v b)->r us H Q
noncomputable def eF(f:List D->Option (List D))(os:List Oe):SE:=fun a=>(evOs os a).bind fun r=>(qQ7 r.1 r.2).bind fun q=>(opt (f q.1)).bind fun ds=>.ok (.ow .lst (ds.map .fz),q.2)
noncomputable def svA(f:List D->Option D)(os:List Oe):SV:=fun a=>(evOs os a).bind fun r=>(qQ7 r.1 r.2).bind fun q=>(opt (f q.1)).bind fun z=>.ok (z,q.2)
section
variable{X:Cx}{K:aQ}{c:Nat->aZ}{E:XK}{e:Expr}{es:List Expr}{pos p:Pos}{x:Str}{id T:String}{r:List V->Hp->VK->Prop}{os:List Oe}
theorem jQj{f:List D->Option (List D)}(j:PrF K c r f)(h:tE K c E (eF f os) σ H Q):tCB r (tOs K c E os) σ H Q:=by
 obtain⟨l,B,W,m,w⟩:=h;refine qVj m (qY.mp w) fun I n o q J g=>?_
 obtain⟨s,e,i,d,b,t,u⟩:=rsvBs_wp g.cf g.at_ (qY.mp n);obtain⟨ds,v,x⟩:=qC u;refine j o q (hd2 B i) s ds Q (fun a z=>b.hbs z) t v fun p L y A C F G=>?_
 exact x _ y i _ ((Got.lay b A C (k:=.lst) F G).back (g.st.trans d))
theorem jQl{f:List D->Option D}(k:PrA K c r f)(h:tV K c E (svA f os) σ H Q):tCB r (tOs K c E os) σ H Q:=by
 obtain⟨l,B,W,m,w⟩:=h;refine qVj m (qY.mp w) fun C n o p F g=>?_
 obtain⟨q,e,i,d,b,s,t⟩:=rsvBs_wp g.cf g.at_ (qY.mp n);obtain⟨z,u,x⟩:=qC t;refine k o p (hd2 B i) q z Q (fun a z=>b.hbs z) s u fun v y j A=>?_
 exact x v y i ⟨(g.st.trans d).trans (.grow b j),b.grow j,A⟩
theorem vKr{f:List D->Option (List D)}(d:jS X (.type T) r)(g:PrF X.K c r f)(i:Gl X x)(j:X.mg x=none)(k:cH x=some (.type T))(l:OsD X c E (e::es) os)(m:x≠"__name__":=by decide)(a:(x == ("__debug__":Str))=false:=by decide)(n:aX (e::es) X.env=(false,eval e X.env)::aX es X.env:=by rfl)(b:(cV pos (aX es X.env)).any (·.1)=false:=by rfl):ED X c E (.Call (.Name x p) (e::es) [] pos) (eF f os):=
 ⟨PE.imp (qWt d i j k l.h m a n b) fun _ _ _ h=>jQj g h⟩
theorem vKq{f:List D->Option D}(d:jS X (.type T) r)(g:PrA X.K c r f)(i:Gl X x)(j:X.mg x=none)(k:cH x=some (.type T))(l:OsD X c E (e::es) os)(m:x≠"__name__":=by decide)(a:(x == ("__debug__":Str))=false:=by decide)(n:aX (e::es) X.env=(false,eval e X.env)::aX es X.env:=by rfl)(b:(cV pos (aX es X.env)).any (·.1)=false:=by rfl):EV X c E (.Call (.Name x p) (e::es) [] pos) (svA f os):=
 ⟨PE.imp (qWt d i j k l.h m a n b) fun _ _ _ h=>jQl g h⟩
end
noncomputable def evVs:List SV->Ev->Res (List D×Ev)
 |[],env=>.ok ([],env)
 |s::ss,env=>(s env).bind fun r=>(evVs ss r.2).bind fun a =>.ok (r.1::a.1,a.2)
noncomputable def tVs(K:aQ)(c:Nat->aZ)(E:XK):List SV->TA
 |[]=>tNil
 |s::ss=>qKv (tV K c E s) (tVs K c E ss)
structure VsD(X:Cx)(c:Nat->aZ)(E:XK)(es:List Expr)(ss:List SV):Prop where
 h:PA X es (tVs X.K c E ss)
theorem qK:VsD X c E [] []:=⟨qZa⟩
theorem vB{es:List Expr}{s:SV}(a:EV X c E e s)(b:VsD X c E es ss)(hs:aX (e::es) X.env=(false,eval e X.env)::aX es X.env:=by rfl):VsD X c E (e::es) (s::ss):=⟨xP a.h b.h hs⟩
structure GotDs(K:aQ)(c:Nat->aZ)(env:Ev)(σ:L2.St)(H:Hp)(B W:Fp)(env' :Ev)(H' :Hp)(W' :Fp)(xs:List D)(us:List V):Prop where
 st:Step env σ H B W env' σ H' W'
 cf:Cf K c env' σ H' B W'
 at_:DsAt K c (hide (hd2 B W') H') us xs
theorem qJe{K:aQ}:∀{ss:List SV} {env:Ev} {σ:L2.St} {H:Hp} {B W:Fp} {Q:List V->Hp->Prop} {w:List D×Ev->Prop},Cf K c env σ H B W->(evVs ss env).wp w (erP K c E H B W)->(∀r,w r->∀us H' W',GotDs K c env σ H B W r.2 H' W' r.1 us->Q us H')->tVs K c E ss σ H Q
 |[],env,σ,H,B,W,Q,w,cf,hw,k=>k _ hw [] H W ⟨.refl,cf,.nil⟩
 | s::ss,env,σ,H,B,W,Q,w,cf,hw,k=>by
   refine⟨env,B,W,cf,wp_mono (fun r d u h i g1=>?_) (fun _ _ b=>b) (qY.mp hw)⟩;refine qJe g1.cf (wp_mono (fun _ q=>q) (fun C fs b=>b.back g1.st) (qY.mp d)) fun j e us f g a=>?_
   exact k _ e (u::us) f g ⟨g1.st.trans a.st,a.cf,.cons (g1.at_.same a.st.same) a.at_⟩
noncomputable def svTup(b:List SV):SV:=fun a=>(evVs b a).bind fun r=>cond (decide (r.1.length<=1000)) (.ok (.tup r.1,r.2)) .no
noncomputable def eLst(b:List SV):SE:=fun a=>(evVs b a).bind fun r=>cond (decide (r.1.length<=1000)) (.ok (.ow .lst (r.1.map .fz),r.2)) .no
theorem zQw(h:n<=1000):n<=aI:=Nat.le_of_lt (vYr h)
section
variable{X:Cx}{c:Nat->aZ}{E:XK}{es:List Expr}{pos:Pos}{ss:List SV}
theorem qG{x1}(h:VsD X c E es ss):EV X c E (.Tuple es x1 pos) (svTup ss):=by
 refine⟨PE.imp (zY3 h.h) fun σ H Q=>?_⟩;rintro⟨f,B,W,i,w⟩;refine qJe i (qY.mp w) fun r j l d m g=>?_
 obtain⟨n,s⟩:=v7 j;refine⟨zQw (by rw[g.at_.len];exact of_decide_eq_true n),fun p e=>?_⟩;have b:Same d (upd d p (.tup l)):=.upd e;obtain⟨t,u⟩:=g.cf.fresh e;refine s (.ref p) _ m ⟨g.st.trans (.grow g.cf b),g.cf.grow b,.of (k:=.tup) (SqT.of ?_) (g.at_.same (zK fun a o z q=>⟨z,b a o q⟩))⟩;rw[vM (by dsimp only[hd2];omega),upd_same]
theorem jV(h:VsD X c E es ss):ED X c E (.List es pos) (eLst ss):=by
 refine⟨PE.imp (zY5 h.h) fun σ H Q=>?_⟩;rintro⟨e,B,W,f,w⟩;refine qJe f (qY.mp w) fun r i j b l g=>?_
 obtain⟨m,n⟩:=v7 i;refine⟨zQw (by rw[g.at_.len];exact of_decide_eq_true m),fun p a=>?_⟩;have d:Same b (upd b p (.lst j)):=.upd a;exact n (.ref p) _ l _ ((Got.lay g.cf a d (k:=.lst) upd_same (g.at_.same (qYy g.cf a d))).back g.st)
noncomputable def eDct0:SE:=fun a=>.ok (.ow (.dct []) [],a)
theorem qJx:ED X c E (.Dict [] [] pos) eDct0:=by
 refine⟨PE.imp zV1 fun σ H Q=>?_⟩;rintro⟨b,B,W,d,w⟩;intro p a;have e:Same H (upd H p (.dK [])):=.upd a;exact w (.ref p) _ W _ (Got.lay d a e (k:=.dct []) (vs:=[]) (ds:=[]) ⟨rfl,List.nodup_nil,upd_same⟩ .nil)
end
inductive Out where
 |nx (env:Ev)|rt (o:O) (env:Ev)|bk (env:Ev)|ct (env:Ev)
noncomputable abbrev SS:=Ev->Res Out
structure GotR(K:aQ)(c:Nat->aZ)(env:Ev)(σ:L2.St)(H:Hp)(B W:Fp)(env' :Ev)(σ' :L2.St)(H' :Hp)(W' Z:Fp)(o:O)(u:V):Prop where
 st:Step env σ H B W env' σ' H' (hd2 W' Z)
 cf:Cf K c env' σ' H' (hd2 B Z) W'
 at_:OAt K c (hide (hd2 (hd2 B Z) W') H') H' o u Z
noncomputable def OutP(K:aQ)(c:Nat->aZ)(env:Ev)(σ:L2.St)(H:Hp)(B W:Fp)(D:Ends):Out->Prop
 |.nx e=>∀σ' H' W',Step env σ H B W e σ' H' W' ->Cf K c e σ' H' B W' ->D.nx σ' H'
 |.bk e=>∀σ' H' W',Step env σ H B W e σ' H' W' ->Cf K c e σ' H' B W' ->D.bk σ' H'
 |.ct e=>∀σ' H' W',Step env σ H B W e σ' H' W' ->Cf K c e σ' H' B W' ->D.ct σ' H'
 |.rt o e=>∀v σ' H' W' Z,GotR K c env σ H B W e σ' H' W' Z o v->D.rt v H'
noncomputable def tS(K:aQ)(c:Nat->aZ)(E:XK)(s:SS):TS:=fun D σ H=>∃a B W,Cf K c a σ H B W/\(s a).wp (OutP K c a σ H B W D) (erP K c E H B W)
structure SD(X:Cx)(c:Nat->aZ)(E:XK)(st:Stmt)(s:SS):Prop where
 h:PS X st (tS X.K c E s)
structure SDs(X:Cx)(c:Nat->aZ)(E:XK)(st:List Stmt)(s:SS):Prop where
 h:PSs X st (tS X.K c E s)
theorem PS.imp{st:Stmt}{t t' :TS}(h:PS X st t)(k:∀D σ H,t' D σ H->t D σ H):PS X st t' :=fun a s σ H D I q=>h a s σ H D I (k D σ H q)
theorem PSs.imp{st:List Stmt}{t t' :TS}(h:PSs X st t)(k:∀D σ H,t' D σ H->t D σ H):PSs X st t' :=fun a s σ H D I q=>h a s σ H D I (k D σ H q)
theorem PS.len{st:Stmt}{t:TS}(h:PS X st (fun D σ H=>σ.length=X.N.length/\t D σ H)):PS X st t:=fun a s σ H D I q=>h a s σ H D I ⟨I.len,q⟩
section
variable{K:aQ}{c:Nat->aZ}{E:XK}{env env' :Ev}{σ σ' :L2.St}{H H' :Hp}{B W W' :Fp}{D:Ends}{o:Out}{s:SS}
theorem OutP.back(st:Step env σ H B W env' σ' H' W')(h:OutP K c env σ H B W D o):OutP K c env' σ' H' B W' D o:=by
 cases o with
 |nx e=>exact fun σ2 a b d f=>h σ2 a b (st.trans d) f
 |bk e=>exact fun σ2 a b d f=>h σ2 a b (st.trans d) f
 |ct e=>exact fun σ2 a b d f=>h σ2 a b (st.trans d) f
 |rt r e=>exact fun v σ2 a b Z g=>h v σ2 a b Z ⟨st.trans g.st,g.cf,g.at_⟩
theorem qXt(st:Step env σ H B W env' σ' H' W')(a:Cf K c env' σ' H' B W')(h:(s env').wp (OutP K c env σ H B W D) (erP K c E H B W)):tS K c E s D σ' H' :=
 ⟨env',B,W',a,wp_mono (fun _ q=>q.back st) (fun _ _ b=>b.back st) h⟩
end
noncomputable def sSeq(s t:SS):SS:=fun a=>(s a).bind fun o=>match o with
 |.nx e=>t e
 |o=>.ok o
noncomputable def sNil:SS:=fun a=>.ok (.nx a)
section
variable{X:Cx}{c:Nat->aZ}{E:XK}{st:Stmt}{sts:List Stmt}{s t u:SS}{pos:Pos}
theorem qH:SDs X c E [] sNil:=by
 refine⟨PSs.imp vVi fun D σ H=>?_⟩;rintro⟨a,B,W,b,w⟩;exact w σ H W .refl b
theorem qJ(h:SD X c E st s):SDs X c E [st] s:=⟨vXm h.h⟩
theorem qV(h:SD X c E st s)(k:SDs X c E sts t):SDs X c E (st::sts) (sSeq s t):=by
 refine⟨PSs.imp (qYt h.h k.h) fun D σ H=>?_⟩;rintro⟨b,B,W,g,w⟩;refine⟨b,B,W,g,wp_mono (fun o a=>?_) (fun _ _ i=>i) (qY.mp w)⟩;cases o with
 |nx e=>exact fun σ' j l d f =>qXt d f a
 |bk e=>exact a
 |ct e=>exact a
 |rt r e=>exact a
noncomputable def sIf(b:ST)(s t:SS):SS:=fun a=>(b a).bind fun r=>cond r.1 (s r.2) (t r.2)
theorem vW{x y:List Stmt}{f:ST}(i:TD X c E e f)(j:SDs X c E x s)(hb:SDs X c E y t):SD X c E (.If e x y pos) (sIf f s t):=by
 refine⟨PS.imp (zXn i.h j.h hb.h) fun D σ H=>?_⟩;rintro⟨d,B,W,l,w⟩;refine⟨d,B,W,l,wp_mono (fun m g o p a b=>?_) (fun _ _ n=>n) (qY.mp w)⟩;obtain⟨k,q⟩:=m;cases k with
 |true=>exact qXt a b g
 |false=>exact qXt a b g
noncomputable def sRet(s:SE):SS:=fun a=>(s a).bind fun r=>.ok (.rt r.1 r.2)
theorem qO{s:SE}(h:ED X c E e s):SD X c E (.Return (some e) pos) (sRet s):=by
 refine⟨PS.imp (zYr h.h) fun D σ H=>?_⟩;rintro⟨a,B,W,b,w⟩;exact⟨a,B,W,b,wp_mono (fun k d u f i Z g=>d u σ f i Z ⟨g.st,g.cf,g.at_⟩) (fun _ _ j=>j) (qY.mp w)⟩
noncomputable def eMv(i:Nat):SE:=fun a=>match a[i]? with
 |some (.s false o)=>.ok (o,a.set i .un)
 |_=>.no
theorem vWa{s:Slot}{o:O}(hs:∀o,s≠ .s true o)(h:(env.set i s)[j]?=some (.s true o)):j≠i/\env[j]?=some (.s true o):=by
 grind
theorem qK7(h:PE X e (tVar i)):ED X c E e (eMv i):=by
 refine⟨PE.imp h fun σ H Q=>?_⟩;rintro⟨n,B,W,g,w⟩;unfold eMv at w;split at w
 ·rename_i o p;obtain⟨x,d,R,m,k,f,r⟩:=g.focus p;cases x with
  |none=>exact k.elim
  | some v=>
    have eq:hide (hd2 (hd2 B d) R) H=hide (hd2 B W) H:=zI fun a=>by dsimp only[hd2];rw[f];omega
    have l:hide (hd2 B (hd2 R d)) H=hide (hd2 B W) H:=zI fun a=>by dsimp only[hd2];rw[f];omega
    have b :=r H (hd2 B d) R .un (some v) (fun _=>0) (by rw[eq];exact Same.refl _) (fun a=>by omega) (fun _ _=>rfl) (fun _=>rfl) (fun a=>by have:=g.nd a;rw[f]at this;dsimp only[hd2];omega) (fun a z=>by
     by_cases q:B a=0
     ·exact j8.hb (x:=some v) k (by dsimp only[hd2]at z;omega)
     ·exact g.hb a q)
    rw[yZ m]at b;refine⟨v,m,w v H R d ⟨⟨by rw[l];exact Same.refl _,fun _ _=>rfl,fun a z=>.inl (by dsimp only[hd2]at z;rw[f];omega),fun _ z=>z,fun _ _ _=>.refl,fun j s q=>?_,bS⟩,b,by rw[eq];exact k⟩⟩;grind
 ·exact w.elim
noncomputable def jQ(s:SE):SS:=fun a=>(s a).bind fun r=>.ok (.nx r.2)
theorem zY{s:SE}(h:ED X c E e s)(hs:swapsWith e none pos.line X.env=pure false:=by rfl):SD X c E (.Expr e pos) (jQ s):=by
 refine⟨PS.imp (zJt h.h hs) fun D σ H=>?_⟩;rintro⟨env,B,W,a,w⟩;exact⟨env,B,W,a,wp_mono (fun j b u d f Z g=>b σ d f g.fz.st g.fz.cf) (fun _ _ i=>i) (qY.mp w)⟩
end
section
variable{K:aQ}{c:Nat->aZ}{env env' :Ev}{σ σ' :L2.St}{H H' :Hp}{B W W' Z:Fp}{i:Nat}{o:O}{u:V}
theorem GotR.put(g:GotR K c env σ H B W env' σ' H' W' Z o u)(hi:i<env'.length):∃b,Step env σ H B W (env'.set i (.s false o)) (σ'.set i (some u)) H' b/\Cf K c (env'.set i (.s false o)) (σ'.set i (some u)) H' B b:=by
 obtain⟨b,d,e,f⟩:=g.cf.put (B:=B) (io:=false) (fun _=>rfl) g.at_ hi;refine⟨b,g.st.trans ⟨?_,fun _ _=>rfl,fun a z=>.inl ?_,fun _ z=>z,fun _ _ _=>.refl,fun j h q=>?_,bS⟩,d⟩
 ·rw [show hide (hd2 B (hd2 W' Z)) H' =hide (hd2 (hd2 B Z) W') H' from zI fun a=>by dsimp only [hd2];omega];exact e
 ·have:=f a z;dsimp only[hd2];omega
 ·obtain⟨k,l⟩:=vWa (fun _ z=>by cases z) q;exact⟨⟨h,l⟩,bH (Ne.symm k)⟩
theorem Got.r(g:Got K c env σ H B W env' H' W' Z o u):GotR K c env σ H B W env' σ H' W' Z o u:=⟨g.st,g.cf,g.at_⟩
end
noncomputable def sSet(i:Nat)(s:SE):SS:=fun a=>(s a).bind fun r=>.ok (.nx (r.2.set i (.s false r.1)))
section
variable{X:Cx}{c:Nat->aZ}{E:XK}{pos pos' :Pos}{i:Nat}{x:Str}{e:Expr}
theorem Cf.len{K:aQ}(h:Cf K c env σ H B W):env.length=σ.length:=h.at_.len
theorem qXw{K:aQ}(a:Cf K c env σ H B W)(hl:σ.length=N.length)(hi:N[i]?=some x):i<env.length:=by
 rw[a.len,hl];exact(aD.mp hi).1
theorem vQz{s:SE}(b:X.N.Nodup)(hi:X.N[i]?=some x)(d:Loc X.env.scope x)(a:ED X c E e s)(hs:swapsWith e (some (.Name x pos')) pos.line X.env=pure false:=by rfl)(f:X.fn x=true\/X.env.scope.names.lookup x=some .local :=by first|exact .inl rfl|exact .inr rfl|assumption):
  SD X c E (.Assign [.Name x pos'] e pos) (sSet i s):=by
 refine⟨PS.len (PS.imp (zYq b hi d a.h hs f) fun D σ H=>?_)⟩;rintro⟨j,env,B,W,k,w⟩;refine⟨env,B,W,k,wp_mono (fun p l u m q Z g=>?_) (fun _ _ a=>a) (qY.mp w)⟩;obtain⟨n,o,c2⟩:=g.r.put (qXw g.cf j hi);exact l _ m n o c2
end
noncomputable abbrev SG:=D->Ev->Option Ev
noncomputable def tG(K:aQ)(c:Nat->aZ)(T:List Nat)(g:SG):TG:=fun v σ H Q=>∃a B W d e,Cf K c a σ H B W/\DAt K c (hide (hd2 B W) H) v d/\g d a=some e/\∀σ' W',Step a σ H B W e σ' H W' ->Cf K c e σ' H B W' ->(∀i,i∉T->σ'[i]?=σ[i]?)->Q σ' H
structure GD(X:Cx)(c:Nat->aZ)(e:Expr)(T:List Nat)(g:SG):Prop where
 h:PG X e (tG X.K c T g)
noncomputable abbrev SGs:=List D->Ev->Option Ev
noncomputable def tGs(K:aQ)(c:Nat->aZ)(T:List Nat)(g:SGs):TGs:=fun b σ H Q=>∃a B W ds e,Cf K c a σ H B W/\DsAt K c (hide (hd2 B W) H) b ds/\g ds a=some e/\∀σ' W',Step a σ H B W e σ' H W' ->Cf K c e σ' H B W' ->(∀i,i∉T->σ'[i]?=σ[i]?)->Q σ' H
structure GDs(X:Cx)(c:Nat->aZ)(es:List Expr)(T:List Nat)(g:SGs):Prop where
 h:PGs X es (tGs X.K c T g)
theorem PG.imp{t t' :TG}(h:PG X e t)(k:∀v σ H Q,t' v σ H Q->t v σ H Q):PG X e t' :=fun a s σ H v u Q I r q=>h a s σ H v u Q I r (k v σ H Q q)
theorem PGs.imp{e:List Expr}{t t' :TGs}(h:PGs X e t)(k:∀v σ H Q,t' v σ H Q->t v σ H Q):PGs X e t' :=fun a s σ H v u Q I r q=>h a s σ H v u Q I r (k v σ H Q q)
theorem PG.len{t:TG}(h:PG X e (fun v σ H Q=>σ.length=X.N.length/\t v σ H Q)):PG X e t:=fun a s σ H v u Q I r q=>h a s σ H v u Q I r ⟨I.len,q⟩
noncomputable def gN(i:Nat):SG:=fun d a=>some (a.set i (.s false (.fz d)))
noncomputable def gNl:SGs:=fun ds a=>match ds with
 |[]=>some a
 |_=>none
noncomputable def gCn(g:SG)(b:SGs):SGs:=fun ds a=>match ds with
 |d::r=>(g d a).bind fun e=>b r e
 |[]=>none
noncomputable def gT(n:Nat)(b:SGs):SG:=fun d a=>match d with
 |.nd .tup ds=>if ds.length=n then b ds a else none
 |_=>none
section
variable{X:Cx}{c:Nat->aZ}{pos:Pos}{x:Str}{i n:Nat}{e:Expr}{es:List Expr}{g:SG}{gs:SGs}{T T' :List Nat}
theorem zWv(b:X.N.Nodup)(hi:X.N[i]?=some x)(f:Loc X.env.scope x)(h:X.fn x=true\/X.env.scope.names.lookup x=some .local :=by first|exact .inl rfl|exact .inr rfl|assumption):GD X c (.Name x pos) [i] (gN i):=by
 refine⟨PG.len (PG.imp (vXn b hi f h) fun v σ H Q=>?_)⟩;rintro⟨k,env,B,W,d,e,a,l,m,n⟩;cases m;have g:GotD X.K c env σ H B W env H W d v:=⟨.refl,a,l⟩
 obtain⟨o,p,c2⟩:=g.own.r.put (qXw a k hi);exact n _ o p c2 fun j q=>bH fun z=>q (by rw[z];exact cC)
theorem qJu:GDs X c [] [] gNl:=by
 refine⟨PGs.imp zJ2 fun v σ H Q=>?_⟩;rintro⟨b,B,W,ds,e,f,g,a,h⟩;cases ds with
 | nil=>
   have:=g.un0;cases a;exact⟨this,h _ W .refl f fun _ _=>rfl⟩
 |cons d r=>cases a
theorem wH(h:GD X c e T g)(k:GDs X c es T' gs)(hs:(assignEach (e::es) X.env).map (·.2)=assign e X.env::(assignEach es X.env).map (·.2):=by rfl):GDs X c (e::es) (T ++ T') (gCn g gs):=by
 refine⟨PGs.imp (zVy h.h k.h hs) fun v σ H Q=>?_⟩;rintro⟨env,B,W,ds,e,q,s,j,t⟩;cases ds with
 |nil=>cases j
 | cons d r=>
   obtain⟨u,w,rfl,a,b⟩:=s.un;obtain⟨o,x,j⟩:=bnd j;exact⟨u,w,rfl,env,B,W,d,o,q,a,x,fun σ' y f l A=>⟨o,B,y,r,e,l,b.same f.same,j,fun σ2 C m n D=>t σ2 C (f.trans m) n fun i p=>(D i fun z=>p (bY _ z)).trans (A i fun z=>p (eV _ z))⟩⟩
theorem qYh{k:Nat}(g:X.calm=true)(h:GDs X c es T gs)(i:(assignEach es X.env).length =n:=by rfl)(b:(assignEach es X.env).findIdx? (·.1)=none:=by rfl):GD X c (.Tuple es k pos) T (gT n gs):=by
 refine⟨PG.imp (zY1 g h.h i b) fun v σ H Q=>?_⟩;rintro⟨env,B,W,d,e,j,l,a,m⟩;unfold gT at a;split at a
 ·rename_i ds;split at a
  ·rename_i o;obtain⟨p,q,r,s,f⟩:=l.un;exact⟨p,q,r,vY.tup s,by rw[f.len];exact o,env,B,W,ds,e,j,f,a,m⟩
  ·cases a
 ·cases a
end
noncomputable def ItD(K:aQ)(c:Nat->aZ)(F:Hp)(J:It)(ds:List D):Prop:=∀(i:Nat) (H:Hp) (T:Fp),Same F (hide T H)->(∀a,T a≠0->∃o,H a=some o/\Hb o)->
 (∀d,ds[i]?=some d->J.go i H/\∀x b,J.yld i H x b ->Same H b /\DAt K c (hide T b) x d)/\(i=ds.length->J.stop i H)
noncomputable abbrev SI:=Ev->Res (List D×Ev)
noncomputable def tIt(K:aQ)(c:Nat->aZ)(E:XK)(s:SI):TI:=fun σ H R=>∃a B W,Cf K c a σ H B W/\(s a).wp (fun r=>∀J b d,Step a σ H B W r.2 σ b d ->Cf K c r.2 σ b B d ->ItD K c (hide (hd2 B d) b) J r.1->R J b) (erP K c E H B W)
structure ID'(X:Cx)(c:Nat->aZ)(E:XK)(tg e:Expr)(s:SI):Prop where
 h:PI X tg e (tIt X.K c E s)
theorem PI.imp{t t' :TI}(h:PI X tg e t)(k:∀σ H R,t' σ H R->t σ H R):PI X tg e t' :=fun a s σ H R I q=>h a s σ H R I (k σ H R q)
noncomputable def forS(g:SG)(a:SS):List D->SS
 |[],env=>.ok (.nx env)
 |d::ds,env=>(opt (g d env)).bind fun b=>(a b).bind fun o=>match o with
    |.nx e2=>forS g a ds e2
    |.ct e2=>forS g a ds e2
    |.bk e2=>.ok (.nx e2)
    |.rt r e2=>.ok (.rt r e2)
noncomputable def sFor(it:SI)(g:SG)(a:SS):SS:=fun b=>(it b).bind fun r=>forS g a r.1 r.2
theorem zZq{K:aQ}{T:List Nat}{D:Ends}{J:It}{p:Hp}{s:Fp}{ds:List DX.D}{e1:Ev}(M:Cf K c e1 σ p B s)(G:ItD K c (hide (hd2 B s) p) J ds)(h1:(forS g body ds e1).wp (OutP K c e1 σ p B s D) (erP K c E p B s)):∃W:Nat->Nat->L2.St->Hp->Prop,(∃m,W 0 m σ p)/\∀i m σ H,W i m σ H->
   (J.stop i H/\D.nx σ H)\/(J.go i H/\∃N:L2.St->Hp->Prop,(∀σ' H',N σ' H' ->∃X,X<m/\W (i+1) X σ' H')/\∀x H',J.yld i H x H' ->tG K c T g x σ H' fun σ2 e=>tS K c E body {D with nx:=N,ct:=N,bk:=D.nx} σ2 e):=by
 refine⟨fun i m σ' H' =>m=ds.length - i/\i<=ds.length/\∃b f,Same (hide (hd2 B s) p) (hide (hd2 B f) H')/\Cf K c b σ' H' B f /\(forS g body (ds.drop i) b).wp (OutP K c b σ' H' B f D) (erP K c E H' B f),
  ⟨ds.length,by simp,eJ _,e1,s,Same.refl _,M,h1⟩,?_⟩
 rintro i m σ' H' ⟨rfl,hi,b,f,Y,k,F⟩;obtain⟨O,P⟩:=G i H' (hd2 B f) Y (fun a z=>k.hbs z);by_cases u:i<ds.length
 ·obtain⟨go,yl⟩:=O ds[i] (aL u);refine .inr ⟨go,fun σ2 e=>ds.length - (i+1)<ds.length - i/\(ds.length - (i+1)=ds.length - (i+1)/\i+1<=ds.length/\∃d l,Same (hide (hd2 B s) p) (hide (hd2 B l) e)/\Cf K c d σ2 e B l/\(forS g body (ds.drop (i+1)) d).wp (OutP K c d σ2 e B l D) (erP K c E e B l)),fun σ2 e q=>⟨_,q.1,q.2⟩,fun x e y=>?_⟩;obtain⟨I,hx⟩:=yl x e y;rw[List.drop_eq_getElem_cons u]at F;obtain⟨L,e2,F⟩:=qC F;refine⟨b,B,f,ds[i],L,k.grow I,hx,e2,fun σ3 Q R S _=>?_⟩;have n:Step b σ' H' B f L σ3 e Q:=(Step.grow k I).trans R
  have next:∀h,(forS g body (ds.drop (i+1)) h).wp (OutP K c b σ' H' B f D) (erP K c E H' B f)->∀σ4 j t,Step L σ3 e B Q h σ4 j t->Cf K c h σ4 j B t->
    ds.length - (i+1)<ds.length - i/\(ds.length - (i+1)=ds.length - (i+1)/\i+1<=ds.length/\∃d l,Same (hide (hd2 B s) p) (hide (hd2 B l) j)/\Cf K c d σ4 j B l/\(forS g body (ds.drop (i+1)) d).wp (OutP K c d σ4 j B l D) (erP K c E j B l)):=fun h q σ4 j t w A=>by
   have C:=n.trans w;exact⟨by omega,rfl,u,h,t,Y.trans C.same,A,wp_mono (fun o q=>q.back C) (fun _ _ U=>U.back C) q⟩
  refine⟨L,B,Q,S,wp_mono (fun o q=>?_) (fun _ _ U=>U.back n) (qY.mp F)⟩;cases o with
  |nx h=>exact next h q
  |ct h=>exact next h q
  |bk h=>exact fun σ4 j t w A=>q σ4 j t (n.trans w) A
  |rt r h=>exact fun v σ4 j t Z g=>q v σ4 j t Z ⟨n.trans g.st,g.cf,g.at_⟩
 ·have V:i=ds.length:=by omega
  subst V;rw[List.drop_length]at F;exact .inl ⟨P rfl,F σ' H' f .refl k⟩
theorem zZ8{K:aQ}{T:List Nat}{D:Ends}(h:tS K c E (sFor it g body) D σ H):tFor (tIt K c E it) (tG K c T g) (tS K c E body) D σ H:=by
 obtain⟨d,B,W,i,w⟩:=h;refine⟨d,B,W,i,wp_mono (fun k j J l m a e b=>?_) (fun _ _ f=>f) (qY.mp w)⟩;exact zZq e b (wp_mono (fun o q=>q.back a) (fun _ _ f=>f.back a) j)
theorem yK{a:Expr}{b:List Stmt}{T:List Nat}{s:SS}(d:PassesOwn (model X.prog X.w) X.A X.env X.xe)(e:X.calm=true)(hi:ID' X c E tg a it)(f:GD X c tg T g)(hb:SDs X c E b s)(hs:∀x,foldedSetIterable a X.env x=pure x:=by intro _;rfl):SD X c E (.For tg a b [] pos) (sFor it g s):=
 ⟨PS.imp (zYs d e hi.h f.h hb.h hs) fun _ _ _ h=>zZ8 h⟩
noncomputable abbrev Fn:=Ev->Res (O×Ev)
noncomputable def zKo:Slot->Slot
 |.s true o=>.s true o
 |_=>.un
noncomputable def outs:Nat->Ev->Ev
 | 0,_=> []
 |_+1,[]=> []
 |n+1,s::e=>zKo s::outs n e
noncomputable def fnS(n m:Nat)(a:SS):Fn:=fun b=>(a (b ++ List.replicate m .un)).bind fun o=>match o with
 |.nx e=>.ok (.fz .non,outs n e)
 |.rt r e=>.ok (r,outs n e)
 |_=>.no
noncomputable def spD(K:aQ)(c:Nat->aZ)(n:Nat)(F:Fn):Sp:=fun b H Q E=>∃a B W,a.length=n/\Cf K c a (b.map some) H B W/\
 (F a).wp (fun r=>∀v d e Z,GotR K c a (b.map some) H B W r.2 (b.map some) d e Z r.1 v->Q v d) (erP K c E H B W)
section
variable{K:aQ}{c:Nat->aZ}{F H H' :Hp}
theorem SlAt.uns(t:TabF c F):∀m:Nat,SlAt K c F H (List.replicate m .un) (List.replicate m none) (fun _=>0)
 | 0=>⟨⟨rfl,t⟩,fun _=>rfl⟩
 |m+1=>⟨none,List.replicate m none,fun _=>0,fun _=>0,rfl,fun _=>rfl,SlAt.uns t m,fun _=>rfl⟩
theorem SlAt.append:∀{env env' :Ev} {σ σ' :L2.St} {Z Z' :Fp},SlAt K c F H env σ Z->SlAt K c F H env' σ' Z' ->SlAt K c F H (env ++ env') (σ ++ σ') (fun a=>Z a+Z' a)
 | [],env',σ,σ',Z,Z',h,k=>by
   rw[h.1.1];exact k.cast fun a=>by rw[h.2];omega
 | s::env,env',σ,σ',Z,Z',h,k=>by
   obtain⟨x,r,e,g,rfl,b,f,d⟩:=h;exact⟨x,r ++ σ',e,_,rfl,b,f.append k,fun a=>by dsimp only;rw[d];omega⟩
theorem Cf.ext{m:Nat}(h:Cf K c args τ H B W):Cf K c (args ++ List.replicate m .un) (τ ++ List.replicate m none) H B W:=
 ⟨(h.at_.append (SlAt.uns h.at_.tab m)).cast fun a=>by(try dsimp only);omega,h.nd,h.hb⟩
theorem SlAt.outs:∀{n:Nat} {e:Ev} {σ τ:L2.St} {Z:Fp},SlAt K c F H e σ Z->n<=e.length->τ.length=n->(∀(i:Nat) o,i<n->e[i]?=some (.s true o)->σ[i]?=τ[i]?)->∃Z',SlAt K c F H (outs n e) τ Z' /\∀a,Z' a<=Z a
 | 0,e,σ,τ,Z,h,hl,ht,k=>⟨fun _=>0,⟨⟨List.eq_nil_of_length_eq_zero ht,h.tab⟩,fun _=>rfl⟩,fun _=>eJ _⟩
 |n+1,[],σ,τ,Z,h,hl,ht,k=>by simp at hl
 |n+1,s::e,σ,[],Z,h,hl,ht,k=>by simp at ht
 | n + 1,s::e,σ,t::τ,Z,h,hl,ht,k=>by
   obtain⟨x,r,f,p,rfl,b,m,d⟩:=h;obtain⟨Z',g,j⟩:=SlAt.outs (n:=n) (τ:=τ) m (by simpa using hl) (by simpa using ht) fun i o q e=>by
    have:=k (i+1) o (by omega) (by simpa using e);simpa using this
   have un:∃Y:Fp,SlAt K c F H (.un ::DX.outs n e) (t::τ) Y/\∀a,Y a<=Z a:=⟨Z',⟨t,τ,fun _=>0,Z',rfl,fun _=>rfl,g,fun a=>by dsimp only;omega⟩,fun a=>by have:=j a;rw[d];omega⟩
   cases s with
   |un=>exact un
   | s io o=>
     cases io with
     |false=>exact un
     | true=>
       have l:=k 0 o (by omega) rfl;simp only[dH,Option.some.injEq]at l;subst l;exact⟨fun a=>f a+Z' a,⟨x,τ,f,Z',rfl,b,g,fun _=>rfl⟩,fun a=>by have:=j a;rw[d];dsimp only;omega⟩
theorem vZu:∀{n i:Nat} {e:Ev} {o:O},(outs n e)[i]?=some (.s true o)->i<n/\e[i]?=some (.s true o)
 | 0,i,e,o,h=>by simp[outs]at h
 |n+1,i,[],o,h=>by simp[outs]at h
 | n + 1,0,s::e,o,h=>by
   simp only[outs,dH,Option.some.injEq]at h;refine⟨Nat.succ_pos _,?_⟩;cases s with
   |un=>cases h
   |s io o' =>cases io <;> cases h;rfl
 | n + 1,i + 1,s::e,o,h=>by
   simp only[outs,List.getElem?_cons_succ]at h⊢;obtain⟨b,a⟩:=vZu h;exact⟨by omega,a⟩
theorem vZt:∀{n:Nat} {e:Ev},n<=e.length->(outs n e).length =n
 | 0,e,_=>by simp[outs]
 |n+1,[],h=>by simp at h
 |n+1,s::e,h=>by rw[outs,aK,vZt (by simpa using h)]
theorem GotR.out{e:Ev}{m:Nat}{r:O}(l:args.length=n)(t:Cf K c args τ H B W)(g:GotR K c (args ++ List.replicate m .un) (τ ++ List.replicate m none) H B W e σ' H' W' Z r v):
  ∃b,GotR K c args τ H B W (outs n e) τ H' b Z r v:=by
 have d:n<=e.length:=by rw[g.st.len,aU];omega
 have hτ:τ.length=n:=by rw[←t.len];exact l
 have back:∀(i:Nat) (o:O),i<n->e[i]?=some (.s true o)->(∃p,args[i]?=some (.s true p))/\σ'[i]?=τ[i]?:=fun i o j h=>by
  obtain⟨⟨p,u⟩,y⟩:=g.st.io i o h;grind
 obtain⟨b,w,f⟩:=g.cf.at_.outs d hτ fun i o j h=>(back i o j h).2
 have q:Same (hide (hd2 (hd2 B Z) W') H') (hide (hd2 (hd2 B Z) b) H'):=zG fun a z=>by have:=f a;dsimp only[hd2]at *;omega
 have k:Same (hide (hd2 B (hd2 W' Z)) H') (hide (hd2 B (hd2 b Z)) H'):=zG fun a z=>by have:=f a;dsimp only[hd2]at *;omega
 refine⟨b,⟨g.st.same.trans k,g.st.by_,fun a z=>g.st.new a (by have:=f a;dsimp only[hd2]at *;omega),g.st.dom,fun a x A=>g.st.pin a x (by have:=f a;dsimp only[hd2]at *;omega),fun i o h=>?_,by rw[vZt d,l]⟩,
  ⟨w.keep q fun _ _=>rfl,fun a=>by have:=f a;have:=g.cf.nd a;dsimp only[hd2]at *;omega,g.cf.hb⟩,g.at_.keep q fun _ _=>rfl⟩
 obtain⟨j,u⟩:=vZu h;grind
end
theorem fnD{K:aQ}{x:Str}{st:Stmt}{f:aZ}{k:Nat}(F:Fun K x qual st f fd)(S:FnScope N ps (qU st))(hb:∀(d:Value) (A:cW) (a:List Env) (s:aJ) (H:Hp) (E:XK),Room k (A.deeper (envOfC qual (qU st) s.heap.objs.size f d))->SDs (cxOf (CXd P w) P w K mg base N qual (qU st) f d A a s H E) c E (zM st) body):
  FnOk P w K mg base (CXd P w) (k+1) f fd ps (spD K c ps.length (fnS ps.length (N.length - ps.length) body)):=by
 refine F.okD S (fun i H Q E h=>?_) (fun d y a s H i Q E z h=>?_)
 ·obtain⟨b,B,W,n,j,_⟩:=h;have:=j.len;rw[aW]at this;omega
 ·obtain⟨b,B,W,n,j,l⟩:=h;have p:i.length=ps.length:=by
   have:=j.len;rw[aW]at this;omega
  refine⟨_,(hb d y a s H E z).h,?_⟩;have q:L2.qV7 N i=i.map some ++ List.replicate (N.length - ps.length) none:=by unfold L2.qV7;rw[p]
  show tS K c E body _ (L2.qV7 N i) H;rw[q];unfold fnS at l;refine⟨b ++ List.replicate (N.length - ps.length) .un,B,W,j.ext,wp_mono (fun o m=>?_) (fun _ _ C=>C) (qY.mp l)⟩;cases o with
  | nx e=>
    intro σ' H' W' st' cf';have g:GotR K c (b ++ List.replicate (N.length - ps.length) .un) (i.map some ++ List.replicate (N.length - ps.length) none) H B W e σ' H' W' (fun _=>0) (.fz .non) .non :=⟨st'.cast (fun _=>rfl) (fun _=>rfl) fun _=>rfl,cf'.cast (fun _=>rfl) fun _=>rfl,OAt.fz.mpr ⟨.non,fun _=>rfl⟩⟩
    obtain⟨t,u⟩:=g.out n j;exact m .non H' t _ u
  | rt r e=>
    intro v σ' H' W' Z g;obtain⟨t,u⟩:=g.out n j;exact m v H' t Z u
  |bk e=>exact m.elim
  |ct e=>exact m.elim
mutual
def vD:D->Bool
 |.nd .tup ds=>flatDs ds
 |.nd _ _=>false
 |_=>true
def flatDs:List D->Bool
 |[]=>true
 |d::ds=>vD d && flatDs ds
end
mutual
def qX8:O->Bool
 |.fz d=>vD d
 |.ow _ os=>flatOs os
def flatOs:List O->Bool
 |[]=>true
 |o::os=>qX8 o && flatOs os
end
theorem qKf:∀{ds:List D} {i:Nat} {d:D},flatDs ds=true->ds[i]?=some d->vD d=true
 |[],i,d,h,e=>by simp at e
 | x::ds,0,d,h,e=>by
   rw[flatDs,aP]at h;cases e;exact h.1
 | x::ds,i + 1,d,h,e=>by
   rw[flatDs,aP]at h;exact qKf h.2 (by simpa using e)
section
variable{K:aQ}{c:Nat->aZ}{F F' H H' :Hp}
theorem zVl(k:∀a o,F a=some o->¬Hb o->F' a=some o){p:aZ}(h:SqT K F p vs):SqT K F' p vs:=by
 rcases h with(h|⟨o,h⟩)|h
 ·exact .inl (.inl (k _ _ h fun z=>z))
 ·exact .inl (.inr ⟨o,k _ _ h fun z=>z⟩)
 ·exact .inr h
theorem DAt.flat(k:∀a o,F a=some o->¬Hb o->F' a=some o){d:D}(h:DAt K c F v d)(e:vD d=true):DAt K c F' v d:=by
 induction h with
 |non=>exact .non
 |int i=>exact .int i
 |str i=>exact .str i
 |bl i=>exact .bl i
 |fn i=>exact .fn i
 | @nd p kd vs ds h l r ih=>
   cases kd with
   | tup=>
     exact .nd (zVl k h) l fun i v d a b=>ih i v d a b (qKf e b)
   |lst=>simp[vD]at e
   |dct ks=>simp[vD]at e
   |dcT ks=>simp[vD]at e
   |obj C fs=>simp[vD]at e
   |exc C fs=>simp[vD]at e
mutual
theorem OAt.flat(k:∀a o,F a=some o->¬Hb o->F' a=some o):∀{o:O} {v:V} {Z:Fp},qX8 o=true->OAt K c F H o v Z->OAt K c F' H o v Z
 | .fz d,v,Z,hf,h=>by
   rw[OAt.fz]at h⊢;rw[qX8]at hf;exact⟨h.1.flat k hf,h.2⟩
 | .ow kd os,v,Z,hf,h=>by
   rw[OAt.ow]at h⊢;rw[qX8]at hf;obtain⟨p,e,f,a,b,c,d⟩:=h;exact⟨p,e,f,a,b,OsAt.flat k hf c,d⟩
theorem OsAt.flat(k:∀a o,F a=some o->¬Hb o->F' a=some o):∀{os:List O} {vs:List V} {Z:Fp},flatOs os=true->OsAt K c F H os vs Z->OsAt K c F' H os vs Z
 |[],vs,Z,hf,h=>by rw[OsAt.nil]at h⊢;exact h
 | o::os,vs,Z,hf,h=>by
   rw[OsAt.cons]at h⊢;rw[flatOs,aP]at hf;obtain⟨v,r,e,f,a,b,c,d⟩:=h;exact⟨v,r,e,f,a,OAt.flat k hf.1 b,OsAt.flat k hf.2 c,d⟩
end
end
mutual
def ndD:D->Bool
 |.nd (.dct _) _=>false
 |.nd (.dcT _) _=>false
 |.nd _ ds=>ndDs ds
 |_=>true
def ndDs:List D->Bool
 |[]=>true
 |d::ds=>ndD d && ndDs ds
end
mutual
def ndO:O->Bool
 |.fz d=>ndD d
 |.ow _ os=>ndOs os
def ndOs:List O->Bool
 |[]=>true
 |o::os=>ndO o && ndOs os
end
noncomputable def ndS:Slot->Bool
 |.un =>true
 |.s _ o=>ndO o
theorem vZw:∀{ds:List D} {i:Nat} {d:D},ndDs ds=true->ds[i]?=some d->ndD d=true
 |[],i,d,h,e=>by simp at e
 | x::ds,0,d,h,e=>by
   rw[ndDs,aP]at h;cases e;exact h.1
 | x::ds,i + 1,d,h,e=>by
   rw[ndDs,aP]at h;exact vZw h.2 (by simpa using e)
noncomputable def isDK:HO->Prop
 |.dK _=>True
 |.dT _=>True
 |_=>False
section
variable{K:aQ}{c:Nat->aZ}{F F' H H' :Hp}
theorem NdAt.nd'(k:∀a o,F a=some o->¬isDK o->F' a=some o){p:aZ}(h:NdAt K c F p kd vs)(hk:∀ks,kd≠ .dct ks)(g :∀ks,kd≠ .dcT ks):NdAt K c F' p kd vs:=by
 cases kd with
 | lst=>
   rcases h with(h|⟨o,h⟩)|h
   ·exact .inl (.inl (k _ _ h fun z=>z))
   ·exact .inl (.inr ⟨o,k _ _ h fun z=>z⟩)
   ·exact .inr h
 | tup=>
   rcases h with(h|⟨o,h⟩)|h
   ·exact .inl (.inl (k _ _ h fun z=>z))
   ·exact .inl (.inr ⟨o,k _ _ h fun z=>z⟩)
   ·exact .inr h
 |dct ks=>grind
 |dcT ks=>grind
 |obj C fs=>obtain⟨a,e,b⟩:=h;exact⟨a,e,k _ _ b fun z=>z⟩
 | exc C fs=>
   obtain⟨a,f,b,d⟩:=h;refine⟨a,f,k _ _ b fun z=>z,?_⟩;cases f with
   |none=>exact d
   |some e=>exact k _ _ d fun z=>z
theorem DAt.nd'(k:∀a o,F a=some o->¬isDK o->F' a=some o){d:D}(h:DAt K c F v d)(e:ndD d=true):DAt K c F' v d:=by
 induction h with
 |non=>exact .non
 |int i=>exact .int i
 |str i=>exact .str i
 |bl i=>exact .bl i
 |fn i=>exact .fn i
 | @nd p kd vs ds h l r ih=>
   have g:(∀f,kd≠ .dct f)/\(∀f,kd≠ .dcT f)/\ndDs ds=true:=by
    cases kd with
    |lst=>rw[ndD]at e <;> simp_all
    |tup=>rw[ndD]at e <;> simp_all
    |dct f=>simp[ndD]at e
    |dcT f=>simp[ndD]at e
    |obj C fs=>rw[ndD]at e <;> simp_all
    |exc C fs=>rw[ndD]at e <;> simp_all
   exact .nd (h.nd' k g.1 g.2.1) l fun i v d a b=>ih i v d a b (vZw g.2.2 b)
mutual
theorem OAt.nd'(k:∀a o,F a=some o->¬isDK o->F' a=some o):∀{o:O} {v:V} {Z:Fp},ndO o=true->OAt K c F H o v Z->OAt K c F' H o v Z
 | .fz d,v,Z,hf,h=>by
   rw[OAt.fz]at h⊢;rw[ndO]at hf;exact⟨h.1.nd' k hf,h.2⟩
 | .ow kd os,v,Z,hf,h=>by
   rw[OAt.ow]at h⊢;rw[ndO]at hf;obtain⟨p,e,f,a,b,c,d⟩:=h;exact⟨p,e,f,a,b,OsAt.nd' k hf c,d⟩
theorem OsAt.nd'(k:∀a o,F a=some o->¬isDK o->F' a=some o):∀{os:List O} {vs:List V} {Z:Fp},ndOs os=true->OsAt K c F H os vs Z->OsAt K c F' H os vs Z
 |[],vs,Z,hf,h=>by rw[OsAt.nil]at h⊢;exact h
 | o::os,vs,Z,hf,h=>by
   rw[OsAt.cons]at h⊢;rw[ndOs,aP]at hf;obtain⟨v,r,e,f,a,b,c,d⟩:=h;exact⟨v,r,e,f,a,OAt.nd' k hf.1 b,OsAt.nd' k hf.2 c,d⟩
end
theorem SlAt.nd'(k:∀a o,F a=some o->¬isDK o->F' a=some o):∀{env:Ev} {σ:L2.St} {Z:Fp},env.all ndS=true->SlAt K c F H env σ Z->SlAt K c F' H env σ Z
 |[],_,_,_,h=>⟨⟨h.1.1,fun z=>k _ _ (h.1.2 z) fun y=>y⟩,h.2⟩
 | s::env,σ,Z,hf,h=>by
   rw[dM,aP]at hf;obtain⟨x,r,e,f,a,b,g,d⟩:=h;refine⟨x,r,e,f,a,?_,SlAt.nd' k hf.2 g,d⟩;cases s with
   |un=>exact b
   | s io o=>
     cases x with
     |none=>exact b.elim
     |some v=>exact OAt.nd' k hf.1 b
end
noncomputable def dcFz:O->Bool
 | .ow (.dct _) os=>os.all fun o=>match o with
   |.fz _=>true
   |_=>false
 |_=>false
theorem vYc{K:aQ}{F:Hp}{o:O}(h:OAt K c F H o v Z)(e:dcFz o=true):∀a,Z a≠0->∃l,H a=some l/\isDK l:=by
 unfold dcFz at e;split at e
 ·rename_i n f;obtain⟨p,g,q,rfl,b,i,d⟩:=h;have j:∀{f:List O} {g:List V} {Z:Fp},(f.all fun o=>match o with|.fz _=>true|_=>false)=true->OsAt K c F H f g Z->∀a,Z a=0:=fun {f}=>by
   induction f with
   |nil=>intro g Z _ h;exact h.2
   | cons o f ih=>
     intro g Z k h;rw[dM,aP]at k;obtain⟨v,r,s,t,_,b,i,d⟩:=h;cases o with
     |ow _ _=>cases k.1
     |fz x=>rw[OAt.fz]at b;intro a;rw[d,b.2,ih k.2 i]
  intro a z;have m:=j e i a;by_cases y:a=p
  ·subst y;exact⟨_,b.2.2,trivial⟩
  ·rw[d,xO y,m]at z;exact absurd rfl z
 ·cases e
inductive Am where
 |v (s:SV)|b (s:SP)|io (i:Nat)
noncomputable def pIo(i:Nat):SP:=fun a=>match a[i]? with
 |some (.s _ _)=>some (.p i [])
 |_=>none
noncomputable def Am.o:Am->Oe
 |.v s=>.v s
 |.b s=>.p s
 |.io i=>.p (pIo i)
noncomputable def yB:List Am->List Hn->List Nat
 |.io _::as,.p j _::hs=>j::yB as hs
 |_::as,_::hs=>yB as hs
 |_,_=> []
noncomputable def yR:List Nat->Ev->Option (List O×Ev)
 |[],env=>some ([],env)
 | j::js,env=>match env[j]? with
   |some (.s _ o)=>(yR js (env.set j .un)).bind fun q=>some (o::q.1,q.2)
   |_=>none
noncomputable def flag(env:Ev)(j:Nat):Bool:=match env[j]? with
 |some (.s io _)=>io
 |_=>false
noncomputable def putS(e1:Ev):List Nat->List O->Ev->Ev
 |j::js,o::os,env=>putS e1 js os (env.set j (.s (flag e1 j) o))
 |_,_,env=>env
noncomputable def getL:List Nat->List O->Nat->Option O
 |j::js,o::os,i=>if j=i then some o else getL js os i
 |_,_,_=>none
noncomputable def y9(ls:List Nat)(lo:List O):List Am->List Hn->List O->Option Ev
 |[],[],_=>some []
 |.v _::as,.d x::hs,os=>(y9 ls lo as hs os).bind fun r=>some (.s false (.fz x)::r)
 |.b _::as,.d x::hs,os=>(y9 ls lo as hs os).bind fun r=>some (.s false (.fz x)::r)
 |.b _::as,.p i π::hs,os=>(getL ls lo i).bind fun a=>(getP a π).bind fun o=>(y9 ls lo as hs os).bind fun r=>some (.s false (.fz (fzO o))::r)
 |.io _::as,.p _ []::hs,o::os=>(y9 ls lo as hs os).bind fun r=>some (.s true o::r)
 |_,_,_=>none
noncomputable def jB:List Am->List Hn->List Nat
 |.b _::as,.p i _::hs=>cond ((jB as hs).contains i) (jB as hs) (i::jB as hs)
 |_::as,_::hs=>jB as hs
 |_,_=> []
noncomputable def qW5:List Am->Ev->Option (List O)
 |[],[]=>some []
 |.io _::as,.s true o::e=>(qW5 as e).bind fun r=>some (o::r)
 |.io _::_,_::_=>none
 |_::as,_::e=>qW5 as e
 |_,_=>none
noncomputable def qQa:List Am->List V->List V
 |.io _::as,u::us=>u::qQa as us
 |_::as,_::us=>qQa as us
 |_,_=> []
section
variable{K:aQ}{c:Nat->aZ}{F F' H H' :Hp}
theorem qYm:∀{b:List Nat} {env envR:Ev} {os:List O} {σ:L2.St} {W:Fp},SlAt K c F H env σ W->yR b env=some (os,envR)->∃vs d R,b.map (fun j=>σ[j]?)=vs.map (fun v=>some (some v))/\OsAt K c F H os vs d/\SlAt K c F H envR σ R/\(∀a,W a=d a+R a)/\
  b.Nodup/\(∀j∈b,envR[j]?=some .un)/\(∀j,j∉b->envR[j]?=env[j]?)/\envR.length=env.length
 | [],env,envR,os,σ,W,h,e=>by
   cases e;exact⟨[],fun _=>0,W,rfl,OsAt.nil.mpr ⟨rfl,fun _=>rfl⟩,h,fun a=>by(try dsimp only);omega,List.nodup_nil,fun _ z=>by simp at z,fun _ _=>rfl,rfl⟩
 | j::b,env,envR,os,σ,W,h,e=>by
   simp only[yR]at e;cases e0:env[j]? with
   |none=>grind
   | some s=>
     rw[e0]at e;cases s with
     |un=>cases e
     | s io o=>
       obtain⟨q,p,r⟩:=bnd e;cases r;obtain⟨x,g,t,k,l,u,w⟩:=h.focus e0;cases x with
       |none=>exact l.elim
       | some v=>
         have m:=w F H .un (some v) (fun _=>0) t (Same.refl _) (fun _ _=>rfl) (fun _=>rfl) fun a=>by(try dsimp only);omega
         rw[yZ k]at m;obtain⟨vs,d,R,y,A,B,C,D,J,L,E⟩:=qYm m p;have M:j<env.length:=(aD.mp e0).1;have G:j∉b:=fun z=>by
          have I:∀{b:List Nat} {env:Ev} {q:List O×Ev},env[j]?=some .un ->j∈b->yR b env=some q->False:=by
           intro b;induction b with
           |nil=>grind
           | cons i is ih=>
             intro env q N z f;simp only[yR]at f;by_cases n:i=j
             ·grind
             ·rcases aA.mp z with z | z
              ·grind
              ·cases e3:env[i]? with
               |none=>grind
               | some s=>
                 rw[e3]at f;cases s with
                 |un=>cases f
                 | s io o=>
                   obtain⟨P,Q,_⟩:=bnd f;grind
          grind
         refine⟨v::vs,fun a=>g a+d a,R,by rw[aO,aO,k,y],OsAt.cons.mpr ⟨v,vs,g,d,rfl,l,A,fun _=>rfl⟩,B,fun a=>by rw[u,C];(try dsimp only);omega,dC.mpr ⟨G,D⟩,fun i n=>?_,fun i n=>?_,by rw[E,bS]⟩
         ·grind
         ·grind
theorem vVh{e1:Ev}:∀{js:List Nat} {os:List O} {vs:List V} {env:Ev} {σ:L2.St} {R Wc Y:Fp},SlAt K c F H env σ R->js.Nodup->(∀j∈js,env[j]?=some .un)->js.map (fun j=>σ[j]?)=vs.map (fun v=>some (some v))->OsAt K c F H os vs Wc->(∀a,Y a=R a+Wc a)->SlAt K c F H (putS e1 js os env) σ Y
 | [],os,vs,env,σ,R,Wc,Y,h,_,_,e,k,y=>by
   cases vs with
   |cons v vs=>cases e
   | nil=>
     cases os with
     |cons o os=>rw[OsAt.cons]at k;obtain⟨_,_,_,_,z,_⟩:=k;cases z
     | nil=>
       exact h.cast fun a=>by rw[y,k.2];omega
 | j::js,os,vs,env,σ,R,Wc,Y,h,hn,hu,e,k,y=>by
   cases vs with
   |nil=>cases e
   | cons v vs=>
     rw[aO,aO,List.cons.injEq]at e;cases os with
     |nil=>rw[OsAt.nil]at k;cases k.1
     | cons o os=>
       obtain⟨B,r,d,C,z,l,m,n⟩:=k;cases z;rw[dC]at hn;obtain⟨x,p,D,b,q,t,u⟩:=h.focus (hu j cC);have w:∀a,p a=0:=q;have A:x=some v:=by rw[e.1]at b;exact(Option.some.inj b).symm
       subst A;have f:=u F H (.s (flag e1 j) o) (some v) d (fun a=>d a+R a) (Same.refl _) (fun _ _=>rfl) l fun a=>by rw[t,w];omega
       rw[yZ b]at f;simp only[putS];exact vVh f hn.2 (fun i g=>by rw[bH fun z=>hn.1 (by rw[z];exact g)];exact hu i (aM _ g)) e.2 m fun a=>by rw[y,n];omega
theorem qYs{e1:Ev}:∀{js:List Nat} {os:List O} {env:Ev} {i:Nat} {o:O},(putS e1 js os env)[i]?=some (.s true o)->(i∈js/\flag e1 i=true)\/env[i]?=some (.s true o)
 |[],os,env,i,o,h=>.inr (by simpa[putS] using h)
 |j::js,[],env,i,o,h=>.inr (by simpa[putS] using h)
 | j::js,o' ::os,env,i,o,h=>by
   simp only[putS]at h;rcases qYs h with⟨h1,a⟩|h1
   ·grind
   ·grind
theorem qYr{e1:Ev}:∀{js:List Nat} {os:List O} {env:Ev},(putS e1 js os env).length =env.length
 |[],os,env=>by simp[putS]
 |j::js,[],env=>by simp[putS]
 |j::js,o' ::os,env=>by simp only[putS];rw[qYr,bS]
theorem qXv{u:V}{x:D}(h:DAt K c F u x):j8 K c F H (.s io (.fz x)) (some u) (fun _=>0):=by
 show OAt K c F H (.fz x) u (fun _=>0);rw[OAt.fz];grind
theorem vX2:∀{ls:List Nat} {lo:List O} {vs:List V} {L:Fp} {i:Nat} {o:O},OsAt K c F H lo vs L->ls.map (fun j=>σ[j]?)=vs.map (fun v=>some (some v))->getL ls lo i=some o->∃(v:V) (Z R:Fp),σ[i]?=some (some v)/\OAt K c F H o v Z/\∀a,L a=Z a+R a
 |[],lo,vs,L,i,o,h,e,g=>by cases lo <;> simp[getL]at g
 |j::js,[],vs,L,i,o,h,e,g=>by simp[getL]at g
 |j::js,o0::lo,[],L,i,o,h,e,g=>by cases e
 | j::js,o0::lo,v::vs,L,i,o,h,e,g=>by
   rw[aO,aO,List.cons.injEq]at e;obtain⟨s,r,f,k,z,b,l,d⟩:=h;cases z;simp only[getL]at g;by_cases q:j=i
   ·rw [if_pos q] at g;cases g;exact⟨v,f,k,by rw[←q];exact e.1,b,d⟩
   ·rw [if_neg q] at g;obtain⟨w,Z,R,m,n,p⟩:=vX2 l e.2 g;exact⟨w,Z,fun a=>f a+R a,m,n,fun a=>by rw[d,p];(try dsimp only);omega⟩
theorem mkArgs_at{ls:List Nat}{lo:List O}{lv:List V}{L:Fp}{m:Hp}(n:OsAt K c F H lo lv L)(el:ls.map (fun j=>σ[j]?)=lv.map (fun v=>some (some v)))(tb:TabF c m)(q:∀a,L a≠0->m a=H a)(f:Same F m):∀{as:List Am} {hs:List Hn} {us:List V} {os:List O} {args:Ev} {Wc:Fp},jX K c F σ H us hs->OsAt K c F H os (qQa as us) Wc->y9 ls lo as hs os=some args->
  SlAt K c m H args (us.map some) Wc/\args.length=as.length
 | [],[],us,os,args,Wc,hh,ho,e=>by
   cases e;cases us with
   |cons u us=>exact hh.elim
   | nil=>
     cases os with
     |cons o os=>rw[OsAt.cons]at ho;obtain⟨_,_,_,_,z,_⟩:=ho;cases z
     |nil=>rw[OsAt.nil]at ho;exact⟨⟨⟨rfl,tb⟩,ho.2⟩,rfl⟩
 | .v s::as, .d x::hs,us,os,args,Wc,hh,ho,e=>by
   cases us with
   |nil=>exact hh.elim
   | cons u us=>
     obtain⟨r,g,h⟩:=bnd e;cases h;obtain⟨k,l⟩:=mkArgs_at n el tb q f (as:=as) (hs:=hs) hh.2 ho g;exact⟨⟨some u,us.map some,fun _=>0,Wc,rfl,qXv (DAt.same f hh.1),k,fun a=>by(try dsimp only);omega⟩,by rw[aK,aK,l]⟩
 | .b s::as, .d x::hs,us,os,args,Wc,hh,ho,e=>by
   cases us with
   |nil=>exact hh.elim
   | cons u us=>
     obtain⟨r,g,h⟩:=bnd e;cases h;obtain⟨k,l⟩:=mkArgs_at n el tb q f (as:=as) (hs:=hs) hh.2 ho g;exact⟨⟨some u,us.map some,fun _=>0,Wc,rfl,qXv (DAt.same f hh.1),k,fun a=>by(try dsimp only);omega⟩,by rw[aK,aK,l]⟩
 | .b s::as, .p i π::hs,us,os,args,Wc,hh,ho,e=>by
   cases us with
   |nil=>exact hh.elim
   | cons u us=>
     obtain⟨N,C,e⟩:=bnd e;obtain⟨o,D,e⟩:=bnd e;obtain⟨r,g,h⟩:=bnd e;cases h;obtain⟨k,l⟩:=mkArgs_at n el tb q f (as:=as) (hs:=hs) hh.2 ho g;have t:vI H σ i π=some u:=hh.1;have E:DAt K c m u (fzO o):=by
      obtain⟨v,Z,R,g1,G,I⟩:=vX2 n el C;obtain⟨J,B,P,w,y,A,Q⟩:=OAt.focus G D;have:J=u:=by
       unfold vI at t;rw[g1]at t;exact Option.some.inj (w.symm.trans t)
      subst this;exact y.dat f fun a z=>q a (by rw[I,A];omega)
     exact⟨⟨some u,us.map some,fun _=>0,Wc,rfl,qXv E,k,fun a=>by(try dsimp only);omega⟩,by rw[aK,aK,l]⟩
 | .io i::as, .p j []::hs,us,os,args,Wc,hh,ho,e=>by
   cases us with
   |nil=>exact hh.elim
   | cons u us=>
     cases os with
     |nil=>cases e
     | cons o os=>
       obtain⟨r,g,h⟩:=bnd e;cases h;rw[show qQa (.io i::as) (u::us)=u::qQa as us from rfl,OsAt.cons]at ho;obtain⟨v,S,B,M,z,w,y,A⟩:=ho;cases z;obtain⟨k,l⟩:=mkArgs_at n el tb q f (as:=as) (hs:=hs) hh.2 y g;exact⟨⟨some u,us.map some,B,M,rfl,w.keep f fun _ _=>rfl,k,A⟩,by rw[aK,aK,l]⟩
 |.v _::_,.p _ _::_,_,_,_,_,_,_,e=>by cases e
 |.io _::_,.d _::_,_,_,_,_,_,_,e=>by cases e
 |.io _::_,.p _ (_::_)::_,_,_,_,_,_,_,e=>by cases e
 |[],_::_,_,_,_,_,_,_,e=>by cases e
 |.v _::_,[],_,_,_,_,_,_,e=>by cases e
 |.b _::_,[],_,_,_,_,_,_,e=>by cases e
 |.io _::_,[],_,_,_,_,_,_,e=>by cases e
theorem outOs_at:∀{as:List Am} {e:Ev} {us:List V} {os:List O} {W:Fp},SlAt K c F H e (us.map some) W->qW5 as e=some os->∃W',OsAt K c F H os (qQa as us) W' /\∀a,W' a<=W a
 | [],[],us,os,W,h,e=>by
   cases e;have:us=[]:=by simpa using h.1.1
   exact⟨fun _=>0,OsAt.nil.mpr ⟨rfl,fun _=>rfl⟩,fun _=>eJ _⟩
 | .io i::as, .s true o::e,us,os,W,h,eq=>by
   obtain⟨r,p,q⟩:=bnd eq;cases q;obtain⟨x,t,l,n,z,b,f,d⟩:=h;cases us with
   |nil=>cases z
   | cons u us=>
     rw[aO,List.cons.injEq]at z;obtain⟨m,g⟩:=z;subst m g;obtain⟨W',j,k⟩:=outOs_at f p;exact⟨fun a=>l a+W' a,OsAt.cons.mpr ⟨u,_,l,W',rfl,b,j,fun _=>rfl⟩,fun a=>by have:=k a;rw[d];(try dsimp only);omega⟩
 | .v _::as,s::e,us,os,W,h,eq=>by
   obtain⟨x,t,l,n,z,b,f,d⟩:=h;cases us with
   |nil=>cases z
   | cons u us=>
     rw[aO,List.cons.injEq]at z;obtain⟨m,g⟩:=z;subst g;obtain⟨W',j,k⟩:=outOs_at (as:=as) f (by simpa[qW5] using eq);exact⟨W',j,fun a=>by have:=k a;rw[d];omega⟩
 | .b _::as,s::e,us,os,W,h,eq=>by
   obtain⟨x,t,l,n,z,b,f,d⟩:=h;cases us with
   |nil=>cases z
   | cons u us=>
     rw[aO,List.cons.injEq]at z;obtain⟨m,g⟩:=z;subst g;obtain⟨W',j,k⟩:=outOs_at (as:=as) f (by simpa[qW5] using eq);exact⟨W',j,fun a=>by have:=k a;rw[d];omega⟩
 |.io _::_,.un ::_,_,_,_,_,eq=>by cases eq
 |.io _::_,.s false _::_,_,_,_,_,eq=>by cases eq
 |[],_::_,_,_,_,_,eq=>by cases eq
 |.v _::_,[],_,_,_,_,eq=>by cases eq
 |.b _::_,[],_,_,_,_,eq=>by cases eq
 |.io _::_,[],_,_,_,_,eq=>by cases eq
theorem qQe{ls:List Nat}{lo:List O}:∀{as:List Am} {hs:List Hn} {us:List V} {os:List O} {args:Ev},jX K c F σ H us hs->y9 ls lo as hs os=some args->(yB as hs).map (fun j=>σ[j]?)=(qQa as us).map (fun v=>some (some v))
 |[],[],us,os,args,hh,_=>by cases us <;> rfl
 | .io i::as, .p j []::hs,us,os,args,hh,e=>by
   cases us with
   |nil=>exact hh.elim
   | cons u us=>
     cases os with
     |nil=>cases e
     | cons o os=>
       obtain⟨r,a,_⟩:=bnd e;have w:vI H σ j []=some u:=hh.1;have f:σ[j]?=some (some u):=by
        unfold vI at w;cases e:σ[j]? with
        |none=>grind
        | some y=>
          rw[e]at w;cases y with
          |none=>cases w
          | some v=>have:v=u:=by cases v <;> simpa [walk] using w
                    rw[this]
       simp only[yB,qQa,aO];rw[f,qQe hh.2 a]
 | .v s::as, .d x::hs,us,os,args,hh,e=>by
   cases us with
   |nil=>exact hh.elim
   | cons u us=>
     obtain⟨r,a,_⟩:=bnd e;simp only[yB];exact qQe hh.2 a
 | .b s::as, .d x::hs,us,os,args,hh,e=>by
   cases us with
   |nil=>exact hh.elim
   | cons u us=>
     obtain⟨r,a,_⟩:=bnd e;simp only[yB];exact qQe hh.2 a
 | .b s::as, .p i π::hs,us,os,args,hh,e=>by
   cases us with
   |nil=>exact hh.elim
   | cons u us=>
     obtain⟨g,_,e⟩:=bnd e;obtain⟨o,_,e⟩:=bnd e;obtain⟨r,a,_⟩:=bnd e;simp only[yB];exact qQe hh.2 a
 |.v _::_,.p _ _::_,_,_,_,_,e=>by cases e
 |.io _::_,.d _::_,_,_,_,_,e=>by cases e
 |.io _::_,.p _ (_::_)::_,_,_,_,_,e=>by cases e
 |[],_::_,_,_,_,_,e=>by cases e
 |.v _::_,[],_,_,_,_,e=>by cases e
 |.b _::_,[],_,_,_,_,e=>by cases e
 |.io _::_,[],_,_,_,_,e=>by cases e
end
noncomputable def qWk(lo:List O)(r:O)(os:List O):Bool:=lo.isEmpty || (qX8 r && flatOs os) || (lo.all dcFz && ndO r && ndOs os)
noncomputable def xX(F:Fn)(as:List Am)(hs:List Hn)(env:Ev):Res (O×Ev):=(opt (yR (jB as hs) env)).bind fun b=>(opt (yR (yB as hs) b.2)).bind fun t=>(opt (y9 (jB as hs) b.1 as hs t.1)).bind fun a=>(F a).bind fun q=>(opt (qW5 as q.2)).bind fun c=>
 cond (qWk b.1 q.1 c) (.ok (q.1,putS env (jB as hs) b.1 (putS env (yB as hs) c t.2))) .no
noncomputable def callS(F:Fn)(as:List Am):SE:=fun a=>(evOs (as.map Am.o) a).bind fun r=>xX F as r.1 r.2
theorem vXk{e1:Ev}:∀{js:List Nat} {os:List O} {env:Ev} {i:Nat},i∉js->(putS e1 js os env)[i]?=env[i]?
 |[],os,env,i,_=>by cases os <;> rfl
 |j::js,[],env,i,_=>rfl
 | j::js,o::os,env,i,h=>by
   simp only[putS];rw[vXk fun z=>h (aM _ z),bH fun z=>h (by rw[z];exact cC)]
theorem qVh{K:aQ}{hs:List Hn}{F:Fn}(X:Cf K c env σ H B W)(hh:jX K c (hide (hd2 B W) H) σ H us hs)(hw:(xX F as hs env).wp (fun r=>∀u H' W' Z,Got K c env σ H B W r.2 H' W' Z r.1 u->Q u H') (erP K c E H B W)):spD K c as.length F us H Q E:=by
 obtain⟨t0,e0,w0⟩:=qC hw
 obtain⟨t,e1,w1⟩:=qC w0
 obtain⟨D,e2,w2⟩:=qC w1
 obtain⟨J,eL⟩:=t0
 obtain⟨os,eR⟩:=t
 obtain⟨lv,L,R1,l1,l2,l3,l4,l5,l6,l7,l8⟩:=qYm X.at_ e0
 obtain⟨vs,T,R,a1,a2,a3,a4',a5,a6,a7,a8⟩:=qYm l3 e1
 have M:∀a,W a=L a+(T a+R a):=fun a=>by rw[l4,a4']
 have hv:=qQe hh e2
 have hvs:vs=qQa as us:=by
  have e:vs.map (fun v=>some (some v))=(qQa as us).map (fun v=>some (some v)):=a1.symm.trans hv
  exact List.map_inj_right (f:=fun v:V=>some (some v)) (fun x y h=>Option.some.inj (Option.some.inj h)) |>.mp e
 subst hvs
 have nd:∀a,B a+(L a+(T a+R a))<=1:=fun a=>by have:=X.nd a;rw[M]at this;exact this
 let G:Fp:=fun a=>B a+R a
 have l:∀a,G a=B a+R a:=fun _=>rfl
 have w:Same (hide (hd2 B W) H) (hide (hd2 G T) H):=zG fun a z=>by have:=M a;have:=l a;dsimp only[hd2]at *;omega
 have Lv:∀a,L a≠0->hide (hd2 G T) H a=H a:=fun a q=>vM (by have:=nd a;have:=l a;dsimp only[hd2];omega)
 obtain⟨sA,la⟩:=mkArgs_at l2 l1 (X.at_.tab.same w) Lv w (as:=as) (hs:=hs) hh a2 e2
 have A:∀a,B a+(L a+R a)≠0->∃o,H a=some o/\Hb o:=fun a z=>X.hbs (by rw[M];omega)
 have cfc:Cf K c D (us.map some) H G T:=⟨sA,fun a=>by have:=nd a;rw[l];omega,fun a z=>A a (by rw[l]at z;omega)⟩
 refine⟨D,G,T,la,cfc,wp_mono (fun q w3 v H' W' Z g=>?_) (fun C fs he H2 Y ox sx er=>?_) (qY.mp w2)⟩
 rotate_left
 · -- an error:what lies aside stays
   have eq:hide (hd2 B fun a=>Y a+R a) H2=hide (hd2 G Y) H2:=zI fun a=>by have:=l a;dsimp only[hd2];omega
   exact he H2 (fun a=>Y a+R a) ox ⟨by rw[eq];exact w.trans sx.same,fun a z=>sx.by_ a (by rw[l];omega),sx.dom⟩ (by rw[eq];exact er)
 obtain⟨os',e3,w4⟩:=qC w3
 obtain⟨hf,w5⟩:=v7 w4
 have n:∀a,R a≠0->H' a=H a:=fun a z=>g.st.by_ a (by rw[l];omega)
 have b:∀a,L a≠0->H' a=H a:=fun a z=>by
  obtain⟨o,h1,_⟩:=A a (by omega)
  have d:=g.st.same a o (by rw[Lv a z];exact h1)
  rw[(jH d).2,h1]
 have p:∀a,B a≠0->H' a=H a:=fun a z=>g.st.by_ a (by rw[l];omega)
 obtain⟨m,b1,U⟩:=outOs_at g.cf.at_ e3
 have newL:∀a,L a≠0->W' a+Z a=0:=fun a z=>by
  by_cases N:W' a+Z a=0
  ·exact N
  ·rcases g.st.new a (by dsimp only [hd2];omega) with q1 | q1
   ·have:=nd a;omega
   ·obtain⟨o,h1,_⟩:=A a (by omega);rw[q1]at h1;cases h1
 have nd4:∀a,B a+Z a+(L a+(R a+m a))<=1:=fun a=>by
  have n1:=g.cf.nd a
  have n2:=U a
  have n3:=nd a
  have n4:=l a
  dsimp only[hd2]at n1
  by_cases z:L a=0
  ·omega
  ·have:=newL a z;omega
 have S:Same (hide (hd2 B W) H) (hide (hd2 (hd2 B Z) (fun a=>L a+(R a+m a))) H'):=fun a o h=>by
  obtain⟨z1,z2⟩:=jH h
  obtain⟨z3,z4⟩:=jH (g.st.same a o (w a o h))
  rw[vM]
  ·exact z4
  ·have:=M a;have:=U a
   dsimp only[hd2]at *
   omega
 have kF:∀(P:HO->Prop),(∀a,L a≠0->∃o,H a=some o/\P o)->∀a o,hide (hd2 (hd2 G Z) W') H' a=some o->¬P o->hide (hd2 (hd2 B Z) (fun a=>L a+(R a+m a))) H' a=some o:=fun P hP a o q1 q2=>by
  obtain⟨z1,z2⟩:=jH q1
  rw[vM]
  ·exact z2
  ·have:=U a;have:=l a
   by_cases z:L a=0
   ·dsimp only[hd2]at *;omega
   ·obtain⟨o2,h1,d⟩:=hP a z
    rw[b a z,h1]at z2
    cases z2
    exact absurd d q2
 have fin:OAt K c (hide (hd2 (hd2 B Z) (fun a=>L a+(R a+m a))) H') H' q.1 v Z/\OsAt K c (hide (hd2 (hd2 B Z) (fun a=>L a+(R a+m a))) H') H' os' (qQa as us) m:=by
  unfold qWk at hf
  rw[Bool.or_eq_true,Bool.or_eq_true]at hf
  rcases hf with(hf|hf)|hf
  ·have hl0:J=[]:=List.isEmpty_iff.mp hf
   subst hl0
   rw[OsAt.nil]at l2
   have sm:Same (hide (hd2 (hd2 G Z) W') H') (hide (hd2 (hd2 B Z) (fun a=>L a+(R a+m a))) H'):=zG fun a z=>by have:=U a;have:=l2.2 a;have:=l a;dsimp only[hd2]at *;omega
   exact⟨g.at_.keep sm fun _ _=>rfl,b1.keep sm fun _ _=>rfl⟩
  ·rw [aP] at hf
   have k:=kF Hb fun a z=>by obtain⟨o,h1,d⟩:=A a (by omega);exact⟨o,h1,d⟩
   exact⟨g.at_.flat k hf.1,b1.flat k hf.2⟩
  ·rw [aP,aP] at hf
   have hP:∀{J:List O} {lv:List V} {L:Fp},J.all dcFz=true->OsAt K c (hide (hd2 B W) H) H J lv L->∀a,L a≠0->∃o,H a=some o/\isDK o:=fun {J}=>by
    induction J with
    |nil=>intro lv L _ h a z;rw[OsAt.nil]at h;exact absurd (h.2 a) z
    | cons o J ih=>
      intro lv L hl h a z
      rw[dM,aP]at hl
      rw[OsAt.cons]at h
      obtain⟨v,r,Z1,Z2,_,p1,p2,p3⟩:=h
      by_cases y:Z1 a=0
      ·exact ih hl.2 p2 a (by rw[p3]at z;omega)
      ·exact vYc p1 hl.1 a y
   have k:=kF isDK (hP hf.1.1 l2)
   exact⟨g.at_.nd' k hf.1.2,b1.nd' k hf.2⟩
 have sl3:=vVh (e1:=env) (a3.keep S n) a5 a6 a1 fin.2 (Y:=fun a=>R a+m a) fun _=>rfl
 have sl4:=vVh (e1:=env) sl3 l5 (fun j hj=>by
  by_cases z:j∈yB as hs
  · -- taken twice:not so
    exfalso
    have:eL[j]?=some .un :=l6 j hj
    have key:∀{js:List Nat} {env:Ev} {q:List O×Ev},env[j]?=some .un ->j∈js->yR js env=some q->False:=by
     intro js
     induction js with
     |nil=>intro env q _ z;simp at z
     | cons i is ih=>
       intro env q hu z I
       simp only[yR]at I
       by_cases hi:i=j
       ·subst hi;rw[hu]at I;cases I
       ·rcases aA.mp z with z | z
        ·exact hi z.symm
        ·cases e3:env[i]? with
         |none=>rw[e3]at I;cases I
         | some s=>
           rw[e3]at I
           cases s with
           |un=>cases I
           | s io o=>
             obtain⟨q',e4,_⟩:=bnd I
             exact ih (by rw[bH hi];exact hu) z e4
    exact key this z e1
  ·rw[vXk z,a7 j z];exact l6 j hj) l1 (l2.keep S b) (Y:=fun a=>L a+(R a+m a)) fun a=>by(try dsimp only);omega
 refine w5 v H' (fun a=>L a+(R a+m a)) Z ⟨⟨?_,p,fun a z=>?_,g.st.dom,fun a z1 z2=>?_,fun i o h=>?_,by rw[qYr,qYr,a8,l8]⟩,⟨sl4,fun a=>nd4 a,fun a z=>?_⟩,fin.1⟩
 ·rw [show hide (hd2 B (hd2 (fun a=>L a + (R a + m a)) Z)) H' =hide (hd2 (hd2 B Z) (fun a=>L a + (R a + m a))) H' from zI fun a=>by dsimp only [hd2];omega]
  exact S
 ·by_cases N:L a + R a=0
  ·rcases g.st.new a (by have:=U a;dsimp only [hd2] at *;omega) with q1 | q1
   ·exact .inl (by rw[M];omega)
   ·exact .inr q1
  ·exact .inl (by rw[M];omega)
 ·by_cases q1:L a=0
  ·by_cases N:R a=0
   ·exact g.st.pin a (by rw[M]at z1;omega) (by have:=U a;dsimp only[hd2]at *;omega)
   ·exact .of (n a N)
  ·exact .of (b a q1)
 ·refine⟨?_,rfl⟩
  have fl:flag env i=true->∃o0,env[i]?=some (.s true o0):=fun d=>by
   unfold flag at d
   split at d
   ·rename_i io o' e
    rw[d]at e
    exact⟨o',e⟩
   ·cases d
  rcases qYs h with⟨h1,d⟩|h1
  ·exact fl d
  ·rcases qYs h1 with⟨h1,d⟩ | h1
   ·exact fl d
   ·by_cases z:i∈yB as hs
    ·rw[a6 i z]at h1;cases h1
    ·rw [a7 i z] at h1
     by_cases y:i∈jB as hs
     ·rw[l6 i y]at h1;cases h1
     ·rw[l7 i y]at h1;exact⟨o,h1⟩
 ·by_cases N:B a=0
  ·exact g.cf.hb a (by have:=l a;dsimp only[hd2]at *;omega)
  ·rw[p a N];exact X.hb a N
theorem zVk{K:aQ}{F:Fn}(h:tE K c E (callS F as) σ H Q):zXf (spD K c as.length F) [] E (tOs K c E (as.map Am.o)) σ H Q:=by
 obtain⟨a,B,W,b,w⟩:=h;refine qVj b (qY.mp w) fun k d l m n g=>?_
 rw[bK];exact qVh g.cf g.at_ (wp_mono (fun r q v e f Z i=>q v e f Z (i.back g.st)) (fun _ _ j=>j.back g.st) d)
section
variable{X:Cx}{c:Nat->aZ}{E:XK}{k:Nat}{f:aZ}{fd:bQ}{ps:List Str}{x:Str}{p pos:Pos}{e:Expr}{es:List Expr}{F:Fn}{as:List Am}
theorem vVn(G:FnOk X.prog X.w X.K X.mg X.base (CXd X.prog X.w) k f fd ps (spD X.K c as.length F))(d:Room k X.A)(g:Gl X x)(i:X.mg x=some (.ref f))(hk:cD X.K (.ref f)=true)(hb:wK X.K fd ps [])(j:jP (CXd X.prog X.w) X E)(l:OsD X c E (e::es) (as.map Am.o))(a:(x == ("__debug__":Str))=false:=by decide)(m:aX (e::es) X.env=(false,eval e X.env)::aX es X.env:=by rfl)(b:(cV pos (aX es X.env)).any (·.1)=false:=by rfl):
  ED X c E (.Call (.Name x p) (e::es) [] pos) (callS F as):=
 ⟨PE.imp (zJ6 G d g i hk hb .nil j l.h a m b) fun _ _ _ h=>zVk h⟩
theorem yU(h:PE X e (tVar i)):OD X c E e (Am.io i).o :=by
 refine⟨PE.imp h fun σ H Q=>?_⟩;rintro⟨b,B,W,d,f,a,q⟩;simp only[pIo]at a;cases e1:b[i]? with
 |none=>grind
 | some s=>
   rw[e1]at a;cases s with
   |un=>cases a
   | s io o=>
     cases a;obtain⟨x,j,R,d,g,k,l⟩:=f.focus e1;cases x with
     |none=>exact g.elim
     |some v=>exact⟨v,d,q v (by show vI H σ i []=some v;unfold vI;rw[d];simp[walk])⟩
end
noncomputable def hasF(m:Str)(fs:List Str):Bool:=fs.any fun g=>decide (m=g)
noncomputable def qJp(env:Ev)(h:Hn)(C:Nat)(m:Str):Bool:=match rsv env h with
 |some (.nd (.obj C' fs) _)=>C' == C &&!hasF m fs
 |_=>false
noncomputable def wC(C:Nat)(m:Str)(F:Fn)(a0:Am)(as:List Am):SE:=fun b=>(evO a0.o b).bind fun a=>cond (qJp a.2 a.1 C m && (a.1.st || (as.map Am.o).all Oe.isP)) ((evOs (as.map Am.o) a.2).bind fun r=>xX F (a0::as) (a.1::r.1) r.2) .no
theorem qWw:∀{fs:List Str} {vs:List V},hasF m fs=false->(fs.zip vs).lookup m=none
 |[],vs,_=>by simp
 |g::r,[],_=>by simp
 | g::r,v::vs,h=>by
   unfold hasF at h;rw[List.any_cons,Bool.or_eq_false_iff]at h;rw[bI,List.lookup,show(m == g)=false from beq_eq_false_iff_ne.mpr (of_decide_eq_false h.1)];exact qWw h.2
section
variable{K:aQ}{c:Nat->aZ}{E:XK}
theorem vZh{F:Fn}(h:tE K c E (wC C m F a0 as) σ H Q):vWy (c C) m (spD K c (a0::as).length F) [] E (tO K c E a0.o) (tOs K c E (as.map Am.o)) σ H Q:=by
 obtain⟨t,B,W,x,w⟩:=h;refine qQ5 x (qY.mp w) fun l y u z R g1=>?_
 obtain⟨hs,A⟩:=v7 y;rw[aP]at hs;obtain⟨b,f⟩:=hs;have obj:∃a i fs,u=.ref a/\z a=some (.ins (c C) i fs)/\fs.lookup m=none:=by
  unfold qJp at b;split at b
  ·rename_i D fs ds e;rw[aP,dG]at b;obtain⟨p,S,rfl,⟨T,i,j⟩,n⟩:=(j7 g1.cf g1.at_ e).un;have:D =C:=by simpa using b.1
   subst this;exact⟨p,i,_,rfl,j,qWw b.2⟩
  ·cases b
 obtain⟨a,i,fs,rfl,j,n⟩:=obj;refine⟨a,i,fs,rfl,j,n,?_⟩;refine qVj g1.cf (wp_mono (fun _ q=>q) (fun _ _ k=>k.back g1.st) (qY.mp A)) fun r G I s J d=>?_
 rw[bK];have L:jX K c (hide (hd2 B J) s) σ s (.ref a::I) (l.1::r.1):=by
  refine⟨?_,d.at_⟩;cases e:l.1.st with
  |true=>exact g1.at_.step d.st.same e
  | false=>
    rw[e]at f;obtain⟨M,N,_⟩:=d.pu (by simpa using f);rw[M,N];exact g1.at_
 exact qVh d.cf L (wp_mono (fun r q v O P Z g=>q v O P Z (g.back (g1.st.trans d.st))) (fun _ _ k=>k.back (g1.st.trans d.st)) G)
end
section
variable{X:Cx}{c:Nat->aZ}{E:XK}{k:Nat}{f:aZ}{fd:bQ}{ps:List Str}{x m:Str}{p pos apos:Pos}{e o:Expr}{es:List Expr}{F:Fn}{a0:Am}{as:List Am}{C:Nat}
theorem vX7(d:OD X c E o a0.o)(g:Cls X.K (c C))(i:Meth X.K (c C) m f)(G:FnOk X.prog X.w X.K X.mg X.base (CXd X.prog X.w) k f fd ps (spD X.K c (a0::as).length F))(j:Room k X.A)(hb:wK X.K fd ps [])(l:jP (CXd X.prog X.w) X E)(n:OsD X c E (e::es) (as.map Am.o))(a:aX (e::es) X.env=(false,eval e X.env)::aX es X.env:=by rfl)(b:(cV pos (aX es X.env)).any (·.1)=false:=by rfl)(p:eval (.Call (.Attribute o m apos) (e::es) [] pos) X.env=(do
   let ov ←eval o X.env;standAt apos.atName;let (f,first) ←holding [ov] (getMethod ov m pl);callWith pos f first (cV pos (aX (e::es) X.env)) (backToKw pos (keywordEach [] X.env))):=by rfl):
  ED X c E (.Call (.Attribute o m apos) (e::es) [] pos) (wC C m F a0 as):=
 ⟨PE.imp (vXo d.h g i G j hb .nil l n.h a b p) fun _ _ _ h=>vZh h⟩
theorem zZv(a:OD X c E o a0.o)(b:Cls X.K (c C))(d:Meth X.K (c C) m f)(G:FnOk X.prog X.w X.K X.mg X.base (CXd X.prog X.w) k f fd ps (spD X.K c 1 F))(e:Room k X.A)(hb:wK X.K fd ps [])(g:jP (CXd X.prog X.w) X E)(i:eval (.Call (.Attribute o m apos) [] [] pos) X.env=(do
   let ov ←eval o X.env;standAt apos.atName;let (f,first) ←holding [ov] (getMethod ov m pl);callWith pos f first (cV pos (aX [] X.env)) (backToKw pos (keywordEach [] X.env))):=by rfl):
  ED X c E (.Call (.Attribute o m apos) [] [] pos) (wC C m F a0 []):=
 ⟨PE.imp (zVz a.h b d G e hb .nil g i) fun _ _ _ h=>vZh (as:=[]) h⟩
end
noncomputable def popL(env:Ev)(n:Nat):Option (O×Ev):=match env[n]? with
 |some (.s _ o)=>some (o,env.take n)
 |_=>none
noncomputable def qXa(C:Nat)(F:Fn)(as:List Am):SE:=fun a=>(evOs (as.map Am.o) a).bind fun r=>(xX F (.io r.2.length::as) (.p r.2.length []::r.1) (r.2 ++ [.s false (.ow (.obj C []) [])])).bind fun q=>match q.1 with
 |.fz .non =>opt (popL q.2 r.2.length)
 |_=>.no
section
variable{K:aQ}{c:Nat->aZ}{E:XK}
theorem qK9(a:Same H H'):∀{π:List Nat} {v u:V},walk H v π=some u->walk H' v π=some u
 |[],v,u,h=>by cases v <;> simpa[walk] using h
 | j::π,v,u,h=>by
   cases v with
   | ref p=>
     simp only[walk]at h⊢;cases e:H p with
     |none=>grind
     | some o=>
       rw[e]at h;rw[a p o e];dsimp only at h⊢;cases e2:(kids o)[j]? with
       |none=>grind
       |some v=>rw[e2]at h;exact qK9 a h
   |_=>cases h
theorem jX.push{F:Hp}{y:L2.St}(b:Same F F')(f:Same H H'):∀{us:List V} {hs:List Hn},jX K c F σ H us hs->jX K c F' (σ ++ y) H' us hs
 |[],[],_=>trivial
 | u::us,h::hs,a=>by
   refine⟨?_,jX.push b f a.2⟩;cases h with
   |d x=>exact DAt.same b a.1
   | p i π=>
     have w:vI H σ i π=some u:=a.1;show vI H' (σ ++ y) i π=some u;unfold vI at w⊢;cases e:σ[i]? with
     |none=>grind
     | some x=>
       rw[e]at w;rw[List.getElem?_append_left (aD.mp e).1,e];cases x with
       |none=>cases w
       |some v=>exact qK9 f w
 |[],_::_,a=>a.elim
 |_::_,[],a=>a.elim
theorem SlAt.pop{F:Hp}:∀{env:Ev} {σ:L2.St} {s:Slot} {x:Option V} {Z:Fp} {n:Nat},SlAt K c F H env (σ ++ [x]) Z->env[n]?=some s->n=σ.length->∃f R,j8 K c F H s x f/\SlAt K c F H (env.take n) σ R/\∀a,Z a=f a+R a
 |[],σ,s,x,Z,n,h,e,hn=>by simp at e
 | s0::env,[],s,x,Z,n,h,e,hn=>by
   subst hn;obtain⟨y,r,f,j,i,b,g,d⟩:=h;cases i;cases e;have:env=[]:=by
    cases env with
    |nil=>rfl
    |cons s1 env=>obtain⟨_,_,_,_,z,_⟩:=g;cases z
   subst this;exact⟨f,j,b,⟨⟨rfl,g.1.2⟩,g.2⟩,d⟩
 | s0::env,y::σ,s,x,Z,n,h,e,hn=>by
   subst hn;obtain⟨p,r,f,j,i,b,g,d⟩:=h;cases i;obtain⟨k,R,l,m,o⟩:=SlAt.pop (σ:=σ) g (by simpa using e) rfl;exact⟨k,fun a=>f a+R a,l,⟨_,_,f,R,rfl,b,m,fun _=>rfl⟩,fun a=>by rw[d,o];(try dsimp only);omega⟩
theorem vZi{F:Fn}(h:tE K c E (qXa C F as) σ H Q):vK8 (c C) (spD K c (as.length+1) F) [] E (tOs K c E (as.map Am.o)) σ H Q:=by
 obtain⟨N,B,W,cf,w⟩:=h;refine qVj cf (qY.mp w) fun r w1 us j l g=>?_
 intro x b hx O P;rw[bK];have t:Same j (upd j b (.own x)):=.upd O;have D:upd j b (.own x) x=none:=by rw[qF fun z=>P z.symm];exact hx
 have G:Same (upd j b (.own x)) (upd (upd j b (.own x)) x (.ins (c C) b [])):=.upd D;have S:=g.cf.grow t;have A:Got K c r.2 σ (upd j b (.own x)) B l r.2 (upd (upd j b (.own x)) x (.ins (c C) b [])) l (one x) (.ow (.obj C []) ([].map .fz)) (.ref x):=Got.lay S D G (k:=.obj C []) (vs:=[]) (ds:=[]) ⟨rfl,b,upd_same⟩ .nil;generalize hH:upd (upd j b (.own x)) x (.ins (c C) b [])=H2 at *;have y:Step r.2 σ j B l r.2 σ H2 (hd2 l (one x)):=(Step.grow g.cf t).trans A.st;have lenσ:σ.length=r.2.length:=g.cf.len.symm;have T:hide (hd2 (hd2 B (one x)) l) H2=hide (hd2 B (hd2 l (one x))) H2:=zI fun a=>by dsimp only[hd2];omega
 have U:Cf K c (r.2 ++ [.s false (.ow (.obj C []) [])]) (σ ++ [some (.ref x)]) H2 B (hd2 l (one x)):=by
  refine⟨?_,fun a=>by have:=A.cf.nd a;dsimp only[hd2]at *;omega,fun a z=>A.cf.hb a (by dsimp only[hd2];omega)⟩;rw[←T];refine(A.cf.at_.append (env' :=[.s false (.ow (.obj C []) [])]) (σ' :=[some (.ref x)]) (Z' :=one x) ⟨some (.ref x),[],one x,fun _=>0,rfl,A.at_,⟨⟨rfl,A.cf.at_.tab⟩,fun _=>rfl⟩,fun a=>by(try dsimp only);omega⟩)
 have hh:jX K c (hide (hd2 B (hd2 l (one x))) H2) (σ ++ [some (.ref x)]) H2 (.ref x::us) (.p r.2.length []::r.1):=by
  refine⟨?_,jX.push y.same (t.trans G) g.at_⟩;show vI H2 (σ ++ [some (.ref x)]) r.2.length []=some (.ref x);unfold vI;rw[eZ (by omega),show r.2.length - σ.length=0 by omega];rfl
 refine qVh (as:=.io r.2.length::as) U hh (wp_mono (fun q m v n L Z f=>?_) (fun C fs he=>?_) (qY.mp w1));rotate_left
 ·exact(he.back g.st).back y
 obtain⟨q1,q2⟩:=q;cases q1 with
 |ow k os=>exact m.elim
 | fz d=>
   cases d with
   | non=>
     have ev:=f.at_;have hv:v=.non :=by cases ev.1;rfl
     refine⟨hv,?_⟩;obtain⟨p,M,w3⟩:∃p,popL q2 r.2.length=some p/\∀u n L Z,Got K c N σ H B W p.2 n L Z p.1 u->Q u n :=by
      cases e:popL q2 r.2.length with
      |none=>dsimp only at m;rw[e]at m;exact m.elim
      |some p=>dsimp only at m;rw[e]at m;exact⟨p,rfl,m⟩
     unfold popL at M;split at M
     ·rename_i io o e2;cases M;obtain⟨V,R,h1,h2,I⟩:=SlAt.pop f.cf.at_ e2 lenσ.symm;have X:∀a,Z a=0:=ev.2;have J:hide (hd2 (hd2 B Z) L) n =hide (hd2 (hd2 B V) R) n :=zI fun a=>by dsimp only[hd2];rw[I,X];omega
      have Y:hide (hd2 B (hd2 R V)) n =hide (hd2 B (hd2 L Z)) n :=zI fun a=>by dsimp only[hd2];rw[I,X];omega
      refine w3 (.ref x) n R V ⟨(g.st.trans y).trans ⟨by rw[Y];exact f.st.same,f.st.by_,fun a z=>f.st.new a (by dsimp only[hd2]at *;rw[I];omega),f.st.dom,fun a z1 z2=>f.st.pin a z1 (by dsimp only[hd2]at *;rw[I];omega),fun i o' h=>?_,?_⟩,⟨by rw[←J];exact h2,fun a=>by have:=f.cf.nd a;dsimp only[hd2]at *;rw[I,X]at this;omega,fun a z=>?_⟩,by rw[←J];exact h1⟩
      ·have hi:i<r.2.length:=by
        grind
       rw[List.getElem?_take_of_lt hi]at h;obtain⟨⟨o0,k1⟩,k2⟩:=f.st.io i o' h;grind
      ·grind
      ·by_cases q0:B a=0
       ·exact h1.hb (by dsimp only[hd2]at z;omega)
       ·exact f.cf.hb a (by dsimp only[hd2];omega)
     ·cases M
   |_=>exact m.elim
end
section
variable{X:Cx}{c:Nat->aZ}{E:XK}{k:Nat}{f:aZ}{fd:bQ}{ps:List Str}{x:Str}{p pos:Pos}{e:Expr}{es:List Expr}{F:Fn}{as:List Am}{C:Nat}
theorem zW4(M:Mk X.K (c C) f)(G:FnOk X.prog X.w X.K X.mg X.base (CXd X.prog X.w) k f fd ps (spD X.K c (as.length+1) F))(d:Room (k+1) X.A)(g:Gl X x)(i:X.mg x=some (.ref (c C)))(hb:wK X.K fd ps [])(j:jP (CXd X.prog X.w) X E)(l:OsD X c E (e::es) (as.map Am.o))(a:(x == ("__debug__":Str))=false:=by decide)(m:aX (e::es) X.env=(false,eval e X.env)::aX es X.env:=by rfl)(b:(cV pos (aX es X.env)).any (·.1)=false:=by rfl):
  ED X c E (.Call (.Name x p) (e::es) [] pos) (qXa C F as):=
 ⟨PE.imp (zJ3 M G d g i hb .nil j l.h a m b) fun _ _ _ h=>vZi h⟩
theorem zZw(M:Mk X.K (c C) f)(G:FnOk X.prog X.w X.K X.mg X.base (CXd X.prog X.w) k f fd ps (spD X.K c 1 F))(b:Room (k+1) X.A)(d:Gl X x)(e:X.mg x=some (.ref (c C)))(hb:wK X.K fd ps [])(g:jP (CXd X.prog X.w) X E)(a:(x == ("__debug__":Str))=false:=by decide):ED X c E (.Call (.Name x p) [] [] pos) (qXa C F []):=
 ⟨PE.imp (zV0 M G b d e hb .nil g a) fun _ _ _ h=>vZi (as:=[]) h⟩
end
noncomputable abbrev lim:Nat:=1000000
theorem vQ5(h:n<=lim):n<aI:=Nat.lt_of_le_of_lt h (by decide)
section
variable{K:aQ}{c:Nat->aZ}{env env' :Ev}{σ:L2.St}{H H' :Hp}{B W Z:Fp}{i:Nat}{π:List Nat}{k:Kd}{os:List O}
theorem Cf.mut(x:Cf K c env σ H (hd2 B Z) W)(e:getE env i π=some (.ow k os)):∃p vs s,vI H σ i π=some (.ref p)/\OwAt c H p k vs/\OsAt K c (hide (hd2 (hd2 B Z) W) H) H os vs s/\
  ∀t n r g m l,OsAt K c (hide (hd2 (hd2 B Z) W) H) H n r g ->(∀a,g a+m a<=s a+Z a)->OwAt c (upd H p l) p t r ->Hb l->Pin (H p) (some l)->
   ∃W',Cf K c (setE env i π (.ow t n)) σ (upd H p l) (hd2 B m) W' /\Step env σ H B (hd2 W Z) (setE env i π (.ow t n)) σ (upd H p l) (hd2 W' m)/\
    ∀o v,OAt K c (hide (hd2 (hd2 B Z) W) H) H o v m->OAt K c (hide (hd2 (hd2 B m) W') (upd H p l)) (upd H p l) o v m:=by
 obtain⟨N,O,R,E,D,C,F⟩:=x.place e;rw[OAt.ow]at D;obtain⟨p,vs,s,rfl,b,G,d⟩:=D;refine⟨p,vs,s,E,b,G,fun t n r g m l I u J hb L=>?_⟩;have nd:∀a,B a+Z a+(one p a+s a+R a)<=1:=fun a=>by have:=x.nd a;rw[C,d]at this;dsimp only[hd2]at this;omega
 have P:B p=0/\Z p=0/\s p=0/\R p=0:=by have:=nd p;rw[wF]at this;omega
 have Q:g p=0/\m p=0:=by have:=u p;omega
 have w:∀a,(hd2 (hd2 B Z) W) a=B a+Z a+(one p a+s a+R a):=fun a=>by dsimp only[hd2];rw[C,d]
 have A:Same (hide (hd2 (hd2 B Z) W) H) (hide (hd2 (hd2 B m) (fun a=>(one p a+g a)+R a)) (upd H p l)):=zK fun a o z q=>by
  rw[w]at z;have:=u a;have ne:a≠p:=fun y=>by rw[y,wF]at z;omega
  exact⟨by dsimp only[hd2];omega,by rw[qF ne];exact q⟩
 have f:∀a,a≠p->upd H p l a=H a:=fun a z=>qF z
 refine⟨fun a=>(one p a+g a)+R a,F (upd H p l) (hd2 B m) _ (.ow t n) (fun a=>one p a+g a) A (fun _=>rfl) (fun a z=>f a fun y=>by rw[y]at z;omega) (OAt.ow.mpr ⟨p,r,g,rfl,J,I.keep A fun a z=>f a fun y=>by rw[y]at z;omega,fun _=>rfl⟩) (fun a=>?_) (fun a z=>?_),⟨?_,fun a z=>f a fun y=>by rw[y]at z;omega,fun a z=>.inl ?_,fun a z=>?_,fun a S T=>?_,fun j o q=>⟨qZv q,rfl⟩,qVc⟩,fun o v h=>h.keep A fun a z=>f a fun y=>by rw[y]at z;omega⟩
 ·have:=nd a;have:=u a;dsimp only[hd2];omega
 ·by_cases y:a=p
  ·subst y;exact⟨l,upd_same,hb⟩
  ·rw [f a y];by_cases q:B a=0
   ·exact x.hbs (by have M:=w a;have U:=u a;dsimp only[hd2]at M z⊢;omega)
   ·exact x.hb a (by dsimp only[hd2];omega)
 ·rw [show hide (hd2 B (hd2 W Z)) H=hide (hd2 (hd2 B Z) W) H from zI fun a=>by dsimp only [hd2];omega,show hide (hd2 B (hd2 (fun a=>(one p a + g a) + R a) m)) (upd H p l)=hide (hd2 (hd2 B m) (fun a=>(one p a + g a) + R a)) (upd H p l) from zI fun a=>by dsimp only [hd2];omega];exact A
 ·have:=u a;dsimp only[hd2]at *;rw[C,d];omega
 ·by_cases y:a=p
  ·subst y;rw[upd_same]at z;cases z
  ·rw[f a y]at z;exact z
 ·by_cases y:a=p
  ·subst y;rw[upd_same];exact L
  ·exact .of (f a y)
noncomputable def stab(env a:Ev)(i:Nat):List Nat->Bool
 |[]=>true
 | [j]=>match env[i]?,a[i]? with
   | some (.s _ (.ow (.obj _ fs) _)),some (.s _ (.ow _ _))=>match fs[j]? with
     |some f=>pinF f
     |none=>false
   |_,_=>false
 |_=>false
theorem vZk{K:aQ}{F:Hp}{os:List O}{x:Option V}{a:Fp}(h:j8 K c F H (.s io (.ow kd os)) x a):∃p vs,x=some (.ref p)/\OwAt c H p kd vs/\a p≠0:=by
 cases x with
 |none=>exact h.elim
 | some v=>
   have e :OAt K c F H (.ow kd os) v a:=h;obtain⟨p,vs,f,rfl,b,_,d⟩:=e;exact⟨p,vs,rfl,b,by rw[d,wF];omega⟩
theorem qWp{Y:Fp}{u:V}(s:Cf K c env σ H B W)(st:Step env σ H B W env' σ H' Y)(g :Cf K c env' σ H' B' W')(t:∀a,W' a≠0->Y a≠0)(hs:stab env env' i π=true)(h:vI H σ i π=some u):vI H' σ i π=some u:=by
 cases π with
 | nil=>
   unfold vI at h⊢;cases e:σ[i]? with
   |none=>rw[e]at h;cases h
   | some x=>
     rw[e]at h;cases x with
     |none=>cases h
     |some v=>simpa[walk] using h
 | cons j π=>
   cases π with
   |cons _ _=>simp[stab]at hs
   | nil=>
     simp only[stab]at hs;split at hs
     ·rename_i T C fs U w X y z A;split at hs
      ·rename_i f D;obtain⟨x,Z,R,m,E,F,_⟩:=s.focus z;obtain⟨x',G,R',b,k,l,_⟩:=g.focus A;obtain⟨p,n,rfl,⟨I,J,o⟩,zp⟩:=vZk E;obtain⟨p',L,rfl,_,M⟩:=vZk k;rw[m]at b;cases b;have r:=st.pin p (by rw[F];omega) (t p (by rw[l];omega));rw[o]at r;obtain⟨d,N,q⟩:=r;unfold vI at h⊢;rw[m]at h⊢;simp only[walk,o,kids,qZc I]at h;cases ev:n[j]? with
       |none=>rw[ev]at h;cases h
       | some v=>
         rw[ev]at h;have O:v=u:=by cases v <;> simpa[walk] using h
         subst O;have P:(fs.zip n)[j]?=some (f,v):=by rw[List.getElem?_zip_eq_some];exact⟨D,ev⟩
         have Q:=q j f v hs P;have S:(kids (.ins (c C) J d))[j]?=some v:=by
          show(d.map (·.2))[j]?=some v;rw[bT,Q];rfl
         show walk H' (.ref p) [j]=some v;rw[qWn N S];simp[walk]
      ·cases hs
     ·cases hs
end
noncomputable def qQ9(env:Ev)(i:Nat)(π:List Nat):Option (List O):=match getE env i π with
 |some (.ow .lst os)=>some os
 |_=>none
theorem qWv{os:List O}(h:qQ9 env i π=some os):getE env i π=some (.ow .lst os):=by
 unfold qQ9 at h;grind
noncomputable def eMu1(s:SP)(a:SE)(f:List O->O->Option (O×List O)):SE:=fun b=>(opt (s b)).bind fun h=>match h with
 |.p i π=>(opt (qQ9 b i π)).bind fun _=>(a b).bind fun r=>(opt (qQ9 r.2 i π)).bind fun c=>cond (stab b r.2 i π) ((opt (f c r.1)).bind fun z=>.ok (z.1,setE r.2 i π (.ow .lst z.2))) .no
 |_=>.no
noncomputable def apF(os:List O)(x:O):Option (O×List O):=cond (decide (os.length<=lim)) (some (.fz .non,os ++ [x])) none
noncomputable def PrM(K:aQ)(c:Nat->aZ)(r:V->List V->Hp->VK->Prop)(f:List O->O->Option (O×List O)):Prop:=∀(p:aZ) (vs:List V) (u:V) (F H:Hp) (os os' :List O) (x o:O) (Zk Z:Fp) (Q:VK),H p=some (.lst vs)->OsAt K c F H os vs Zk->OAt K c F H x u Z->f os x=some (o,os')->
 (∀v b d,o=.fz .non ->v=.non ->OsAt K c F H os' b d ->(∀a,d a<=Zk a+Z a)->Q v (upd H p (.lst b)))->r (.ref p) [u] H Q
section
variable{K:aQ}{c:Nat->aZ}{E:XK}
theorem vYw:PrM K c rAppend apF:=fun p d u F H k f x o l Z Q g b h e q=>by
 obtain⟨i,j⟩:=jL e;cases j;exact⟨p,d,u,rfl,rfl,g,by rw[b.length];exact vQ5 (of_decide_eq_true i),q .non _ _ rfl rfl (b.append (OsAt.one.mpr h)) fun a=>aB _⟩
theorem zZ7{r:V->List V->Hp->VK->Prop}{f:List O->O->Option (O×List O)}(F:PrM K c r f){s:SP}{a:SE}(h:tE K c E (eMu1 s a f) σ H Q):tBM K "list" r (tP K c s) (qKv (tE K c E a) tNil) σ H Q:=by
 obtain⟨e,B,W,l,w⟩:=h;obtain⟨q,G,t⟩:=qC w;refine⟨e,B,W,q,l,G,fun u I=>?_⟩;cases q with
 |d x=>exact t.elim
 | p i π=>
   obtain⟨os0,J,L⟩:=qC t;have j :vI H σ i π=some u:=I;obtain⟨v1,Z1,R,g1,M,g3,g4⟩:=l.place (qWv J);rw[j]at g1;cases g1;obtain⟨p,m,Z0,rfl,b,_,_⟩:=M;refine⟨.inl ⟨rfl,m,SqL.of b⟩,e,B,W,l,wp_mono (fun N P x y W1 Z g=>?_) (fun _ _ S=>S) (qY.mp L)⟩;obtain⟨T,U,X⟩:=qC P;obtain⟨hs,Y⟩:=v7 X;obtain⟨z,e3,w6⟩:=qC Y;have hw:=qWp l g.st g.cf (fun a z=>by dsimp only[hd2];omega) hs j;obtain⟨p',A,Zk,C,D,k3,k4⟩:=g.cf.mut (qWv U);rw[hw]at C;cases C;refine F p A x _ y T z.2 N.1 z.1 Zk Z Q D k3 g.at_ e3 fun v k n ho hv hk hz=>?_
   subst hv;obtain⟨W',c1,c2,c3⟩:=k4 .lst z.2 k n (fun _=>0) (.lst k) hk (fun a=>by have:=hz a;omega) upd_same trivial (by have o :y p=some (.lst A):=D;rw[o];trivial);refine w6 .non _ W' (fun _=>0) ⟨g.st.trans c2,c1,by rw[ho,OAt.fz];exact⟨.non,fun _=>rfl⟩⟩
end
section
variable{X:Cx}{c:Nat->aZ}{E:XK}{o e:Expr}{apos cpos:Pos}{s:SP}{a:SE}
theorem vKs(i:OD X c E o (.p s))(j:ED X c E e a)(d:attributeBase o "append" X.env (eval o X.env)=eval o X.env:=by rfl)(g:((cV cpos (aX [e] X.env)).all (fun x=>!x.1) && (backToKw cpos (keywordEach [] X.env)).all (fun x=>x.1.isSome) && decide (([e]:List Expr).length+([]:List Keyword).length+(if([]:List Keyword).isEmpty then 0 else 1)<30))=true:=by rfl)(f:(apos.endLine == cpos.line)=true:=by rfl)(hs:aX [e] X.env=(false,eval e X.env)::aX [] X.env:=by rfl)(b:(cV cpos (aX [] X.env)).any (·.1)=false:=by rfl):
  ED X c E (.Call (.Attribute o "append" apos) [e] [] cpos) (eMu1 s a apF):=
 ⟨PE.imp (jQv PySem.F.plainAttrs_list PySem.F.slot_list_append PySem.F.type_list_append vQi i.h (xP j.h qZa hs) d g f hs b) fun _ _ _ h=>zZ7 vYw h⟩
end
section
variable{κ α:Type}[DecidableEq κ]
theorem vQk{k:κ}:∀{ks:List κ},kidx k ks=none->k∉ks
 |[],_=>by simp
 | g::r,h=>by
   simp only[kidx]at h;by_cases q:g=k
   ·rw[if_pos q]at h;cases h
   ·rw [if_neg q] at h;have:=vQk (Option.map_eq_none_iff.mp h);rw[aA];exact fun z=>z.elim (fun z=>q z.symm) this
theorem vYi{k:κ}:∀{ks:List κ} {vs:List α},ks.length=vs.length->((ks.zip vs).any fun a=>decide (a.1=k))=(kidx k ks).isSome
 |[],[],_=>rfl
 | g::r,w::vs,h=>by
   rw[bI,List.any_cons,vYi (Nat.succ.inj h)];simp only[kidx];by_cases q:g=k
   ·rw[if_pos q,decide_eq_true q];rfl
   ·rw[if_neg q,decide_eq_false q];cases kidx k r <;> rfl
 |[],_::_,h=>by cases h
 |_::_,[],h=>by cases h
theorem qKb{k:κ}{v:α}:∀{ks:List κ} {vs:List α},k∉ks->(ks.zip vs).map (fun a=>if a.1=k then(a.1,v) else a)=ks.zip vs
 |[],vs,_=>by simp
 |g::r,[],_=>by simp
 | g::r,w::vs,h=>by
   rw[aA]at h;rw[bI,aO,if_neg fun z=>h (.inl z.symm),qKb fun z=>h (.inr z)]
theorem vXs{k:κ}{v:α}:∀{ks:List κ} {vs:List α} {j:Nat},ks.Nodup->kidx k ks=some j->(ks.zip vs).map (fun a=>if a.1=k then(a.1,v) else a)=ks.zip (vs.set j v)
 |[],vs,j,_,h=>by cases h
 |g::r,[],j,_,h=>by simp
 | g::r,w::vs,j,hn,h=>by
   rw[dC]at hn;simp only[kidx]at h;by_cases q:g=k
   ·rw [if_pos q] at h;cases h;rw[bI,aO,if_pos q,qKb (by rw[←q];exact hn.1)];rfl
   ·rw [if_neg q] at h;obtain⟨i,b,rfl⟩:=bX.mp h;rw[bI,aO,if_neg q,vXs hn.2 b];rfl
theorem qYl{k:κ}{v:α}:∀{ks:List κ} {vs:List α},ks.length=vs.length->(ks ++ [k]).zip (vs ++ [v])=ks.zip vs ++ [(k,v)]
 |[],[],_=>rfl
 | g::r,w::vs,h=>by
   rw[List.cons_append,List.cons_append,bI,qYl (Nat.succ.inj h)];rfl
 |[],_::_,h=>by cases h
 |_::_,[],h=>by cases h
end
theorem zVs{k:Key}{a:List Key}(hl:a.length=vs.length)(b:a.Nodup):putK (a.zip vs) k v=match kidx k a with
  |some j=>a.zip (vs.set j v)
  |none=>(a ++ [k]).zip (vs ++ [v]):=by
 unfold putK;rw[vYi hl];cases e:kidx k a with
 |none=>rw[if_neg (by simp),qYl hl]
 |some j=>rw[if_pos (by simp),vXs b e]
theorem vWl{k:κ}{c:List κ}(h:c.Nodup)(n:k∉c):(c ++ [k]).Nodup :=by
 rw[List.nodup_append];refine⟨h,by simp,fun a d b hb e=>?_⟩;rw[bW]at hb;exact n (by rw[←hb,←e];exact d)
noncomputable def putO(a:List Key)(os:List O)(k:Key)(o:O):O:=match kidx k a with
 |some j=>.ow (.dct a) (os.set j o)
 |none=>.ow (.dct (a ++ [k])) (os ++ [o])
noncomputable def qYb(env:Ev)(i:Nat)(π:List Nat):Option (List Key×List O):=match getE env i π with
 |some (.ow (.dct ks) os)=>some (ks,os)
 |_=>none
theorem vQr{q:List Key×List O}(h:qYb env i π=some q):getE env i π=some (.ow (.dct q.1) q.2):=by
 unfold qYb at h;split at h
 ·rename_i e;cases h;exact e
 ·cases h
noncomputable def qKx(s k:SP)(a:SE):SS:=fun b=>(a b).bind fun r=>(opt (s r.2)).bind fun h=>(opt (k r.2)).bind fun e=>(opt (rsv r.2 e)).bind fun y=>(opt (qXc y)).bind fun c=>match h with
 |.p i π=>(opt (qYb r.2 i π)).bind fun q=>cond (decide (q.2.length<=lim)) (.ok (.nx (setE r.2 i π (putO q.1 q.2 c r.1)))) .no
 |.d _=>.no
noncomputable def sSetI(s k:SP)(a:SE):SS:=fun b=>(a b).bind fun r=>(opt (s r.2)).bind fun h=>(opt (k r.2)).bind fun e=>(opt (rsv r.2 e)).bind fun y=>(opt (yV y)).bind fun n=>match h with
 |.p i π=>(opt (qQ9 r.2 i π)).bind fun c=>(opt (ixN c.length n)).bind fun j=>.ok (.nx (setE r.2 i π (.ow .lst (c.set j r.1))))
 |.d _=>.no
theorem OsAt.put{K:aQ}{F:Hp}{os:List O}{b:Fp}{o:O}{u:V}(h:OsAt K c F H os vs b)(d:j<os.length)(e:OAt K c F H o u Z):∃Y,OsAt K c F H (os.set j o) (vs.set j u) Y/\∀a,Y a<=b a+Z a:=by
 obtain⟨v,i,R,k,l,f,g⟩:=h.focus (aL d);exact⟨_,g F H o u Z (Same.refl _) (fun _ _=>rfl) e,fun a=>by rw[f];(try dsimp only);omega⟩
section
variable{X:Cx}{c:Nat->aZ}{E:XK}{o k e:Expr}{pos pos' :Pos}{s sk:SP}{a:SE}
theorem zJg(M:X.A.units+1<eX)(N:OD X c E o (.p s))(hk:OD X c E k (.p sk))(O:ED X c E e a)(hs:swapsWith e (some (.Subscript o k pos')) pos.line X.env=pure false:=by rfl):
  SD X c E (.Assign [.Subscript o k pos'] e pos) (qKx s sk a):=by
 refine⟨PS.imp (zJu M N.h hk.h O.h hs) fun D σ H=>?_⟩;rintro⟨env,B,W,P,w⟩;refine⟨env,B,W,P,wp_mono (fun r Q u R I Z g=>?_) (fun _ _ S=>S) (qY.mp w)⟩;obtain⟨h,T,U⟩:=qC Q;obtain⟨n,V,w3⟩:=qC U;obtain⟨y,e3,w4⟩:=qC w3;obtain⟨b,e4,J⟩:=qC w4;refine⟨r.2,_,I,h,g.cf,T,fun x hx=>⟨r.2,_,I,n,g.cf,V,fun yv hy=>?_⟩⟩;cases h with
 |d x=>exact J.elim
 | p i π=>
   obtain⟨q,e5,w6⟩:=qC J;obtain⟨hl,f⟩:=v7 w6;have t :vI R σ i π=some x:=hx;obtain⟨p,v,Zk,K,⟨l,z,C⟩,m,L⟩:=g.cf.mut (vQr e5);rw[t]at K;cases K;rw[qJ5 (j7 g.cf hy e3) e4];have hz:(q.1.zip v).length<aI:=by rw[List.length_zip,m.length];exact Nat.lt_of_le_of_lt (Nat.min_le_right _ _) (vQ5 (of_decide_eq_true hl))
   refine⟨p,_,rfl,DPut.k C hz,?_⟩;rw[zVs l z];unfold putO at f;cases e6:kidx b q.1 with
   | some j=>
     rw[e6]at f;obtain⟨Y,y1,y2⟩:=m.put (by rw[←m.length,←l];exact(vVj e6).1) g.at_;obtain⟨F,G,c2,_⟩:=L (.dct q.1) _ _ Y (fun _=>0) (.dK (q.1.zip (v.set j u))) y1 (fun a=>by have:=y2 a;omega) ⟨by rw[bS];exact l,z,upd_same⟩ trivial (by rw[C];trivial);exact f σ _ F (g.st.trans (c2.cast (fun _=>rfl) (fun _=>rfl) fun _=>rfl)) (G.cast (fun _=>rfl) fun _=>rfl)
   | none=>
     rw[e6]at f;obtain⟨F,G,c2,_⟩:=L (.dct (q.1 ++ [b])) _ _ _ (fun _=>0) (.dK ((q.1 ++ [b]).zip (v ++ [u]))) (m.append (OsAt.one.mpr g.at_)) (fun a=>by(try dsimp only);omega) ⟨by rw[aU,aU,l];rfl,vWl z (vQk e6),upd_same⟩ trivial (by rw[C];trivial);exact f σ _ F (g.st.trans (c2.cast (fun _=>rfl) (fun _=>rfl) fun _=>rfl)) (G.cast (fun _=>rfl) fun _=>rfl)
theorem yQ(J:OD X c E o (.p s))(hk:OD X c E k (.p sk))(K:ED X c E e a)(hs:swapsWithSole [.Subscript o k pos'] e pos.line X.env=pure false:=by rfl)(L:swappedStores [.Subscript o k pos'] e X.env=pure none:=by rfl)(h1:(assignEach [.Subscript o k pos'] X.env).map (·.2)=[assign (.Subscript o k pos') X.env]:=by rfl)(M:∀v,assign (.Subscript o k pos') X.env v=(do
   let ov ←holding [v] (eval o X.env);let iv ←holding [v,ov] (eval k X.env);standAt pos';holding [v,ov,iv] (setItem ov iv v);release [v,ov,iv] []):=by intro _;rfl):SD X c E (.Assign [.Subscript o k pos'] e pos) (sSetI s sk a):=by
 refine⟨PS.imp (zYu K.h (zY2 J.h hk.h zVm M) hs L h1) fun D σ H=>?_⟩;rintro⟨env,B,W,N,w⟩;refine⟨env,B,W,N,wp_mono (fun r O u z A Z g=>?_) (fun _ _ P=>P) (qY.mp w)⟩;obtain⟨h,Q,R⟩:=qC O;obtain⟨m,S,T⟩:=qC R;obtain⟨y,U,V⟩:=qC T;obtain⟨n,e4,C⟩:=qC V;refine⟨r.2,_,A,h,g.cf,Q,fun x hx=>⟨r.2,_,A,m,g.cf,S,fun yv hy=>?_⟩⟩;cases h with
 |d x=>exact C.elim
 | p i π=>
   obtain⟨os,e5,w6⟩:=qC C;obtain⟨j,e6,w7⟩:=qC w6;have q :vI z σ i π=some x:=hx;obtain⟨p,l,Zk,F,G,I,k6⟩:=g.cf.mut (qWv e5);rw[q]at F;cases F;have b:=I.length;have f :ixN l.length n=some j:=by rw[b];exact e6
   refine⟨p,l,n,j,rfl,jJ (j7 g.cf hy U) e4,G,f,?_⟩;have hj:j<os.length:=by rw[←b];have:=(vVk f).2.1;omega
   obtain⟨Y,y1,y2⟩:=I.put hj g.at_;obtain⟨W',c1,c2,_⟩:=k6 .lst _ _ Y (fun _=>0) (.lst (l.set j u)) y1 (fun a=>by have:=y2 a;omega) upd_same trivial (by have t :z p=some (.lst l):=G;rw[t];trivial);exact w7 σ _ W' (g.st.trans (c2.cast (fun _=>rfl) (fun _=>rfl) fun _=>rfl)) (c1.cast (fun _=>rfl) fun _=>rfl)
end
theorem vZo{f:Str}:∀{fs:List Str} {vs:List V},fs.length=vs.length->putF f v (fs.zip vs)=match fidx f fs with
  |some j=>fs.zip (vs.set j v)
  |none=>(fs ++ [f]).zip (vs ++ [v])
 |[],[],_=>rfl
 | g::r,w::vs,h=>by
   rw[bI];simp only[putF,fidx];by_cases q:f=g
   ·simp_all
   ·rw [if_neg q,if_neg fun z=>q z.symm,vZo (Nat.succ.inj h)];cases fidx f r <;> rfl
 |[],_::_,h=>by cases h
 |_::_,[],h=>by cases h
theorem qY1{f:Str}:∀{fs:List Str} {j:Nat},fidx f fs=some j->fs[j]?=some f
 |[],j,h=>by cases h
 | g::r,j,h=>by
   simp only[fidx]at h;by_cases q:f=g
   ·rw[if_pos q]at h;cases h;rw[q];rfl
   ·rw [if_neg q] at h;obtain⟨i,a,rfl⟩:=bX.mp h;simpa using qY1 a
noncomputable def qKy(C:Nat)(fs:List Str)(os:List O)(f:Str)(o:O):Option O:=match fidx f fs with
 |some j=>cond (!pinF f) (some (.ow (.obj C fs) (os.set j o))) none
 |none=>cond (decide (os.length<1000)) (some (.ow (.obj C (fs ++ [f])) (os ++ [o]))) none
noncomputable def qW8(env:Ev)(i:Nat)(π:List Nat):Option (Nat×List Str×List O):=match getE env i π with
 |some (.ow (.obj C fs) os)=>some (C,fs,os)
 |_=>none
theorem qWu(h:qW8 env i π=some q):getE env i π=some (.ow (.obj q.1 q.2.1) q.2.2):=by
 unfold qW8 at h;grind
section
variable{K:aQ}{c:Nat->aZ}{env:Ev}{σ:L2.St}{H:Hp}{B W Z:Fp}{i:Nat}{π:List Nat}
theorem Cf.fld{f:Str}{o o' :O}{u:V}{p:aZ}(z:Cf K c env σ H (hd2 B Z) W)(e:qW8 env i π=some q)(A:vI H σ i π=some (.ref p))(t:OAt K c (hide (hd2 (hd2 B Z) W) H) H o u Z)(e2:qKy q.1 q.2.1 q.2.2 f o=some o')(hl:q.2.2.length<=999):
  ∃b fs W',H p=some (.ins (c q.1) b fs)/\fs.length<1000/\Cf K c (setE env i π o') σ (upd H p (.ins (c q.1) b (putF f u fs))) B W' /\Step env σ H B (hd2 W Z) (setE env i π o') σ (upd H p (.ins (c q.1) b (putF f u fs))) W' :=by
 obtain⟨J,k,L,v,⟨h,b,l⟩,m,w⟩:=z.mut (qWu e);rw[A]at v;cases v;refine⟨b,q.2.1.zip k,?_⟩;have d:(q.2.1.zip k).length<1000:=by rw[List.length_zip,m.length];have:=Nat.min_le_right q.2.1.length q.2.2.length;omega
 rw[vZo h];unfold qKy at e2;cases e6:fidx f q.2.1 with
 | some j=>
   rw[e6]at e2;obtain⟨n,r⟩:=jL e2;cases r;have C:j<q.2.2.length:=by
    have:=(aD.mp (qY1 e6)).1;rw[←m.length,←h];exact this
   obtain⟨Y,D,E⟩:=m.put C t;obtain⟨W',s,c2,_⟩:=w (.obj q.1 q.2.1) _ _ Y (fun _=>0) (.ins (c q.1) b (q.2.1.zip (k.set j u))) D (fun a=>by have:=E a;omega) ⟨by rw[bS];exact h,b,upd_same⟩ trivial (by
    rw[l];refine⟨_,rfl,fun F G I x g=>?_⟩;rw[List.getElem?_zip_eq_some]at g⊢;refine⟨g.1,?_⟩;rw[bH fun y=>?_]
    ·exact g.2
    ·subst y;rw[qY1 e6]at g;cases g.1;rw[x]at n;cases n)
   exact⟨W',l,d,s.cast (fun _=>rfl) fun _=>rfl,c2.cast (fun _=>rfl) (fun _=>rfl) fun _=>rfl⟩
 | none=>
   rw[e6]at e2;obtain⟨n,r⟩:=jL e2;cases r;obtain⟨W',s,c2,_⟩:=w (.obj q.1 (q.2.1 ++ [f])) _ _ _ (fun _=>0) (.ins (c q.1) b ((q.2.1 ++ [f]).zip (k ++ [u]))) (m.append (OsAt.one.mpr t)) (fun a=>by(try dsimp only);omega) ⟨by rw[aU,aU,h];rfl,b,upd_same⟩ trivial (by
    rw[l];refine⟨_,rfl,fun F G I x g=>?_⟩;rw[qYl h,List.getElem?_append_left (aD.mp g).1];exact g)
   exact⟨W',l,d,s.cast (fun _=>rfl) fun _=>rfl,c2.cast (fun _=>rfl) (fun _=>rfl) fun _=>rfl⟩
end
noncomputable def qQ6(cs:List Nat)(f:Str)(s:SP)(a:SE):SS:=fun b=>(a b).bind fun r=>(opt (s r.2)).bind fun h=>match h with
 |.p i π=>(opt (qW8 r.2 i π)).bind fun q=>cond (cs.contains q.1 && decide (q.2.2.length<=999)) ((opt (qKy q.1 q.2.1 q.2.2 f r.1)).bind fun o=>.ok (.nx (setE r.2 i π o))) .no
 |.d _=>.no
noncomputable def vV7(cs:List Nat)(f:Str)(g:D->D->Option D)(s:SP)(a:SV):SS:=fun b=>(opt (s b)).bind fun h=>match h with
 | .p i π=>(opt (qW8 b i π)).bind fun q=>(opt (fidx f q.2.1)).bind fun j=>(opt (q.2.2[j]?)).bind fun e=>match e with
   |.fz x=>cond (cs.contains q.1) ((a b).bind fun r=>cond (stab b r.2 i π) ((opt (g x r.1)).bind fun z=>(opt (qW8 r.2 i π)).bind fun c =>cond (decide (c.1=q.1) && decide (c.2.2.length<=999)) ((opt (qKy c.1 c.2.1 c.2.2 f (.fz z))).bind fun o=>.ok (.nx (setE r.2 i π o))) .no) .no) .no
   |.ow _ _=>.no
 |.d _=>.no
section
variable{X:Cx}{c:Nat->aZ}{E:XK}{o e:Expr}{f:Str}{pos pos' :Pos}{s:SP}{a:SE}{cs:List Nat}
theorem zJf(ok:xN X.K c cs f)(n:OD X c E o (.p s))(t:ED X c E e a)(hs:swapsWith e (some (.Attribute o f pos')) pos.line X.env=pure false:=by rfl):SD X c E (.Assign [.Attribute o f pos'] e pos) (qQ6 cs f s a):=by
 refine⟨PS.imp (zYt n.h t.h hs) fun D σ H=>?_⟩;rintro⟨env,B,W,v,w⟩;refine⟨env,B,W,v,wp_mono (fun r y u z A Z g=>?_) (fun _ _ C=>C) (qY.mp w)⟩;obtain⟨h,F,k⟩:=qC y;refine⟨r.2,_,A,h,g.cf,F,fun x G=>?_⟩;cases h with
 |d x=>exact k.elim
 | p i π=>
   obtain⟨q,l,I⟩:=qC k;obtain⟨j,J⟩:=v7 I;obtain⟨U,L,M⟩:=qC J;rw[aP]at j;have b :vI z σ i π=some x:=G;obtain⟨p,_,_,m,_⟩:=g.cf.mut (qWu l);rw[b]at m;cases m;obtain⟨N,fs,O,P,Q,R,S⟩:=g.cf.fld l b g.at_ L (of_decide_eq_true j.2);obtain⟨T,c2⟩:=ok q.1 (qX0 j.1);exact⟨p,_,N,fs,rfl,P,T,c2,Q,M σ _ O (g.st.trans S) R⟩
theorem zJh{P:V->V->Hp->VK->Prop}{g:D->D->Option D}{t:SV}(ok:xN X.K c cs f)(ho:OD X c E o (.p s))(hv:EV X c E e t)(C:InOp X op P)(hp:PrS2 X.K c P g):SD X c E (.AugAssign (.Attribute o f pos') op e pos) (vV7 cs f g s t):=by
 refine⟨PS.imp (vYv ho.h hv.h C) fun D σ H=>?_⟩;rintro⟨b,B,W,n,w⟩;obtain⟨h,e1,Q⟩:=qC w;refine⟨b,B,W,h,n,e1,fun x hx=>?_⟩;cases h with
 |d x=>exact Q.elim
 | p i π=>
   obtain⟨q,e2,w3⟩:=qC Q;obtain⟨j,e3,w4⟩:=qC w3;obtain⟨o0,e4,A⟩:=qC w4;cases o0 with
   |ow _ _=>exact A.elim
   | fz y=>
     have m :vI H σ i π=some x:=hx;have F:Cf X.K c b σ H (hd2 B fun _=>0) W:=n.cast (fun _=>rfl) fun _=>rfl
     obtain⟨p,vs,Zk,S,⟨k2,dx,k4⟩,k5,k6⟩:=F.mut (qWu e2);rw[m]at S;cases S;obtain⟨v,Z1,R,g1,g2,g3,_⟩:=k5.focus e4;have hd:DAt X.K c (hide (hd2 B W) H) v y:=g2.1;obtain⟨G,A⟩:=v7 A;obtain⟨c1,c2⟩:=ok q.1 (qX0 G);refine⟨p,_,dx,_,v,rfl,k4,c1,c2,qVv e3 g1,b,B,W,n,wp_mono (fun r w6 u T W1 l=>?_) (fun _ _ he=>he) (qY.mp A)⟩;obtain⟨hc,w7⟩:=v7 w6;obtain⟨z,e5,w8⟩:=qC w7;obtain⟨q',e6,w9⟩:=qC w8;obtain⟨k,I⟩:=v7 w9;obtain⟨o',e7,J⟩:=qC I;rw[aP]at k;have hw:=qWp n l.st l.cf (fun a z=>z) hc m;refine hp v u T y r.1 z _ ((hd.same l.st.same).same vY) (l.at_.same vY) e5 fun v3 L=>?_
     have M:Cf X.K c r.2 σ T (hd2 B fun _=>0) W1:=l.cf.cast (fun _=>rfl) fun _=>rfl
     obtain⟨N,O,W',U,m2,Y,m4⟩:=M.fld e6 hw (Z:=fun _=>0) (u:=v3) (by rw[OAt.fz];exact⟨L _,fun _=>rfl⟩) e7 (of_decide_eq_true k.2);have hq:q'.1=q.1:=of_decide_eq_true k.1;rw[hq]at U Y m4;exact⟨N,O,U,m2,J σ _ W' (l.st.trans (m4.cast (fun _=>rfl) (fun _=>rfl) fun _=>rfl)) Y⟩
end
instance decMul(i j:Int):Decidable (IntMulOk i j):=by unfold IntMulOk;infer_instance
instance decDivP(i j:Int):Decidable (vW8 i j):=by unfold vW8;infer_instance
noncomputable def i2(g:Int->Int->Int)(x y:D):Option D:=(yV x).bind fun i=>(yV y).bind fun j=>some (.int (g i j))
noncomputable def i2g(C:Int->Int->Prop)[∀i j,Decidable (C i j)](g:Int->Int->Int)(x y:D):Option D:=(yV x).bind fun i=>(yV y).bind fun j=>if C i j then some (.int (g i j)) else none
noncomputable def c2(g:Int->Int->Bool)(x y:D):Option D:=(yV x).bind fun i=>(yV y).bind fun j=>some (.bl (g i j))
theorem vXx{P:Prop}[Decidable P]{x y:α}(h:(if P then some x else none)=some y):P/\x=y:=by
 grind
section
variable{K:aQ}{c:Nat->aZ}
theorem zQd(g:Int->Int->Int):PrS2 K c (rI0 fun i j=>.int (g i j)) (i2 g):=fun u w H x y z Q a b e q=>by
 obtain⟨i,d,f⟩:=bnd e;obtain⟨j,h,k⟩:=bnd f;cases k;exact⟨i,j,jJ a d,jJ b h,q _ fun _=>.int _⟩
theorem vJr(C:Int->Int->Prop)[∀i j,Decidable (C i j)](g:Int->Int->Int):PrS2 K c (rI C fun i j=>.int (g i j)) (i2g C g):=fun u w H x y z Q a b e q=>by
 obtain⟨i,d,f⟩:=bnd e;obtain⟨j,h,k⟩:=bnd f;obtain⟨p,rfl⟩:=vXx k;exact⟨i,j,jJ a d,jJ b h,p,q _ fun _=>.int _⟩
theorem zXo(g:Int->Int->Bool):PrS2 K c (rI0 fun i j=>.bl (g i j)) (c2 g):=fun u w H x y z Q a b e q=>by
 obtain⟨i,d,f⟩:=bnd e;obtain⟨j,h,k⟩:=bnd f;cases k;exact⟨i,j,jJ a d,jJ b h,q _ fun _=>.bl _⟩
theorem zQr(g:Int->Int->Int):PrS2 K c (ipI g) (i2 g):=fun u w H x y z Q a b e q=>by
 obtain⟨i,j,d,f,r⟩:=zQd g u w H x y z Q a b e q;exact⟨i,j,d,f,r⟩
noncomputable def addS(x y:D):Option D:=(zQa x).bind fun i=>(zQa y).bind fun j=>if i.length+j.length<=aI then some (.str (i ++ j)) else none
theorem zJx:PrS2 K c (fun x y H Q=>∃i j,x=.str i/\y=.str j/\i.length+j.length<=aI/\Q (.str (i ++ j)) H) addS:=fun u w H x y z Q a b e q=>by
 obtain⟨i,d,f⟩:=bnd e;obtain⟨j,g,h⟩:=bnd f;obtain⟨p,rfl⟩:=vXx h;exact⟨i,j,qYn a d,qYn b g,p,q _ fun _=>.str _⟩
end
section
variable{K:aQ}{c:Nat->aZ}
noncomputable def toV:D->Option V
 |.non =>some .non
 |.int i=>some (.int i)
 |.str x=>some (.str x)
 |.bl b=>some (.bl b)
 |_=>none
noncomputable def allV:List D->Option (List V)
 |[]=>some []
 |d::r=>(toV d).bind fun v=>(allV r).bind fun a=>some (v::a)
theorem vJo{F:Hp}{u:V}{d:D}(h:DAt K c F u d)(e:toV d=some v):u=v/\qZ6 v=true:=by
 cases h <;> cases e <;> exact⟨rfl,rfl⟩
theorem vVr{F:Hp}:∀{us:List V} {ds:List D} {vs:List V},DsAt K c F us ds->allV ds=some vs->us=vs/\vs.all qZ6=true
 |us,[],vs,h,e=>by cases e;exact⟨h.un0,rfl⟩
 | us,d::ds,vs,h,e=>by
   obtain⟨u,r,rfl,a,b⟩:=h.un;obtain⟨v,f,g⟩:=bnd e;obtain⟨k,i,j⟩:=bnd g;cases j;obtain⟨l,m⟩:=vJo a f;obtain⟨n,o⟩:=vVr b i;grind
noncomputable def inB(x y:D):Option Bool:=match y with
 |.nd (.dct ks) _=>(qXc x).bind fun k=>some (kidx k ks).isSome
 |.nd .lst ds=>(toV x).bind fun v=>(allV ds).bind fun a=>some (inV v a)
 |.nd .tup ds=>(toV x).bind fun v=>(allV ds).bind fun a=>some (inV v a)
 |_=>none
noncomputable def inD(x y:D):Option D:=(inB x y).map .bl
noncomputable def niD(x y:D):Option D:=(inB x y).map fun b=>.bl (!b)
noncomputable def rInA(K:aQ)(neg:Bool):R2:=fun x y H Q=>rIn K neg x y H Q\/∃a o,y=.ref a/\DGet H a x o/\Q (.bl (if neg then !o.isSome else o.isSome)) H
theorem zKe(a:X.A.units+1<eX):OpR X (cR .In) (rInA X.K false):=vY4.or (zKd a)
theorem vY3(a:X.A.units+1<eX):OpR X (cR .NotIn) (rInA X.K true):=vVx.or (vY2 a)
theorem zQ1{neg:Bool}{u w:V}{x y:D}{b:Bool}(i:DAt K c H u x)(l:DAt K c H w y)(e:inB x y=some b)(q:Q (.bl (if neg then !b else b)) H):rInA K neg u w H Q:=by
 unfold inB at e;split at e
 ·obtain⟨k,a,d⟩:=bnd e;cases d;obtain⟨p,f,rfl,⟨g,h,A⟩,B⟩:=l.un;rw[qJ5 i a];refine .inr ⟨p,_,rfl,vJw A,?_⟩;rw[qZd g];rename_i m ds;have:((kidx k m).bind fun j=>f[j]?).isSome =(kidx k m).isSome :=by
   cases e5:kidx k m with
   |none=>rfl
   | some j=>
     have:=(vVj e5).1;grind
  grind
 ·obtain⟨v,a,d⟩:=bnd e;obtain⟨n,o,r⟩:=bnd d;cases r;obtain⟨p,f,rfl,g,h⟩:=l.un;obtain⟨g1,s⟩:=vJo i a;obtain⟨t,z⟩:=vVr h o;subst g1 t;exact .inl ⟨p,f,rfl,.inl g,s,z,q⟩
 ·obtain⟨v,a,d⟩:=bnd e;obtain⟨n,o,r⟩:=bnd d;cases r;obtain⟨p,f,rfl,g,h⟩:=l.un;obtain⟨g1,s⟩:=vJo i a;obtain⟨t,z⟩:=vVr h o;subst g1 t;exact .inl ⟨p,f,rfl,.inr g,s,z,q⟩
 ·cases e
theorem jQr:PrS2 K c (rInA K false) inD:=fun u w H x y z Q a d e q=>by
 obtain⟨b,f,rfl⟩:=bX.mp e;exact zQ1 (neg:=false) a d f (q _ fun _=>.bl _)
theorem zVw:PrS2 K c (rInA K true) niD:=fun u w H x y z Q a d e q=>by
 obtain⟨b,f,rfl⟩:=bX.mp e;exact zQ1 (neg:=true) a d f (q _ fun _=>.bl _)
noncomputable def negD(x:D):Option D:=(yV x).bind fun i=>some (.int (-i))
end
noncomputable abbrev oAdd:=o2 (i2 fun i j=>i+j)
noncomputable abbrev oSub:=o2 (i2 fun i j=>i - j)
noncomputable abbrev oMul:=o2 (i2g IntMulOk fun i j=>i * j)
noncomputable abbrev oDiv:=o2 (i2g vW8 fun i j=>i / j)
noncomputable abbrev oMod:=o2 (i2g (fun _ j=>0<j) fun i j=>i % j)
noncomputable abbrev oLt:=o2 (c2 fun i j=>decide (i<j))
noncomputable abbrev oGt:=o2 (c2 fun i j=>decide (j<i))
section
variable{X:Cx}{c:Nat->aZ}{E:XK}{a b d e:Expr}{oa ob oc:Oe}{pos:Pos}{k:Nat}
theorem qQp(d:OD X c E a oa)(hb:OD X c E b ob):OD X c E (.BinOp a .Add b pos) (oAdd oa ob):=qK1 zKf (zQd _) d hb
theorem qZ4(d:OD X c E a oa)(hb:OD X c E b ob):OD X c E (.BinOp a .Sub b pos) (oSub oa ob):=qK1 zKa (zQd _) d hb
theorem qX7(d:OD X c E a oa)(hb:OD X c E b ob):OD X c E (.BinOp a .Mult b pos) (oMul oa ob):=qK1 zJ9 (vJr _ _) d hb
theorem xZ(d:OD X c E a oa)(hb:OD X c E b ob):OD X c E (.BinOp a .FloorDiv b pos) (oDiv oa ob):=qK1 zV5 (vJr _ _) d hb
theorem vH(d:OD X c E a oa)(hb:OD X c E b ob):OD X c E (.BinOp a .Mod b pos) (oMod oa ob):=qK1 zKc (vJr _ _) d hb
theorem vQ3(d:OD X c E a oa)(hb:OD X c E b ob):OD X c E (.BinOp a .Add b pos) (o2 addS oa ob):=qK1 vWk zJx d hb
theorem t_lt(d:OD X c E a oa)(hb:OD X c E b ob):TD X c E (.Compare a [.Lt] [b] pos) (asB (oLt oa ob)):=qJd jQz (zXo _) d hb (qWh _)
theorem t_gt(d:OD X c E a oa)(hb:OD X c E b ob):TD X c E (.Compare a [.Gt] [b] pos) (asB (oGt oa ob)):=qJd jQ0 (zXo _) d hb (qWh _)
theorem t_in(d:Room k X.A)(e:OD X c E a oa)(hb:OD X c E b ob)(f:behindInMarks .In b=false:=by rfl):TD X c E (.Compare a [.In] [b] pos) (asB (o2 inD oa ob)):=qJd (zKe (qJq d)) jQr e hb f
theorem qXs(d:Room k X.A)(e:OD X c E a oa)(hb:OD X c E b ob)(f:behindInMarks .NotIn b=false:=by rfl):TD X c E (.Compare a [.NotIn] [b] pos) (asB (o2 niD oa ob)):=qJd (vY3 (qJq d)) zVw e hb f
theorem qZ5(b:OD X c E a oa):OD X c E (.UnaryOp .USub a pos) (o1 negD oa):=jQ1 zX4 (fun u H x z Q d e q=>by
 obtain⟨i,f,g⟩:=bnd e;cases g;exact⟨i,jJ d f,q _ fun _=>.int _⟩) b
theorem o_ix(d:Room k X.A)(e:OD X c E a oa)(hb:OD X c E b ob)(hs:qX4 b:=by exact fun _ _=>rfl):OD X c E (.Subscript a b pos) (oIx oa ob):=jQ2 (qJq d) e hb hs
end
noncomputable def iSeq(K:aQ)(d:TE):TI:=fun σ H R=>d σ H fun x b=>∃a,x=.ref a/\(((∃c,SqL K b a c)/\R (Itl K a) b)\/((∃c,SqT K b a c)/\R (Itt K a) b))
theorem zYz{l:Expr}{k:TE}(hl:PE X l k):PI X tg l (iSeq X.K k):=by
 intro f s σ H R I h;refine thn (hl f s σ H _ I h) fun v c ⟨x,m,d,n,i⟩=>?_
 obtain⟨a,e,i⟩:=i;subst e;cases n;rcases i with⟨⟨r,j⟩,q⟩|⟨⟨r,j⟩,q⟩
 ·obtain⟨g,t,p,u⟩:=d.list j;refine wpAny_pyIter_list p.isList ?_
  refine⟨c.heap.objs.size,[c.heap.objs.size],_,_,m,rfl,d.kept (t' :=c.toks) fun b o e=>aY _ e,vYm a _,⟨_,aS _ rfl,rfl,rfl⟩,fun b hb=>?_,q⟩;have e:b=c.heap.objs.size:=by simpa using hb
  subst e;exact d.fpOk (aB _) (d.hok.fresh (aB _))
 ·obtain⟨g,t,p,u⟩:=d.tuple j;refine wpAny_pyIter_tuple (show c.heap.IsTuple a g.toArray from p) ?_
  refine⟨c.heap.objs.size,[c.heap.objs.size],_,_,m,rfl,d.kept (t' :=c.toks) fun b o e=>aY _ e,vJ5 a _,⟨_,aS _ rfl,rfl,rfl⟩,fun b hb=>?_,q⟩;have e:b=c.heap.objs.size:=by simpa using hb
  subst e;exact d.fpOk (aB _) (d.hok.fresh (aB _))
section
variable{K:aQ}{c:Nat->aZ}{F:Hp}{a b:aZ}{xs ys:List V}{ds es:List D}
theorem zZf(h:SqL K F a xs)(k:DsAt K c F xs ds):ItD K c F (Itl K a) ds:=by
 intro i H T e hb;have b :SqL K H a xs:=jE vY (jE e h);refine⟨fun d g=>?_,fun m=>⟨xs,b,by rw[k.len];omega⟩⟩;obtain⟨v,f,j⟩:=k.get g;refine⟨⟨xs,v,b,f⟩,fun x n y=>?_⟩;obtain⟨rfl,l⟩:=y;have:=l xs b;rw[f]at this;cases this;exact⟨Same.refl _,j.same e⟩
theorem zWk(h:SqT K F a xs)(k:DsAt K c F xs ds):ItD K c F (Itt K a) ds:=by
 intro i H T e hb;have b :SqT K H a xs:=vY.tup (e.tup h);refine⟨fun d g=>?_,fun m=>⟨xs,b,by rw[k.len];omega⟩⟩;obtain⟨v,f,j⟩:=k.get g;refine⟨⟨xs,v,b,f⟩,fun x n y=>?_⟩;obtain⟨rfl,l⟩:=y;have:=l xs b;rw[f]at this;cases this;exact⟨Same.refl _,j.same e⟩
noncomputable def rngD(lo:Int)(n:Nat):List D:=(List.range n).map fun(j:Nat)=>D.int (lo+(j:Int))
theorem zWl{lo:Int}:ItD K c F (Itr lo n) (rngD lo n):=by
 intro i H T g hb;unfold rngD;refine⟨fun d a=>?_,fun b=>by rw[aW,List.length_range]at b;exact Nat.le_of_eq b.symm⟩;rw[bT]at a;cases q:(List.range n)[i]? with
 |none=>rw[q]at a;cases a
 | some j=>
   rw[q]at a;cases a;obtain⟨f,e⟩:=aD.mp q;rw[List.getElem_range]at e;subst e;rw[List.length_range]at f;refine⟨f,fun x h y=>?_⟩;obtain⟨rfl,rfl⟩:=y;exact⟨Same.refl _,.int _⟩
def zipD:List D->List D->List D
 |d::ds,e::es=>D.tup [d,e]::zipD ds es
 |_,_=> []
theorem yW:∀(ds es:List D),(zipD ds es).length =min ds.length es.length
 |[],es=>by simp[zipD]
 |d::ds,[]=>by simp[zipD]
 |d::ds,e::es=>by simp only[zipD,aK,yW ds es];omega
theorem zipD_get:∀{ds es:List D} {i:Nat} {z:D},(zipD ds es)[i]?=some z->∃d e,ds[i]?=some d/\es[i]?=some e/\z=D.tup [d,e]
 |[],es,i,z,h=>by simp[zipD]at h
 |d::ds,[],i,z,h=>by simp[zipD]at h
 |d::ds,e::es,0,z,h=>by simp only[zipD,dH,Option.some.injEq]at h;exact⟨d,e,rfl,rfl,h.symm⟩
 | d::ds,e::es,i + 1,z,h=>by
   obtain⟨a,b,c,f,g⟩:=zipD_get (ds:=ds) (es:=es) (i:=i) (z:=z) (by simpa[zipD] using h);exact⟨a,b,by simpa using c,by simpa using f,g⟩
theorem vZs{T:Fp}{x y:V}{d e:D}{p:aZ}(g:H p=none)(hb:∀a,T a≠0->∃o,H a=some o/\Hb o)(h:DAt K c (hide T H) x d)(i:DAt K c (hide T H) y e):Same H (upd H p (.tup [x,y]))/\DAt K c (hide T (upd H p (.tup [x,y]))) (.ref p) (D.tup [d,e]):=by
 have b:Same H (upd H p (.tup [x,y])):=.upd g;have j:T p=0:=by
  grind
 have f:Same (hide T H) (hide T (upd H p (.tup [x,y]))):=zK fun a o z q=>⟨z,b a o q⟩
 exact⟨b,.of (k:=.tup) (SqT.of (by rw[vM j,upd_same])) (.cons (h.same f) (.cons (i.same f) .nil))⟩
noncomputable def qVa:Nat->List D->List D
 |_,[]=> []
 |n,d::ds=>D.tup [.int (n:Int),d]::qVa (n+1) ds
theorem qWb:∀(n:Nat) (ds:List D),(qVa n ds).length =ds.length
 |_,[]=>rfl
 |n,d::ds=>by simp only[qVa,aK,qWb (n+1) ds]
theorem enumD_get:∀{n:Nat} {ds:List D} {i:Nat} {z:D},(qVa n ds)[i]?=some z->∃d,ds[i]?=some d/\z=D.tup [.int ((n+i:Nat):Int),d]
 |n,[],i,z,h=>by simp[qVa]at h
 |n,d::ds,0,z,h=>by simp only[qVa,dH,Option.some.injEq]at h;exact⟨d,rfl,h.symm⟩
 | n,d::ds,i + 1,z,h=>by
   obtain⟨a,b,c⟩:=enumD_get (n:=n+1) (ds:=ds) (i:=i) (z:=z) (by simpa[qVa] using h);grind
theorem zZg(h:SqL K F a xs)(k:DsAt K c F xs ds):ItD K c F (Ite K a) (qVa 0 ds):=by
 intro i H T b hb;have g1:SqL K H a xs:=jE vY (jE b h);refine⟨fun z f=>?_,fun g=>⟨xs,g1,by rw[qWb,←k.len]at g;omega⟩⟩;obtain⟨d,j,rfl⟩:=enumD_get f;obtain⟨v,e,l⟩:=k.get j;refine⟨⟨xs,v,g1,e⟩,fun x o y=>?_⟩;obtain⟨p,rfl,m,n⟩:=y;rw[n xs v g1 e,Nat.zero_add];exact vZs m hb (.int _) (l.same b)
theorem zWm(h:SqL K F a xs)(k:DsAt K c F xs ds):ItD K c F (Itv K a xs.length) ds.reverse:=by
 intro i H T f hb;have g1:SqL K H a xs:=jE vY (jE f h);have g:=k.len;refine⟨fun z b=>?_,fun d=>⟨xs,g1,rfl,by rw[List.length_reverse]at d;omega⟩⟩;have d:i<ds.length:=by
  have:=(aD.mp b).1;rw[List.length_reverse]at this;exact this
 rw[List.getElem?_reverse d]at b;obtain⟨v,e,j⟩:=k.get b;rw[←g]at e;refine⟨⟨xs,v,g1,rfl,by omega,e⟩,fun x m y=>?_⟩;obtain⟨rfl,l⟩:=y;have:=l xs g1;rw[e]at this;cases this;exact⟨Same.refl _,j.same f⟩
end
noncomputable def qW4:D->Option (List D)
 |.nd .lst ds=>some ds
 |.nd .tup ds=>some ds
 |_=>none
noncomputable def qQ8:D->Option (List D)
 |.nd .lst ds=>some ds
 |_=>none
noncomputable def qW3:D->Option (List D)
 |.nd .tup ds=>some ds
 |_=>none
section
variable{K:aQ}{c:Nat->aZ}{F:Hp}{u:V}{d:D}{ds:List D}
theorem qYx(h:DAt K c F u d)(e:qQ8 d=some ds):∃p vs,u=.ref p/\SqL K F p vs/\DsAt K c F vs ds:=by
 unfold qQ8 at e;split at e
 ·cases e;exact h.un
 ·cases e
theorem zVi(h:DAt K c F u d)(e:qW3 d=some ds):∃p vs,u=.ref p/\SqT K F p vs/\DsAt K c F vs ds:=by
 unfold qW3 at e;split at e
 ·cases e;exact h.un
 ·cases e
theorem zVo(h:DAt K c F u d)(e:qW4 d=some ds):∃p vs,u=.ref p/\(SqL K F p vs\/SqT K F p vs)/\DsAt K c F vs ds:=by
 unfold qW4 at e;split at e
 ·cases e;obtain⟨p,vs,a,b,r⟩:=h.un;exact⟨p,vs,a,.inl b,r⟩
 ·cases e;obtain⟨p,vs,a,b,r⟩:=h.un;exact⟨p,vs,a,.inr b,r⟩
 ·cases e
end
noncomputable def iV(s:SV):SI:=fun a=>(s a).bind fun r=>(opt (qW4 r.1)).bind fun ds=>.ok (ds,r.2)
noncomputable def iL(f:List D->Option (List D))(b:List SV):SI:=fun a=>(evVs b a).bind fun r=>(opt (f r.1)).bind fun ds=>.ok (ds,r.2)
noncomputable def in62(j:Int):Bool:=decide (-(2 ^ 62)<=j) && decide (j<2 ^ 62)
theorem vXw{j:Int}(h:in62 j=true): -(2 ^ 62)<=j/\j<2 ^ 62:=by
 unfold in62 at h;rw[aP]at h;exact⟨of_decide_eq_true h.1,of_decide_eq_true h.2⟩
noncomputable def rg1:List D->Option (List D)
 |[.int j]=>cond (in62 j) (some (rngD 0 j.toNat)) none
 |_=>none
noncomputable def zpL:List D->Option (List D)
 |[x,y]=>(qQ8 x).bind fun ds=>(qQ8 y).bind fun a=>some (zipD ds a)
 |_=>none
noncomputable def zpT:List D->Option (List D)
 |[x,y]=>(qW3 x).bind fun ds=>(qW3 y).bind fun a=>some (zipD ds a)
 |_=>none
noncomputable def zpM:List D->Option (List D)
 |[x,y]=>(qW3 x).bind fun ds=>(qQ8 y).bind fun a=>some (zipD ds a)
 |_=>none
noncomputable def enL:List D->Option (List D)
 |[x]=>(qQ8 x).bind fun ds=>some (qVa 0 ds)
 |_=>none
section
variable{X:Cx}{c:Nat->aZ}{E:XK}{tg e e1 e2:Expr}{s:SV}{ss:List SV}{p pos tpos:Pos}{elts:List Expr}{kk:Nat}
theorem qVo(h:EV X c E e s):ID' X c E tg e (iV s):=by
 refine⟨PI.imp (zYz h.h) fun σ H R=>?_⟩;rintro⟨a,B,W,k,w⟩;refine⟨a,B,W,k,wp_mono (fun r l u b d g=>?_) (fun _ _ m=>m) (qY.mp w)⟩;obtain⟨ds,n,f⟩:=qC l;obtain⟨q,i,rfl,b1,j⟩:=zVo g.at_ n;rcases b1 with b1|b1
 ·exact⟨q,rfl,.inl ⟨⟨i,jE vY b1⟩,f _ b d g.st g.cf (zZf b1 j)⟩⟩
 ·exact⟨q,rfl,.inr ⟨⟨i,vY.tup b1⟩,f _ b d g.st g.cf (zWk b1 j)⟩⟩
theorem ds1{K:aQ}{F:Hp}{x:D}(h:DsAt K c F us [x]):∃u,us=[u]/\DAt K c F u x:=by
 obtain⟨u,r,rfl,a,b⟩:=h.un;rw[b.un0];exact⟨u,rfl,a⟩
theorem ds2{K:aQ}{F:Hp}{x y:D}(h:DsAt K c F us [x,y]):∃u w,us=[u,w]/\DAt K c F u x/\DAt K c F w y:=by
 obtain⟨u,r,rfl,a,b⟩:=h.un;obtain⟨w,rfl,d⟩:=ds1 b;exact⟨u,w,rfl,a,d⟩
theorem xJ(i:Gl X "range")(k:X.mg "range"=none)(l:VsD X c E [e] ss)(hs:aX [e] X.env=[(false,eval e X.env)]:=by rfl):ID' X c E tg (.Call (.Name "range" p) [e] [] pos) (iL rg1 ss):=by
 refine⟨PI.imp (vYy i k l.h hs) fun σ H R=>?_⟩;rintro⟨env,B,W,m,w⟩;refine qJe m (qY.mp w) fun r n x o q g=>?_
 obtain⟨ds,b,s⟩:=qC n;have d:=g.at_;unfold rg1 at b;split at b
 ·rename_i j t;rw[t]at d;obtain⟨u,rfl,a⟩:=ds1 d;obtain⟨f,v⟩:=jL b;cases v;cases a;exact⟨j,rfl,(vXw f).1,(vXw f).2,s _ o q g.st g.cf zWl⟩
 ·cases b
theorem zWq(j:Gl X "enumerate")(k:X.mg "enumerate"=none)(l:VsD X c E [e] ss)(hs:aX [e] X.env=[(false,eval e X.env)]:=by rfl)(d:aX [] X.env=[]:=by rfl):ID' X c E (.Tuple elts kk tpos) (.Call (.Name "enumerate" p) [e] [] pos) (iL enL ss):=by
 refine⟨PI.imp (zJ1 j k l.h hs d) fun σ H R=>?_⟩;rintro⟨env,B,W,m,w⟩;refine qJe m (qY.mp w) fun r n A o s g=>?_
 obtain⟨ds,b,t⟩:=qC n;have f:=g.at_;unfold enL at b;split at b
 ·rename_i x v;rw[v]at f;obtain⟨u,rfl,a⟩:=ds1 f;obtain⟨C,y,z⟩:=bnd b;cases z;obtain⟨q,D,rfl,i,c2⟩:=qYx a y;exact⟨q,rfl,⟨_,jE vY i⟩,t _ o s g.st g.cf (zZg i c2)⟩
 ·cases b
end
noncomputable def Res.ne{α:Type}:Res α->Res α
 |.ok a=>.ok a
 |_=>.no
theorem zXd{Q:α->Prop}{E E' :Nat->List (Str×D)->Prop}:∀{x:Res α},x.ne.wp Q E->x.wp Q E'
 |.ok _,h=>h
 |.er _ _,h=>h.elim
 |.no,h=>h.elim
noncomputable def yT(g:SG)(t:ST)(el:SV):List D->Ev->Res (List D×Ev)
 |[],env=>.ok ([],env)
 |d::ds,env=>(opt (g d env)).bind fun a=>(t a).ne.bind fun r=>cond r.1 ((el r.2).ne.bind fun v=>(yT g t el ds v.2).bind fun q=>.ok (v.1::q.1,q.2)) (yT g t el ds r.2)
noncomputable def capO(cs:List (Nat×Nat))(i:Nat):Option Nat:=match cs with
 |[]=>none
 |c::r=>if c.1=i then some c.2 else capO r i
theorem qZl:∀{cs:List (Nat×Nat)} {i j:Nat},capO cs i=some j->(i,j)∈cs
 |[],i,j,h=>by cases h
 | c::r,i,j,h=>by
   simp only[capO]at h;split at h
   ·grind
   ·exact aM _ (qZl h)
theorem vXd:∀{cs:List (Nat×Nat)} {i i' j:Nat},(cs.map (·.2)).Nodup ->(i,j)∈cs->(i',j)∈cs->i=i'
 | c::r,i,i',j,hn,h1,h2=>by
   rw[aO,dC]at hn;rcases aA.mp h1 with a1|a1
   ·grind
   ·rcases aA.mp h2 with a2 | a2
    ·grind
    ·exact vXd hn.2 a1 a2
noncomputable def capS{α:Type}(cs:List (Nat×Nat))(u:α)(l:List α):Nat->Nat->List α
 |_,0=> []
 | i,n + 1=>(match capO cs i with
   |some j=>l.getD j u
   |none=>u)::capS cs u l (i+1) n
theorem qY3{cs:List (Nat×Nat)}{u:α}{l:List α}:∀(n i:Nat),(capS cs u l i n).length =n
 | 0,i=>rfl
 |n+1,i=>by rw[capS,aK,qY3 n]
theorem qJ8{cs:List (Nat×Nat)}{u:α}{l:List α}:∀(n i k:Nat),k<n->(capS cs u l i n)[k]?=some (match capO cs (i+k) with
  |some j=>l.getD j u
  |none=>u)
 | 0,i,k,h=>by omega
 |n+1,i,0,h=>by rw[capS];rfl
 | n + 1,i,k + 1,h=>by
   rw[capS,List.getElem?_cons_succ,qJ8 n (i+1) k (by omega),show i+1+k=i+(k+1) by omega]
theorem vYq{l:List (Option α)}{v:α}(h:l.getD j none=some v):l[j]?=some (some v):=by
 rw[cZ]at h;cases e:l[j]? with
 |none=>rw[e]at h;cases h
 |some o=>rw[e]at h;cases h;rfl
noncomputable def qV3(cs:List (Nat×Nat)):Nat->Nat->Ev->Ev
 |_,0,env=>env
 | i,n + 1,env=>qV3 cs (i + 1) n (match capO cs i with
   |some j=>env.set j .un
   |none=>env)
noncomputable def putI(cs:List (Nat×Nat)):Nat->Ev->Ev->Ev
 |_,[],env=>env
 | i,s::inn,env=>putI cs (i + 1) inn (match capO cs i with
   |some j=>env.set j s
   |none=>env)
noncomputable def vW6(cs:List (Nat×Nat))(T:List Nat)(n m:Nat):Bool:=decide ((cs.map (·.1)).Nodup /\(cs.map (·.2)).Nodup /\∀c∈cs,c.1<n/\c.2<m/\c.1∉T)
theorem qWo{cs:List (Nat×Nat)}:∀{n i:Nat} {env:Ev},(qV3 cs i n env).length =env.length
 | 0,i,env=>rfl
 | n + 1,i,env=>by
   rw[qV3,qWo];grind
theorem vZn{cs:List (Nat×Nat)}:∀{inn:Ev} {i:Nat} {env:Ev},(putI cs i inn env).length =env.length
 |[],i,env=>rfl
 | s::inn,i,env=>by
   rw[putI,vZn];grind
theorem vZg{cs:List (Nat×Nat)}{k:Nat}{o:O}:∀{n i:Nat} {env:Ev},(qV3 cs i n env)[k]?=some (.s true o)->env[k]?=some (.s true o)
 | 0,i,env,h=>h
 | n + 1,i,env,h=>by
   rw[qV3]at h;have:=vZg h;grind
theorem vXl{cs:List (Nat×Nat)}{k:Nat}{o:O}:∀{inn:Ev} {i:Nat} {env:Ev},(putI cs i inn env)[k]?=some (.s true o)->env[k]?=some (.s true o)\/∃a,capO cs a =some k/\i<=a /\inn[a - i]?=some (.s true o)
 |[],i,env,h=>.inl h
 | s::inn,i,env,h=>by
   rw[putI]at h;rcases vXl h with h|⟨a,b,c,d⟩
   ·grind
   ·grind
section
variable{K:aQ}{c:Nat->aZ}{F H:Hp}{cs:List (Nat×Nat)}
theorem cap_in{env0:Ev}(h2:(cs.map (·.2)).Nodup)(g:∀e∈cs,e.2<env0.length):∀{n i:Nat} {env:Ev} {W:Fp},SlAt K c F H env σ W->(∀d j,i<=d ->capO cs d =some j->env[j]?=env0[j]?)->
  ∃b R,SlAt K c F H (capS cs .un env0 i n) (capS cs none σ i n) b/\SlAt K c F H (qV3 cs i n env) σ R/\∀a,W a=b a+R a
 | 0,i,env,W,h,q=>⟨fun _=>0,W,⟨⟨rfl,h.tab⟩,fun _=>rfl⟩,h,fun a=>by(try dsimp only);omega⟩
 | n + 1,i,env,W,h,q=>by
   cases e:capO cs i with
   | none=>
     obtain⟨b,R,k,l,m⟩:=cap_in h2 g (n:=n) (i:=i+1) h fun d j v f=>q d j (by omega) f
     refine⟨b,R,?_,?_,m⟩
     ·rw [capS,capS,e];exact⟨none,_,fun _=>0,b,rfl,fun _=>rfl,k,fun a=>by(try dsimp only);omega⟩
     ·rw[qV3,e];exact l
   | some j=>
     have o:=qZl e;have p:j<env0.length:=g _ o;have w:env[j]?=some env0[j]:=by rw[q i j (aB _) e];exact aL p
     obtain⟨x,r,y,s,A,B,C⟩:=h.focus w;have t:=C F H .un x (fun _=>0) y (Same.refl _) (fun _ _=>rfl) (fun _=>rfl) fun a=>by(try dsimp only);omega
     rw[yZ s]at t;obtain⟨b,R,k,l,m⟩:=cap_in h2 g (n:=n) (i:=i+1) t fun d u v f=>by
      have D:j≠u :=fun z=>by
       subst z;have:=vXd h2 o (qZl f);omega
      rw[bH D];exact q d u (by omega) f
     refine⟨fun a=>r a+b a,R,?_,?_,fun a=>by rw[B,m];(try dsimp only);omega⟩
     ·rw [capS,capS,e];refine⟨x,_,r,b,?_,?_,k,fun _=>rfl⟩
      ·dsimp only;rw[cZ,s];rfl
      ·dsimp only;rw[cZ,aL p];exact A
     ·rw[qV3,e];exact l
theorem cap_out:∀{inn:Ev} {σ2:L2.St} {i:Nat} {env:Ev} {R Wi:Fp},SlAt K c F H inn σ2 Wi->SlAt K c F H env σ R->(∀(k j:Nat),capO cs (i+k)=some j->k<inn.length->j<env.length/\σ2[k]?=σ[j]?)->(∀a,Wi a+R a<=1)->∃W,SlAt K c F H (putI cs i inn env) σ W/\∀a,W a<=Wi a+R a
 |[],σ2,i,env,R,Wi,h,k,q,_=>⟨R,k,fun a=>by omega⟩
 | s::inn,σ2,i,env,R,Wi,h,k,q,nd=>by
   obtain⟨x,r,p,E,rfl,b,t,d⟩:=h;cases e:capO cs i with
   | none=>
     obtain⟨W,g,l⟩:=cap_out (i:=i+1) t k (fun m j n z=>by
      obtain⟨o,f⟩:=q (m+1) j (by rw[show i+(m+1)=i+1+m by omega];exact n) (by rw[aK];omega);exact⟨o,by simpa using f⟩) (fun a=>by have:=nd a;rw[d]at this;omega)
     refine⟨W,?_,fun a=>by have:=l a;rw[d];omega⟩;rw[putI,e];exact g
   | some j=>
     obtain⟨o,f⟩:=q 0 j (by rw[Nat.add_zero];exact e) (by rw[aK];omega);rw[dH]at f;obtain⟨y,G,A,u,I,v,B⟩:=k.focus (aL o);rw[←f]at u;cases u;have w:=B F H s x p (fun a=>p a+A a) (Same.refl _) (fun _ _=>rfl) b fun _=>rfl
     rw[yZ f.symm]at w;obtain⟨W,g,l⟩:=cap_out (i:=i+1) t w (fun m C n z=>by
      obtain⟨g1,D⟩:=q (m+1) C (by rw[show i+(m+1)=i+1+m by omega];exact n) (by rw[aK];omega);exact⟨by rw[bS];exact g1,by simpa using D⟩) (fun a=>by have:=nd a;rw[d,v]at this;(try dsimp only);omega)
     refine⟨W,?_,fun a=>by have:=l a;(try dsimp only at this);rw[d,v];omega⟩;rw[putI,e];exact g
theorem Cf.write{p:aZ}{d:HO}(b:Cf K c env σ H B W)(g:B p≠0)(hb:Hb d):Cf K c env σ (upd H p d) B W:=by
 have e:(hd2 B W) p≠0:=by dsimp only[hd2];omega
 have f:∀a,W a≠0->a≠p:=fun a z y=>by have:=b.nd a;rw[y]at z this;omega
 refine⟨by rw[qY0 e];exact b.at_.keep (Same.refl _) fun a z=>qF (f a z),b.nd,fun a z=>?_⟩;by_cases y:a=p
 ·subst y;exact⟨d,upd_same,hb⟩
 ·rw[qF y];exact b.hb a z
end
noncomputable def compS(n:Nat)(cs:List (Nat×Nat))(T:List Nat)(it:SI)(g:SG)(t:ST)(el:SV):SE:=fun a=>(it a).bind fun r=>cond (vW6 cs T n r.2.length && decide (r.1.length<=lim))
 ((yT g t el r.1 (capS cs .un r.2 0 n)).bind fun q=>.ok (.ow .lst (q.1.map .fz),putI cs 0 q.2 (qV3 cs 0 n r.2))) .no
structure TDs(X:Cx)(c:Nat->aZ)(E:XK)(ifs:List Expr)(t:ST):Prop where
 h:PTs X ifs (tT X.K c E t)
noncomputable def bTrue:ST:=fun a=>.ok (true,a)
theorem PTs.imp{e:List Expr}{t:TT}(h:PTs X e t)(k:∀σ H Q,t' σ H Q->t σ H Q):PTs X e t' :=fun a s σ H Q I q=>h a s σ H Q I (k σ H Q q)
theorem qZu:TDs X c E [] bTrue:=by
 refine⟨PTs.imp zJn fun σ H Q=>?_⟩;rintro⟨a,B,W,b,w⟩;exact w H W .refl b
theorem vVc{t:ST}(h:TD X c E e t):TDs X c E [e] t:=⟨zJm h.h⟩
noncomputable abbrev EN' :XK:=fun _ _ _=>False
set_option maxHeartbeats 1000000 in
theorem vZj{K:aQ}{cs:List (Nat×Nat)}{T:List Nat}{t:ST}{el:SV}(h:tE K c E (compS n cs T it g t el) σ H Q):
  tComp (tIt K c E it) (tG K c T g) (tT K c EN' t) (tV K c EN' el) (fun σ=>capS cs none σ 0 n) σ H Q:=by
 obtain⟨env,B,W,cf,w⟩:=h;refine⟨env,B,W,cf,wp_mono (fun r1 h1 J N W1 st1 O iter p hp=>?_) (fun _ _ G=>G) (qY.mp w)⟩;obtain⟨ds,e1⟩:=r1;obtain⟨hck,h1⟩:=v7 h1;rw[aP]at hck;obtain⟨n1,n2,n3⟩:=(of_decide_eq_true hck.1:(cs.map (·.1)).Nodup /\(cs.map (·.2)).Nodup /\∀c∈cs,c.1<n/\c.2<e1.length/\c.1∉T)
 have hlim:ds.length<=lim:=of_decide_eq_true hck.2;obtain⟨Wi,R,i1,i2,i3⟩:=cap_in n2 (fun e G=>(n3 e G).2.1) (n:=n) (i:=0) O.at_ (fun _ _ _ _=>rfl);have nd1:∀a,B a+(Wi a+R a)<=1:=fun a=>by have:=O.nd a;rw[i3]at this;exact this
 obtain⟨pB,pW⟩:=O.fresh hp;have pWi:Wi p=0/\R p=0:=by have:=i3 p;omega
 have smp:Same N (upd N p (.lst [])):=.upd hp;have d:∀a,a≠p->upd N p (.lst []) a=N a:=fun a z=>qF z
 let f:Fp:=fun a=>B a+R a
 have A:∀a,f a=B a+R a:=fun _=>rfl
 have sm0:Same (hide (hd2 B W1) N) (hide (hd2 (hd2 f (one p)) Wi) (upd N p (.lst []))):=zK fun a o z q=>by
  have ne:a≠p:=fun y=>by rw[y,hp]at q;cases q
  have:=xO ne;have:=i3 a;have:=A a;dsimp only[hd2]at *;exact⟨by omega,by rw[d a ne];exact q⟩
 have cfI:Cf K c (capS cs .un e1 0 n) (capS cs none σ 0 n) (upd N p (.lst [])) (hd2 f (one p)) Wi:=by
  refine⟨i1.keep sm0 fun a z=>d a fun y=>by rw[y]at z;omega,fun a=>?_,fun a z=>?_⟩
  ·have:=nd1 a;have:=A a;by_cases y:a=p
   ·subst y;dsimp only[hd2];rw[wF];omega
   ·dsimp only[hd2];rw[xO y];omega
  ·by_cases y:a=p
   ·subst y;exact⟨_,upd_same,trivial⟩
   ·rw [d a y];exact O.hbs (by have:=i3 a;have:=A a;dsimp only[hd2]at z;rw[xO y]at z;omega)
 generalize P:(fun r:List D×Ev=>∀u H' W' Z,Got K c env σ H B W (putI cs 0 r.2 (qV3 cs 0 n e1)) H' W' Z (.ow .lst (r.1.map .fz)) u->Q u H')=Post
 let Inv:Nat->Nat->L2.St->List V->Hp->Prop:=fun i m σ2 ys C=>m=ds.length - i/\i<=ds.length/\∃F L out,Step (capS cs .un e1 0 n) (capS cs none σ 0 n) (upd N p (.lst [])) f (hd2 Wi (one p)) F σ2 C (hd2 L (one p))/\Cf K c F σ2 C (hd2 f (one p)) L/\
  C p=some (.lst ys)/\DsAt K c (hide (hd2 (hd2 f (one p)) L) C) ys out/\ys.length<=i/\(∀e∈cs,σ2[e.1]?=(capS cs none σ 0 n)[e.1]?)/\(yT g t el (ds.drop i) F).wp (fun q=>Post (out ++ q.1,q.2)) (fun _ _=>True)
 refine⟨Inv,⟨ds.length,by simp,eJ _,_,Wi,[],.refl,cfI,upd_same,.nil,aB _,fun _ _=>rfl,?_⟩,?_⟩
 ·refine wp_mono (fun q hq=>?_) (fun _ _ _=>trivial) (qY.mp h1);subst P;exact hq
 rintro i m σ2 ys C ⟨rfl,hi,F,L,out,l,M,X,dsO,hly,hσ,w2⟩;refine⟨X,vQ5 (by omega),?_⟩;have eqI:hide (hd2 (hd2 f (one p)) Wi) (upd N p (.lst []))=hide (hd2 f (hd2 Wi (one p))) (upd N p (.lst [])):=zI fun a=>by dsimp only[hd2];omega
 have eq2:hide (hd2 (hd2 f (one p)) L) C=hide (hd2 f (hd2 L (one p))) C:=zI fun a=>by dsimp only[hd2];omega
 have smI:Same (hide (hd2 B W1) N) (hide (hd2 (hd2 f (one p)) L) C):=sm0.trans (by rw[eqI,eq2];exact l.same);have p0:f p=0:=by rw[A];omega
 have pBp:(hd2 f (one p)) p≠0:=by dsimp only[hd2];rw[wF];omega
 obtain⟨it1,it2⟩:=iter i C (hd2 (hd2 f (one p)) L) smI (fun a z=>M.hbs z);by_cases Y:i<ds.length
 ·obtain⟨go,yl⟩:=it1 ds[i] (aL Y);refine .inr ⟨go,fun x H3 y=>?_⟩;obtain⟨sm3,hx⟩:=yl x H3 y;rw[List.drop_eq_getElem_cons Y]at w2;obtain⟨e3,e2,w3⟩:=qC w2;refine⟨F,_,L,ds[i],e3,M.grow sm3,hx,e2,fun σ4 W4 st4 cf4 kσ=>⟨e3,_,W4,cf4,wp_mono (fun r q H5 W5 st5 cf5=>?_) (fun _ _ G=>G) (zXd (E' :=erP K c EN' H3 (hd2 f (one p)) W4) (qY.mp w3))⟩⟩;obtain⟨b,e5⟩:=r;have I:=((Step.grow M sm3).trans st4).trans st5;have at5:H5 p=some (.lst ys):=by rw[I.by_ p pBp];exact X
  have hσ4:∀e∈cs,σ4[e.1]?=(capS cs none σ 0 n)[e.1]?:=fun e G=>(kσ e.1 (n3 e G).2.2).trans (hσ e G)
  cases b with
  | false=>
    have l25:=I.lift (B:=f) (Z:=one p) (W' :=hd2 L (one p)) (Y' :=hd2 W5 (one p)) (fun _=>rfl) (fun _=>rfl) (fun _=>rfl);exact⟨ds.length - (i+1),by omega,rfl,Y,e5,W5,out,l.trans l25,cf5,at5,dsO.same I.same,by omega,hσ4,q⟩
  | true=>
    refine⟨e5,_,W5,cf5,wp_mono (fun r q u H6 W6 g6=>?_) (fun _ _ G=>G) (zXd (E' :=erP K c EN' H5 (hd2 f (one p)) W5) (qY.mp q))⟩;obtain⟨v,e6⟩:=r;have S:=I.trans g6.st;have at6:H6 p=some (.lst ys):=by rw[S.by_ p pBp];exact X
    have l26:=S.lift (B:=f) (Z:=one p) (W' :=hd2 L (one p)) (Y' :=hd2 W6 (one p)) (fun _=>rfl) (fun _=>rfl) (fun _=>rfl);have hh6:(hd2 (hd2 f (one p)) W6) p≠0:=by dsimp only[hd2]at *;omega
    have hh7:(hd2 f (hd2 W6 (one p))) p≠0:=by dsimp only[hd2];rw[wF];omega
    have wr:Step e6 σ4 H6 f (hd2 W6 (one p)) e6 σ4 (upd H6 p (.lst (ys ++ [u]))) (hd2 W6 (one p)):=by
     refine⟨by rw[qY0 hh7];exact Same.refl _,fun a z=>qF fun y=>by rw[y]at z;exact z p0,fun a z=>.inl z,fun a z=>?_,fun a _ _=>?_,fun _ o h=>⟨⟨o,h⟩,rfl⟩,rfl⟩
     ·by_cases y:a=p
      ·subst y;rw[upd_same]at z;cases z
      ·rw[qF y]at z;exact z
     ·by_cases y:a=p
      ·subst y;rw[at6];trivial
      ·exact .of (qF y)
    refine⟨at6,ds.length - (i+1),by omega,rfl,Y,e6,W6,out ++ [v],(l.trans l26).trans wr,g6.cf.write pBp trivial,upd_same,?_,by rw[aU,List.length_singleton];omega,hσ4,?_⟩
    ·rw [qY0 hh6];exact(dsO.same S.same).append (.cons g6.at_ .nil)
    ·exact wp_mono (fun q hq=>by rw[dF];exact hq) (fun _ _ _=>trivial) (qY.mp q)
 ·have hi2:i=ds.length:=by omega
  subst hi2;refine .inl ⟨it2 rfl,?_⟩;rw[List.drop_length]at w2;have w3:Post (out ++ [],F):=w2;rw[bK,←P]at w3;have nd2:∀a,B a+R a+one p a+L a<=1:=fun a=>by have:=M.nd a;have:=A a;dsimp only[hd2]at *;omega
  have U:∀a,R a≠0->C a=N a:=fun a z=>by
   rw[l.by_ a (by rw[A];omega)];exact d a fun y=>by rw[y]at z;omega
  have linn:F.length=n:=by rw[l.len,qY3]
  obtain⟨W3,o1,o2⟩:=cap_out (cs:=cs) (i:=0) M.at_ (i2.keep smI U) (fun k j G hk=>by
   rw[Nat.zero_add]at G;have hm:=qZl G;obtain⟨m1,m2,_⟩:=n3 _ hm;refine⟨by rw[qWo];exact m2,?_⟩;rw[hσ _ hm];show(capS cs none σ 0 n)[k]?=σ[j]?;have hj:j < σ.length:=by rw[←O.len];exact m2
   rw[qJ8 n 0 k m1,Nat.zero_add,G];dsimp only;rw[cZ,aL hj];rfl) (fun a=>by have:=nd2 a;omega)
  have smE:Same (hide (hd2 (hd2 f (one p)) L) C) (hide (hd2 (hd2 B (one p)) W3) C):=zG fun a z=>by have:=o2 a;have:=A a;dsimp only[hd2]at *;omega
  have eqE:hide (hd2 (hd2 B (one p)) W3) C=hide (hd2 B (hd2 W3 (one p))) C:=zI fun a=>by dsimp only[hd2];omega
  refine w3 (.ref p) C W3 (one p) ⟨st1.trans ⟨by rw[←eqE];exact smI.trans smE,fun a z=>?_,fun a z=>?_,fun a z=>?_,fun a z1 z2=>?_,fun k o h=>⟨?_,rfl⟩,by rw[vZn,qWo]⟩,⟨o1.keep smE fun _ _=>rfl,fun a=>?_,fun a z=>?_⟩,OAt.ow.mpr ⟨p,ys,fun _=>0,rfl,X,OsAt.fzs.mpr ⟨dsO.same smE,fun _=>rfl⟩,fun _=>rfl⟩⟩
  ·rw [l.by_ a (by rw [A];omega)];exact d a fun y=>by rw[y]at z;omega
  ·by_cases y:a=p
   ·exact .inr (by rw[y];exact hp)
   ·have y1:=xO y;have:=o2 a;by_cases q:R a=0
    ·rcases l.new a (by dsimp only [hd2] at *;omega) with q1 | q1
     ·exact .inl (by rw[i3];dsimp only[hd2]at q1;omega)
     ·exact .inr (by rw[d a y]at q1;exact q1)
    ·exact .inl (by rw[i3];omega)
  ·have:=l.dom a z;by_cases y:a=p
   ·subst y;rw[upd_same]at this;cases this
   ·rw[d a y]at this;exact this
  ·have y:a≠p:=fun y=>by rw [y] at z1;exact z1 pW
   have y1:=xO y;by_cases q:R a=0
   ·have:=l.pin a (by have:=i3 a;dsimp only [hd2];omega) (by have:=o2 a;dsimp only [hd2] at *;omega);rw[d a y]at this;exact this
   ·exact .of (U a q)
  ·rcases vXl h with h | ⟨i',k1,_,k3⟩
   ·exact⟨o,vZg h⟩
   ·rw [Nat.sub_zero] at k3;obtain⟨⟨o0,k4⟩,_⟩:=l.io i' o k3;have hi' :i'<n:=by rw[←linn];exact(aD.mp k3).1
    rw[qJ8 n 0 i' hi',Nat.zero_add,k1]at k4;have k5:=Option.some.inj k4;dsimp only at k5;rw[cZ]at k5;cases e:e1[k]? with
    |none=>rw[e]at k5;cases k5
    |some s=>rw[e]at k5;exact⟨o0,by rw[←k5];rfl⟩
  ·have:=nd2 a;have:=o2 a;dsimp only[hd2];omega
  ·exact M.hb a (by have:=A a;dsimp only[hd2]at *;omega)
noncomputable def CapP(X:Cx)(ns:List (Str×NameKind))(Nc:List Str):List (Nat×Nat)->Prop
 |[]=>True
 |c::r=>(∃x,Nc[c.1]?=some x/\X.N[c.2]?=some x/\ns.lookup x=some .cell /\X.env.kindOf x=some .cell)/\CapP X ns Nc r
noncomputable def zQk(X:Cx):List (Str×aZ)->Prop
 |[]=>True
 |p::r=>X.env.cells.lookup p.1=some p.2/\zQk X r
theorem vZ8{ns:List (Str×NameKind)}:∀{cs:List (Nat×Nat)} {c:Nat×Nat},CapP X ns Nc cs->c∈cs->∃x,Nc[c.1]?=some x/\X.N[c.2]?=some x/\ns.lookup x=some .cell /\X.env.kindOf x=some .cell
 | d::r,c,h,m=>by
   rcases aA.mp m with rfl|m
   ·exact h.1
   ·exact vZ8 h.2 m
theorem vQs:∀{cl:List (Str×aZ)} {x:Str} {c:aZ},zQk X cl->cl.lookup x=some c->X.env.cells.lookup x=some c
 |[],x,c,_,e=>by cases e
 | p::r,x,c,h,e=>by
   rw[List.lookup_cons]at e;split at e
   ·rename_i q;have a :x=p.1:=by simpa using q
    cases e;rw[a];exact h.1
   ·exact vQs h.2 e
theorem qZ9:∀{cl:List (Str×α)} {x:Str},x∈cl.map (·.1)->∃c,cl.lookup x=some c
 | p::r,x,h=>by
   rw[List.lookup_cons];split
   ·exact⟨_,rfl⟩
   ·rename_i q;rw[aO]at h;rcases aA.mp h with z|z
    ·subst z;simp at q
    ·exact qZ9 z
theorem vW5{cl:List (Str×aZ)}(cs:List (Nat×Nat))(ns:List (Str×NameKind))(xs:List Str)(b:(relabel scope X.env).names =ns)(c:closureFor scope X.env=pure cl)(l:cl.map (·.1)=xs)(hk:scope.kind=.function)(m:∀y∈scope.names,y.2≠ .cell)(n:∀y∈scope.names,y.2=.local ->scope.names.lookup y.1=some .local)(f:zQk X cl)(a:∀y∈ns,y.2=.cell \/y.2=.free ->y.1∈xs)(g:CapP X ns Nc cs):
  Caps X scope cl Nc (fun σ=>capS cs none σ 0 Nc.length) where
 clos:=c;kind:=hk;nocell:=m;names:=n;cells:=fun y d e=>vQs f e
 has:=fun y h=>by
  rw[b]at h;refine qZ9 ?_
  rw[l];rcases h with h|h
  ·exact a _ (cY h) (.inl rfl)
  ·exact a _ (cY h) (.inr rfl)
 len:=fun σ=>qY3 _ _
 cap:=fun σ k y v p i _=>by
  have hk:k<Nc.length:=(aD.mp p).1;rw[qJ8 _ 0 k hk,Nat.zero_add]at i;cases q:capO cs k with
  |none=>rw[q]at i;cases i
  | some j=>
    rw[q]at i;obtain⟨x,o,r,t,s⟩:=vZ8 g (qZl q);dsimp only at o r;rw[p]at o;cases o;exact⟨.inl (by rw[b];exact t),.inl s,j,r,vYq (Option.some.inj i),.inr (.inl s)⟩
theorem qYk(hk:scope.kind=.function)(b:∀x∈scope.names,x.2≠ .free)(c:∀x∈scope.names,x.2≠ .cell)(a:∀y∈scope.names,y.2=.local ->scope.names.lookup y.1=some .local):
  Caps X scope [] Nc (fun σ=>capS [] none σ 0 Nc.length):=by
 have e:(fun σ:L2.St=>capS [] none σ 0 Nc.length)=(fun _=>List.replicate Nc.length none):=by
  funext σ;have:∀n i,capS [] (none:Option V) σ i n=List.replicate n none:=fun n=>by
   induction n with
   |zero=>intro i;rfl
   |succ n ih=>intro i;rw[capS,ih,dQ];rfl
  grind
 rw[e];exact jVo hk b c a
section
variable{X:Cx}{c:Nat->aZ}{E:XK}{tg iter elt:Expr}{ifs:List Expr}{scope:Scope}{cl:List (Str×aZ)}{Nc:List Str}{cs:List (Nat×Nat)}{T:List Nat}{pos:Pos}{it:SI}{g:SG}{t:ST}{el:SV}
theorem qZw(b:X.calm=true)(d:Caps X scope cl Nc (fun σ=>capS cs none σ 0 Nc.length))(hi:ID' X c E tg iter it)(e:∀C s H a,GD (cCx X scope cl C Nc s H a) c tg T g)(f:∀C s H a,TDs (cCx X scope cl C Nc s H a) c EN' ifs t)(i:∀C s H a,EV (cCx X scope cl C Nc s H a) c EN' elt el)(hs:∀x,foldedSetIterable iter X.env x=pure x:=by intro _;rfl):ED X c E (.ListComp elt [⟨tg,iter,ifs,0⟩] scope pos) (compS Nc.length cs T it g t el):=
 ⟨PE.imp (zJ4 b d hi.h (fun C s H a=>(e C s H a).h) (fun C s H a=>(f C s H a).h) (fun C s H a=>(i C s H a).h) hs) fun _ _ _ h=>vZj h⟩
theorem zYf{K:aQ}{s:SE}{D:Ends}{x:Str}(hi:N[i]?=some x)(hl:σ.length=N.length)(h:tS K c E (sSet i s) D σ H):tE K c E s σ H fun x a=>qK6 i x σ a D.nx:=by
 obtain⟨b,B,W,d,w⟩:=h;refine⟨b,B,W,d,wp_mono (fun l e u a m Z g=>?_) (fun _ _ f=>f) (qY.mp w)⟩;obtain⟨j,k,c2⟩:=g.r.put (qXw g.cf hl hi);exact e _ a j k c2
theorem vVg{y:Str}{f b:Pos}(j:X.calm=true)(k:X.N.Nodup)(d:X.N[i]?=some y)(l:Loc X.env.scope y)(m:Caps X scope cl Nc (fun σ=>capS cs none σ 0 Nc.length))(hi:ID' X c E tg iter it)(o:∀C s H a,GD (cCx X scope cl C Nc s H a) c tg T g)(p:∀C s H a,TDs (cCx X scope cl C Nc s H a) c EN' ifs t)(q:∀C s H a,EV (cCx X scope cl C Nc s H a) c EN' elt el)(e:swapsWith (.ListComp elt [⟨tg,iter,ifs,0⟩] scope pos) (some (.Name y f)) b.line X.env=pure true:=by rfl)(hs:∀x,foldedSetIterable iter X.env x=pure x:=by intro _;rfl)(r:X.fn y=true\/X.env.scope.names.lookup y=some .local :=by first|exact .inl rfl|exact .inr rfl|assumption):
  SD X c E (.Assign [.Name y f] (.ListComp elt [⟨tg,iter,ifs,0⟩] scope pos) b) (sSet i (compS Nc.length cs T it g t el)):=
 ⟨PS.len (PS.imp (zJv j k d l m hi.h (fun C s H a=>(o C s H a).h) (fun C s H a=>(p C s H a).h) (fun C s H a=>(q C s H a).h) e hs r) fun D σ H h=>vZj (n:=Nc.length) (cs:=cs) (T:=T) (it:=it) (g:=g) (t:=t) (el:=el) (zYf d h.1 h.2))⟩
end
theorem zY8:jP (CXd P w) X EN' :=fun _ _ _ _ _ _ _ h=>by
 obtain⟨_,_,_,_,_,_,_,_,_,_,_,_,_,_,_,_,h⟩:=h;exact h.elim
noncomputable def evI:Option SV->Ev->Res (Option Int×Ev)
 |none,env=>.ok (none,env)
 |some s,env=>(s env).bind fun r=>(opt (yV r.1)).bind fun i=>.ok (some i,r.2)
noncomputable def tI(K:aQ)(c:Nat->aZ)(E:XK)(s:Option SV):TO:=fun σ H Q=>∃a B W,Cf K c a σ H B W/\(evI s a).wp (fun r=>∀b d,Step a σ H B W r.2 σ b d ->Cf K c r.2 σ b B d ->Q r.1 b) (erP K c E H B W)
structure PD(X:Cx)(c:Nat->aZ)(E:XK)(e:Option Expr)(s:Option SV):Prop where
 h:PO X e (tI X.K c E s)
theorem PO.imp{e:Option Expr}{t t' :TO}(h:PO X e t)(k:∀σ H Q,t' σ H Q->t σ H Q):PO X e t' :=fun a s σ H Q I q=>h a s σ H Q I (k σ H Q q)
theorem yG:PD X c E none none:=by
 refine⟨PO.imp zJz fun σ H Q=>?_⟩;rintro⟨a,B,W,b,w⟩;exact w H W .refl b
theorem yF{s:SV}(h:EV X c E e s):PD X c E (some e) (some s):=by
 refine⟨PO.imp (zJy h.h) fun σ H Q=>?_⟩;rintro⟨a,B,W,b,w⟩;refine⟨a,B,W,b,wp_mono (fun n d u f j g=>?_) (fun _ _ k=>k) (qY.mp w)⟩;obtain⟨i,l,m⟩:=qC d;exact⟨i,jJ g.at_ l,m f j g.st g.cf⟩
noncomputable def cutL{α:Type}(xs:List α)(lo hi:Option Int):List α:=(xs.drop (HT.sIx xs.length 0 lo)).take (HT.sIx xs.length xs.length hi - HT.sIx xs.length 0 lo)
theorem vJy{K:aQ}{F:Hp}{ds:List D}{lo hi:Option Int}(h:DsAt K c F vs ds):DsAt K c F (cutV vs lo hi) (cutL ds lo hi):=by
 unfold cutV cutL;rw[h.len];exact(h.drop _).take _
noncomputable def eSlL(o:Oe)(lo hi:Option SV):SE:=fun a=>(evO o a).bind fun r=>(evI lo r.2).bind fun b=>(evI hi b.2).bind fun c=>cond r.1.st ((rsvB c.2 r.1).bind fun x=>(opt (qQ8 x.1)).bind fun ds=>.ok (.ow .lst ((cutL ds b.1 c.1).map .fz),x.2)) .no
noncomputable def vV6(o:Oe)(lo hi:Option SV):SV:=fun b=>(evO o b).bind fun r=>(evI lo r.2).bind fun c=>(evI hi c.2).bind fun a=>cond r.1.st ((opt (rsv a.2 r.1)).bind fun x=>(opt (qW3 x)).bind fun ds=>cond (vD x &&!(decide (HT.sIx ds.length 0 c.1=0) && decide (HT.sIx ds.length ds.length a.1=ds.length))) (.ok (.tup (cutL ds c.1 a.1),a.2)) .no) .no
section
variable{X:Cx}{c:Nat->aZ}{E:XK}{e:Expr}{lo hi:Option Expr}{pos p2:Pos}{o:Oe}{sl sh:Option SV}
theorem Vw.lst{K:aQ}{F:Hp}{u:V}{x:D}{ds:List D}(s:Same F H)(h:Vw K c F H u x)(e:qQ8 x=some ds):∃p vs,u=.ref p/\SqL K H p vs/\DsAt K c F vs ds:=by
 unfold qQ8 at e;split at e
 ·cases e;exact h.un s
 ·cases e
theorem qVf(b:OD X c E e o)(hl:PD X c E lo sl)(z:PD X c E hi sh):ED X c E (.Subscript e (.Slice lo hi none p2) pos) (eSlL o sl sh):=by
 refine⟨PE.imp (qYu zJa b.h hl.h z.h) fun σ H Q=>?_⟩;rintro⟨A,B,W,C,w⟩;refine qQ5 C (qY.mp w) fun r D u U F g=>?_
 refine⟨r.2,B,F,g.cf,wp_mono (fun n G V I a i=>?_) (fun _ _ b=>b.back g.st) (qY.mp D)⟩;refine⟨n.2,B,I,i,wp_mono (fun J K s Y d j=>?_) (fun _ _ b=>b.back (g.st.trans a)) (qY.mp G)⟩;obtain⟨hs,L⟩:=v7 K;have M:=(g.at_.step a.same hs).step d.same hs;obtain⟨x,t,N,l,f,vw,O⟩:=vXh j M (qY.mp L);obtain⟨ds,P,R⟩:=qC O;obtain⟨p,v,rfl,S,T⟩:=vw.lst vY P;refine⟨p,v,rfl,S,fun q m=>?_⟩;have y:Same s (upd s q (.lst (cutV v n.1 J.1))):=.upd m;exact R (.ref q) _ N _ ((Got.lay f m y (k:=.lst) upd_same ((vJy T).same (qYy f m y))).back (((g.st.trans a).trans d).trans l))
end
section
variable{K:aQ}{c:Nat->aZ}
noncomputable def lenD:List D->Option D
 |[.nd .lst ds]=>some (.int ds.length)
 |[.nd .tup ds]=>some (.int ds.length)
 |[.nd (.dct ks) _]=>some (.int ks.length)
 |[.str z]=>cond (decide (z.length<=aI)) (some (.int z.length)) none
 |_=>none
noncomputable def rLen(K:aQ):List V->Hp->VK->Prop:=fun a H Q=>(∃p b,a=[.ref p]/\(SqL K H p b\/SqT K H p b)/\Q (.int b.length) H)\/(∃z,a=[.str z]/\z.length<=aI/\Q (.int z.length) H)\/(∃p c,a=[.ref p]/\Rd H p (.dK c)/\Q (.int (c.length:Nat)) H)
theorem vK1:jS X (.builtin "len") (fun xs H Q=>∃p a,xs=[.ref p]/\Rd H p (.dK a)/\Q (.int (a.length:Nat)) H):=by
 intro b s σ H xs us Q I r h;obtain⟨p,a,rfl,c,q⟩:=h;obtain⟨u,rfl,d⟩:=qV6 r;cases d;exact jVm I c fun t f e =>⟨.int a.length,H,e,⟨_,rfl⟩,q⟩
theorem vK2:jS X (.builtin "len") (rLen X.K):=vV3.or (vV2.or vK1)
theorem pr_len:PrSN K c (rLen K) lenD:=fun l H m z Q d e q=>by
 unfold lenD at e;split at e
 ·cases e;obtain⟨u,rfl,a⟩:=ds1 d;obtain⟨p,f,rfl,b,g⟩:=a.un;exact .inl ⟨p,f,rfl,.inl b,by rw[g.len];exact q _ fun _=>.int _⟩
 ·cases e;obtain⟨u,rfl,a⟩:=ds1 d;obtain⟨p,f,rfl,b,g⟩:=a.un;exact .inl ⟨p,f,rfl,.inr b,by rw[g.len];exact q _ fun _=>.int _⟩
 ·cases e;obtain⟨u,rfl,a⟩:=ds1 d;obtain⟨p,f,rfl,⟨b,g,h⟩,n⟩:=a.un;refine .inr (.inr ⟨p,_,rfl,h,?_⟩);rw[List.length_zip,←b,Nat.min_self];exact q _ fun _=>.int _
 ·rename_i i;obtain⟨j,k⟩:=jL e;cases k;obtain⟨u,rfl,a⟩:=ds1 d;cases a;exact .inr (.inl ⟨i,rfl,of_decide_eq_true j,q _ fun _=>.int _⟩)
 ·cases e
noncomputable def intD:List D->Option D
 |[.int i]=>some (.int i)
 |[.bl k]=>some (.int (if k then 1 else 0))
 |_=>none
theorem zYx:PrSN K c (fun xs H Q=>(∃i,xs=[.int i]/\Q (.int i) H)\/∃k,xs=[.bl k]/\Q (.int (if k then 1 else 0)) H) intD:=fun d H xs z Q b e q=>by
 unfold intD at e;split at e
 ·cases e;obtain⟨u,rfl,a⟩:=ds1 b;cases a;exact .inl ⟨_,rfl,q _ fun _=>.int _⟩
 ·cases e;obtain⟨u,rfl,a⟩:=ds1 b;cases a;exact .inr ⟨_,rfl,q _ fun _=>.int _⟩
 ·cases e
noncomputable def qWm:List D->Option (List Int)
 |[]=>some []
 |d::r=>(yV d).bind fun i=>(qWm r).bind fun a=>some (i::a)
theorem qKi:∀xs:List Int,qWm (xs.map D.int)=some xs
 |[]=>rfl
 |x::xs=>by rw[aO,qWm,qKi xs];rfl
theorem vQy{F:Hp}:∀{vs:List V} {ds:List D} {ns:List Int},DsAt K c F vs ds->qWm ds=some ns->vs=ns.map V.int
 |vs,[],ns,h,e=>by cases e;rw[h.un0];rfl
 | vs,d::ds,ns,h,e=>by
   obtain⟨v,r,rfl,a,b⟩:=h.un;obtain⟨i,f,g⟩:=bnd e;obtain⟨l,j,k⟩:=bnd g;cases k;rw[aO,←vQy b j,jJ a f]
noncomputable def zQg:List D->Option (List Int)
 |[.nd .lst ds]=>qWm ds
 |_=>none
theorem zZj{xs:List D}{ns:List Int}(d:DsAt K c H us xs)(e:zQg xs=some ns):∃p,us=[.ref p]/\SqL K H p (ns.map V.int):=by
 unfold zQg at e;split at e
 ·obtain⟨u,rfl,a⟩:=ds1 d;obtain⟨p,f,rfl,g,h⟩:=a.un;have b :SqL K H p f:=g;rw[vQy h e]at b;grind
 ·cases e
noncomputable def sumD(xs:List D):Option D:=(zQg xs).bind fun a=>some (.int a.sum)
theorem zYv:PrSN K c (fun xs H Q=>∃(p:aZ) (ns:List Int),xs=[.ref p]/\SqL K H p (ns.map V.int)/\Q (.int ns.sum) H) sumD:=fun f H xs z Q a e q=>by
 obtain⟨ns,b,d⟩:=bnd e;cases d;obtain⟨p,rfl,h⟩:=zZj a b;exact⟨p,ns,rfl,h,q _ fun _=>.int _⟩
noncomputable def listD:List D->Option (List D)
 |[d]=>qW4 d
 |_=>none
theorem vws1{F:Hp}{x:D}(h:Vws K c F H us [x]):∃u,us=[u]/\Vw K c F H u x:=by
 cases us with
 |nil=>exact h.elim
 | cons u us=>
   cases us with
   |nil=>exact⟨u,rfl,h.1⟩
   |cons _ _=>exact h.2.elim
theorem Vw.seq{F:Hp}{u:V}{d:D}{ds:List D}(s:Same F H)(h:Vw K c F H u d)(e:qW4 d=some ds):∃p vs,u=.ref p/\(SqL K H p vs\/SqT K H p vs)/\DsAt K c F vs ds:=by
 unfold qW4 at e;split at e
 ·cases e;obtain⟨p,vs,a,b,r⟩:=h.un s;exact⟨p,vs,a,.inl b,r⟩
 ·cases e;obtain⟨p,vs,a,b,r⟩:=h.un s;exact⟨p,vs,a,.inr b,r⟩
 ·cases e
theorem vY9{T:Fp}{p:aZ}(b:H p=none)(c:Same H H'):Same (hide T H) (hide (hd2 T (one p)) H'):=zK fun a o z q=>⟨by
 have d:a≠p:=fun z=>by rw[z,b]at q;cases q
 have:=xO d;dsimp only[hd2];omega,c a o q⟩
theorem zJw:PrF K c (fun xs H Q=>∃p ys,xs=[.ref p]/\(SqL K H p ys\/SqT K H p ys)/\∀l,H l=none->Q (.ref l) (upd H l (.lst ys))) listD:=fun h H T xs ds Q hb d e q=>by
 unfold listD at e;split at e
 ·obtain⟨u,rfl,v⟩:=vws1 d;obtain⟨p,b,rfl,f,g⟩:=v.seq vY e;exact⟨p,b,rfl,f,fun l a=>q l b _ a (.upd a) upd_same (g.same (vY9 a (.upd a)))⟩
 ·cases e
noncomputable def tupleD:List D->Option D
 |[.nd .lst ds]=>some (.tup ds)
 |_=>none
theorem zVv:PrA K c (fun xs H Q=>∃p ys,xs=[.ref p]/\((SqL K H p ys/\∀l,H l=none->Q (.ref l) (upd H l (.tup ys)))\/(SqT K H p ys/\Q (.ref p) H))) tupleD:=fun m H T xs z Q hb f e q=>by
 unfold tupleD at e;split at e
 ·cases e;obtain⟨u,rfl,v⟩:=vws1 f;obtain⟨p,b,rfl,g,h⟩:=v.un vY;refine⟨p,b,rfl,.inl ⟨g,fun l i=>?_⟩⟩;have d:Same H (upd H l (.tup b)):=.upd i;have j:T l=0:=by
   grind
  exact q _ _ d (.of (k:=.tup) (SqT.of (by rw[vM j,upd_same])) (h.same (zK fun a o z y=>⟨z,d a o y⟩)))
 ·cases e
end
noncomputable def jQp(K:aQ):R2:=fun x y H Q=>∃l b a c,x=.ref l/\y=.ref b/\SqL K H l a/\SqL K H b c/\a.length+c.length<=aI/\∀p,H p=none->Q (.ref p) (upd H p (.lst (a ++ c)))
theorem zWa:OpR X (binaryOp .Add) (jQp X.K):=by
 intro k s σ H x y v u Q I rx ry h;obtain⟨l,b,N,O,rfl,rfl,w,z,P,q⟩:=h;cases rx;cases ry;obtain⟨c,r,A,_⟩:=I.list w;obtain⟨a,m,e,_⟩:=I.list z;obtain⟨⟨B,C,o,D⟩,n,p,E,_,G⟩:=A;obtain⟨⟨t,f,g,i⟩,J,d,j,_,hd2⟩:=e;subst E G j hd2;have R:=r.length;have L:=m.length;refine concat_meets ⟨_,p,rfl⟩ ⟨_,d,rfl⟩ noFill_list_add seq_list_add PySem.F.slot_list_add PySem.F.entry_list_add (PySem.F.args_list_add_2 _ _) (list_addW l b c.toArray a.toArray n J C f D i (by simp only[aN];omega)) ⟨p,d,?_⟩;have M:c.toArray ++ a.toArray=(c ++ a).toArray :=by simp
 rw[M];exact⟨.ref _,_,I.lnew (t' :=s.toks) (r.append m) (by rw[aU];omega),rfl,q _ I.fresh⟩
noncomputable def eCat(a b:Oe):SE:=fun c=>(evO a c).bind fun d=>(evO b d.2).bind fun e=>cond (d.1.st || b.isP) ((qQ7 [d.1,e.1] e.2).bind fun q=>match q.1 with
 |[x,y]=>(opt (qQ8 x)).bind fun ds=>(opt (qQ8 y)).bind fun f=>cond (decide (ds.length+f.length<=lim)) (.ok (.ow .lst ((ds ++ f).map .fz),q.2)) .no
 |_=>.no) .no
theorem vQ7{a b:Expr}{oa ob:Oe}(D:OD X c E a oa)(hb:OD X c E b ob):ED X c E (.BinOp a .Add b pos) (eCat oa ob):=by
 refine⟨PE.imp (zXp zWa D.h hb.h) fun σ H Q=>?_⟩;rintro⟨F,B,W,G,w⟩;refine qQ5 G (qY.mp w) fun I J u H1 W1 g1=>?_
 refine qQ5 g1.cf (wp_mono (fun _ q=>q) (fun C fs L=>L.back g1.st) (qY.mp J)) fun M N v f W2 g=>?_
 obtain⟨hs,O⟩:=v7 N;obtain⟨d,m,n,i,e,vw,P⟩:=rsvBs_wp (hs:=[I.1,M.1]) (us:=[u,v]) g.cf ⟨g1.next g hs,g.at_,trivial⟩ (qY.mp O);obtain⟨x,d,rfl⟩:∃x r,d=x::r:=by cases d with
  |nil=>exact vw.elim
  |cons x r=>grind
 obtain⟨y,rfl,R⟩:∃y,d=[y]/\Vw X.K c (hide (hd2 B n) f) f v y:=by
  cases d with
  |nil=>exact vw.2.elim
  | cons y r=>cases r with
    |nil=>exact⟨y,rfl,vw.2.1⟩
    |cons _ _=>exact vw.2.2.elim
 obtain⟨ds,S,T⟩:=qC P;obtain⟨es,U,V⟩:=qC T;obtain⟨Y,Z⟩:=v7 V;obtain⟨p,o,rfl,b1,s⟩:=vw.1.lst vY S;obtain⟨q,t,rfl,d1,z⟩:=R.lst vY U;refine⟨p,q,o,t,rfl,rfl,b1,d1,by have:=vQ5 (of_decide_eq_true Y);rw[s.len,z.len];omega,fun l j=>?_⟩;have A:Same f (upd f l (.lst (o ++ t))):=.upd j;exact Z (.ref l) _ n _ ((Got.lay e j A (k:=.lst) upd_same ((s.append z).same (qYy e j A))).back ((g1.st.trans g.st).trans i))
noncomputable def tyN:D->String
 |.non =>"NoneType"
 |.int _=>"int"
 |.str _=>"str"
 |.bl _=>"bool"
 |.nd .lst _=>"list"
 |.nd .tup _=>"tuple"
 |.nd (.dct _) _=>"dict"
 |_=>""
noncomputable def isiB(t n:String):Bool:=(t == n) || (t == "bool" && n == "int")
theorem zWg{K:aQ}{t n:String}{b:Bool}(h:PySem.W.kitMeta n=true)(e:(fastBuiltinMro t).map (·.contains (.type n))=some b)(a:(Value.type t == Value.type n)=false):bV K (.type t) (.type n)=some b:=by
 unfold bV;rw[a];show(if PySem.W.kitMeta n=true then PySem.W.subIn K (.type t) (.type n) else none)=some b;rw[if_pos h];exact e
theorem zZc{K:aQ}{t:String}:bV K (.type t) (.type t)=some true:=by
 unfold bV;grind
noncomputable abbrev tys:List String:=["NoneType","int","str","tuple","bool","list","dict"]
theorem zWh{K:aQ}:∀t∈tys,∀n∈(["int","str","tuple","bool","list","dict"]:List String),bV K (.type t) (.type n)=some (isiB t n):=by
 have a:∀t∈tys,∀n∈(["int","str","tuple","bool","list","dict"]:List String),t=n\/(PySem.W.kitMeta n=true/\(fastBuiltinMro t).map (·.contains (.type n))=some (isiB t n)/\(Value.type t == Value.type n)=false):=by
  decide +kernel
 intro t b n c;rcases a t b n c with rfl|⟨d,e,f⟩
 ·rw[zZc,show isiB t t=true by simp[isiB]]
 ·exact zWg d e f
theorem vK4:jS X (.builtin "isinstance") (fun xs H Q=>∃a vs n b,xs=[.ref a,.ty n]/\SqL X.K H a vs/\bV X.K (.type "list") (.type n)=some b/\Q (.bl b) H):=by
 intro c s σ H xs us Q I r h;obtain⟨a,vs,n,b,rfl,d,e,q⟩:=h;obtain⟨u,f,rfl,g,i⟩:=vV4 r;cases(show u=Value.ref a from g);cases(show f =Value.type n from i);obtain⟨j,_,⟨o,p,k,l,_⟩,_⟩:=I.list d;exact bL PySem.W.kitx_list I.kIn ⟨o,k,l⟩ e (fun z=>nomatch z) fun m=>⟨.bl b,H,I.tok m,rfl,q⟩
noncomputable def zQc(K:aQ):List V->Hp->VK->Prop:=fun c H Q=>rIsi K c H Q\/(∃a d n b,c=[.ref a,.ty n]/\SqT K H a d/\bV K (.type "tuple") (.type n)=some b/\Q (.bl b) H)\/(∃a d n b,c=[.ref a,.ty n]/\SqL K H a d/\bV K (.type "list") (.type n)=some b/\Q (.bl b) H)
theorem vJm:jS X (.builtin "isinstance") (zQc X.K):=zZ2.or (vK3.or vK4)
noncomputable def isiD(n:String)(d:D):Option D:=cond (tyN d != "") (some (.bl (isiB (tyN d) n))) none
theorem zKx{K:aQ}{u:V}{d z:D}{n:String}(f:n∈(["int","str","tuple","bool","list","dict"]:List String))(h:DAt K c H u d)(e:isiD n d=some z)(q:∀v,(∀F,DAt K c F v z)->Q v H):zQc K [u,.ty n] H Q:=by
 obtain⟨b,g⟩:=jL e;cases g;have a:Q (.bl (isiB (tyN d) n)) H:=q _ fun _=>.bl _
 have k:tyN d∈tys->bV K (.type (tyN d)) (.type n)=some (isiB (tyN d) n):=fun m=>zWh (tyN d) m n f
 cases h with
 |non=>exact .inl ⟨_,_,_,_,rfl,.non,k (by simp[tyN]),a⟩
 |int i=>exact .inl ⟨_,_,_,_,rfl,.int i,k (by simp[tyN]),a⟩
 |str i=>exact .inl ⟨_,_,_,_,rfl,.str i,k (by simp[tyN]),a⟩
 |bl i=>exact .inl ⟨_,_,_,_,rfl,.bl i,k (by simp[tyN]),a⟩
 |fn j=>simp[tyN]at b
 | @nd p kd vs ds h l r=>
   cases kd with
   |lst=>exact .inr (.inr ⟨p,vs,n,_,rfl,h,k (by simp[tyN]),a⟩)
   |tup=>exact .inr (.inl ⟨p,vs,n,_,rfl,h,k (by simp[tyN]),a⟩)
   | dct ks=>
     rcases h.2.2 with e|⟨o,e⟩
     ·exact .inl ⟨_,_,_,_,rfl,.dK e,k (by simp[tyN]),a⟩
     ·exact .inl ⟨_,_,_,_,rfl,.dZ e,k (by simp[tyN]),a⟩
   |dcT ks=>simp[tyN]at b
   |obj C fs=>simp[tyN]at b
   |exc C fs=>simp[tyN]at b
theorem zQu{n:String}{x y:Str}{p q:Pos}{o:Oe}(m:n∈(["int","str","tuple","bool","list","dict"]:List String))(s:Gl X x)(t:X.mg x=none)(w:cH x=some (.builtin "isinstance"))(a:Gl X y)(b:X.mg y=none)(d:cH y=some (.type n))(A:OD X c E e o)(f:x≠"__name__":=by decide)(g:(x == ("__debug__":Str))=false:=by decide)(B:y≠"__name__":=by decide)(i:(y == ("__debug__":Str))=false:=by decide)(l:aX [e, .Name y q] X.env=(false,eval e X.env)::aX [.Name y q] X.env:=by rfl)(j:aX [.Name y q] X.env=(false,eval (.Name y q) X.env)::aX [] X.env:=by rfl)(k:(cV pos (aX [.Name y q] X.env)).any (·.1)=false:=by rfl):
  OD X c E (.Call (.Name x p) [e, .Name y q] [] pos) (o1 (isiD n) o):=by
 refine⟨PE.imp (qJ3 vJm s t w (xP A.h (xP (vXp a b d (v:=.ty n) rfl B i) qZa j) l) f g l k) fun σ H Q h=>?_⟩;exact vV5 (K:=X.K) (r:=fun u H Q=>zQc X.K [u,.ty n] H Q) (fun u H x z Q f e q=>zKx m f e q) h
section
variable{X:Cx}{c:Nat->aZ}{E:XK}{e e2:Expr}{pos p:Pos}{o oa:Oe}
theorem yS(b:Gl X "len")(d:X.mg "len"=none)(f:OD X c E e o)(a:aX [e] X.env=[(false,eval e X.env)]:=by rfl)(h0:aX [] X.env=[]:=by rfl):OD X c E (.Call (.Name "len" p) [e] [] pos) (oL lenD [o]):=
 vZv vK2 pr_len b d Boot.«len» (vK f qE (by rw[a,h0])) (by decide) (by decide) (by rw[a,h0]) (by rw[h0];rfl)
theorem jQ4(b:Gl X "int")(d:X.mg "int"=none)(f:OD X c E e o)(a:aX [e] X.env=[(false,eval e X.env)]:=by rfl)(h0:aX [] X.env=[]:=by rfl):OD X c E (.Call (.Name "int" p) [e] [] pos) (oL intD [o]):=
 vY6 vK6 zYx b d Boot.«int» (vK f qE (by rw[a,h0])) (by decide) (by decide) (by rw[a,h0]) (by rw[h0];rfl)
theorem jQ3(b:X.calm=true)(d:Gl X "sum")(f:X.mg "sum"=none)(g:OD X c E e o)(a:aX [e] X.env=[(false,eval e X.env)]:=by rfl)(h0:aX [] X.env=[]:=by rfl):OD X c E (.Call (.Name "sum" p) [e] [] pos) (oL sumD [o]):=
 vZv (zZ1 b) zYv d f Boot.«sum» (vK g qE (by rw[a,h0])) (by decide) (by decide) (by rw[a,h0]) (by rw[h0];rfl)
theorem qJr(b:Gl X "tuple")(d:X.mg "tuple"=none)(f:OD X c E e o)(a:aX [e] X.env=[(false,eval e X.env)]:=by rfl)(h0:aX [] X.env=[]:=by rfl):EV X c E (.Call (.Name "tuple" p) [e] [] pos) (svA tupleD [o]):=
 vKq qKu zVv b d Boot.«tuple» (vK f qE (by rw[a,h0])) (by decide) (by decide) (by rw[a,h0]) (by rw[h0];rfl)
theorem qZb(b:Gl X "list")(d:X.mg "list"=none)(f:OD X c E e o)(a:aX [e] X.env=[(false,eval e X.env)]:=by rfl)(h0:aX [] X.env=[]:=by rfl):ED X c E (.Call (.Name "list" p) [e] [] pos) (eF listD [o]):=
 vKr vV1 zJw b d Boot.«list» (vK f qE (by rw[a,h0])) (by decide) (by decide) (by rw[a,h0]) (by rw[h0];rfl)
end
structure MethAt(K:aQ)(x qual:Str)(st:Stmt)(ps:List Str)(f:aZ)(fd:bQ):Prop where
 F:Fun K x qual st f fd
 b:wK K fd ps []
noncomputable def pOf:Oe->SP
 |.p s=>s
 |.v _=>fun _=>none
theorem fnNo{K:aQ}{k:Nat}{f:aZ}:FnOk P w K mg base CX k f fd ps (spD K c n fun _=>.no):=
 ⟨fun a H Q E z=>(by obtain⟨_,_,_,_,_,z⟩:=z;exact z.elim),fun _ _ _ _ _ _ _ _ _ _ _ _ _ z=>(by obtain⟨_,_,_,_,_,z⟩:=z;exact z.elim)⟩
theorem FnOk.lv{K:aQ}{k:Nat}{f:aZ}{sp:Sp}(e:j=k)(h:FnOk P w K mg base CX j f fd ps sp):FnOk P w K mg base CX k f fd ps sp:=by grind
section
variable{X:Cx}{c:Nat->aZ}{E:XK}{o k e:Expr}{pos pos' apos cpos:Pos}{oo ok:Oe}{a:SE}{cs:List Nat}{f:Str}
theorem qW7(h:OD X c E e oo)(a:oo.isP=true:=by rfl):OD X c E e (Am.b (pOf oo)).o :=by
 cases oo with
 |p s=>exact h
 |v s=>cases a
theorem jF(h:OD X c E o oo)(i:ED X c E e a)(j:oo.isP=true:=by rfl)(d:attributeBase o "append" X.env (eval o X.env)=eval o X.env:=by rfl)(g:((cV cpos (aX [e] X.env)).all (fun x=>!x.1) && (backToKw cpos (keywordEach [] X.env)).all (fun x=>x.1.isSome) && decide (([e]:List Expr).length+([]:List Keyword).length+(if([]:List Keyword).isEmpty then 0 else 1)<30))=true:=by rfl)(f:(apos.endLine == cpos.line)=true:=by rfl)(hs:aX [e] X.env=(false,eval e X.env)::aX [] X.env:=by rfl)(b:(cV cpos (aX [] X.env)).any (·.1)=false:=by rfl):
  ED X c E (.Call (.Attribute o "append" apos) [e] [] cpos) (eMu1 (pOf oo) a apF):=by
 cases oo with
 |p s=>exact vKs h i d g f hs b
 |v s=>cases j
theorem zYi(d:X.A.units+1<eX)(f:OD X c E o oo)(hk:OD X c E k ok)(g:ED X c E e a)(b:(oo.isP && ok.isP)=true:=by rfl)(hs:swapsWith e (some (.Subscript o k pos')) pos.line X.env=pure false:=by rfl):
  SD X c E (.Assign [.Subscript o k pos'] e pos) (qKx (pOf oo) (pOf ok) a):=by
 cases oo with
 |v s=>cases b
 | p s=>cases ok with
   |v s=>cases b
   |p t=>exact zJg d f hk g hs
theorem zYh(d:OD X c E o oo)(hk:OD X c E k ok)(f:ED X c E e a)(b:(oo.isP && ok.isP)=true:=by rfl)(hs:swapsWithSole [.Subscript o k pos'] e pos.line X.env=pure false:=by rfl)(g:swappedStores [.Subscript o k pos'] e X.env=pure none:=by rfl)(h1:(assignEach [.Subscript o k pos'] X.env).map (·.2)=[assign (.Subscript o k pos') X.env]:=by rfl)(h:∀v,assign (.Subscript o k pos') X.env v=(do
   let ov ←holding [v] (eval o X.env);let iv ←holding [v,ov] (eval k X.env);standAt pos';holding [v,ov,iv] (setItem ov iv v);release [v,ov,iv] []):=by intro _;rfl):SD X c E (.Assign [.Subscript o k pos'] e pos) (sSetI (pOf oo) (pOf ok) a):=by
 cases oo with
 |v s=>cases b
 | p s=>cases ok with
   |v s=>cases b
   |p t=>exact yQ d hk f hs g h1 h
theorem qVl(b:xN X.K c cs f)(d:OD X c E o oo)(g:ED X c E e a)(h:oo.isP=true:=by rfl)(hs:swapsWith e (some (.Attribute o f pos')) pos.line X.env=pure false:=by rfl):SD X c E (.Assign [.Attribute o f pos'] e pos) (qQ6 cs f (pOf oo) a):=by
 cases oo with
 |v s=>cases h
 |p s=>exact zJf b d g hs
theorem zQp{h:TIp}{g:D->D->Option D}{t:SV}(a:xN X.K c cs f)(i:OD X c E o oo)(j:EV X c E e t)(b:PIp X op h)(d:PrS2 X.K c h g)(k:oo.isP=true:=by rfl):SD X c E (.AugAssign (.Attribute o f pos') op e pos) (vV7 cs f g (pOf oo) t):=by
 cases oo with
 |v s=>cases k
 |p s=>exact zJh a i j b d
end
section
variable{X:Cx}{c:Nat->aZ}{E:XK}{k:Nat}{f:aZ}{fd:bQ}{ps:List Str}{x m:Str}{p pos apos:Pos}{e o:Expr}{es:List Expr}{F F2:Fn}{a0:Am}{as:List Am}{C C2:Nat}
theorem zZh{K:aQ}{h:Hn}{u:V}(f:Cf K c env σ H B W)(g:HnAt K c (hide (hd2 B W) H) σ H u h)(b:qJp env h C m=true):∃a d fs,u=.ref a/\H a=some (.ins (c C) d fs)/\fs.lookup m=none:=by
 unfold qJp at b;split at b
 ·rename_i i fs ds e;rw[aP,dG]at b;obtain⟨p,k,rfl,⟨l,d,j⟩,n⟩:=(j7 f g e).un;have:i =C:=by simpa using b.1
  subst this;exact⟨p,d,_,rfl,j,qWw b.2⟩
 ·cases b
end
noncomputable def vQ0(C:Nat)(s:SV):SS:=fun a=>(s a).bind fun _=>.er C []
theorem qYo{x:Str}{s:SV}(i:ExcCls X.K X.mg x (c C))(j:Gl X x)(a:X.calm=true)(b:EV X c E e s)(k:vJ1 X (c C) (fun d=>E (.ref (c C)) none d))(hs:aX [e] X.env=[(false,eval e X.env)]:=by rfl)(f:(x == ("__debug__":Str))=false:=by decide):SD X c E (.Raise (some (.Call (.Name x np) [e] [] cpos)) none pos) (vQ0 C s):=by
 refine⟨PS.imp (zVu i j a b.h k hs f) fun D σ H=>?_⟩;rintro⟨env,B,W,l,w⟩;refine⟨env,B,W,l,wp_mono (fun r m u d n g=>⟨rfl,?_⟩) (fun _ _ b=>b) (qY.mp w)⟩;exact m d n none ⟨g.st.same,g.st.by_,g.st.dom⟩ rfl
noncomputable def rvL:List D->Option (List D)
 |[x]=>(qQ8 x).bind fun ds=>some ds.reverse
 |_=>none
theorem zK0{p:Pos}(j:Gl X "reversed")(k:X.mg "reversed"=none)(l:VsD X c E [e] ss)(hs:aX [e] X.env=[(false,eval e X.env)]:=by rfl)(d:aX [] X.env=[]:=by rfl):ID' X c E tg (.Call (.Name "reversed" p) [e] [] pos) (iL rvL ss):=by
 refine⟨PI.imp (zY0 j k l.h hs d) fun σ H R=>?_⟩;rintro⟨env,B,W,m,w⟩;refine qJe m (qY.mp w) fun r n C o s g=>?_
 obtain⟨ds,b,t⟩:=qC n;have f:=g.at_;unfold rvL at b;split at b
 ·rename_i x v;rw[v]at f;obtain⟨u,rfl,a⟩:=ds1 f;obtain⟨D,y,z⟩:=bnd b;cases z;obtain⟨q,A,rfl,i,c2⟩:=qYx a y;exact⟨q,A,rfl,jE vY i,t _ o s g.st g.cf (zWm i c2)⟩
 ·cases b
noncomputable def dctD:D->Option (List Key×List D)
 |.nd (.dct ks) ds=>some (ks,ds)
 |_=>none
noncomputable def qXd(env:Ev)(k:Key):Hn->Option (Option D)
 | .d x=>(dctD x).bind fun q=>match kidx k q.1 with
   |some j=>(q.2[j]?).bind fun d=>some (some d)
   |none=>some none
 | .p i π=>(qYb env i π).bind fun q=>match kidx k q.1 with
   | some j=>match q.2[j]? with
     |some (.fz d)=>some (some d)
     |_=>none
   |none=>some none
theorem zZl{K:aQ}{h:Hn}{u:V}{k:Key}{r:Option D}(z:Cf K c env σ H B W)(o:HnAt K c (hide (hd2 B W) H) σ H u h)(e:qXd env k h=some r):
  ∃a l,u=.ref a/\IsD H a/\DGet H a (kV k) l/\match r with
   |some d=>∃v,l=some v/\DAt K c (hide (hd2 B W) H) v d
   |none=>l=none:=by
 cases h with
 | d x=>
   obtain⟨q,f,b⟩:=bnd e;unfold dctD at f;split at f
   ·cases f;rename_i A ds;obtain⟨p,C,rfl,⟨E,M,F⟩,G⟩:=DAt.un o;have g :=vXi vY F;refine⟨p,_,rfl,.inl ⟨_,g⟩,vJw g,?_⟩;rw[qZd E];dsimp only at b;cases e5:kidx k A with
    |none=>rw[e5]at b;cases b;rfl
    | some j=>
      rw[e5]at b;obtain⟨d,m,I⟩:=bnd b;cases I;exact G.get m
   ·cases f
 | p i π=>
   have n :vI H σ i π=some u:=o;obtain⟨q,f,b⟩:=bnd e;obtain⟨N,O,R,s,t,P,Q⟩:=z.place (vQr f);rw[n]at s;cases s;rw[OAt.ow]at t;obtain⟨p,C,S,rfl,⟨J,T,w⟩,L,d⟩:=t;refine⟨p,_,rfl,.inl ⟨_,.inl w⟩,DGet.k w,?_⟩;rw[qZd J];cases e5:kidx k q.1 with
   |none=>rw[e5]at b;cases b;rfl
   | some j=>
     rw[e5]at b;dsimp only at b;split at b
     ·rename_i d m;cases b;obtain⟨v,U,X,g1,y,_⟩:=L.focus m;rw[OAt.fz]at y;exact⟨v,g1,y.1⟩
     ·cases b
noncomputable def qVk(s k:SP):SV:=fun a=>(opt (s a)).bind fun h=>(opt (k a)).bind fun c=>(opt (rsv a c)).bind fun y=>(opt (qXc y)).bind fun b=>(opt (qXd a b h)).bind fun r=>.ok (r.getD .non,a)
section
variable{X:Cx}{c:Nat->aZ}{E:XK}{o k e:Expr}{apos cpos:Pos}{oo ok oe:Oe}
theorem zW3(l:X.A.units+1<eX)(n:OD X c E o oo)(hk:OD X c E k ok)(m:M1 X o "get" apos k cpos)(g:(oo.isP && ok.isP)=true:=by rfl):EV X c E (.Call (.Attribute o "get" apos) [k] [] cpos) (qVk (pOf oo) (pOf ok)):=by
 cases oo with
 |v s=>cases g
 | p s=>cases ok with
   |v s=>cases g
   | p t=>
     refine⟨PE.imp (zV2 l n.h hk.h m) fun σ H Q=>?_⟩;rintro⟨e,B,W,b,w⟩;obtain⟨h,q,u⟩:=qC w;obtain⟨f,z,C⟩:=qC u;obtain⟨y,D,F⟩:=qC C;obtain⟨G,I,J⟩:=qC F;obtain⟨r,K,i⟩:=qC J;refine⟨e,B,W,h,b,q,fun x L=>?_⟩;obtain⟨a,M,rfl,g1,N,j⟩:=zZl b L K;refine⟨a,rfl,g1,e,B,W,f,b,z,fun R O=>?_⟩;rw[qJ5 (j7 b O D) I];refine⟨M,N,?_⟩;cases r with
     |none=>rw[j];exact i .non H W ⟨.refl,b,.non⟩
     |some d=>obtain⟨v,rfl,P⟩:=j;exact i v H W ⟨.refl,b,P⟩
end
noncomputable def sbH(i j:Nat)(d:D):Hn->Hn
 |.p i' [j']=>if i' =i/\j' =j then .d d else .p i' [j']
 |h=>h
noncomputable def isFz:Option O->Bool
 |some (.fz _)=>true
 |_=>false
noncomputable def vV9(F:Fn)(as:List Am)(hs:List Hn)(env:Ev)(i j:Nat):Res (O×Ev):=(opt (getE env i [j])).bind fun o=>(xX F as (hs.map (sbH i j (fzO o))) (setE env i [j] (.fz (fzO o)))).bind fun q=>
 cond (stab env q.2 i [j] && ndO q.1 && (setE q.2 i [j] o).all ndS && isFz (getE q.2 i [j]) && dcFz o) (.ok (q.1,setE q.2 i [j] o)) .no
noncomputable def vW3:List Hn->Option (Nat×Nat)
 |[]=>none
 |[.p i [j]]=>some (i,j)
 |_::hs=>vW3 hs
section
variable{K:aQ}{c:Nat->aZ}{E:XK}
theorem SlAt.place{F:Hp}{o1:O}(h:SlAt K c F H env σ W)(e:getE env i π=some o1):∃(f:V) (g R:Fp),vI H σ i π=some f/\OAt K c F H o1 f g/\(∀a,W a=g a+R a)/\
  ∀(b :O) (d Y:Fp),OAt K c F H b f d ->(∀a,Y a=d a+R a)->SlAt K c F H (setE env i π b) σ Y:=by
 unfold getE at e;split at e
 ·rename_i n o j;obtain⟨x,C,p,k,l,r,t⟩:=h.focus j;cases x with
  |none=>exact l.elim
  | some v=>
    obtain⟨f,g,u,g1,w,y,z⟩:=OAt.focus l e;refine⟨f,g,fun a=>u a+p a,by unfold vI;rw[k];exact g1,w,fun a=>by rw[r,y];(try dsimp only);omega,fun b d Y q A=>?_⟩;have B:=z _ H b d (Same.refl _) (fun _ _=>rfl) q;have m:=t F H (.s n (setP o π b)) (some v) _ Y (Same.refl _) (fun _ _=>rfl) B (fun a=>by rw[A];(try dsimp only);omega);rw[yZ k]at m;unfold setE;rw[j];exact m
 ·cases e
theorem jX.sb{F:Hp}{d:D}(f:Same F F')(hd:∀u,vI H σ i [j]=some u->DAt K c F' u d):∀{us:List V} {hs:List Hn},jX K c F σ H us hs->jX K c F' σ H us (hs.map (sbH i j d))
 |[],[],_=>trivial
 | u::us,h::hs,a=>by
   refine⟨?_,jX.sb f hd a.2⟩;have b:=a.1;cases h with
   |d x=>exact DAt.same f b
   | p i' π=>
     cases π with
     |nil=>exact b
     | cons j' π=>
       cases π with
       |cons _ _=>exact b
       | nil=>
         simp only[sbH];split
         ·rename_i e;obtain⟨rfl,rfl⟩:=e;exact hd u b
         ·exact b
 |[],_::_,a=>a.elim
 |_::_,[],a=>a.elim
theorem vK0{hs:List Hn}{F:Fn}(t:Cf K c env σ H B W)(X:jX K c (hide (hd2 B W) H) σ H us hs)(hw:(vV9 F as hs env i j).wp (fun r=>∀u H' W' Z,Got K c env σ H B W r.2 H' W' Z r.1 u->Q u H') (erP K c E H B W)):spD K c as.length F us H Q E:=by
 obtain⟨o,e1,w1⟩:=qC hw;obtain⟨J,e,R,L,v,w,h4⟩:=t.place e1;have nd:∀a,B a+(e a+R a)<=1:=fun a=>by have:=t.nd a;rw[w]at this;exact this
 have n:Same (hide (hd2 B W) H) (hide (hd2 B R) H):=zG fun a z=>by dsimp only[hd2]at *;rw[w]at z;omega
 have M:DAt K c (hide (hd2 B R) H) J (fzO o):=v.dat n fun a z=>vM (by have:=nd a;dsimp only[hd2];omega)
 have x:Cf K c (setE env i [j] (.fz (fzO o))) σ H B R:=h4 H B R _ (fun _=>0) n (fun a=>by(try dsimp only);omega) (fun _ _=>rfl) (OAt.fz.mpr ⟨M,fun _=>rfl⟩) (fun a=>by have:=nd a;omega) t.hb;have p:Step env σ H B W (setE env i [j] (.fz (fzO o))) σ H R:=⟨n,fun _ _=>rfl,fun a z=>.inl (by rw[w];omega),fun _ z=>z,fun _ _ _=>.refl,fun j o q=>⟨qZv q,rfl⟩,qVc⟩
 refine qVh x (jX.sb n (fun u N=>by rw[L]at N;cases N;exact M) X) (wp_mono (fun q w2 u h l Z g=>?_) (fun _ _ he=>he.back p) (qY.mp w1));obtain⟨O,w3⟩:=v7 w2;rw[aP,aP,aP,aP]at O;obtain⟨⟨⟨⟨c1,c2⟩,c3⟩,c4⟩,c5⟩:=O;have b:=p.trans g.st;have A:vI h σ i [j]=some J:=qWp t b g.cf (fun a z=>by dsimp only[hd2];omega) c1 L;have P:∀a,e a≠0->h a=H a/\B a+Z a+l a=0:=fun a z=>by
  obtain⟨f,m,_⟩:=OAt.hb v z;have S:=g.st.same a f (by rw[vM (by have:=nd a;dsimp only[hd2];omega)];exact m);obtain⟨T,C⟩:=jH S;grind
 have d:∀a f,hide (hd2 (hd2 B Z) l) h a=some f->¬isDK f->hide (hd2 (hd2 B Z) (fun a=>l a+e a)) h a=some f:=fun a f m S=>by
  obtain⟨T,C⟩:=jH m;by_cases z:e a=0
  ·rw[vM (by dsimp only[hd2]at *;omega)];exact C
  ·obtain⟨ho',q5,q6⟩:=vYc v c5 a z;grind
 obtain⟨U,ed⟩:∃U,getE q.2 i [j]=some (.fz U):=by
  unfold isFz at c4;grind
 obtain⟨v1',Y1,Y,V,k2,k3,k4⟩:=g.cf.at_.place ed;rw[A]at V;cases V;have D:Same (hide (hd2 B W) H) (hide (hd2 (hd2 B Z) (fun a=>l a+e a)) h):=zK fun a f z m=>by
  obtain⟨T,C⟩:=jH (g.st.same a f (n a f (by rw[vM z];exact m)));grind
 have s:Same (hide (hd2 B W) H) (hide (hd2 (hd2 B Z) l) h):=D.trans (zG fun a z=>by dsimp only[hd2]at *;omega);have G:=k4 o e (fun a=>l a+e a) (v.keep s fun a z=>(P a z).1) fun a=>by have:=k3 a;have:=k2.2 a;omega
 have I:=G.nd' d c3;refine w3 u h (fun a=>l a+e a) Z ⟨⟨?_,fun a z=>b.by_ a z,fun a z=>?_,b.dom,fun a z1 z2=>?_,fun k oo q=>?_,by rw[qVc];exact b.len⟩,⟨I,fun a=>?_,fun a z=>g.cf.hb a z⟩,g.at_.nd' d c2⟩
 ·grind
 ·by_cases y:e a=0
  ·exact b.new a (by dsimp only[hd2]at *;omega)
  ·grind
 ·by_cases y:e a=0
  ·exact b.pin a z1 (by dsimp only[hd2]at *;omega)
  ·exact .of (P a y).1
 ·obtain⟨o0,m⟩:=qZv q;exact⟨(b.io k o0 m).1,rfl⟩
 ·have n1:=g.cf.nd a;grind
noncomputable def qW9(C:Nat)(m:Str)(F:Fn)(a0:Am)(as:List Am):SE:=fun b=>(evO a0.o b).bind fun a=>cond (qJp a.2 a.1 C m && (a.1.st || (as.map Am.o).all Oe.isP)) ((evOs (as.map Am.o) a.2).bind fun r=>(opt (vW3 r.1)).bind fun c=>vV9 F (a0::as) (a.1::r.1) r.2 c.1 c.2) .no
theorem vYo{F:Fn}(h:tE K c E (qW9 C m F a0 as) σ H Q):vWy (c C) m (spD K c (a0::as).length F) [] E (tO K c E a0.o) (tOs K c E (as.map Am.o)) σ H Q:=by
 obtain⟨k,B,W,l,w⟩:=h;refine qQ5 l (qY.mp w) fun i n u O P g1=>?_
 obtain⟨hs,p⟩:=v7 n;rw[aP]at hs;obtain⟨s,d⟩:=hs;obtain⟨a,t,fs,rfl,x,y⟩:=zZh g1.cf g1.at_ s;refine⟨a,t,fs,rfl,x,y,?_⟩;refine qVj g1.cf (wp_mono (fun _ q=>q) (fun _ _ f=>f.back g1.st) (qY.mp p)) fun r z A j D b=>?_
 obtain⟨R,_,G⟩:=qC z;rw[bK];have I:jX K c (hide (hd2 B D) j) σ j (.ref a::A) (i.1::r.1):=by
  refine⟨?_,b.at_⟩;cases e:i.1.st with
  |true=>exact g1.at_.step b.st.same e
  | false=>
    rw[e]at d;obtain⟨J,L,_⟩:=b.pu (by simpa using d);rw[J,L];exact g1.at_
 exact vK0 b.cf I (wp_mono (fun r q v M N Z g=>q v M N Z (g.back (g1.st.trans b.st))) (fun _ _ f=>f.back (g1.st.trans b.st)) G)
end
theorem qY2{k:Nat}{f:aZ}{a:Pos}{o:Expr}{es:List Expr}{F:Fn}(g:OD X c E o a0.o)(i:Cls X.K (c C))(j:Meth X.K (c C) m f)(G:FnOk X.prog X.w X.K X.mg X.base (CXd X.prog X.w) k f fd ps (spD X.K c (a0::as).length F))(l:Room k X.A)(hb:wK X.K fd ps [])(n:jP (CXd X.prog X.w) X E)(p:OsD X c E (e::es) (as.map Am.o))(b:aX (e::es) X.env=(false,eval e X.env)::aX es X.env:=by rfl)(d:(cV pos (aX es X.env)).any (·.1)=false:=by rfl)(q:eval (.Call (.Attribute o m a) (e::es) [] pos) X.env=(do
   let ov ←eval o X.env;standAt a.atName;let (f,first) ←holding [ov] (getMethod ov m pl);callWith pos f first (cV pos (aX (e::es) X.env)) (backToKw pos (keywordEach [] X.env))):=by rfl):
  ED X c E (.Call (.Attribute o m a) (e::es) [] pos) (qW9 C m F a0 as):=
 ⟨PE.imp (vXo g.h i j G l hb .nil n p.h b d q) fun _ _ _ h=>vYo h⟩
noncomputable def zpA(xs:List D):Option (List D):=match zpL xs with
 |some r=>some r
 | none=>match zpT xs with
   |some r=>some r
   |none=>zpM xs
noncomputable def sPutA(s k:SP)(a:SE):SS:=fun b=>match qKx s k a b with
 |.no =>sSetI s k a b
 |r=>r
theorem qYe{o k:Expr}{b:Pos}{f ok:Oe}{a:SE}(n:X.A.units+1<eX)(i:OD X c E o f)(hk:OD X c E k ok)(j:ED X c E e a)(l:(f.isP && ok.isP)=true:=by rfl)(hs:swapsWith e (some (.Subscript o k b)) pos.line X.env=pure false:=by rfl)(g:swapsWithSole [.Subscript o k b] e pos.line X.env=pure false:=by rfl)(p:swappedStores [.Subscript o k b] e X.env=pure none:=by rfl)(h1:(assignEach [.Subscript o k b] X.env).map (·.2)=[assign (.Subscript o k b) X.env]:=by rfl)(r:∀v,assign (.Subscript o k b) X.env v=(do
   let ov ←holding [v] (eval o X.env);let iv ←holding [v,ov] (eval k X.env);standAt b;holding [v,ov,iv] (setItem ov iv v);release [v,ov,iv] []):=by intro _;rfl):SD X c E (.Assign [.Subscript o k b] e pos) (sPutA (pOf f) (pOf ok) a):=by
 refine⟨fun d s σ H D I q=>?_⟩;obtain⟨env,B,W,m,w⟩:=q;unfold sPutA at w;split at w
 ·exact(zYh i hk j l g p h1 r).h d s σ H D I ⟨env,B,W,m,w⟩
 ·exact(zYi n i hk j l hs).h d s σ H D I ⟨env,B,W,m,w⟩
noncomputable def vWz(C:aZ)(f:Str):Sp:=fun c H Q _=>∃a t v,c=[.ref a,v]/\H a=some (.ext (ExcR a (.ref C) t none))/\∀b,H b=none->Q .non (upd (upd H a (.ext (ExcR a (.ref C) t (some b)))) b (.xd [(f,v)]))
theorem iniD{K:aQ}{x:Str}{st:Stmt}{fI C:aZ}{a b f:Str}{i:Stmt}(F:Fun K x qual st fI fd)(S:FnScope [a,b] [a,b] (qU st))(j:bU K (.ref C) f=some none)(hb:∀(d:Value) (A:cW) (c:List Env) (s:aJ) (H:Hp) (E:XK),PS (cxOf (CXd P w) P w K mg base [a,b] qual (qU st) fI d A c s H E) i (sXF K C (tVar 0) (tVar 1) f))(e:zM st=[i]):
  FnOk P w K mg base (CXd P w) 1 fI fd [a,b] (vWz C f):=by
 refine F.okD S (fun k H Q E h=>?_) (fun d l c s H k Q E p h=>?_)
 ·obtain⟨g,t,v,rfl,_⟩:=h;rfl
 ·obtain⟨g,t,v,rfl,m,q⟩:=h;refine⟨_,by rw[e];exact qYt (hb d l c s H E) vVi,?_⟩;exact⟨v,rfl,.ref g,rfl,g,t,rfl,m,j,fun n o=>q n o⟩
noncomputable def wN(C:Nat)(f:Str)(s:SV):SS:=fun a=>(s a).bind fun r=>.er C [(f,r.1)]
theorem vYs{x f:Str}{fI:aZ}{k:Nat}{s:SV}(L:IniCls X.K (c C) fI)(F:FnOk X.prog X.w X.K X.mg X.base (CXd X.prog X.w) k fI fd ps (vWz (c C) f))(M:Room (k+1) X.A)(hb:wK X.K fd ps [])(N:Gl X x)(O:X.mg x=some (.ref (c C)))(j:X.calm=true)(n:X.ex=[])(p:EV X c E e s)(P:qX3 X (c C) (fun i d l=>E (.ref (c C)) (some d) (but1 l i)))(hs:aX [e] X.env=[(false,eval e X.env)]:=by rfl)(v:(x == ("__debug__":Str))=false:=by decide):SD X c E (.Raise (some (.Call (.Name x np) [e] [] cpos)) none pos) (wN C f s):=by
 refine⟨PS.imp (vYu L F M hb N O j n p.h P hs v) fun D σ H=>?_⟩;rintro⟨env,B,W,Q,w⟩;refine⟨env,B,W,Q,wp_mono (fun r R u l m g=>⟨rfl,fun i t S=>?_⟩) (fun _ _ p=>p) (qY.mp w)⟩;refine⟨i,t,u,rfl,upd_same,fun d G=>⟨rfl,d,?_⟩⟩;have ne:i≠d:=vC upd_same G;have I:l d=none:=by rw[qF ne.symm]at G;exact G
 refine⟨by rw[qF ne,upd_same],?_⟩;have eq:but1 (upd (upd (upd l i (.ext (ExcR i (.ref (c C)) t none))) i (.ext (ExcR i (.ref (c C)) t (some d)))) d (.xd [(f,u)])) i=upd l d (.xd [(f,u)]):=by
  funext b;by_cases z:b=i
  ·subst z;rw[qZ2,qF ne,S]
  ·rw [qJy z];by_cases y:b=d
   ·subst y;rw[upd_same,upd_same]
   ·rw[qF y,qF y,qF z,qF z]
 dsimp only;rw[eq];have T:hd2 B m d=0:=by
  by_cases z:hd2 B m d=0
  ·exact z
  ·obtain⟨o,U,_⟩:=g.cf.hbs z;grind
 have J:Same (hide (hd2 B m) l) (hide (hd2 B m) (upd l d (.xd [(f,u)]))):=zK fun a o z q=>⟨z,by rw[qF (vC q I)];exact q⟩
 refine R _ m (some d) ⟨g.st.same.trans J,fun a z=>?_,fun a z=>?_⟩ ⟨[(f,u)],upd_same,rfl,.cons (g.at_.same J) .nil⟩
 ·rw [qF]
  ·exact g.st.by_ a z
  ·grind
 ·by_cases y:a=d
  ·subst y;rw[upd_same]at z;cases z
  ·rw[qF y]at z;exact g.st.dom a z
section
variable{X:Cx}{c:Nat->aZ}{E:XK}{e:Expr}{lo hi:Option Expr}{pos p2:Pos}{o:Oe}{sl sh:Option SV}
theorem vKp(n:OD X c E e o)(hl:PD X c E lo sl)(M:PD X c E hi sh):EV X c E (.Subscript e (.Slice lo hi none p2) pos) (vV6 o sl sh):=by
 refine⟨PE.imp (qYu zYe n.h hl.h M.h) fun σ H Q=>?_⟩;rintro⟨N,B,W,O,w⟩;refine qQ5 O (qY.mp w) fun r P u H1 R g=>?_
 refine⟨r.2,B,R,g.cf,wp_mono (fun A S H2 T j C=>?_) (fun _ _ n=>n.back g.st) (qY.mp P)⟩;refine⟨A.2,B,T,C,wp_mono (fun I U s m t f=>?_) (fun _ _ n=>n.back (g.st.trans j)) (qY.mp S)⟩;obtain⟨hs,V⟩:=v7 U;have Y:=(g.at_.step j.same hs).step t.same hs;obtain⟨x,Z,w5⟩:=qC V;obtain⟨ds,D,w6⟩:=qC w5;obtain⟨F,w7⟩:=v7 w6;rw[aP]at F;have d0:=j7 f Y Z;have xe:x=.nd .tup ds:=by unfold qW3 at D;split at D <;> cases D;rfl
 subst xe;have d1:DAt X.K c (hide (hd2 B m) s) u (.nd .tup ds):=DAt.flat (fun a o q nb=>by
  unfold hide;rw[if_pos]
  ·exact q
  ·by_cases z:hd2 B m a=0
   ·exact z
   ·obtain⟨o',y,yb⟩:=f.hbs z;rw[q]at y;cases y;exact absurd yb nb) d0 F.1
 cases d1 with
 | @nd p _ vs _ h l rr=>
   have J:DsAt X.K c (hide (hd2 B m) s) vs ds:=⟨l,rr⟩
   have hq:SqT X.K s p vs:=NdAt.same (c:=c) (k:=.tup) vY h;refine⟨p,vs,rfl,hq,?_,fun q L=>?_⟩
   ·have:=F.2;simp only[dG,Bool.and_eq_false_iff,decide_eq_false_iff_not]at this;rw[l];rintro⟨z1,z2⟩;rcases this with y|y
    ·exact y z1
    ·exact y z2
   ·have G:Same s (upd s q (.tup (cutV vs A.1 I.1))):= .upd L;have z0:hd2 B m q=0:=by
     by_cases z:hd2 B m q=0
     ·exact z
     ·obtain⟨o',y,_⟩:=f.hbs z;rw[L]at y;cases y
    refine w7 (.ref q) _ m ⟨((g.st.trans j).trans t).trans (.grow f G),f.grow G,?_⟩;refine .nd (k:=.tup) (vs:=cutV vs A.1 I.1) ?_ (vJy J).len fun i v d a b=>?_
    ·exact SqT.of (by show hide _ _ q=_;unfold hide;rw[if_pos z0];exact upd_same)
    ·exact((vJy J).r i v d a b).same (zK fun a o z y=>⟨z,G a o y⟩)
end
section
variable{X:Cx}{c:Nat->aZ}{E:XK}{e:Expr}{es:List Expr}{s:SV}{ss:List SV}{a:SE}{K:aQ}
theorem zXi{F:Hp}(t:TabF c F):∀{us:List V} {xs:List D},DsAt K c F us xs->SlAt K c F H (xs.map fun d=>Slot.s false (.fz d)) (us.map some) fun _=>0
 |us,[],h=>by rw[h.un0];exact⟨⟨rfl,t⟩,fun _=>rfl⟩
 | us,x::xs,h=>by
   obtain⟨u,r,rfl,a,b⟩:=h.un;exact⟨some u,r.map some,fun _=>0,fun _=>0,rfl,(show OAt K c F H (.fz x) u (fun _=>0) from OAt.fz.mpr ⟨a,fun _=>rfl⟩),zXi t b,fun _=>rfl⟩
end
theorem qZ0{K:aQ}{x:Str}{st:Stmt}{f:aZ}{i:Value}{j an:Option aZ}{h:Array (Option Value)}{kV d e a g:Value}(l:K.lookup f=some ⟨i,j,.func (cJ x qual (j4 st) (zM st) (qU st) .none kV d e an a g),h⟩)(c:PySem.W.codeIn K a qual=true)(k:cD K (.ref f)=true)(b:∀(kV d e:Value) (an:Option aZ) (a g:Value) (us:List Value),us.length=ps.length->bindArgs (cJ x qual (j4 st) (zM st) (qU st) .none kV d e an a g) ⟨us,[]⟩=pure (ps.zip us)):
  MethAt K x qual st ps f (cJ x qual (j4 st) (zM st) (qU st) .none kV d e an a g):=⟨vQ6 l c k,(vQ6 l c k).binds b⟩
theorem vX4{K:aQ}{f:Str}:xN K c [] f:=fun _ h=>nomatch h
theorem vZ1{K:aQ}{cs:List Nat}{f:Str}(h:Cls K (c C))(n:xR K (c C) f)(r:xN K c cs f):xN K c (C::cs) f:=fun D hD=>by
 rcases aA.mp hD with rfl|hD
 ·exact⟨h,n⟩
 ·exact r D hD
theorem vX8{K:aQ}{F:Hp}:∀ns:List Int,DsAt K c F (ns.map V.int) (ns.map D.int)
 |[]=>.nil
 |n::ns=>.cons (.int n) (vX8 ns)
noncomputable def zXx(K:aQ)(C:aZ):Bool:=
 match K.lookup C with
 | some ⟨.type "type",_, .cls kd,zs⟩=>(match zs.toList,kd.mro with
   |[_,_,_,_,some (.builtin m),_],.ref B::rs=>PySem.W.tailIn K vErr rs && (!kd.hasDel && (m == "ValueError.__new__" && B == C))
   |_,_=>false)
 |_=>false
theorem zKz{K:aQ}{C:aZ}(q:zXx K C=true):∃nm q N bs bm hdct sn sub ab col dd k0 k1 k2 k3 k5,K.lookup C=some (excClassObj nm q C N bs bm hdct sn sub ab col dd k0 k1 k2 k3 k5 "ValueError.__new__")/\PySem.W.tailIn K vErr bm=true:=by
 unfold zXx at q;split at q
 ·rename_i dd e c f;split at q
  ·rename_i k0 k1 k2 k3 n k5 B bm hs d;simp only[aP,beq_iff_eq,dG]at q;obtain⟨g,a,rfl,rfl⟩:=q;obtain⟨nm,bs,h,i,j,k,sn,sub,ab,col,m⟩:=e;dsimp only at d a;subst d a;have b:c=#[k0,k1,k2,k3,some (.builtin "ValueError.__new__"),k5]:=by
    obtain⟨l⟩:=c;simp only at hs;rw[hs]
   subst b;exact⟨nm,j,i,bs,bm,k,sn,sub,ab,col,dd,k0,k1,k2,k3,k5,f,g⟩
  ·cases q
 ·cases q
theorem jQd{l:PySem.W.OpenLaw}{q:bZ}{loose:List Str}{XP:(Str->Option Value)->Heap->Prop}{YP:bP->Heap->Prop}{d:DefRec}{K:Params->aQ}{F:Fn}{k:Nat}{x:Str}(t:l.most=some 63)(n:d.params.defaults=[])(y:Room k callerA)(A:∀(w:bP) (h:Heap),YP w h->(K w.params).In h)(o:∀ns:List Int,ns.length<=63->∃e,F [.s false (.fz (.nd .lst (ns.map D.int)))]=.ok (.fz (.bl true),e))(B:∀(w:bP) (i:Str->Option Value) (j:aZ) (h:Heap),(K w.params).In h->h.Ns cX i->i d.name=some (.ref j)->
   ∃(c:Nat->aZ) (m:bQ),c 77=0/\(∀(s:aJ) (u:Value),BindsTo s m ⟨[u],[]⟩ [(x,u)])/\
    ∀base:Heap,(K w.params).In base->base.Ns cX i->FnOk l.prog w (K w.params) i base (CXd l.prog w) k j m [x] (spD (K w.params) c 1 F)):
  PySem.W.WalkO q loose XP YP l.row.toRowW d [] (fun f vs=>PySem.call f vs):=by
 refine zZ5 (CX:=fun w=>CXd l.prog w) (sp:=fun w vs H Q E=>∀c:Nat->aZ,c 77=0->spD (K w.params) c 1 F vs H Q E) (x:=x) t (by decide) n y A (fun w i j h C G I=>?_) (fun w H a ns J R L c b=>?_) fun w H s e S h=>?_
 ·obtain⟨c,m,b,hb,M⟩:=B w i j h C G I;exact⟨m,hb,fun base N O=>FnOk.imp (M base N O) fun vs H Q E z=>z c b⟩
 ·obtain⟨e,P⟩:=o ns J;have T:hide (hd2 (fun _=>0) fun _=>0) H=H:=by funext a;unfold hide;rw[if_pos (by rfl)]
  have p:DAt (K w.params) c (hide (hd2 (fun _=>0) fun _=>0) H) (.ref a) (.nd .lst (ns.map D.int)):=by
   exact .nd (k:=.lst) (vs:=ns.map V.int) L (by rw[aW,aW]) (vX8 ns).r
  refine⟨[.s false (.fz (.nd .lst (ns.map D.int)))],fun _=>0,fun _=>0,rfl,⟨zXi (fun z=>absurd b z) (us:=[.ref a]) (xs:=[.nd .lst (ns.map D.int)]) (.cons p .nil),fun a=>by show 0+0<=1;omega,fun a z=>absurd rfl z⟩,?_⟩;rw[P];intro v U X Z g;have:=(OAt.fz.mp g.at_).1;cases this;rfl
 ·obtain⟨_,_,_,_,_,_,_,_,_,_,_,_,_,_,_,_,h⟩:=h;exact h
section
variable{X:Cx}{c:Nat->aZ}{E:XK}{e:Expr}{lo hi:Option Expr}{pos p2:Pos}{o:Oe}{sl sh:Option SV}
theorem zZ9:SlR X (fun x lo hi H Q=>∃z,x=.str z/\z.length<=aI/\Q (.str (Txt.slice z lo hi)) H):=by
 intro a s σ H x v vl vu lo hi sl Q I rx hs pl pu h;obtain⟨z,rfl,b,q⟩:=h;obtain⟨t,rfl⟩:=rx;have k:∀(l u:Option (Int×Tok)),l.map (·.1)=lo->u.map (·.1)=hi->∀(c :Tok) (k:Nat),L2.EP X a σ Q (.str (Txt.slice z (l.map (·.1)) (u.map (·.1))) c) {s with toks:=k}:=fun l u d e c k=>⟨.str (Txt.slice z lo hi),H,I.tok _,⟨_,by rw[d,e]⟩,q⟩
 cases pl with
 | none=>
   cases pu with
   |none=>exact⟨"str",_,PySem.F.slot_str_getitem.lookup,typeIs_str _ _ _,wpAny_getItem_str_slice (l:=none) (u:=none) (st:=none) hs rfl (post_val_or_str ⟨aG (Txt.slice_le z _ _) b,k none none rfl rfl⟩)⟩
   |int j tj=>exact⟨"str",_,PySem.F.slot_str_getitem.lookup,typeIs_str _ _ _,wpAny_getItem_str_slice (l:=none) (u:=some (j,tj)) (st:=none) hs rfl (post_val_or_str ⟨aG (Txt.slice_le z _ _) b,k none (some (j,tj)) rfl rfl⟩)⟩
 | int i ti=>
   cases pu with
   |none=>exact⟨"str",_,PySem.F.slot_str_getitem.lookup,typeIs_str _ _ _,wpAny_getItem_str_slice (l:=some (i,ti)) (u:=none) (st:=none) hs rfl (post_val_or_str ⟨aG (Txt.slice_le z _ _) b,k (some (i,ti)) none rfl rfl⟩)⟩
   |int j tj=>exact⟨"str",_,PySem.F.slot_str_getitem.lookup,typeIs_str _ _ _,wpAny_getItem_str_slice (l:=some (i,ti)) (u:=some (j,tj)) (st:=none) hs rfl (post_val_or_str ⟨aG (Txt.slice_le z _ _) b,k (some (i,ti)) (some (j,tj)) rfl rfl⟩)⟩
noncomputable def cutS(lo hi:Option Int):D->Option D
 |.str z=>cond (decide (z.length<=aI)) (some (.str (Txt.slice z lo hi))) none
 |_=>none
noncomputable def qKw(o:Oe)(lo hi:Option SV):SV:=fun a=>(evO o a).bind fun r=>(evI lo r.2).bind fun c=>(evI hi c.2).bind fun b=>cond r.1.st ((opt (rsv b.2 r.1)).bind fun x=>(opt (cutS c.1 b.1 x)).bind fun z=>.ok (z,b.2)) .no
theorem vQq(b:OD X c E e o)(hl:PD X c E lo sl)(k:PD X c E hi sh):EV X c E (.Subscript e (.Slice lo hi none p2) pos) (qKw o sl sh):=by
 refine⟨PE.imp (qYu zZ9 b.h hl.h k.h) fun σ H Q=>?_⟩;rintro⟨l,B,W,m,w⟩;refine qQ5 m (qY.mp w) fun r n u M p g=>?_
 refine⟨r.2,B,p,g.cf,wp_mono (fun s t N v a j=>?_) (fun _ _ b=>b.back g.st) (qY.mp n)⟩;refine⟨s.2,B,v,j,wp_mono (fun O A C D d f=>?_) (fun _ _ b=>b.back (g.st.trans a)) (qY.mp t)⟩;obtain⟨hs,F⟩:=v7 A;have G:=(g.at_.step a.same hs).step d.same hs;obtain⟨x,I,J⟩:=qC F;obtain⟨y,i,K⟩:=qC J;have L:=j7 f G I;unfold cutS at i;split at i
 ·rename_i z;cases q:decide (z.length<=aI) <;> rw[q]at i <;> cases i
  cases L;exact⟨z,rfl,of_decide_eq_true q,K _ C D ⟨(g.st.trans a).trans d,f,.str _⟩⟩
 ·cases i
end
noncomputable def eqFB:D->D->Option Bool
 |.int i,.int j=>some (i == j)
 |.str i,.str j=>some (decide (i=j))
 |.bl i,.bl j=>some (i == j)
 |.non,.int _=>some false
 |_,_=>none
noncomputable def eqF(x y:D):Option D:=(eqFB x y).map .bl
noncomputable def neF(x y:D):Option D:=(eqFB x y).map fun b=>.bl (!b)
section
variable{X:Cx}{K:aQ}{c:Nat->aZ}{E:XK}{a b:Expr}{oa ob:Oe}{pos:Pos}
theorem vVm{u w:V}{x y:D}{z:Bool}(a:DAt K c H u x)(b:DAt K c H w y)(e:eqFB x y=some z):scal u w=true/\decide (u=w)=z:=by
 unfold eqFB at e;split at e
 ·cases e;cases a;cases b;exact⟨rfl,vVo⟩
 ·cases e;cases a;cases b;exact⟨rfl,decide_eq_decide.mpr ⟨fun h=>by cases h;rfl,fun h=>by rw[h]⟩⟩
 ·cases e;cases a;cases b;exact⟨rfl,vJx⟩
 ·cases e;cases a;cases b;exact⟨rfl,rfl⟩
 ·cases e
theorem zQs:PrS2 K c rEq eqF:=fun u w H x y z Q a d e q=>by
 obtain⟨b,f,rfl⟩:=bX.mp e;obtain⟨g,h⟩:=vVm a d f;exact⟨g,by rw[h];exact q _ fun _=>.bl _⟩
theorem zYw:PrS2 K c rNe neF:=fun u w H x y z Q a d e q=>by
 obtain⟨b,f,rfl⟩:=bX.mp e;obtain⟨g,h⟩:=vVm a d f;exact⟨g,by rw[h];exact q _ fun _=>.bl _⟩
theorem jQ5(d:OD X c E a oa)(hb:OD X c E b ob):OD X c E (.Compare a [.Eq] [b] pos) (o2 eqF oa ob):=zKh zXq zQs d hb (qWh _)
theorem vL(d:OD X c E a oa)(hb:OD X c E b ob):TD X c E (.Compare a [.Eq] [b] pos) (asB (o2 eqF oa ob)):=qJd zXq zQs d hb (qWh _)
theorem vK7(d:OD X c E a oa)(hb:OD X c E b ob):TD X c E (.Compare a [.NotEq] [b] pos) (asB (o2 neF oa ob)):=qJd jQy zYw d hb (qWh _)
end
noncomputable def all2(f:D->D->Option Bool):List D->List D->Option Bool
 |[],[]=>some true
 |d::ds,e::es=>(f d e).bind fun a=>(all2 f ds es).bind fun b=>some (a && b)
 |_,_=>some false
noncomputable def deq:Nat->D->D->Option Bool
 | 0,x,y=>eqFB x y
 | n + 1,x,y=>match x,y with
   |.nd .lst ds,.nd .lst es=>all2 (deq n) ds es
   |.nd .tup ds,.nd .tup es=>all2 (deq n) ds es
   |.int _,.nd .tup _=>some false
   |.nd .tup _,.int _=>some false
   |x,y=>eqFB x y
noncomputable def neQ(x y:D):Option D:=(deq 30 x y).map fun b=>.bl (!b)
theorem vVs{f:D->D->Option Bool}:∀{ds es:List D} {b:Bool},all2 f ds es=some b->∃g:Nat->Bool,(∀(j:Nat) (d e:D),ds[j]?=some d->es[j]?=some e->f d e=some (g j))/\((List.range (min ds.length es.length)).all g && ds.length == es.length)=b
 |[],[],b,h=>⟨fun _=>true,fun j d e q=>(by cases q),by cases h;rfl⟩
 |[],e::es,b,h=>⟨fun _=>true,fun j d e q=>(by cases q),by cases h;rfl⟩
 |d::ds,[],b,h=>⟨fun _=>true,fun j d e _ q=>(by cases q),by cases h;rfl⟩
 | d::ds,e::es,b,h=>by
   obtain⟨a,c,h⟩:=cT.mp h;obtain⟨b,i,h⟩:=cT.mp h;obtain⟨g,k,rfl⟩:=vVs i;cases h;refine⟨fun j=>Nat.rec a (fun j _=>g j) j,fun j x y p q=>?_,?_⟩
   ·cases j with
    |zero=>cases p;cases q;exact c
    |succ j=>exact k j x y p q
   ·rw [aK,aK,show min (ds.length + 1) (es.length + 1)=min ds.length es.length + 1 by omega,List.range_succ_eq_map,dM,List.all_map,Bool.and_assoc];congr 2;rw[Bool.eq_iff_iff];simp
section
variable{X:Cx}{c:Nat->aZ}{pins:List (aZ×Obj)}{σ:L2.St}{H:Hp}{s:aJ}{A:cW}
theorem zZ0(I:Inv X pins σ H s):∀(n:Nat) {v:V} {d e:D} {b:Bool},DAt X.K c H v d->DAt X.K c H v e->deq n d e=some b->b=true:=by
 have z:∀{v:V} {d e:D} {b:Bool},DAt X.K c H v d->DAt X.K c H v e->eqFB d e=some b->b=true:=fun a i h=>by
  obtain⟨_,f⟩:=vVm a i h;rw[←f];exact decide_eq_true rfl
 intro n;induction n with
 |zero=>exact z
 | succ n ih=>
   intro v d e b a i h;have A:∀{k:Kd} {ds m:List D} {t u:List V},t=u->DsAt X.K c H t ds->DsAt X.K c H u m->all2 (deq n) ds m=some b->b=true:=fun {_ ds m _ _} q f l h=>by
    subst q;obtain⟨g,E,rfl⟩:=vVs h;have F:=f.len;have G:=l.len;rw[aP,List.all_eq_true];refine⟨fun j B=>?_,by simp;omega⟩;have B:=List.mem_range.mp B;have g1:ds[j]?=some ds[j]:=aL (by omega);have C:m[j]?=some m[j]:=aL (by omega);obtain⟨x,o,a⟩:=f.get g1;exact ih a (l.r j x _ o C) (E j _ _ g1 C)
   unfold deq at h;split at h
   ·obtain⟨p,t,rfl,w,f⟩:=a.un;obtain⟨q,u,o,y,l⟩:=i.un;cases o;exact A (k:=.lst) (I.list_inj w y) f l h
   ·obtain⟨p,t,rfl,w,f⟩:=a.un;obtain⟨q,u,o,y,l⟩:=i.un;cases o;exact A (k:=.tup) (I.tuple_inj w y) f l h
   ·cases a;cases i
   ·cases i;cases a
   ·exact z a i h
theorem vXu{f:D->D->Option Bool}{ds es:List D}{i a:List Value}{b:Bool}(h:DsAt X.K c H vs ds)(k:DsAt X.K c H ws es)(l:Vals vs i)(m:Vals ws a)(e:all2 f ds es=some b)(o:∀(d e:D) (x y:V) (u v:Value) (b:Bool),DAt X.K c H x d->DAt X.K c H y e->RelV x u->RelV y v->f d e=some b->eW A.in1 s u v b):
  ∃g:Nat->Bool,(∀(j:Nat) (h1:j<i.toArray.size) (h2:j<a.toArray.size),eW A.in1 s i.toArray[j] a.toArray[j] (g j))/\((List.range (min i.toArray.size a.toArray.size)).all g && i.toArray.size == a.toArray.size)=b:=by
 obtain⟨g,p,rfl⟩:=vVs e;have q:=l.length;have r:=m.length;have t:=h.len;have w:=k.len;refine⟨g,fun j h1 h2=>?_,by rw[aN,aN,←q,←r,t,w]⟩;rw[aN]at h1 h2;have g1:ds[j]?=some ds[j]:=aL (by omega);have n:es[j]?=some es[j]:=aL (by omega);obtain⟨x,z,B⟩:=h.get g1;obtain⟨y,C,E⟩:=k.get n;obtain⟨u,F,G⟩:=l.get z;obtain⟨v,I,J⟩:=m.get C;have L:i.toArray[j]=u:=by simpa using (aD.mp F).2
 have M:a.toArray[j]=v:=by simpa using (aD.mp I).2
 rw[L,M];exact o _ _ x y u v _ B E G J (p j _ _ g1 n)
noncomputable def Bo(A:cW)(s:aJ)(u v:Value)(b:Bool):Prop:=SeqAt.RcAt A s u v b/\SeqAt.RcNeAt A s u v (!b)
theorem jQo(I:Inv X pins σ H s):∀(n:Nat) (A:cW) (d e:D) (x y:V) (u v:Value) (b:Bool),A.units+n<eX->DAt X.K c H x d->DAt X.K c H y e->RelV x u->RelV y v->deq n d e=some b->Bo A s u v b/\eW A s u v b:=by
 have P:∀(A:cW) (d e:D) (x y:V) (u v:Value) (b:Bool),DAt X.K c H x d->DAt X.K c H y e->RelV x u->RelV y v->eqFB d e=some b->Bo A s u v b/\eW A s u v b:=fun A d e x y u v b j k l m h=>by
  unfold eqFB at h;split at h
  ·cases j;cases k;cases h;obtain⟨t,rfl⟩:=l;obtain⟨Q,rfl⟩:=m;exact⟨⟨SeqAt.RcAt.int_int _ _ _ _,SeqAt.RcNeAt.int_int _ _ _ _⟩,SeqAt.EqAt.int_int _ _ _ _⟩
  ·cases j;cases k;cases h;obtain⟨t,rfl⟩:=l;obtain⟨Q,rfl⟩:=m;exact⟨⟨SeqAt.RcAt.str_str _ _ _ _,SeqAt.RcNeAt.str_str _ _ _ _⟩,SeqAt.EqAt.str_str _ _ _ _⟩
  ·cases j;cases k;cases h;cases l;cases m;exact⟨⟨SeqAt.RcAt.bool_bool _ _,SeqAt.RcNeAt.bool_bool _ _⟩,SeqAt.EqAt.bool_bool _ _⟩
  ·cases j;cases k;cases h;cases l;obtain⟨Q,rfl⟩:=m;exact⟨⟨SeqAt.RcAt.none_int _ _,SeqAt.RcNeAt.none_int _ _⟩,SeqAt.EqAt.none_int _ _⟩
  ·cases h
 intro n;induction n with
 |zero=>intro A d e x y u v b _;exact P A d e x y u v b
 | succ n ih=>
   intro A d e x y u v b hu j k l m h;have a :A.units<eX:=by omega
   have R:∀(d e:D) (x y:V) (u v:Value) (b:Bool),DAt X.K c H x d->DAt X.K c H y e->RelV x u->RelV y v->deq n d e=some b->eW A.in1 s u v b:=fun d e x y u v b S T U W Y=>(ih A.in1 d e x y u v b (by show A.units+1+n<eX;omega) S T U W Y).2
   have B:∀{p q:aZ},x=.ref p->y=.ref q->u=.ref p->v=.ref q->Bo A s (.ref p) (.ref q) b->Bo A s u v b/\eW A s u v b:=fun {p q} Z e2 e3 e4 E=>by
    subst Z e2 e3 e4;by_cases z:p=q
    ·subst z;rw[zZ0 I (n+1) j k h]at E⊢;exact⟨E,SeqAt.EqAt.same _⟩
    ·exact⟨E,SeqAt.EqAt.of_refs z E.1⟩
   have h0:=h;unfold deq at h;split at h
   ·obtain⟨p,vs,rfl,G,J⟩:=j.un;obtain⟨q,L,rfl,r,M⟩:=k.un;cases l;cases m;obtain⟨C,N,w,_⟩:=I.list G;obtain⟨o,O,f,_⟩:=I.list r;obtain⟨g,g1,F⟩:=vXu J M N O h R;refine B rfl rfl rfl rfl ?_
    by_cases i:C.toArray.size=o.toArray.size
    ·rw [i,Nat.min_self,beq_self_eq_true,Bool.and_true,←i] at F;subst F;exact⟨SeqAt.RcAt.lists w.isList f.isList i a g1,SeqAt.RcNeAt.lists w.isList f.isList i a g1⟩
    ·rw [beq_eq_false_iff_ne.mpr i,eQ] at F;subst F;exact⟨SeqAt.RcAt.lists_lengths w.isList f.isList (by simpa using i) a,SeqAt.RcNeAt.lists_lengths w.isList f.isList (by simpa using i) a⟩
   ·obtain⟨p,vs,rfl,G,J⟩:=j.un;obtain⟨q,L,rfl,r,M⟩:=k.un;cases l;cases m;obtain⟨C,N,w,_⟩:=I.tuple G;obtain⟨o,O,f,_⟩:=I.tuple r;obtain⟨g,g1,rfl⟩:=vXu J M N O h R;exact B rfl rfl rfl rfl ⟨SeqAt.RcAt.tuples w f a g1,SeqAt.RcNeAt.tuples w f a g1⟩
   ·obtain⟨q,L,rfl,r,_⟩:=k.un;cases j;cases m;cases h;obtain⟨t,rfl⟩:=l;obtain⟨_,_,f,_⟩:=I.tuple r;exact⟨⟨SeqAt.RcAt.int_tuple _ _ f a,SeqAt.RcNeAt.int_tuple _ _ f a⟩,SeqAt.EqAt.int_tuple _ _ f a⟩
   ·obtain⟨q,L,rfl,r,_⟩:=j.un;cases k;cases l;cases h;obtain⟨t,rfl⟩:=m;obtain⟨_,_,f,_⟩:=I.tuple r;exact⟨⟨SeqAt.RcAt.tuple_int _ _ f a,SeqAt.RcNeAt.tuple_int _ _ f a⟩,SeqAt.EqAt.tuple_int _ _ f a⟩
   ·exact P A _ _ x y u v b j k l m h
end
noncomputable def rEqQ(K:aQ)(c:Nat->aZ)(t:Bool->Bool):R2:=fun u w H Q=>∃x y b,DAt K c H u x/\DAt K c H w y/\deq 30 x y=some b/\Q (.bl (t b)) H
section
variable{X:Cx}{c:Nat->aZ}{E:XK}{a b:Expr}{oa ob:Oe}{pos:Pos}{k:Nat}
theorem zKb(k:X.A.units+64<eX):OpR X (cR .NotEq) (rEqQ X.K c not):=fun a s σ H x y u v Q I f g ⟨d,e,b,h,i,j,q⟩=>(jQo I 30 X.A d e x y u v b (by omega) h i f g j).1.2 _ _ _ _ (vS I q rfl)
theorem zYy{K:aQ}(t:Bool->Bool):PrS2 K c (rEqQ K c t) fun x y=>(deq 30 x y).map fun b=>.bl (t b):=fun u w H x y z Q a d e q=>by
 obtain⟨b,f,rfl⟩:=bX.mp e;exact⟨x,y,b,a,d,f,q _ fun _=>.bl _⟩
theorem jQf(d:Room k X.A)(e:OD X c E a oa)(hb:OD X c E b ob):TD X c E (.Compare a [.NotEq] [b] pos) (asB (o2 neQ oa ob)):=qJd (zKb d.units) (zYy not) e hb (qWh _)
end
end DX
namespace FP
open PySem L2 DX PyProof.Rows
noncomputable def qQn:Fn:=fnS 4 0 (sSeq (qQ6 [1] "steps" (pOf (oN 0)) (eF listD [(oN 1)]))
  (sSeq (qQ6 [1] "draws" (pOf (oN 0)) (compS 1 [] [0] (iV (oV (oN 2))) (gN 0) bTrue (fzS (eF listD [(oN 0)]))))
  (qQ6 [1] "slots" (pOf (oN 0)) (owS (oV (oN 3))))))
noncomputable def vE:Fn:=fnS 1 1 (sSeq (sSet 1 (owS (oV (oIx (oN 0) (oC (.int 0))))))
  (sSeq (sIf (asB (o2 eqF (oN 1) (oC (.str "if")))) (sRet (eLst [(oV (oIx (oN 0) (oC (.int 1)))),(oV (oIx (oN 0) (oC (.int 2)))),(oV (oIx (oN 0) (oC (.int 3))))])) sNil)
  (sSeq (sIf (asB (o2 inD (oN 1) (.v (svTup [(oV (oC (.str "op"))),(oV (oC (.str "bind")))])))) (sRet (eLst [(oV (oIx (oN 0) (oC (.int 2)))),(oV (oIx (oN 0) (oC (.int 3))))])) sNil)
  (sSeq (sIf (asB (o2 inD (oN 1) (.v (svTup [(oV (oC (.str "rest"))),(oV (oC (.str "field")))])))) (sRet (eLst [(oV (oIx (oN 0) (oC (.int 1))))])) sNil)
  (sSeq (sIf (asB (o2 eqF (oN 1) (oC (.str "record")))) (sRet (compS 2 [] [0,1] (iV (oV (oIx (oN 0) (oC (.int 1))))) (gT 2 (gCn (gN 0) (gCn (gN 1) gNl))) bTrue (oV (oN 1)))) sNil)
  (sSeq (sIf (asB (o2 eqF (oN 1) (oC (.str "call")))) (sRet (eF listD [(oIx (oN 0) (oC (.int 2)))])) sNil)
  (sRet (eLst []))))))))
noncomputable def zZ(a:Fn):SS:=(jQ (callS a [(.v (oV (oN 0))),(.v (oV (oN 5))),(.v (oV (oN 2))),(.v (oV (oN 3)))]))
noncomputable def vV:Nat->Fn
 | 0=>fun _=>.no
 | h + 1=>fnS 4 2 (sSeq (sSet 4 (owS (oV (oIx (oN 1) (oC (.int 0))))))
   (sSeq (sIf (bAnd (asB (o2 eqF (oN 4) (oC (.str "name")))) (asB (o2 niD (oIx (oN 1) (oC (.int 1))) (oN 2)))) (wN 24 "row" (oV (oN 0))) sNil)
   (sSeq (sIf (bAnd (asB (o2 eqF (oN 4) (oC (.str "call")))) (asB (o2 neF (.v (qVk (pOf (oN 3)) (pOf (oIx (oN 1) (oC (.int 1)))))) (oL lenD [(oIx (oN 1) (oC (.int 2)))])))) (wN 24 "row" (oV (oN 0))) sNil)
   (sFor (iV (fzS (callS vE [(.v (oV (oN 1)))]))) (gN 5) (zZ (vV h))))))
noncomputable def jG:SS:=(sSeq (sSet 5 (owS (oV (oIx (oN 4) (oC (.int 0))))))
  (sIf (asB (o2 eqF (oN 5) (oC (.str "def")))) (sSeq (sIf (asB (o2 inD (oIx (oN 4) (oC (.int 1))) (oN 2))) (wN 24 "row" (oV (oN 3))) sNil)
  (sSeq (jQ (callS (vV 30) [(.v (oV (oN 3))),(.v (oV (oIx (oN 4) (oC (.int 3))))),(.v (oV (oIx (oN 4) (oC (.int 2))))),(.b (pOf (oN 2)))]))
  (sPutA (pOf (oN 2)) (pOf (oIx (oN 4) (oC (.int 1)))) (owS (oV (oL lenD [(oIx (oN 4) (oC (.int 2)))])))))) (sSeq (sIf (bAnd (asB (o2 eqF (oN 5) (oC (.str "again")))) (asB (o2 niD (oIx (oN 4) (oC (.int 2))) (oN 1)))) (wN 24 "row" (oV (oN 3))) sNil)
  (sSeq (jQ (callS (vV 30) [(.v (oV (oN 3))),(.v (oV (oIx (oN 4) (o1 negD (oC (.int 1)))))),(.b (pOf (oN 1))),(.b (pOf (oN 2)))]))
  (sIf (asB (o2 eqF (oN 5) (oC (.str "let")))) (sPutA (pOf (oN 1)) (pOf (oIx (oN 4) (oC (.int 1)))) (owS (oV (oC (.bl true))))) sNil)))))
noncomputable def jM:Fn:=fnS 1 5 (sSeq (sSet 1 eDct0)
  (sSeq (sSet 2 eDct0)
  (sFor (iL enL [(oV (oN 0))]) (gT 2 (gCn (gN 3) (gCn (gN 4) gNl))) jG)))
noncomputable def yI:Fn:=fnS 1 0 (sIf (asB (oGt (oL lenD [(.v (fzS (compS 1 [] [0] (iV (oV (oN 0))) (gN 0) (asB (o2 eqF (oIx (oN 0) (oC (.int 0))) (oC (.str "def")))) (oV (oN 0)))))]) (oC (.int 3)))) (vQ0 25 (oV (oC (.str "a program has at most 3 defs")))) sNil)
noncomputable def qZ3:Fn:=fnS 1 0 (sSeq (sIf (asB (o2 eqF (oIx (oN 0) (oC (.int 0))) (oC (.str "flip")))) (sRet (eLst [(svTup [(oV (oC (.int 0))),(oV (oSub (oIx (oN 0) (oC (.int 2))) (oIx (oN 0) (oC (.int 1)))))]),(svTup [(oV (oC (.int 1))),(oV (oIx (oN 0) (oC (.int 1))))])])) sNil)
  (sRet (eF listD [(oIx (oN 0) (oC (.int 1)))])))
noncomputable def zU:Fn:=fnS 2 1 (sSeq (sSet 2 (owS (oV (oIx (oN 0) (oC (.int 0))))))
  (sSeq (sIf (asB (o2 eqF (oN 2) (oC (.str "if")))) (sRet (owS (svTup [(oV (oC (.str "if"))),(oV (oIx (oN 1) (oC (.int 0)))),(oV (oIx (oN 1) (oC (.int 1)))),(oV (oIx (oN 1) (oC (.int 2))))]))) sNil)
  (sSeq (sIf (asB (o2 eqF (oN 2) (oC (.str "op")))) (sRet (owS (svTup [(oV (oC (.str "op"))),(oV (oIx (oN 0) (oC (.int 1)))),(oV (oIx (oN 1) (oC (.int 0)))),(oV (oIx (oN 1) (oC (.int 1))))]))) sNil)
  (sSeq (sIf (asB (o2 eqF (oN 2) (oC (.str "record")))) (sRet (owS (svTup [(oV (oC (.str "record"))),(svA tupleD [(.v (fzS (compS 2 [] [0,1] (iL zpA [(oV (oIx (oN 0) (oC (.int 1)))),(oV (oN 1))]) (gT 2 (gCn (gN 0) (gCn (gN 1) gNl))) bTrue (svTup [(oV (oIx (oN 0) (oC (.int 0)))),(oV (oN 1))]))))])]))) sNil)
  (sRet (owS (svTup [(oV (oN 2)),(oV (oIx (oN 1) (oC (.int 0)))),(oV (oIx (oN 0) (oC (.int 2))))])))))))
noncomputable def qQm:Fn:=fnS 1 0 (sSeq (qQ6 [2] "helpers" (pOf (oN 0)) eDct0)
  (sSeq (qQ6 [2] "names" (pOf (oN 0)) eDct0)
  (sSeq (qQ6 [2] "steps" (pOf (oN 0)) (eLst []))
  (sSeq (qQ6 [2] "draws" (pOf (oN 0)) (eLst []))
  (sSeq (qQ6 [2] "slots" (pOf (oN 0)) (owS (oV (oC (.int 0)))))
  (qQ6 [2] "terms" (pOf (oN 0)) (owS (oV (oC (.int 0))))))))))
noncomputable def z9:Fn:=fnS 1 0 (sSeq (vV7 [2] "terms" (i2 fun i j=>i+j) (pOf (oN 0)) (oV (oC (.int 1))))
  (sIf (asB (oGt (oFld [2] "terms" (oN 0)) (oC (.int 600)))) (vQ0 25 (oV (oC (.str "a program's size is at most 600")))) sNil))
noncomputable def zJ:Fn:=fnS 1 0 (sSeq (vV7 [2] "slots" (i2 fun i j=>i+j) (pOf (oN 0)) (oV (oC (.int 1))))
  (sRet (owS (oV (oSub (oFld [2] "slots" (oN 0)) (oC (.int 1)))))))
noncomputable def xM:Fn:=fnS 2 0 (sSeq (jQ (eMu1 (pOf (oFld [2] "draws" (oN 0))) (owS (oV (oN 1))) apF))
  (sSeq (sIf (asB (oGt (oL lenD [(oFld [2] "draws" (oN 0))]) (oC (.int 60)))) (vQ0 25 (oV (oC (.str "a program has at most 60 draws")))) sNil)
  (sRet (owS (oV (oSub (oL lenD [(oFld [2] "draws" (oN 0))]) (oC (.int 1))))))))
noncomputable def zR(a:Fn):SS:=(sSeq (jQ (wC 2 "count_term" z9 (.io 0) []))
  (sSeq (sSet 8 (wC 2 "open_term" a (.io 0) [(.v (oV (oN 7))),(.v (oV (oN 2)))]))
  (sSeq (sPutA (pOf (oN 4)) (pOf (oN 6)) (wC 2 "new_slot" zJ (.io 0) []))
  (jQ (eMu1 (pOf (oN 5)) (owS (svTup [(oV (oIx (oN 4) (oN 6))),(oV (oN 8))])) apF)))))
noncomputable def yY(a:Fn):SS:=(sSet 9 (owS (svTup [(oV (oC (.str "bind"))),(oV (oN 10)),(oV (oN 8)),(oV (oN 9))])))
noncomputable def xV(a:Fn):Fn:=fnS 3 8 (sSeq (sSet 3 (owS (oV (oIx (oFld [2] "helpers" (oN 0)) (oIx (oN 1) (oC (.int 1)))))))
  (sSeq (sSet 4 eDct0)
  (sSeq (sSet 5 (eLst []))
  (sSeq (sFor (iL zpA [(oV (oIx (oN 3) (oC (.int 2)))),(oV (oIx (oN 1) (oC (.int 2))))]) (gT 2 (gCn (gN 6) (gCn (gN 7) gNl))) (zR a))
  (sSeq (sSet 9 (wC 2 "open_term" a (.io 0) [(.v (oV (oIx (oN 3) (oC (.int 3))))),(.v (oV (oN 4)))]))
  (sSeq (sFor (iL rvL [(oV (oN 5))]) (gT 2 (gCn (gN 10) (gCn (gN 8) gNl))) (yY a))
  (sRet (eMv 9))))))))
noncomputable def wZ(a:Fn):SS:=(jQ (eMu1 (pOf (oN 4)) (wC 2 "open_term" a (.io 0) [(.v (oV (oN 5))),(.v (oV (oN 2)))]) apF))
noncomputable def F_Opener_open_term:Nat->Fn
 | 0=>fun _=>.no
 | h + 1=>fnS 3 3 (sSeq (sSet 3 (owS (oV (oIx (oN 1) (oC (.int 0))))))
   (sSeq (sIf (asB (o2 eqF (oN 3) (oC (.str "call")))) (sRet (wC 2 "open_call" (xV (F_Opener_open_term h)) (.io 0) [(.v (oV (oN 1))),(.v (oV (oN 2)))])) sNil)
   (sSeq (jQ (wC 2 "count_term" z9 (.io 0) []))
   (sSeq (sIf (asB (o2 eqF (oN 3) (oC (.str "num")))) (sRet (eMv 1)) sNil)
   (sSeq (sIf (asB (o2 eqF (oN 3) (oC (.str "name")))) (sRet (owS (svTup [(oV (oC (.str "slot"))),(oV (oIx (oN 2) (oIx (oN 1) (oC (.int 1)))))]))) sNil)
   (sSeq (sIf (asB (o2 inD (oN 3) (.v (svTup [(oV (oC (.str "flip"))),(oV (oC (.str "pick")))])))) (sRet (owS (svTup [(oV (oC (.str "draw"))),(fzS (wC 2 "new_draw" xM (.io 0) [(.v (fzS (callS qZ3 [(.v (oV (oN 1)))])))]))]))) sNil)
   (sSeq (sSet 4 (eLst []))
   (sSeq (sFor (iV (fzS (callS vE [(.v (oV (oN 1)))]))) (gN 5) (wZ (F_Opener_open_term h)))
   (sRet (callS zU [(.v (oV (oN 1))),(.b (pOf (oN 4)))]))))))))))
noncomputable def j6:Fn:=fnS 3 1 (sSeq (sSet 3 (qW9 2 "open_term" (F_Opener_open_term 30) (.io 0) [(.v (oV (oN 2))),(.b (pOf (oFld [2] "names" (oN 0))))]))
  (sSeq (sPutA (pOf (oFld [2] "names" (oN 0))) (pOf (oN 1)) (wC 2 "new_slot" zJ (.io 0) []))
  (jQ (eMu1 (pOf (oFld [2] "steps" (oN 0))) (owS (svTup [(oV (oIx (oFld [2] "names" (oN 0)) (oN 1))),(oV (oN 3))])) apF))))
noncomputable def yD:SS:=(jQ (wC 2 "open_let" j6 (.io 0) [(.v (oV (oIx (oN 1) (oC (.int 2))))),(.v (oV (oIx (oN 1) (oC (.int 3)))))]))
noncomputable def j5:Fn:=fnS 2 3 (sSeq (sSet 2 (owS (oV (oIx (oN 1) (oC (.int 0))))))
  (sIf (asB (o2 eqF (oN 2) (oC (.str "def")))) (sPutA (pOf (oFld [2] "helpers" (oN 0))) (pOf (oIx (oN 1) (oC (.int 1)))) (owS (oV (oN 1)))) (sIf (asB (o2 eqF (oN 2) (oC (.str "let")))) (jQ (wC 2 "open_let" j6 (.io 0) [(.v (oV (oIx (oN 1) (oC (.int 1))))),(.v (oV (oIx (oN 1) (oC (.int 2)))))])) (sIf (asB (o2 eqF (oN 2) (oC (.str "again")))) (sFor (iL rg1 [(oV (oIx (oN 1) (oC (.int 1))))]) (gN 3) yD) (sIf (asB (o2 eqF (oN 2) (oC (.str "see")))) (jQ (eMu1 (pOf (oFld [2] "steps" (oN 0))) (owS (svTup [(oV (o1 negD (oC (.int 1)))),(fzS (qW9 2 "open_term" (F_Opener_open_term 30) (.io 0) [(.v (oV (oIx (oN 1) (oC (.int 1))))),(.b (pOf (oFld [2] "names" (oN 0))))]))])) apF)) (sSeq (sSet 4 (qW9 2 "open_term" (F_Opener_open_term 30) (.io 0) [(.v (oV (oIx (oN 1) (oC (.int 1))))),(.b (pOf (oFld [2] "names" (oN 0))))]))
  (jQ (eMu1 (pOf (oFld [2] "steps" (oN 0))) (owS (svTup [(fzS (wC 2 "new_slot" zJ (.io 0) [])),(oV (oN 4))])) apF))))))))
noncomputable def qKj:SS:=(jQ (wC 2 "open_row" j5 (.io 1) [(.v (oV (oN 2)))]))
noncomputable def wQ:Fn:=fnS 1 2 (sSeq (jQ (callS jM [(.v (oV (oN 0)))]))
  (sSeq (jQ (callS yI [(.v (oV (oN 0)))]))
  (sSeq (sSet 1 (qXa 2 qQm []))
  (sSeq (sFor (iV (oV (oN 0))) (gN 2) qKj)
  (sRet (qXa 1 qQn [(.v (oV (oFld [2] "steps" (oN 1)))),(.v (oV (oFld [2] "draws" (oN 1)))),(.v (oV (oFld [2] "slots" (oN 1))))]))))))
end FP
namespace L2
open PySem PySem.Spec PyProof.Rows
noncomputable abbrev Cx.mute(X:Cx):Cx:={X with xe:=fun _ _=>False}
section
variable{X:Cx}{pins:List (aZ×Obj)}{σ:St}{H:Hp}{s:aJ}
theorem Inv.mute(I:Inv X pins σ H s):Inv X.mute pins σ H s:=
 ⟨⟨I.ok.mod,I.ok.kind,I.ok.glob,I.ok.blt,I.ok.above,I.ok.inj,I.ok.has,I.ok.cab,I.ok.hd,I.ok.frames,I.ok.stk,I.ok.exf,I.ok.bs,I.ok.bsz,I.ok.noex,I.ok.exfs,I.ok.funs,I.ok.frf⟩,
   I.os,I.bare,I.base,I.loc,I.cell,I.free,I.freeC,I.pin,I.hok,I.len⟩
theorem Inv.unmute(I:Inv X.mute pins σ H s):Inv X pins σ H s:=
 ⟨⟨I.ok.mod,I.ok.kind,I.ok.glob,I.ok.blt,I.ok.above,I.ok.inj,I.ok.has,I.ok.cab,I.ok.hd,I.ok.frames,I.ok.stk,I.ok.exf,I.ok.bs,I.ok.bsz,I.ok.noex,I.ok.exfs,I.ok.funs,I.ok.frf⟩,
   I.os,I.bare,I.base,I.loc,I.cell,I.free,I.freeC,I.pin,I.hok,I.len⟩
end
noncomputable def jQg(K:aQ)(d:Value)(i:Nat)(sp:Sp)(t:TA)(ts:aZ->TS):TS:=fun D σ H=>t σ H fun e f=>sp e f (fun _ c=>D.nx σ c)
 (fun a g c=>(∃C,a=.ref C)/\PySem.W.exmOne K a d=some true/\∀b,c b=none->ts b {nx:=fun σ' h =>D.nx (σ'.set i none) h,rt:=D.rt} (σ.set i (some (.ref b))) (upd c b (.ext (ExcD b a g))))
section
variable{X:Cx}{k:Nat}{f:aZ}{fd:bQ}{ps:List Str}{sp:Sp}{x c n:Str}{p cpos epos np hpos pos:Pos}{e:Expr}{es:List Expr}{t:TA}{b₀:Stmt}{suite:List Stmt}{ts:aZ->TS}{i:Nat}{Ch:Value}
theorem zJr(F:FnOk X.prog X.w X.K X.mg X.base (CXd X.prog X.w) k f fd ps sp)(hr:Room k X.A)(hg:Gl X x)(hm:X.mg x=some (.ref f))(hk:cD X.K (.ref f)=true)(hb:wK X.K fd ps [])(ha:PA X.mute (e::es) t)(hgc:Gl X c)(hmc:X.mg c=some Ch)(hN:X.N.Nodup)(hi:X.N[i]?=some n)(hn:X.env.scope.names.lookup n=some .local)(hsu:∀a,PSs (X.marked a) (b₀::suite) (ts a))(hex:X.ex=[])(L:X.stack=X.env::X.outer)(hfr:X.env.frame=some X.env.locals)(hdb:(x == ("__debug__":Str))=false:=by decide)(hdc:(c == ("__debug__":Str))=false:=by decide)(he:aX (e::es) X.env=(false,eval e X.env)::aX es X.env:=by rfl)(hpl:(cV cpos (aX es X.env)).any (·.1)=false:=by rfl)(hs:swapsWith (.Call (.Name x p) (e::es) [] cpos) none epos.line X.env=pure false:=by rfl):
  PS X (.Try [.Expr (.Call (.Name x p) (e::es) [] cpos) epos] [.ExceptHandler (some (.Name c np)) (some n) (b₀::suite) hpos] [] [] pos) (jQg X.K Ch i sp t ts):=by
 intro d s σ H D I h;have frm:X.A.frames=some (X.env::X.outer):=by rw[I.ok.frames,L]
 refine wpAny_Try_except (wpAny_execs_cons (wpAny_Expr_any ?_ I.quiet hs));refine dR (qQs I hg hm ?_ hdb);refine PySem.W.callWith_K (h₀:=X.base) I.ok.mod.kin hk (bM (ha cpos d s σ H _ I.mute h) (fun us s1 Y=>?_) fun _ _ z=>z.elim) he hpl;obtain⟨vs,H1,I0,r,q⟩:=Y;have J:=I0.unmute;refine⟨J.kIn,?_⟩;have hl:(us ++ []).length =ps.length:=by rw[bK,←r.length];exact F.len _ _ _ _ q
 have hbd:=hb s1 us J.kIn hl;rw[bK]at hbd;refine wpAny_call (codeAny_mono (F.run X.A X.stack s1 H1 ⟨us,[]⟩ us vs _ _ hr J.env0 hbd r q) fun res M Y=>?_);cases res with
 | ok fl=>
   cases fl with
   | ret u=>
     obtain⟨v,H2,I2,_,q2⟩:=J.after Y;exact wpAny_execs_nil (wpAny_execs_nil ⟨σ,H2,I2,q2⟩)
   |next=>exact False.elim Y
   |brk=>exact False.elim Y
   |cont=>exact False.elim Y
 | error ev=>
   obtain⟨a,cls,a0,H2,B,ox,rfl,hos,T,un,hok,fl,cov,hea,sea,⟨oe,hoe,hdic⟩,⟨C,rfl⟩,hx,O⟩:=Y;rw[L]at fl;refine bM ((qWa _ _).any (wpAny_looks_onW (E:=fun _ _=>False) (Q:=fun _ t' =>∃U,t' ={M with heap:=U}/\Heap.HeldW B (X.env::X.outer) a (.ref C) a0 X.env.locals U/\M.heap.UpToSlots U) frm hfr fl fun U g P=>⟨U,rfl,g,P⟩)) (fun _ t4 hq4=>?_) fun _ _ z=>z.1.elim
   obtain⟨⟨U,rfl,g,P⟩,dk4⟩:=hq4;refine bM ((qVw _ _).any (wpAny_landsW (E:=fun _ _=>False) (s:={M with heap:=U}) (Q:=fun _ t' =>∃j,t' ={M with heap:=j}/\Heap.FlyingW B (X.env::X.outer) a (.ref C) a0 j/\U.UpToSlots j) g fun j l R=>⟨j,rfl,l,R⟩)) (fun _ t5 hq5=>?_) fun _ _ z=>z.1.elim
   obtain⟨⟨j,rfl,l,R⟩,dk5⟩:=hq5;have fl5' :Heap.FlyingW B X.stack a (.ref C) a0 j:=by rw[L];exact l
   have I5:Inv X d σ H2 {M with heap:=j}:=vZ7 J hos T un hok fl5' cov (P.trans R);refine wpAny_handleBy_cons (codeAny_handlers_test (qQs (I5.marked a) hgc hmc ?_ hdc)) (by intro q;cases q);obtain⟨ob,hob,hobc⟩:=l.there;have LT:PySem.W.Looks (model X.prog X.w) j (typeOf (.ref a)) (.ref C):=hobc▸(PySem.W.Looks.ld hob).andThen .now;refine(PySem.W.exm_one I5.kIn LT hx).here ?_
   refine codeAny_handlers_suite_as ?_
   refine bM ((qVw _ _).any (lands_againW (E:=fun _ _=>False) (s:={M with heap:=j}) (Q:=fun _ t' =>∃G,t' ={M with heap:=G}/\Heap.FlyingW B (X.env::X.outer) a (.ref C) a0 G/\j.UpToSlots G) l fun G S Z=>⟨G,rfl,S,Z⟩)) (fun _ t6 hq6=>?_) fun _ _ z=>z.1.elim
   obtain⟨⟨G,rfl,S,Z⟩,dk6⟩:=hq6;have fl6' :Heap.FlyingW B X.stack a (.ref C) a0 G:=by rw[L];exact S
   have I6:Inv X d σ H2 {M with heap:=G}:=vZ7 J hos T un hok fl6' cov ((P.trans R).trans Z);obtain⟨ob6,V,hobc6,vs6,hv6⟩:∃ob,G.get? a=some ob/\ob.cls=.ref C/\∃vs,ob.data=.fields vs:=by
    obtain⟨_,_,_,oe',vs',_,_,_,z1,z2,z3,_⟩:=S;exact⟨oe',z1,z2.1,vs',z3⟩
   have hd6:dxO ob6=(ox,some .none):=by
    obtain⟨o',e1,e2⟩:=((dk4.trans dk5).trans dk6) a oe hoe;rw[show G.get? a=some ob6 from V]at e1;cases e1;exact e2.trans hdic
   have ne1:∀b o,s1.heap.get? b=some o->b≠a:=fun b o e z=>by rw[z,sea]at e;cases e
   have I7:Inv X d σ (upd H2 a (.ext (ExcD a (.ref C) ox))) {M with heap:=G}:=by
    refine I6.adopt hea ?_ ?_ (fun y cc e=>?_) (fun p hp=>?_) (zZu ⟨ob6,V,hobc6,hd6,vs6,hv6⟩)
    ·cases q:X.s₀.heap.get? a with
     |none=>rfl
     | some o=>
       obtain⟨o',z⟩:=J.base.there a o q (by rw[hex];simp);rw[sea]at z;cases z
    ·obtain⟨m,⟨o,_,_,z,_⟩,_⟩:=J.loc;exact(ne1 _ _ z).symm
    ·obtain⟨v,o,z,_⟩:=J.cell y cc e;exact ne1 _ _ z
    ·exact ne1 _ _ (J.pin p hp).1
   refine qZe I7 hN hi (Or.inl hn) (v:=.ref a) rfl (fun s8 I8=>?_) (.inr hn);refine bM (hsu a d s8 _ _ _ (I8.marked a) (O a hea)) (fun fw s9 h9=>?_) fun _ _ z=>z.elim
   cases fw with
   | next=>
     obtain⟨σ9,H9,I9,q9⟩:=h9;exact vQb (I9.unmarked I.ok.hd) hN hi hn fun s10 I10=>⟨_,H9,I10,q9⟩
   | ret v=>
     obtain⟨v9,σ9,H9,I9,r9,q9⟩:=h9;exact vQb (I9.unmarked I.ok.hd) hN hi hn fun s10 I10=>⟨v9,_,H9,I10,r9,q9⟩
   |brk=>obtain⟨_,_,_,z⟩:=h9;exact z.elim
   |cont=>obtain⟨_,_,_,z⟩:=h9;exact z.elim
end
end L2
namespace L2
open PySem PySem.Spec PySem.W PySem.Calls PyProof.Rows
variable{tk:Tok}{Q:Value->aJ->Prop}{X:Cx}
section
variable{prog:bZ}{w:bP}{A:cW}{E:Value->aJ->Prop}{h:Heap}{g:Array GenState}{d:Drawn}{t:Nat}{os:OsState}{a C dx:aZ}{o:Obj}{K:Frag}{f:Str}{u:Value}{mA:Str->Option Value}{vs:Array Value}
theorem vWr{Q:Fin->aJ->Prop}(X:K.In h)(j:hasDictIn K C=true)(k:findIn K (.ref C) f=some none)(b:h.get? a=some o)(i:o.cls=.ref C)(hd:o.dict=some dx)(l:o.data=.fields vs)(m:h.Ns dx mA)(n:mA f=some u)(q:Q (.done (.ret u)) ⟨h,g,d,t,os⟩):
  aH (model prog w) A (Builtin.«object.__getattribute__» ⟨[.ref a,.str f tk],[]⟩) Q E ⟨h,g,d,t,os⟩:=by
 have p:=looks_findIn (M:=model prog w) X k;repeat (any_goals (first|assumption|with_reducible refine p.at ?_|(with_reducible refine cU b ?_;rw[i])|(with_reducible refine cU b ?_;rw[hd])|wp_step))
 rw[l];obtain⟨r,c,e⟩:=any_some j;refine aV (wpAny_loadPart b ?_);rw[i,hd];refine aV ((looks_clsIn X c).here (s:=⟨h,g,d,t,os⟩) ?_);rw[e];refine aE ?_
 refine wpAny_nsGet m ?_
 rw[n];repeat (any_goals (first|assumption|wp_step))
theorem vKn{R:Result->aJ->Prop}(X:K.In h)(k:ExcKit K C)(e:hasDictIn K C=true)(i:findIn K (.ref C) f=some none)(b:h.get? a=some o)(c:o.cls=.ref C)(hd:o.dict=some dx)(j:o.data=.fields vs)(l:h.Ns dx mA)(m:mA f=some u)(n:R (.ok (.ret u)) ⟨h,g,d,t,os⟩):
  codeAny (model prog w) A (.call (.builtin "BaseException.__getattribute__") ⟨[.ref a,.str f tk],[]⟩) R ⟨h,g,d,t,os⟩:=
 codeAny_call_builtin F.attrBase_ValueError.ga.plain F.entry_bexc_ga (vQp X k b c (vWr X e i b c hd j l m n))
theorem zW2{c b:Bool}(X:K.In h)(k:ExcKit K C)(j:hasDictIn K C=true)(l:findIn K (.ref C) f=some none)(e:h.get? a=some o)(i:o.cls=.ref C)(hd:o.dict=some dx)(m:o.data=.fields vs)(n:h.Ns dx mA)(p:mA f=some u)(q:handedIn u=true)(r:Q u ⟨h,g,d,t,os⟩):
  aH (model prog w) A (getAttrBy (.ref a) (.str f tk) c b) Q E ⟨h,g,d,t,os⟩:=by
 have z:=F.attrBase_ValueError.ga.bind (.ref a);have s:(b && onTheHeap (Value.builtin "BaseException.__getattribute__"))=false:=by cases b <;> rfl
 have v:(Value.builtin "BaseException.__getattribute__" == Value.builtin "object.__getattribute__")=false:=by decide +kernel
 have x:=looks_findIn (M:=model prog w) X k.ga;have y:=looks_findIn (M:=model prog w) X k.gx;repeat (any_goals (first|assumption|with_reducible refine x.at ?_|with_reducible refine y.at ?_|(with_reducible refine cU e ?_;rw[i])|wp_step))
 refine vKn X k j l e i hd m n p ?_
 repeat (any_goals (first|assumption|wp_step))
 have:=handedOut_of q;unfold handedOut at this;rw[this];exact aE r
theorem vKo{b:Bool}(X:K.In h)(k:ExcKit K C)(c:hasDictIn K C=true)(e:findIn K (.ref C) f=some none)(i:h.get? a=some o)(j:o.cls=.ref C)(hd:o.dict=some dx)(l:o.data=.fields vs)(m:h.Ns dx mA)(n:mA f=some u)(p:handedIn u=true)(q:Q u ⟨h,g,d,t+1,os⟩):
  aH (model prog w) A (getAttr (.ref a) f b) Q E ⟨h,g,d,t,os⟩:=by
 repeat (any_goals (first|assumption|with_reducible apply zW2 X k c e i j hd l m n p|wp_step))
end
noncomputable def tXF(K:Frag)(c:TE)(f:Str):TE:=fun σ H Q=>c σ H fun x a=>∃p C b fs v,x=.ref p/\a p=some (.ext (ExcD p (.ref C) (some b)))/\a b=some (.xd fs)/\ExcKit K C/\hasDictIn K C=true/\findIn K (.ref C) f=some none/\fs.lookup f=some v/\Q v a
theorem jQs{e:Expr}{f:Str}{c:Pos}{m:TE}(z:PE X e m)(hb:attributeBase e f X.env (eval e X.env)=eval e X.env):PE X (.Attribute e f c) (tXF X.K m f):=by
 intro a s σ H Q I h;refine vYh hb (thn (z a s σ H _ I h) fun u i ⟨x,j,b,A,p,C,n,fs,v,B,D,E,k,F,G,l,q⟩=>?_);subst B;obtain rfl:u=Value.ref p:=A;obtain⟨⟨o,J,L,M,R,N⟩,_,_⟩:=(show vT X.prog X.w j i.heap p _ from b.hok p _ D)
 obtain⟨mA,O,r⟩:=(show vT X.prog X.w j i.heap n (.xd fs) from b.hok n _ E)
 obtain⟨S,P,y⟩:=RelO.some_of (v:=v) (o:=mA f) (by rw[←l];exact r f);obtain⟨T,g,d,t,U⟩:=i;exact vKo b.kIn k F G J L (congrArg Prod.fst M) N O.ns P (vQn y) ⟨v,j,b.tok _,y,q⟩
theorem vWw:jS X (.builtin "isinstance") (fun xs H Q=>∃p c d C ox b,xs=[.ref p,c]/\((∃n,c=.ty n)\/∃a,c=.ref a)/\RelV c d/\H p=some (.ext (ExcD p (.ref C) ox))/\ExcKit X.K C/\kitOne X.K (.ref C) d=some b/\Q (.bl b) H):=by
 intro f s σ H xs us Q I r h;obtain⟨p,c,d,C,ox,b,rfl,g,i,j,k,e,q⟩:=h;obtain⟨u,y,rfl,l,m⟩:=vV4 r;cases(show u=Value.ref p from l);cases zVp g i m;obtain⟨⟨o,t,v,_⟩,_,_⟩:=(show vT X.prog X.w H s.heap p (.ext (ExcD p (.ref C) ox)) from I.hok p _ j)
 exact kia_one (zZb k) I.kIn ⟨o,t,v⟩ e (fun z=>nomatch z) fun x=>⟨.bl b,H,I.tok x,rfl,q⟩
end L2
namespace DX
open PySem L2 PyProof.Rows
variable{K:aQ}{c:Nat->aZ}{β:Type}
noncomputable def qYa:Slot->Slot
 |.s _ (.fz d)=>.s false (.fz d)
 |_=>.un
theorem SlAt.drop{F f H H' :Hp}(e:Same F f):∀{env:Ev} {σ:L2.St} {Z:Fp},SlAt K c F H env σ Z->SlAt K c f H' (env.map qYa) σ (fun _=>0)
 |[],_,_,h=>⟨⟨h.1.1,h.1.2.same e⟩,fun _=>rfl⟩
 | s::env,_,_,h=>by
   obtain⟨x,r,g,l,a,b,i,d⟩:=h;refine⟨x,r,fun _=>0,fun _=>0,a,?_,SlAt.drop e i,fun _=>rfl⟩;cases s with
   |un=>exact fun _=>rfl
   | s io o=>
     cases o with
     |ow k os=>exact fun _=>rfl
     | fz y=>
       cases x with
       |none=>exact b.elim
       | some v=>
         have j :OAt K c F H (.fz y) v g:=b;exact qXv (j.1.same e)
theorem vZd{α:Type}:∀a:List (α×β),(a.map (·.1)).zip (a.map (·.2))=a
 |[]=>rfl
 |w::a=>by rw[aO,aO,bI,vZd a]
noncomputable def sTry(F:Fn)(as:List Am)(hd:Nat->Bool)(i:Nat)(b:SS):SS:=fun a=>match evOs (as.map Am.o) a with
 | .ok r=>match xX F as r.1 r.2 with
   |.ok q=>.ok (.nx q.2)
   | .er C fs=>cond (hd C && decide (i < a.length)) (match b ((r.2.map qYa).set i (.s false (.fz (.nd (.exc C (fs.map (·.1))) (fs.map (·.2)))))) with
     |.ok (.rt o e)=>.ok (.rt o e)
     |_=>.no) .no
   |.no =>.no
 |_=>.no
noncomputable def tM(K:aQ)(c:Nat->aZ)(e:SS)(d:aZ):TS:=fun D σ H=>∃a B W,Cf K c a σ H B W/\(e a).wp (OutP K c a σ H B W D) (erP K c E0 H B W)/\∃b f,hide (hd2 B W) H d=some (.ext (ExcD d b f))
section
variable{X:Cx}{c:Nat->aZ}{E:XK}{k:Nat}{f:aZ}{fd:bQ}{ps:List Str}{x cn n:Str}{p cpos epos np hpos pos:Pos}{e:Expr}{es:List Expr}{b₀:Stmt}{suite:List Stmt}{su:SS}{i:Nat}{Ch:Value}{F:Fn}{as:List Am}{hd:Nat->Bool}
theorem zJe(G:FnOk X.prog X.w X.K X.mg X.base (CXd X.prog X.w) k f fd ps (spD X.K c as.length F))(hr:Room k X.A)(hg:Gl X x)(hm:X.mg x=some (.ref f))(hk:cD X.K (.ref f)=true)(hb:wK X.K fd ps [])(ha:OsD X.mute c E0 (e::es) (as.map Am.o))(Q:Gl X cn)(R:X.mg cn=some Ch)(hN:X.N.Nodup)(hi:X.N[i]?=some n)(hn:X.env.scope.names.lookup n=some .local)(hx:∀C,hd C=true->PySem.W.exmOne X.K (.ref (c C)) Ch=some true)(S:∀l,PSs (X.marked l) (b₀::suite) (tM X.K c su l))(T:X.ex=[]:=by rfl)(U:X.stack=X.env::X.outer:=by rfl)(V:X.env.frame=some X.env.locals:=by rfl)(hdb:(x == ("__debug__":Str))=false:=by decide)(hdc:(cn == ("__debug__":Str))=false:=by decide)(he:aX (e::es) X.env=(false,eval e X.env)::aX es X.env:=by rfl)(hpl:(cV cpos (aX es X.env)).any (·.1)=false:=by rfl)(hs:swapsWith (.Call (.Name x p) (e::es) [] cpos) none epos.line X.env=pure false:=by rfl):
  SD X c E (.Try [.Expr (.Call (.Name x p) (e::es) [] cpos) epos] [.ExceptHandler (some (.Name cn np)) (some n) (b₀::suite) hpos] [] [] pos) (sTry F as hd i su):=by
 refine⟨PS.imp (zJr G hr hg hm hk hb ha.h Q R hN hi hn (ts:=tM X.K c su) S T U V hdb hdc he hpl hs) fun D σ H=>?_⟩;rintro⟨env,B,W,cf,w⟩;unfold sTry at w;cases e0:evOs (as.map Am.o) env with
 |er C fs=>rw[e0]at w;exact w.elim
 |no=>rw[e0]at w;exact w.elim
 |ok r=>
 rw[e0]at w;refine qVj cf (show(evOs (as.map Am.o) env).wp (fun t =>t =r) _ by rw[e0];rfl) fun t hr' us H1 W1 g=>?_
 subst hr';dsimp only at w;refine qVh g.cf g.at_ ?_
 cases e1:xX F as t.1 t.2 with
 |no=>rw[e1]at w;exact w.elim
 | ok q=>
   rw[e1]at w;exact fun u m M Z g2=>w σ m M (g.st.trans g2.fz.st) g2.fz.cf
 | er C fs=>
   rw[e1]at w;obtain⟨hc,I⟩:=v7 w;rw[aP]at hc;have hli:=of_decide_eq_true hc.2;intro m Y L O er;refine⟨⟨_,rfl⟩,hx C hc.1,fun l P=>?_⟩;have ne:∀a o,m a=some o->a≠l:=fun a o q z=>by rw[z,P]at q;cases q
   have sm:Same (hide (hd2 B Y) m) (hide (hd2 B fun _=>0) (upd m l (.ext (ExcD l (.ref (c C)) L)))):=zK fun a o z q=>⟨by dsimp only[hd2]at *;omega,by rw[qF (ne a o q)];exact q⟩
   have J:∀a,B a≠0->∃o,m a=some o/\Hb o:=fun a z=>by rw[O.by_ a z];exact g.cf.hb a z
   have cf2:Cf X.K c (t.2.map qYa) σ (upd m l (.ext (ExcD l (.ref (c C)) L))) B (fun _=>0):=⟨SlAt.drop (O.same.trans sm) g.cf.at_,fun a=>by have:=g.cf.nd a;(try dsimp only);omega,fun a z=>by
    obtain⟨o,q,b⟩:=J a z;exact⟨o,by rw[qF (ne a o q)];exact q,b⟩⟩
   have hB0:B l=0:=by
    by_cases z:B l=0
    ·exact z
    ·obtain⟨o,q,_⟩:=J l z;rw[P]at q;cases q
   have dE:DAt X.K c (hide (hd2 B fun _=>0) (upd m l (.ext (ExcD l (.ref (c C)) L)))) (.ref l) (.nd (.exc C (fs.map (·.1))) (fs.map (·.2))):=by
    have fe:hide (hd2 B fun _=>0) (upd m l (.ext (ExcD l (.ref (c C)) L))) l=some (.ext (ExcD l (.ref (c C)) L)):=by rw[vM (by dsimp only[hd2];omega),upd_same]
    cases L with
    | none=>
      cases(show fs=[] from er);exact .nd (k:=.exc C []) (vs:=[]) ⟨rfl,none,fe,rfl⟩ rfl fun i v d a _=>by simp at a
    | some dx=>
      obtain⟨ws,h1,h2,h3⟩:=er;refine .nd (k:=.exc C (fs.map (·.1))) (vs:=ws.map (·.2)) ⟨?_,some dx,fe,?_⟩ h3.len (h3.same sm).r
      ·rw[←h2,aW,aW]
      ·show hide _ _ dx=some (.xd ((fs.map (·.1)).zip (ws.map (·.2))));rw[←h2,vZd,vM,qF (ne dx _ h1)]
       ·exact h1
       ·by_cases z:B dx=0
        ·exact z
        ·obtain⟨o,q,b⟩:=J dx z;rw[h1]at q;cases q;exact b.elim
   have hl2:i<(t.2.map qYa).length :=by rw[aW,g.st.len];exact hli
   obtain⟨M,cf3,sm3,z3⟩:=cf2.put (B:=B) (Z:=fun _=>0) (io:=false) (i:=i) (fun _=>rfl) (OAt.fz.mpr ⟨dE,fun _=>rfl⟩) hl2;have w0:∀a,M a=0:=fun a=>by
    by_cases z:M a=0
    ·exact z
    ·exact absurd rfl (z3 a z)
   have st3:Step env σ H B W ((t.2.map qYa).set i (.s false (.fz (.nd (.exc C (fs.map (·.1))) (fs.map (·.2)))))) (σ.set i (some (.ref l))) (upd m l (.ext (ExcD l (.ref (c C)) L))) M :=by
    refine⟨(g.st.same.trans O.same).trans (sm.trans sm3),fun a z=>?_,fun a z=>absurd (w0 a) z,fun a z=>?_,fun a _ z=>absurd (w0 a) z,fun j o z=>?_,by rw[bS,aW,g.st.len]⟩
    ·obtain⟨o,q,_⟩:=J a z;rw[qF (ne a o q),O.by_ a z,g.st.by_ a z]
    ·by_cases y:a=l
     ·subst y;rw[upd_same]at z;cases z
     ·rw[qF y]at z;exact g.st.dom a (O.dom a z)
    ·rw [List.getElem?_set] at z;split at z
     ·first|cases z|(split at z <;> cases z)
     ·rw [bT] at z;cases e2:t.2[j]? with
      |none=>rw[e2]at z;cases z
      | some s=>
        rw[e2]at z;cases s with
        |un=>cases z
        |s io o' =>cases o' <;> cases z
   cases e3:su ((t.2.map qYa).set i (.s false (.fz (.nd (.exc C (fs.map (·.1))) (fs.map (·.2)))))) with
   |no=>rw[e3]at I;exact I.elim
   |er _ _=>rw[e3]at I;exact I.elim
   | ok o=>
     rw[e3]at I;cases o with
     |nx _=>exact I.elim
     |bk _=>exact I.elim
     |ct _=>exact I.elim
     | rt r e' =>
       refine⟨_,B,M,cf3,?_,_,_,by rw[vM (by have:=w0 l;dsimp only[hd2];omega),upd_same]⟩;rw[e3];exact fun v σ' H2 W2 Z g3=>I v σ' H2 W2 Z ⟨st3.trans g3.st,g3.cf,g3.at_⟩
end
noncomputable def isxD(tb:List (Nat×Bool)):D->Option D
 |.nd (.exc C _) _=>(tb.lookup C).map D.bl
 |_=>none
noncomputable def xfD(Cs:List Nat)(f:Str):D->Option D
 | .nd (.exc C fs) ds=>cond (Cs.contains C) (match(fs.zip ds).lookup f with
   |some (.int i)=>some (.int i)
   |_=>none) none
 |_=>none
theorem qKc:∀{l:List (Nat×β)} {a:Nat} {b:β},l.lookup a=some b->(a,b)∈l
 |[],_,_,h=>by cases h
 | (x,y)::l,a,b,h=>by
   rw[List.lookup_cons]at h;cases z:a == x with
   |true=>rw[z]at h;cases h;rw[beq_iff_eq.mp z];exact cC
   |false=>rw[z]at h;exact aM _ (qKc h)
theorem vQj{F:Hp}{f:Str}:∀{fs:List Str} {vs:List V} {ds:List D} {d:D},DsAt K c F vs ds->(fs.zip ds).lookup f=some d->∃v,(fs.zip vs).lookup f=some v/\DAt K c F v d
 |[],_,_,_,_,h=>by cases h
 |x::fs,vs,[],_,_,h=>by cases h
 | x::fs,vs,y::ds,d,hd,h=>by
   obtain⟨v,r,rfl,a,b⟩:=hd.un;rw[bI,List.lookup_cons]at h⊢;cases z:f == x with
   |true=>rw[z]at h;cases h;exact⟨v,rfl,a⟩
   |false=>rw[z]at h;exact vQj b h
section
variable{X:Cx}{c:Nat->aZ}{E:XK}{e:Expr}{x y f:Str}{p q pos:Pos}{o:Oe}{cv:V}{cu:Value}{tb:List (Nat×Bool)}{Cs:List Nat}
theorem qVm(hk:(∃n,cv=.ty n)\/∃a,cv=.ref a)(s:RelV cv cu)(t:∀C b,(C,b)∈tb->ExcKit X.K (c C)/\bV X.K (.ref (c C)) cu=some b)(v:Gl X x)(w:X.mg x=none)(A:cH x=some (.builtin "isinstance"))(h2:PE X (.Name y q) (tC cv))(B:OD X c E e o)(g:x≠"__name__":=by decide)(i:(x == ("__debug__":Str))=false:=by decide)(m:aX [e, .Name y q] X.env=(false,eval e X.env)::aX [.Name y q] X.env:=by rfl)(j:aX [.Name y q] X.env=(false,eval (.Name y q) X.env)::aX [] X.env:=by rfl)(k:(cV pos (aX [.Name y q] X.env)).any (·.1)=false:=by rfl):
  OD X c E (.Call (.Name x p) [e, .Name y q] [] pos) (o1 (isxD tb) o):=by
 refine⟨PE.imp (qJ3 vWw v w A (xP B.h (xP h2 qZa j) m) g i m k) fun σ H Q h=>?_⟩;refine vV5 (K:=X.K) (r:=fun u H Q=>∃p f d C l b,[u,cv]=[.ref p,f]/\((∃n,f =.ty n)\/∃a,f =.ref a)/\RelV f d /\H p=some (.ext (ExcD p (.ref C) l))/\ExcKit X.K C/\bV X.K (.ref C) d =some b/\Q (.bl b) H) (fun u H x z Q g e q=>?_) h;unfold isxD at e;split at e
 ·rename_i C fs ds;obtain⟨D,J,rfl,⟨_,l,F,_⟩,_⟩:=g.un;cases e1:tb.lookup C with
  |none=>rw[e1]at e;cases e
  | some b=>
    rw[e1]at e;cases e;obtain⟨G,I⟩:=t C b (qKc e1);exact⟨D,cv,cu,c C,l,b,rfl,hk,s,F,G,I,q _ fun _=>.bl b⟩
 ·cases e
theorem zQe(j:∀C∈Cs,ExcKit X.K (c C)/\PySem.W.hasDictIn X.K (c C)=true/\bU X.K (.ref (c C)) f=some none)(k:OD X c E e o)(hb:attributeBase e f X.env (eval e X.env)=eval e X.env:=by rfl):OD X c E (.Attribute e f pos) (o1 (xfD Cs f) o):=by
 refine⟨PE.imp (jQs k.h hb) fun σ H Q h=>?_⟩;refine vV5 (K:=X.K) (r:=fun u H Q=>∃p C a fs v,u=.ref p/\H p=some (.ext (ExcD p (.ref C) (some a)))/\H a=some (.xd fs)/\ExcKit X.K C/\PySem.W.hasDictIn X.K C=true/\bU X.K (.ref C) f=some none/\fs.lookup f=some v/\Q v H) (fun u H x z Q l e q=>?_) h;unfold xfD at e;split at e
 ·rename_i C fs ds;obtain⟨m,D,rfl,⟨_,n,s,d⟩,b⟩:=l.un;cases hc:Cs.contains C with
  |false=>rw[hc]at e;cases e
  | true=>
    rw[hc]at e;obtain⟨t,w,y⟩:=j C (List.contains_iff_mem.mp hc);dsimp only[cond]at e;split at e
    ·rename_i i g;cases e;cases n with
     |none=>cases(show fs=[] from d);cases g
     | some a=>
       obtain⟨v,A,B⟩:=vQj b g;cases B;exact⟨m,c C,a,_,_,rfl,s,d,t,w,y,A,q _ fun _=>.int i⟩
    ·cases e
 ·cases e
end
end DX
namespace DX
open PySem L2
variable{C0 i:Nat}{l:List Nat}{pl:Sem Bool}{o':Oe}
theorem zWx{p:Nat->Bool->Prop}:∀C b,(C,b)∈([]:List (Nat×Bool))->p C b:=fun _ _ h=>nomatch h
theorem vZ3{p:Nat->Bool->Prop}{a:Bool}{l:List (Nat×Bool)}(h0:p C0 a)(hl:∀C b,(C,b)∈l->p C b):∀C b,(C,b)∈(C0,a)::l->p C b:=fun C b h=>by
 grind
theorem zWy{p:Nat->Prop}:∀C∈([]:List Nat),p C:=fun _ h=>nomatch h
theorem zZr{p:Nat->Prop}(h0:p C0)(hl:∀C∈l,p C):∀C∈C0::l,p C:=fun C h=>by
 grind
theorem zW0{p:Nat->Prop}:∀C,([]:List Nat).contains C=true->p C:=fun _ h=>nomatch h
theorem vZ4{p:Nat->Prop}(h0:p C0)(hl:∀C,l.contains C=true->p C):∀C,(C0::l).contains C=true->p C:=fun C h=>by
 grind
section
variable{X:Cx}{c:Nat->aZ}{E:XK}{e o:Expr}{es:List Expr}{as:List Am}{a0:Am}{x m q y:Str}{C j n:Nat}{st:Stmt}{f:aZ}{fd:bQ}{ps:List Str}{k k0:Nat}{F:Fn}{p pos apos np cpos:Pos}{s:SV}{tb:List (Nat×Fn)}
theorem cA(A:FnAt X.K X.mg x st ps f fd)(G:FnOk X.prog X.w X.K X.mg X.base (CXd X.prog X.w) k f fd ps (spD X.K c as.length F))(g:Room k0 X.A)(h:OsD X c E (e::es) (as.map Am.o))(i:jP (CXd X.prog X.w) X E:=by exact wD)(hk:k<=k0:=by first|decide|omega)(j:Gl X x:=by exact rfl)(a:(x == ("__debug__":Str))=false:=by decide)(l:aX (e::es) X.env=(false,eval e X.env)::aX es X.env:=by rfl)(d:(cV pos (aX es X.env)).any (·.1)=false:=by rfl):ED X c E (.Call (.Name x p) (e::es) [] pos) (callS F as):=
 vVn G (g.mono hk) j A.m A.F.kp A.b i h a l d
theorem mA(g:OD X c E o a0.o)(h:Cls X.K (c C))(i:Meth X.K (c C) m f)(A:MethAt X.K m q st ps f fd)(G:FnOk X.prog X.w X.K X.mg X.base (CXd X.prog X.w) k f fd ps (spD X.K c (a0::as).length F))(j:Room k0 X.A)(l:OsD X c E (e::es) (as.map Am.o))(n:jP (CXd X.prog X.w) X E:=by exact wD)(hk:k<=k0:=by first|decide|omega)(a:aX (e::es) X.env=(false,eval e X.env)::aX es X.env:=by rfl)(d:(cV pos (aX es X.env)).any (·.1)=false:=by rfl)(p:eval (.Call (.Attribute o m apos) (e::es) [] pos) X.env=(do
   let ov ←eval o X.env;standAt apos.atName;let (f,first) ←holding [ov] (getMethod ov m pl);callWith pos f first (cV pos (aX (e::es) X.env)) (backToKw pos (keywordEach [] X.env))):=by rfl):
  ED X c E (.Call (.Attribute o m apos) (e::es) [] pos) (wC C m F a0 as):=vX7 g h i G (j.mono hk) A.b n l a d p
theorem m0A(a:OD X c E o a0.o)(d:Cls X.K (c C))(e:Meth X.K (c C) m f)(A:MethAt X.K m q st ps f fd)(G:FnOk X.prog X.w X.K X.mg X.base (CXd X.prog X.w) k f fd ps (spD X.K c 1 F))(g:Room k0 X.A)(h:jP (CXd X.prog X.w) X E:=by exact wD)(hk:k<=k0:=by first|decide|omega)(i:eval (.Call (.Attribute o m apos) [] [] pos) X.env=(do
   let ov ←eval o X.env;standAt apos.atName;let (f,first) ←holding [ov] (getMethod ov m pl);callWith pos f first (cV pos (aX [] X.env)) (backToKw pos (keywordEach [] X.env))):=by rfl):
  ED X c E (.Call (.Attribute o m apos) [] [] pos) (wC C m F a0 []):=zZv a d e G (g.mono hk) A.b h i
theorem rA{fI:aZ}(g:IniCls X.K (c C) fI)(A:MethAt X.K m q st ps fI fd)(G:FnOk X.prog X.w X.K X.mg X.base (CXd X.prog X.w) k fI fd ps (vWz (c C) y))(h:Room k0 X.A)(i:X.mg x=some (.ref (c C)))(j:EV X c E e s)(hk:k+1<=k0:=by first|decide|omega)(l:Gl X x:=by exact rfl)(a:X.calm=true:=by rfl)(d:X.ex=[]:=by rfl)(n:qX3 X (c C) (fun ea dx H1=>E (.ref (c C)) (some dx) (but1 H1 ea)):=by exact vJ9)(hs:aX [e] X.env=[(false,eval e X.env)]:=by rfl)(f:(x == ("__debug__":Str))=false:=by decide):SD X c E (.Raise (some (.Call (.Name x np) [e] [] cpos)) none pos) (wN C y s):=
 vYs g G (h.mono hk) A.b l i a d j n hs f
theorem scA{N P:List Str}{c:Scope}(a:c.kind=.function :=by rfl)(b:c.isCoroutine=false:=by rfl)(g:c.isGenerator=false:=by rfl)(nd:N.Nodup:=by decide +kernel)(pre:List.take P.length N=P:=by rfl)(d:∀x∈P,List.lookup x c.names=some .local \/List.lookup x c.names=some .cell :=by decide +kernel)(e:∀y∈c.names,y.2≠ .free :=by decide +kernel):FnScope N P c:=⟨a,b,g,nd,pre,d,e⟩
theorem sA{s:SE}{a :Pos}(b:X.N.Nodup)(d:ED X c E e s)(hi:X.N[i]?=some x:=by rfl)(f:Loc X.env.scope x:=by exact Or.inl rfl)(hs:swapsWith e (some (.Name x a)) pos.line X.env=pure false:=by rfl)(g:X.fn x=true\/X.env.scope.names.lookup x=some .local :=by first|exact .inl rfl|exact .inr rfl|assumption):
  SD X c E (.Assign [.Name x a] e pos) (sSet i s):=vQz b hi f d hs g
theorem vA{a:List SV}(b:OD X c E e o')(d:VsD X c E es a)(hs:aX (e::es) X.env=(false,eval e X.env)::aX es X.env:=by rfl):VsD X c E (e::es) (oV o' ::a):=vB b.val d hs
theorem oA{os:List Oe}(a:OD X c E e o')(b:OsD X c E es os)(hs:aX (e::es) X.env=(false,eval e X.env)::aX es X.env:=by rfl):OsD X c E (e::es) (.v (oV o')::os):=vK (od_v a.val) b hs
end
section
variable{X:Cx}{c:Nat->aZ}{E:XK}{x:Str}{b:Expr}{ob:Oe}{k:Nat}{pos p2:Pos}
theorem nA(i:Nat)(a:X.N[i]?=some x:=by rfl)(b:Vis X.env.scope x:=by first|exact Or.inl rfl|exact Or.inr (Or.inl rfl)|exact Or.inr (Or.inr rfl))(hd:(x == ("__debug__":Str))=false:=by decide)(d:(x == ("__classdict__":Str))=false:=by decide):OD X c E (.Name x pos) (oN i):=zWe (pv i a b hd d)
theorem gA(a:X.N.Nodup:=by exact of_decide_eq_true (by kernel_rfl))(hi:X.N[i]?=some x:=by rfl)(b:Loc X.env.scope x:=by exact Or.inl rfl)(d:X.fn x=true\/X.env.scope.names.lookup x=some .local :=by first|exact .inl rfl|exact .inr rfl|assumption):GD X c (.Name x pos) [i] (gN i):=zWv a hi b d
theorem xA(i:Nat)(a:Room k X.A)(hb:OD X c E b ob)(d:X.N[i]?=some x:=by rfl)(e:Vis X.env.scope x:=by first|exact Or.inl rfl|exact Or.inr (Or.inl rfl)|exact Or.inr (Or.inr rfl))(hd:(x == ("__debug__":Str))=false:=by decide)(f:(x == ("__classdict__":Str))=false:=by decide)(hs:qX4 b:=by exact fun _ _=>rfl):OD X c E (.Subscript (.Name x pos) b p2) (oIx (oN i) ob):=o_ix a (nA i d e hd f) hb hs
end
theorem faM{K:aQ}{n:Str->Option Value}{h:Heap}{x:Str}{st:Stmt}{j:List Str}{f:aZ}{o:Value}{p an:Option aZ}{m:Array (Option Value)}{kV e g d i:Value}(X:K.In h)(G:h.Ns cX n)(a:PySem.W.nsIn K cX x=some (some (.ref f)))(l:K.lookup f=some ⟨o,p,.func (cJ x x (j4 st) (zM st) (qU st) .none kV e g an d i),m⟩)(c:PySem.W.codeIn K d x=true)(k:cD K (.ref f)=true)(b:∀(kV e g:Value) (an:Option aZ) (d i:Value) (us:List Value),us.length=j.length->bindArgs (cJ x x (j4 st) (zM st) (qU st) .none kV e g an d i) ⟨us,[]⟩=pure (j.zip us):=by first|exact(fun _ _ _ _ _ _ us hl=>match us,hl with|[_],_=>rfl)|exact(fun _ _ _ _ _ _ us hl=>match us,hl with|[_,_],_=>rfl)|exact(fun _ _ _ _ _ _ us hl=>match us,hl with|[_,_,_],_=>rfl)|exact(fun _ _ _ _ _ _ us hl=>match us,hl with|[_,_,_,_],_=>rfl)):
  FnAt K n x st j f (cJ x x (j4 st) (zM st) (qU st) .none kV e g an d i):=zWw X G a l c k b
end DX
namespace DX
open PySem L2 PyProof.Rows
structure IsoK(K:aQ)(C:aZ):Prop where
 a:bU K (.ref C) "__class__"=some (some (.builtin "object.__class__"))
 b:PySem.W.specialIn K (.builtin "object.__class__") "__get__"=some (some (.builtin "getset_descriptor.__get__"))
 c:PySem.W.takesIn K (.builtin "object.__class__")=some true
 d:PySem.W.mroIn K C (.type "object")=some true
noncomputable def isoD(C:Nat):D->Option D
 |.nd (.obj C' _) _=>cond (decide (C' =C)) (some (.bl true)) none
 |_=>none
theorem zKg{X:Cx}{c:Nat->aZ}{E:XK}{C:Nat}{e:Expr}{y:Str}{p q f:Pos}{o:Oe}(cl:Cls X.K (c C))(k:IsoK X.K (c C))(n:X.mg "isinstance"=none)(s:X.mg y=some (.ref (c C)))(t:OD X c E e o)(w:Gl X "isinstance":=by exact rfl)(g:Gl X y:=by exact rfl)(i:(y == ("__debug__":Str))=false:=by decide)(m:aX [e, .Name y q] X.env=(false,eval e X.env)::aX [.Name y q] X.env:=by rfl)(j:aX [.Name y q] X.env=(false,eval (.Name y q) X.env)::aX [] X.env:=by rfl)(l:(cV f (aX [.Name y q] X.env)).any (·.1)=false:=by rfl):
  OD X c E (.Call (.Name "isinstance" p) [e, .Name y q] [] f) (o1 (isoD C) o):=by
 refine⟨PE.imp (qJ3 vK5 w n Boot.«isinstance» (xP t.h (xP (wO (v:=.ref (c C)) g s rfl i) qZa j) m) (by decide) (by decide) m l) fun σ H Q h=>?_⟩;refine vV5 (K:=X.K) (r:=fun u H Q=>zXl X.K [u,.ref (c C)] H Q) (fun u H x z Q A e q=>?_) h;unfold isoD at e;split at e
 ·rename_i I fs ds;obtain⟨B,D⟩:=jL e;cases of_decide_eq_true B;cases D;obtain⟨F,J,rfl,⟨_,L,G⟩,_⟩:=A.un;exact⟨.ref F,c C,.ref (c C),true,rfl,.ins G cl k.a k.b k.c k.d,by unfold bV;split <;> first|rfl|(rename_i z;exact absurd (by simp) z),q _ fun _=>.bl true⟩
 ·cases e
end DX
namespace L2
open PySem PySem.Spec PyProof.Rows
variable{ea:aZ}{oe:Obj}{vs:Array Value}
theorem qKq:entryFor table "proto.unchain"=some Builtin.«proto.unchain»:=entryFor_of_fast (by kernel_rfl)
section
variable{prog:bZ}{w:bP}{A:cW}{E:Value->aJ->Prop}{s:aJ}
theorem zYm{α:Type}{e:aZ}{a:Obj}{us:Array Value}{Q:α->aJ->Prop}(f:A.handled=some (.ref ea))(g:s.heap.get? ea=some oe)(h:oe.data=.fields vs)(h2:vs[2]?=some .none)(b:s.heap.get? e=some a)(c:a.data=.fields us)(i:2<us.size)(ne:ea≠e)(j:∀h',eK e s.heap h' ->(∃o',h'.get? e=some o' /\o'.cls=a.cls)->E (.ref e) {s with heap:=h' }):aH (model prog w) A (raiseNew (.ref e):Sem α) Q E s:=by
 unfold raiseNew;refine aV (wpAny_handled ?_);rw[f];have d:((Value.ref ea != Value.ref e):Bool)=true:=by simp[ne]
 simp only[d,if_true];refine aV (dA (wpAny_runValue (codeAny_builtin qKq ?_)));refine aV (bA g h h2 ?_);refine aE ?_
 show aH (model prog w) A (setField (.ref e) 2 (.ref ea) >>=fun _=>throw (.ref e)) Q E s;refine aV (wpAny_setField b c i (wpAny_throw (j _ (Heap.SameBut.update ..) ?_)));exact⟨_,dN _ b (Obj.isFreed_of_fields (Obj.data_mapFields c _)),Obj.cls_mapFields ..⟩
theorem vY7{it l:aZ}{i:Nat}{c:Array Value}{Q:Option Value->aJ->Prop}(j:A.handled=some (.ref ea))(g:s.heap.get? ea=some oe)(k:oe.data=.fields vs)(h2:vs[2]?=some .none)(ne:ea≠it)(st:s.heap.IsListIter it l i)(hl:s.heap.IsList l c)(hi:c[i]?=none)(q:∀h',Heap.ExtBut it s.heap h' ->Q none {s with heap:=h' }):aH (model prog w) A (pyNext (.ref it)) Q E s:=by
 have lt:=aC g;obtain⟨o,d,y,f⟩:=id st;obtain⟨z,n,_,B,p⟩:=hl;unfold pyNext;refine aV (wpAny_attempt (dJ (name:=Str.ofString "__next__") st.typeIs slot_listiter_next (wpAny_call_entry slot_listiter_next st.typeIs entry_listiter_next ?_ (args_listiter_next _))));show aH _ A.in1 (field (.ref it) 0 >>=_) _ _ s;refine aV (bA d f (x:=.ref l) rfl ?_);show aH _ A.in1 (if(Value.ref l == Value.none)=true then _ else _) _ _ s;rw[if_neg (by simp)];show aH _ A.in1 (field (.ref it) 1 >>=_) _ _ s;refine aV (bA d f (x:=.int i 0) rfl ?_);show aH _ A.in1 (seqItems? (.ref l) >>=_) _ _ s;refine aV (dB n p ?_);simp only[Int.toNat_natCast,hi];refine aV (wpAny_rule (aV (wpAny_setField d f (by simp) ?_)));show aH _ _ (newExc (.type "StopIteration") [] >>=raiseNew) _ _ _;refine aV ?_
 simp only[newExc,newTuple];refine aV (cI (aV (m:=firstArgMember _ _) (wpAny_of_eq (a:=Value.none) (by first|rfl|(simp only[firstArgMember];rfl)) (cI ?_ (by size_fits)))) (by size_fits));have g1:(s.heap.update it (Obj.mapFields (·.setIfInBounds 0 Value.none))).get? ea=some oe:=(dL _ _ (Ne.symm ne)).trans g;refine zYm (A:=A.in1) j (aY _ (aY _ g1)) k h2 (aS _ rfl) rfl (by simp;omega) (bJ (aC (aY _ g1))) fun h' sb r=>?_
 obtain⟨t,u,c2⟩:=r;refine aV (wpAny_isInstance (T:="StopIteration") (b:=true) ⟨t,u,c2⟩ isSubtype_stop (aE (q h' fun b v hb e=>?_)));have h:(s.heap.update it (Obj.mapFields (·.setIfInBounds 0 Value.none))).get? b=some v:=(dL _ _ (Ne.symm hb)).trans e;exact(sb.2 b (bJ (aC (aY _ h)))).trans (aY _ (aY _ h))
end
section
variable{X:Cx}{y:Str}{iter:Expr}{body:List Stmt}{te:TE}{tb:TS}{py pos:Pos}{j:Nat}
noncomputable def Mkd(X:Cx)(H:Hp):Prop:=∃a b c,X.A.handled=some (.ref a)/\H a=some (.ext (ExcD a b c))
noncomputable def tFF(X:Cx)(d:TE)(j:Nat):TS:=fun D σ H=>d σ H fun v b=>∃a c,v=.ref a/\SqL X.K b a c/\c≠ []/\(∀x∈c,x=.bl false)/\Mkd X b/\D.nx (σ.set j (some (.bl false))) b
theorem zJs(G:PassesOwn (model X.prog X.w) X.A X.env X.xe)(he:PE X iter te)(hg:PG X (.Name y py) (qK6 j))(hb:PSs X body tb)(hj:j<X.N.length)(O:∀(D:Ends) (σ:St) (H:Hp),σ[j]?=some (some (.bl false))->D.nx σ H->tb D σ H)(hs:∀x,foldedSetIterable iter X.env x=pure x:=by intro _;rfl):PS X (.For (.Name y py) iter body [] pos) (tFF X te j):=by
 intro g s σ H D I h;refine wpAny_For (thn (he g s σ H _ I h) fun v P ⟨x,k,J,r1,q1⟩=>?_) hs;obtain⟨a,r,rfl,W,Q,hf,⟨K,R,ox,hh,l⟩,dn⟩:=q1;cases r1;obtain⟨its,rv,p,hz⟩:=J.list W;refine wpAny_pyIter_list p.isList ?_
 have L:=J.fpOk (b:=P.heap.objs.size) (aB _) (J.hok.fresh (aB _));generalize S:P.heap.objs.size=it at L;have t:∀b∈ [it],FpOk X g k b:=fun b hb=>by rw[bW.mp hb];exact L
 have T:K≠it:=fun z=>by rw[z,L.1]at l;cases l
 refine codeAny_forLoop_any (fun n Y =>∃i σ',Inv X g σ' k Y /\Y.heap.IsListIter it a i/\i<=r.length/\n=r.length - i/\(i=0/\σ' =σ\/0<i/\σ' =σ.set j (some (.bl false)))) ?_ r.length ⟨0,σ,J.kept (t' :=P.toks) fun b o e=>aY _ e,by rw[←S];exact⟨_,aS _ rfl,rfl,rfl⟩,eJ _,by simp,.inl ⟨rfl,rfl⟩⟩;rintro n u ⟨i,σ3,B,C,hi,rfl,hσ⟩;obtain⟨Z,E,p3,hz3⟩:=B.list W;obtain⟨f0,f1,f2,f3,f4,f5⟩:=L;by_cases m:i<r.length
 ·have hx:r[i]?=some (.bl false):=by rw [aL m,hf _ (List.getElem_mem m)]
  obtain⟨w,hu,ru⟩:=E.get hx;refine dX G (wpAny_pyNext_list_item C p3.isList (x:=w) (by simpa using hu) fun U F sb=>?_);have I4:Inv X g σ3 k {u with heap:=U }:=B.turned (t' :=u.toks) (fun b o hb e=>(sb.2 b hb).trans e) f0 f1 f3 f4 f5;obtain⟨o,e,c,d⟩:=id F;refine vZa (s:={u with heap:=U }) e c d (by decide) ?_
  have I5:=I4.pinned t fun b hb=>⟨o,by rw[bW.mp hb];exact e,fun v z=>by rw[d]at z;cases z⟩
  have lj:j < σ3.length:=by rw[B.len];exact hj
  have sσ:σ3.set j (some (.bl false))=σ.set j (some (.bl false)):=by
   rcases hσ with⟨_,rfl⟩|⟨_,rfl⟩
   ·rfl
   ·rw[List.set_set]
  refine dX G (thn (hg _ _ σ3 k (.bl false) w (fun σ6 V=>σ6=σ3.set j (some (.bl false))/\V=k) I5 ru ⟨rfl,rfl⟩) fun _ s6 ⟨σ6,V,I6,e6,e7⟩=>?_);subst e6 e7;refine dX G (thn (hb _ s6 _ _ {nx:=fun σ' H' =>σ' =σ.set j (some (.bl false))/\H' =V,rt:=fun _ _=>False} I6 (O _ _ _ (by rw[List.getElem?_set_self lj]) ⟨sσ,rfl⟩)) fun f s7 M=>?_);cases f with
  | next=>
    obtain⟨σ7,H7,I7,e8,e9⟩:=M;subst e8 e9;exact⟨r.length - (i+1),by omega,i+1,_,I7.unpinned,F.at fun o' q=>(I7.pin (it,o') (bY _ (bY _ (qQc (by simp) q)))).1,m,rfl,.inr ⟨Nat.succ_pos _,rfl⟩⟩
  |cont=>obtain⟨_,_,_,z⟩:=M;exact z.elim
  |brk=>obtain⟨_,_,_,z⟩:=M;exact z.elim
  |ret v=>obtain⟨_,_,_,_,_,z⟩:=M;exact z.elim
 ·obtain⟨⟨oe,h1,h2,h3,vs,h4⟩,_,_⟩:=(show vT X.prog X.w k u.heap K (.ext (ExcD K R ox)) from B.hok K _ l)
  have h5:vs[2]?=some .none :=by
   have:=congrArg Prod.snd h3;unfold dxO at this;rw[h4]at this;exact this
  have hl:=E.length;have i0:0<i:=by have:=List.length_pos_iff.mpr Q;omega
  obtain⟨_,rfl⟩:=hσ.resolve_left fun z=>by omega
  exact dX G (vY7 hh h1 h4 h5 T C p3.isList (by simp;omega) fun U eb=>wpAny_execs_nil ⟨_,k,B.turned (t' :=u.toks) (fun b o hb e=>eb b o hb e) f0 f1 f3 f4 f5,dn⟩)
end
end L2
namespace DX
open PySem L2 PyProof.Rows
noncomputable def isFD:D->Bool
 |.bl b=>!b
 |_=>false
noncomputable def zXj(v:SV)(j:Nat):SS:=fun a=>(v a).bind fun r=>match r.1 with
 |.nd .lst ds=>cond (!ds.isEmpty && ds.all isFD) (.ok (.nx (r.2.set j (.s false (.fz (.bl false)))))) .no
 |_=>.no
section
variable{X:Cx}{c:Nat->aZ}{ea:aZ}{e:Expr}{v:SV}{j:Nat}{y:Str}{py p2 p3 pos:Pos}{sb rest:List Stmt}{bs su:SS}
theorem zJp{X:Cx}{b:List Stmt}{t:TS}(h:PSs X b (fun D σ H=>σ.length=X.N.length/\t D σ H)):PSs X b t:=fun a s σ H D I q=>h a s σ H D I ⟨I.len,q⟩
theorem jQc{K:aQ}{F:Hp}{vs:List V}{ds:List D}(h:DsAt K c F vs ds)(a:ds.all isFD=true):∀x∈vs,x=.bl false:=fun x g=>by
 obtain⟨i,e⟩:=List.getElem?_of_mem g;have f:i<ds.length:=by rw[←h.len];exact(aD.mp e).1
 have j:=aL f;have q:=List.all_eq_true.mp a _ (List.getElem_mem f);have k:=h.r i x _ e j;generalize ds[i]=d at q k;cases d with
 | bl b=>
   cases b with
   |true=>cases q
   |false=>cases k;rfl
 |non|int|str|fn|nd=>cases q
theorem zVt(s:PassesOwn (model X.prog X.w) (X.marked ea).A X.env (X.marked ea).xe)(f:EV (X.marked ea) c E0 e v)(t:X.N.Nodup)(b:X.N[j]?=some y)(C:Loc X.env.scope y)(E:Vis X.env.scope y)(hb:SDs (X.marked ea) c E0 sb bs)(F:SDs (X.marked ea) c E0 rest su)(G:X.fn y=true\/X.env.scope.names.lookup y=some .local :=by first|exact .inl rfl|exact .inr rfl|assumption)(hd:(y == ("__debug__":Str))=false:=by decide)(i:(y == ("__classdict__":Str))=false:=by decide)(hs:∀x,foldedSetIterable e X.env x=pure x:=by intro _;rfl):
  PSs (X.marked ea) (.For (.Name y py) e [.If (.Name y p2) sb [] p3] [] pos::rest) (tM X.K c (sSeq (zXj v j) su) ea):=by
 have pg:PG (X.marked ea) (.Name y py) (qK6 j):=vXn t b C G;refine zJp (PSs.imp (qYt (zJs s f.h pg (vXm (zXn (zQq (zQt b E hd i)) hb.h vVi)) (aD.mp b).1 (fun D σ H e q=>⟨.bl false,e,false,rfl,by show(if false=true then _ else _);rw[if_neg (by decide)];exact q⟩) hs) F.h) fun D σ H=>?_);rintro⟨I,env,B,W,J,w,l,L,m⟩;refine⟨env,B,W,J,wp_mono (fun r n u M O g=>?_) (fun _ _ f=>f) (qY.mp (qY.mp w))⟩;obtain⟨d,P⟩:=r;cases d with
 | nd k ds=>
   cases k with
   | lst=>
     obtain⟨o,Q⟩:=v7 n;rw[aP]at o;obtain⟨p,R,rfl,S,a⟩:=g.at_.un;have T:GotD X.K c env σ H B W P M O (.bl false) (.bl false):=⟨g.st,g.cf,.bl false⟩
     obtain⟨V,U,c2⟩:=T.own.r.put (qXw g.cf I b);refine⟨p,R,rfl,?_,fun z=>?_,jQc a o.2,⟨ea,l,L,rfl,(jH (g.st.same ea _ m)).2⟩,qXt U c2 Q⟩
     ·exact jE vY S
     ·have:=a.len;rw[z]at this;cases ds with
      |nil=>cases o.1
      |cons _ _=>cases this
   |tup|dct|dcT|obj|exc=>exact n.elim
 |non|int|str|bl|fn=>exact n.elim
end
end DX
namespace X24
open PySem L2 DX FP PyProof.Rows
noncomputable def F_law_cell_at:Fn:=fnS 2 0 (sSeq (sIf (asB (oLt (oN 1) (oL lenD [(oN 0)]))) (sRet (owS (oV (oIx (oN 0) (oN 1))))) sNil)
  (sRet (owS (oV (oC (.int 0))))))
noncomputable def qD:Fn:=fnS 2 1 (sSeq (sSet 2 (owS (oV (oAdd (oAdd (oMod (oN 0) (oC (.int 1000000007))) (oMul (oC (.int 31)) (oN 1))) (oC (.int 1))))))
  (sRet (owS (oV (oMod (oMul (oMod (oMul (oN 2) (oN 2)) (oC (.int 2147483629))) (oAdd (oN 1) (oC (.int 7)))) (oC (.int 2147483647)))))))
noncomputable def qQ4:SS:=(sSeq (sSet 8 (owS (oV (oAdd (oMul (oN 7) (oN 7)) (oMul (oMul (oL intD [(o2 eqF (oN 7) (oN 3))]) (oN 5)) (oC (.int 5)))))))
  (sSet 6 (owS (oV (o2 addS (oN 6) (oIx (oN 1) (oMod (oAdd (oDiv (oN 0) (oC (.int 64))) (oN 8)) (oC (.int 21)))))))))
noncomputable def qJb:SS:=(sSeq (sSet 6 (owS (oV (oC (.str "")))))
  (sSeq (sFor (iL rg1 [(oV (oN 2))]) (gN 7) qQ4)
  (jQ (eMu1 (pOf (oN 4)) (owS (oV (oN 6))) apF))))
noncomputable def yX:Fn:=fnS 1 8 (sSeq (sSet 1 (owS (oV (oC (.str "abcdghjklmnoqstuvwxyz")))))
  (sSeq (sSet 2 (owS (oV (oAdd (oC (.int 1)) (oMod (oN 0) (oC (.int 8)))))))
  (sSeq (sSet 3 (owS (oV (oMod (oDiv (oN 0) (oC (.int 8))) (oN 2)))))
  (sSeq (sSet 4 (eLst []))
  (sSeq (sFor (iL rg1 [(oV (oC (.int 6)))]) (gN 5) qJb)
  (sRet (eMv 4)))))))
noncomputable def yO:Fn:=fnS 1 0 (sRet (owS (svTup [(oV (oC (.str "num"))),(oV (oMod (oMul (oN 0) (oC (.int 467))) (oC (.int 1000000000000))))])))
noncomputable def zP:Fn:=fnS 3 0 (sRet (owS (svTup [(oV (oC (.str "call"))),(oV (oN 0)),(svA tupleD [(.v (fzS (compS 2 [(1,2)] [0] (iL rg1 [(oV (oN 1))]) (gN 0) bTrue (oV (oN 1)))))])])))
noncomputable def qWc:SS:=(sSeq (sSet 4 (owS (svTup [(oV (oC (.str "flip"))),(oV (oAdd (oN 3) (oC (.int 1)))),(oV (oC (.int 9)))])))
  (sSeq (sIf (asB (oGt (oIx (oN 1) (oN 3)) (oC (.int 0)))) (sSet 4 (owS (svTup [(oV (oC (.str "op"))),(oV (oC (.str "+"))),(svTup [(oV (oC (.str "name"))),(oV (oIx (oN 0) (oSub (oC (.int 5)) (oN 3))))]),(oV (oN 4))]))) sNil)
  (sSeq (sIf (asB (oGt (oN 3) (oC (.int 0)))) (sSet 4 (owS (svTup [(oV (oC (.str "if"))),(oV (oN 4)),(fzS (callS zP [(.v (oV (oIx (oN 0) (oSub (oN 3) (oC (.int 1)))))),(.v (oV (oIx (oN 1) (oSub (oN 3) (oC (.int 1)))))),(.v (svTup [(oV (oC (.str "num"))),(oV (oN 3))]))])),(oV (oN 4))]))) sNil)
  (sSeq (sSet 5 (eLst [(oV (oIx (oN 0) (oSub (oC (.int 5)) (oN 3)))),(oV (oIx (oN 0) (oMod (oSub (oC (.int 9)) (oN 3)) (oC (.int 6))))),(oV (oIx (oN 0) (oN 3)))]))
  (jQ (eMu1 (pOf (oN 2)) (owS (svTup [(oV (oC (.str "def"))),(oV (oIx (oN 0) (oN 3))),(svA tupleD [(.v (fzS (eSlL (oN 5) none (some (oV (oIx (oN 1) (oN 3)))))))]),(oV (oN 4))])) apF))))))
noncomputable def qQg:Fn:=fnS 2 4 (sSeq (sSet 2 (eLst []))
  (sSeq (sFor (iL rg1 [(oV (oC (.int 3)))]) (gN 3) qWc)
  (sRet (eMv 2))))
noncomputable def wR:Fn:=fnS 4 2 (sSeq (sSet 4 (owS (svTup [(oV (oC (.str "name"))),(oV (oIx (oN 2) (oMod (.v (fzS (callS qD [(.v (oV (oN 0))),(.v (oV (oC (.int 4))))]))) (oL lenD [(oN 2)]))))])))
  (sSeq (sSet 5 (owS (oV (oMod (.v (fzS (callS qD [(.v (oV (oN 0))),(.v (oV (oC (.int 5))))]))) (oC (.int 3))))))
  (sSeq (sIf (asB (o2 eqF (oMod (oN 0) (oC (.int 4))) (oC (.int 0)))) (sRet (eMv 4)) sNil)
  (sSeq (sIf (asB (o2 eqF (oMod (oN 0) (oC (.int 4))) (oC (.int 1)))) (sRet (owS (svTup [(oV (oC (.str "op"))),(oV (oC (.str "<"))),(oV (oN 4)),(fzS (callS yO [(.v (fzS (callS qD [(.v (oV (oN 0))),(.v (oV (oC (.int 6))))])))]))]))) sNil)
  (sSeq (sIf (asB (o2 eqF (oMod (oN 0) (oC (.int 4))) (oC (.int 2)))) (sRet (owS (svTup [(oV (oC (.str "field"))),(svTup [(oV (oC (.str "record"))),(svTup [(svTup [(oV (oC (.str "a"))),(oV (oN 4))]),(svTup [(oV (oC (.str "b"))),(fzS (callS yO [(.v (oV (oN 0)))]))])])]),(oV (oC (.str "b")))]))) sNil)
  (sRet (callS zP [(.v (oV (oIx (oN 1) (oN 5)))),(.v (oV (oIx (oN 3) (oN 5)))),(.v (oV (oN 4)))])))))))
noncomputable def yL:SS:=(sSeq (sSet 6 (owS (svTup [(oV (oC (.str "name"))),(oV (oIx (oN 4) (oMod (.v (fzS (callS qD [(.v (oV (oN 5))),(.v (oV (oC (.int 3))))]))) (oL lenD [(oN 4)]))))])))
  (sSeq (sIf (asB (oLt (oL lenD [(oN 3)]) (oC (.int 14)))) (sSet 6 (callS wR [(.v (fzS (callS qD [(.v (oV (oN 5))),(.v (oV (oC (.int 1))))]))),(.v (oV (oN 1))),(.b (pOf (oN 4))),(.v (oV (oN 2)))])) sNil)
  (sSeq (sSet 7 (owS (oV (oMod (oN 5) (oC (.int 5))))))
  (sIf (asB (o2 eqF (oN 7) (oC (.int 0)))) (jQ (eMu1 (pOf (oN 3)) (owS (svTup [(oV (oC (.str "see"))),(oV (oN 6))])) apF)) (sIf (asB (o2 eqF (oN 7) (oC (.int 1)))) (jQ (eMu1 (pOf (oN 3)) (owS (svTup [(oV (oC (.str "again"))),(oV (oMod (oDiv (oN 5) (oC (.int 5))) (oC (.int 2)))),(oV (oIx (oN 4) (oMod (oDiv (oN 5) (oC (.int 10))) (oL lenD [(oN 4)])))),(oV (oN 6))])) apF)) (sSeq (sSet 8 (owS (oV (oIx (oN 1) (oAdd (oC (.int 1)) (oMod (oDiv (oN 5) (oC (.int 5))) (oC (.int 5))))))))
  (sSeq (jQ (eMu1 (pOf (oN 3)) (owS (svTup [(oV (oC (.str "let"))),(oV (oN 8)),(fzS (callS yO [(.v (fzS (callS qD [(.v (oV (oN 5))),(.v (oV (oC (.int 2))))])))]))])) apF))
  (sIf (asB (o2 niD (oN 8) (oN 4))) (jQ (eMu1 (pOf (oN 4)) (owS (oV (oN 8))) apF)) sNil))))))))
noncomputable def qQf:Fn:=fnS 3 6 (sSeq (sSet 3 (eCat (.v (fzS (eLst [(svTup [(oV (oC (.str "let"))),(oV (oIx (oN 1) (oC (.int 4)))),(svTup [(oV (oC (.str "num"))),(oV (oC (.int 1)))])])]))) (.v (fzS (callS qQg [(.v (oV (oN 1))),(.v (oV (oN 2)))])))))
  (sSeq (sSet 4 (eLst [(oV (oIx (oN 1) (oC (.int 4))))]))
  (sSeq (sFor (iV (fzS (eSlL (oN 0) none (some (oV (oC (.int 30))))))) (gN 5) yL)
  (sRet (eCat (oN 3) (.v (fzS (eLst [(svTup [(oV (oC (.str "ask"))),(svTup [(oV (oC (.str "name"))),(oV (oIx (oN 4) (o1 negD (oC (.int 1)))))])])]))))))))
noncomputable def wY:Fn:=fnS 4 2 (sSeq (sSet 4 (compS 1 [] [0] (iV (fzS (eSlL (oN 0) none (some (oV (oN 1)))))) (gN 0) (asB (o2 eqF (oIx (oN 0) (oC (.int 0))) (oC (.str "let")))) (oV (oIx (oN 0) (oC (.int 1))))))
  (sSeq (sSet 5 (compS 2 [(1,4)] [0] (iV (fzS (eSlL (oN 0) (some (oV (oN 1))) none))) (gN 0) (bAnd (asB (o2 eqF (oIx (oN 0) (oC (.int 0))) (oC (.str "let")))) (asB (o2 niD (oIx (oN 0) (oC (.int 1))) (oN 1)))) (oV (oIx (oN 0) (oC (.int 1))))))
  (sSeq (sIf (bAnd (asB (oGt (oL lenD [(oN 5)]) (oC (.int 0)))) (asB (oGt (oMod (oN 2) (oC (.int 3))) (oC (.int 0))))) (sRet (owS (oV (oIx (oN 5) (oMod (oDiv (oN 2) (oC (.int 3))) (oL lenD [(oN 5)])))))) sNil)
  (sSeq (sIf (asB (o2 eqF (oMod (oN 2) (oC (.int 2))) (oC (.int 0)))) (sRet (owS (oV (oIx (oN 3) (oC (.int 0)))))) sNil)
  (sSeq (sIf (asB (o2 eqF (oL lenD [(oIx (oN 3) (oC (.int 0)))]) (oC (.int 8)))) (sRet (owS (oV (o2 addS (.v (qKw (oIx (oN 3) (oC (.int 0))) none (some (oV (oC (.int 7)))))) (oC (.str "f")))))) sNil)
  (sRet (owS (oV (o2 addS (oIx (oN 3) (oC (.int 0))) (oC (.str "z")))))))))))
noncomputable def zV:Fn:=fnS 4 3 (sSeq (sSet 4 (owS (svTup [(oV (oC (.str "num"))),(oV (oMod (oN 0) (oC (.int 1000))))])))
  (sSeq (sSet 5 (owS (oV (oMod (oDiv (oN 0) (oC (.int 9))) (oC (.int 3))))))
  (sSeq (sIf (bAnd (asB (o2 eqF (oMod (oN 0) (oC (.int 9))) (oC (.int 0)))) (asB (oGt (oIx (oN 2) (oN 5)) (oC (.int 0))))) (sSeq (sSet 6 (compS 2 [(1,4)] [0] (iL rg1 [(oV (oIx (oN 2) (oN 5)))]) (gN 0) bTrue (oV (oN 1))))
  (sSeq (sSetI (pOf (oN 6)) (pOf (oMod (oDiv (oN 0) (oC (.int 27))) (oIx (oN 2) (oN 5)))) (owS (oV (oN 3))))
  (sRet (owS (svTup [(oV (oC (.str "call"))),(oV (oIx (oN 1) (oN 5))),(svA tupleD [(oN 6)])]))))) sNil)
  (sSeq (sIf (asB (oLt (oMod (oN 0) (oC (.int 9))) (oC (.int 2)))) (sRet (owS (svTup [(oV (oC (.str "op"))),(oV (oC (.str "*"))),(oV (oN 4)),(oV (oN 3))]))) sNil)
  (sSeq (sIf (asB (o2 eqF (oMod (oN 0) (oC (.int 9))) (oC (.int 2)))) (sRet (owS (svTup [(oV (oC (.str "op"))),(oV (oC (.str "="))),(oV (oN 3)),(oV (oN 4))]))) sNil)
  (sSeq (sIf (asB (oLt (oMod (oN 0) (oC (.int 9))) (oC (.int 6)))) (sSeq (sSet 6 (eLst [(oV (oN 4)),(oV (oN 4)),(oV (oN 4))]))
  (sSeq (sSetI (pOf (oN 6)) (pOf (oSub (oMod (oN 0) (oC (.int 9))) (oC (.int 3)))) (owS (oV (oN 3))))
  (sRet (owS (svTup [(oV (oC (.str "if"))),(oV (oIx (oN 6) (oC (.int 0)))),(oV (oIx (oN 6) (oC (.int 1)))),(oV (oIx (oN 6) (oC (.int 2))))]))))) sNil)
  (sSeq (sIf (asB (o2 eqF (oMod (oN 0) (oC (.int 9))) (oC (.int 6)))) (sRet (owS (svTup [(oV (oC (.str "record"))),(svTup [(svTup [(oV (oC (.str "ab"))),(oV (oN 4))]),(svTup [(oV (oC (.str "aa"))),(oV (oN 3))])])]))) sNil)
  (sSeq (sIf (asB (o2 eqF (oMod (oN 0) (oC (.int 9))) (oC (.int 7)))) (sRet (owS (svTup [(oV (oC (.str "field"))),(oV (oN 3)),(oV (oC (.str "ab")))]))) sNil)
  (sRet (owS (svTup [(oV (oC (.str "rest"))),(oV (oN 3)),(oV (oC (.int 7)))])))))))))))
noncomputable def jW:Fn:=fnS 4 1 (sSeq (sIf (asB (o2 eqF (oMod (oDiv (oN 0) (oC (.int 2))) (oC (.int 4))) (oC (.int 0)))) (sRet (owS (svTup [(oV (oC (.str "name"))),(oV (oN 3))]))) sNil)
  (sSeq (sIf (asB (o2 eqF (oMod (oDiv (oN 0) (oC (.int 2))) (oC (.int 4))) (oC (.int 1)))) (sRet (callS zP [(.v (oV (o2 addS (oC (.str "f")) (.v (qKw (oIx (oN 1) (oC (.int 0))) (some (oV (oC (.int 1)))) none))))),(.v (oV (oIx (oN 2) (oC (.int 0))))),(.v (svTup [(oV (oC (.str "num"))),(oV (oC (.int 2)))]))])) sNil)
  (sSeq (sSet 4 (owS (oV (oIx (oN 2) (oMod (oDiv (oN 0) (oC (.int 8))) (oC (.int 3)))))))
  (sSeq (sIf (bOr (asB (o2 eqF (oN 4) (oC (.int 0)))) (bAnd (asB (oLt (oN 4) (oC (.int 3)))) (asB (o2 eqF (oMod (oDiv (oN 0) (oC (.int 2))) (oC (.int 4))) (oC (.int 2)))))) (sRet (callS zP [(.v (oV (oIx (oN 1) (oMod (oDiv (oN 0) (oC (.int 8))) (oC (.int 3)))))),(.v (oV (oAdd (oN 4) (oC (.int 1))))),(.v (svTup [(oV (oC (.str "num"))),(oV (oC (.int 2)))]))])) sNil)
  (sRet (callS zP [(.v (oV (oIx (oN 1) (oMod (oDiv (oN 0) (oC (.int 8))) (oC (.int 3)))))),(.v (oV (oSub (oN 4) (oC (.int 1))))),(.v (svTup [(oV (oC (.str "num"))),(oV (oC (.int 2)))]))]))))))
noncomputable def wM:Fn:=fnS 5 5 (sSeq (sSet 5 (owS (oV (oIx (oN 0) (oN 1)))))
  (sSeq (sSet 6 (eF listD [(oN 0)]))
  (sSeq (sSet 7 (callS wY [(.v (oV (oN 0))),(.v (oV (oN 1))),(.v (oV (oN 2))),(.v (oV (oN 3)))]))
  (sSeq (sIf (asB (o2 eqF (oIx (oN 5) (oC (.int 0))) (oC (.str "def")))) (sIf (bAnd (asB (o2 eqF (oMod (oN 2) (oC (.int 3))) (oC (.int 0)))) (asB (o2 neF (oIx (oN 5) (oC (.int 1))) (oIx (oN 3) (oC (.int 0)))))) (sSetI (pOf (oN 6)) (pOf (oN 1)) (owS (svTup [(oV (oC (.str "def"))),(oV (oIx (oN 3) (oC (.int 0)))),(oV (oIx (oN 5) (oC (.int 2)))),(oV (oIx (oN 5) (oC (.int 3))))]))) (sIf (asB (o2 eqF (oMod (oN 2) (oC (.int 3))) (oC (.int 1)))) (sSetI (pOf (oN 6)) (pOf (oN 1)) (owS (svTup [(oV (oC (.str "def"))),(oV (oIx (oN 5) (oC (.int 1)))),(oV (oIx (oN 5) (oC (.int 2)))),(fzS (callS zP [(.v (oV (oIx (oN 5) (oC (.int 1))))),(.v (oV (oL lenD [(oIx (oN 5) (oC (.int 2)))]))),(.v (svTup [(oV (oC (.str "num"))),(oV (oC (.int 1)))]))]))]))) (sSeq (sSet 8 (owS (oV (oIx (oN 3) (oC (.int 4))))))
  (sSeq (sIf (asB (o2 inD (oN 8) (oIx (oN 5) (oC (.int 2))))) (sSet 8 (owS (oV (oC (.str "zzf"))))) sNil)
  (sSeq (sSetI (pOf (oN 6)) (pOf (oN 1)) (owS (svTup [(oV (oC (.str "def"))),(oV (oIx (oN 5) (oC (.int 1)))),(oV (oIx (oN 5) (oC (.int 2)))),(fzS (callS zV [(.v (oV (oDiv (oN 2) (oC (.int 3))))),(.v (oV (oN 3))),(.v (fzS (eLst [(oV (oC (.int 0))),(oV (oC (.int 0))),(oV (oC (.int 0)))]))),(.v (svTup [(oV (oC (.str "name"))),(oV (oN 8))]))]))])))
  (sIf (asB (o2 eqF (oIx (oN 5) (oC (.int 1))) (oIx (oN 3) (oC (.int 2))))) (sSetI (pOf (oN 6)) (pOf (oN 1)) (owS (svTup [(oV (oC (.str "def"))),(oV (oIx (oN 5) (oC (.int 1)))),(oV (oIx (oN 5) (oC (.int 2)))),(fzS (callS zV [(.v (oV (oDiv (oN 2) (oC (.int 3))))),(.v (oV (oN 3))),(.v (fzS (eCat (.v (fzS (eSlL (oN 4) none (some (oV (oC (.int 2))))))) (.v (fzS (eLst [(oV (oC (.int 0)))])))))),(.v (svTup [(oV (oC (.str "name"))),(oV (oN 8))]))]))]))) sNil)))))) (sIf (bAnd (asB (o2 eqF (oIx (oN 5) (oC (.int 0))) (oC (.str "again")))) (asB (o2 eqF (oMod (oN 2) (oC (.int 3))) (oC (.int 0))))) (sSetI (pOf (oN 6)) (pOf (oN 1)) (owS (svTup [(oV (oC (.str "again"))),(oV (oMod (oDiv (oN 2) (oC (.int 3))) (oC (.int 3)))),(oV (oIx (oN 3) (oC (.int 0)))),(oV (oIx (oN 5) (oC (.int 3))))]))) (sIf (asB (o2 eqF (oIx (oN 5) (oC (.int 0))) (oC (.str "again")))) (sSeq (sSet 9 (callS jW [(.v (oV (oDiv (oN 2) (oC (.int 9))))),(.v (oV (oN 3))),(.v (oV (oN 4))),(.v (oV (oN 7)))]))
  (sSetI (pOf (oN 6)) (pOf (oN 1)) (owS (svTup [(oV (oC (.str "again"))),(oV (oMod (oDiv (oN 2) (oC (.int 3))) (oC (.int 3)))),(oV (oIx (oN 5) (oC (.int 2)))),(fzS (callS zV [(.v (fzS (callS qD [(.v (oV (oN 2))),(.v (oV (oC (.int 1))))]))),(.v (oV (oN 3))),(.v (oV (oN 4))),(.v (oV (oN 9)))]))])))) (sSeq (sSet 9 (callS jW [(.v (oV (oDiv (oN 2) (oC (.int 3))))),(.v (oV (oN 3))),(.v (oV (oN 4))),(.v (oV (oN 7)))]))
  (sSetI (pOf (oN 6)) (pOf (oN 1)) (owS (svA tupleD [(.v (fzS (eCat (.v (fzS (eF listD [(.v (vV6 (oN 5) none (some (oV (o1 negD (oC (.int 1)))))))]))) (.v (fzS (eLst [(fzS (callS zV [(.v (fzS (callS qD [(.v (oV (oN 2))),(.v (oV (oC (.int 1))))]))),(.v (oV (oN 3))),(.v (oV (oN 4))),(.v (oV (oN 9)))]))]))))))])))))))
  (sRet (eMv 6))))))
noncomputable def qXr:SS:=(sSeq (zXj (fzS (eLst [(oV (o1 (isxD [(24,false),(25,false)]) (oN 2))),(oV (o1 (isxD [(24,false),(25,false)]) (oN 2))),(oV (o1 (isxD [(24,false),(25,false)]) (oN 2))),(oV (o1 (isxD [(24,false),(25,false)]) (oN 2)))])) 1)
  (sSeq (sIf (bOr (asB (o1 (isxD [(24,false),(25,false)]) (oN 2))) (bOr (asB (o1 (isxD [(24,false),(25,false)]) (oN 2))) (asB (o1 (isxD [(24,false),(25,true)]) (oN 2))))) (sRet (owS (oV (o1 negD (oC (.int 1)))))) sNil)
  (sSeq (sIf (bOr (bNot (asB (o1 (isxD [(24,true),(25,false)]) (oN 2)))) (bNot (asB (o1 (isxD [(24,true),(25,true)]) (oN 2))))) (sRet (owS (oV (o1 negD (oC (.int 1)))))) sNil)
  (sSeq (sIf (bOr (asB (o1 (isiD "bool") (o1 (xfD [24] "row") (oN 2)))) (bNot (asB (o1 (isiD "int") (o1 (xfD [24] "row") (oN 2)))))) (sRet (owS (oV (o1 negD (oC (.int 1)))))) sNil)
  (sRet (owS (oV (o1 (xfD [24] "row") (oN 2)))))))))
noncomputable def zF:Fn:=fnS 1 2 (sSeq (sTry wQ [(.v (oV (oN 0)))] (fun C=> [24,25].contains C) 2 qXr)
  (sRet (owS (oV (o1 negD (oC (.int 2)))))))
noncomputable def vVt:SS:=(sSeq (sSet 8 (owS (oV (oMod (.v (fzS (callS qD [(.v (fzS (callS F_law_cell_at [(.v (oV (oN 0))),(.v (oV (oN 7)))]))),(.v (oV (oAdd (oC (.int 7)) (oN 7))))]))) (oL lenD [(oN 5)])))))
  (sSeq (sIf (asB (o2 eqF (oMod (.v (fzS (callS qD [(.v (oV (oN 1))),(.v (oV (oAdd (oC (.int 12)) (oN 7))))]))) (oC (.int 2))) (oC (.int 0)))) (sSet 8 (owS (oV (oMod (oN 8) (oC (.int 4)))))) sNil)
  (sSeq (sSet 5 (callS wM [(.v (oV (oN 5))),(.v (oV (oN 8))),(.v (fzS (callS qD [(.v (fzS (callS F_law_cell_at [(.v (oV (oN 0))),(.v (oV (oAdd (oC (.int 2)) (oN 7))))]))),(.v (oV (oAdd (oC (.int 9)) (oN 7))))]))),(.v (oV (oN 2))),(.v (oV (oN 3)))]))
  (sIf (bOr (asB (oLt (oN 6) (oC (.int 0)))) (asB (oLt (oN 8) (oN 6)))) (sSet 6 (owS (oV (oN 8)))) sNil))))
noncomputable def zQi:Fn:=fnS 1 9 (sSeq (sSet 1 (owS (oV (oL sumD [(.v (fzS (eSlL (oN 0) none (some (oV (oC (.int 63)))))))]))))
  (sSeq (sSet 2 (callS yX [(.v (fzS (callS qD [(.v (oV (oN 1))),(.v (oV (oC (.int 1))))])))]))
  (sSeq (sSet 3 (compS 2 [(1,1)] [0] (iL rg1 [(oV (oC (.int 3)))]) (gN 0) bTrue (oV (oMod (.v (fzS (callS qD [(.v (oV (oN 1))),(.v (oV (oAdd (oC (.int 2)) (oN 0))))]))) (oC (.int 4))))))
  (sSeq (sSet 4 (callS qQf [(.v (oV (oN 0))),(.v (oV (oN 2))),(.v (oV (oN 3)))]))
  (sSeq (sSet 5 (eF listD [(oN 4)]))
  (sSeq (sSet 6 (owS (oV (o1 negD (oC (.int 2))))))
  (sSeq (sFor (iL rg1 [(oV (oMod (.v (fzS (callS qD [(.v (oV (oN 1))),(.v (oV (oC (.int 6))))]))) (oC (.int 3))))]) (gN 7) vVt)
  (sSeq (sSet 9 (eF listD [(oN 5)]))
  (sSeq (sIf (bOr (asB (o2 neF (.v (fzS (callS zF [(.v (oV (oN 9)))]))) (oN 6))) (asB (o2 neQ (oN 9) (oN 5)))) (sRet (owS (oV (oC (.bl false))))) sNil)
  (sRet (owS (oV (o1 (isoD 1) (.v (fzS (callS wQ [(.v (oV (oN 4)))]))))))))))))))))
end X24
namespace DX
open PySem L2 PyProof.Rows
variable{γ:Type}{args env e1 e env':Ev}{C i j n:Nat}{it:SI}{g:SG}{h1 h0 hk:Hn}{ss:List SV}{xs vs:List D}{XI:Res (List D×Ev)}{a0:Am}{body:SS}{as:List Am}{cs:List (Nat×Nat)}{T:List Nat}{el:SV}{XV:Res (D×Ev)}{F:Fn}
section
variable{α β:Type}{X:Res β}{x:Res α}{a:α}{f:α->Res β}
theorem qR{b:Bool}{x y X:γ}(h:b=true)(k:x=X):cond b x y=X:=by subst h;exact k
theorem qP{b:Bool}{x y X:γ}(h:b=false)(k:y=X):cond b x y=X:=by subst h;exact k
end
section
variable{env e:Ev}{o:O}{d:D}{X:Res Out}{s t s1 s2:SS}{i n m:Nat}{a:SE}{v:SV}{b:ST}{q:Bool}
noncomputable def finO(n:Nat):Out->Res (O×Ev)
 |.nx e=>.ok (.fz .non,outs n e)
 |.rt r e=>.ok (r,outs n e)
 |_=>.no
theorem vX{o:Out}{X:Res (O×Ev)}(h:s (args ++ List.replicate m .un)=.ok o)(k:finO n o=X):fnS n m s args=X:=by
 unfold fnS;rw[h];cases o <;> exact k
theorem qYi{fs:List (Str×D)}(h:s (args ++ List.replicate m .un)=.er C fs):fnS n m s args=.er C fs:=by
 unfold fnS;rw[h];rfl
theorem qN(k:t env=X):sSeq sNil t env=X:=k
theorem qVg(k:sSeq s1 (sSeq s2 t) env=X):sSeq (sSeq s1 s2) t env=X:=by
 rw[←k];unfold sSeq;cases s1 env with
 |ok o=>cases o <;> rfl
 |er C fs=>rfl
 |no=>rfl
theorem qB(h:b env=.ok (q,e))(k:cond q (sSeq s1 t e) (sSeq s2 t e)=X):sSeq (sIf b s1 s2) t env=X:=by
 unfold sSeq sIf;rw[h];cases q <;> exact k
theorem zH(h:a env=.ok (o,e))(k: .ok (.rt o e)=X):sSeq (sRet a) t env=X:=by
 unfold sSeq sRet;rw[h];exact k
theorem qW(h:a env=.ok (o,e))(k:t (e.set i (.s false o))=X):sSeq (sSet i a) t env=X:=by
 unfold sSeq sSet;rw[h];exact k
theorem j9(h:a env=.ok (o,e))(k:t e=X):sSeq (jQ a) t env=X:=by
 unfold sSeq jQ;rw[h];exact k
theorem jY(h:s env=.ok (.nx e))(k:t e=X):sSeq s t env=X:=by
 unfold sSeq;rw[h];exact k
theorem qQw{fs:List (Str×D)}(h:s env=.er C fs):sSeq s t env=.er C fs:=by
 unfold sSeq;rw[h];rfl
theorem zYg(h:s env=.ok (.rt o e))(k: .ok (.rt o e)=X):sSeq s t env=X:=by
 unfold sSeq;rw[h];exact k
theorem vZ(h:b env=.ok (q,e))(k:cond q (s1 e) (s2 e)=X):sIf b s1 s2 env=X:=by
 unfold sIf;rw[h];exact k
theorem jN(h:a env=.ok (o,e))(k: .ok (.rt o e)=X):sRet a env=X:=by
 unfold sRet;rw[h];exact k
theorem qXu(h:a env=.ok (o,e))(k: .ok (.nx (e.set i (.s false o)))=X):sSet i a env=X:=by
 unfold sSet;rw[h];exact k
theorem wW(h:a env=.ok (o,e))(k: .ok (.nx e)=X):jQ a env=X:=by
 unfold jQ;rw[h];exact k
theorem xY{ds:List D}(h:it env=.ok (ds,e))(k:forS g s ds e=X):sFor it g s env=X:=by
 unfold sFor;rw[h];exact k
end
section
variable{env e e1 e2:Ev}{o:O}{d x y z:D}{a a1 a2:SE}{v v1 v2:SV}{b:ST}{q q1:Bool}{XE:Res (O×Ev)}{XV:Res (D×Ev)}{XB:Res (Bool×Ev)}{oa ob:Oe}
theorem vR(h:v env=.ok (d,e))(k: .ok (.fz d,e)=XE):owS v env=XE:=by
 unfold owS;rw[h];exact k
theorem v8(h:a env=.ok (o,e))(k: .ok (fzO o,e)=XV):fzS a env=XV:=by
 unfold fzS;rw[h];exact k
theorem jR(h:oV oa env=.ok (d,e))(h2:blOf d=some q)(k: .ok (q,e)=XB):asB oa env=XB:=by
 unfold asB;rw[h];show(opt (blOf d)).bind _=_;rw[h2];exact k
theorem xK{s t:ST}(h:s env=.ok (q,e))(k:cond q (t e) (.ok (false,e))=XB):bAnd s t env=XB:=by
 unfold bAnd;rw[h];exact k
theorem qK0{s t:ST}(h:s env=.ok (q,e))(k:cond q (.ok (true,e)) (t e)=XB):bOr s t env=XB:=by
 unfold bOr;rw[h];exact k
theorem zD{a:Res (Hn×Ev)}(h:v env=.ok (d,e))(k: .ok (.d d,e)=a):evO (.v v) env=a:=by
 show(v env).bind _=_;rw[h];exact k
theorem wX{os:List Oe}{hs:List Hn}{a:Res (List Hn×Ev)}(h:evO oa env=.ok (h1,e))(c:(h1.st || os.all Oe.isP)=true)(h2:evOs os e=.ok (hs,e1))(k: .ok (h1::hs,e1)=a):evOs (oa::os) env=a:=by
 show(evO oa env).bind _=_;rw[h];show cond (h1.st || os.all Oe.isP) ((evOs os e).bind _) _=_;rw[c,h2];exact k
theorem qVe{a:Res (List Hn×Ev)}(k: .ok ([],env)=a):evOs [] env=a:=k
theorem qI{a:Res (List D×Ev)}(k: .ok ([],env)=a):evVs [] env=a:=k
theorem qZ{ds:List D}{a:Res (List D×Ev)}(h:v env=.ok (d,e))(h2:evVs ss e=.ok (ds,e1))(k: .ok (d::ds,e1)=a):evVs (v::ss) env=a:=by
 show(v env).bind _=_;rw[h];show(evVs ss e).bind _=_;rw[h2];exact k
theorem zQ{ds:List D}(h:evVs ss env=.ok (ds,e))(c:decide (ds.length<=1000)=true)(k: .ok (.tup ds,e)=XV):svTup ss env=XV:=by
 unfold svTup;rw[h];show cond (decide (ds.length<=1000)) _ _=_;grind
theorem vQ4{ds:List D}(h:evVs ss env=.ok (ds,e))(c:decide (ds.length<=1000)=true)(k: .ok (.ow .lst (ds.map .fz),e)=XE):eLst ss env=XE:=by
 unfold eLst;rw[h];show cond (decide (ds.length<=1000)) _ _=_;grind
theorem zQo{f:D->D->Option D}{h2:Hn}(h:evO oa env=.ok (h1,e))(h' :evO ob e=.ok (h2,e1))(c:(h1.st || ob.isP)=true)(a:rsv e1 h1=some x)(b:rsv e1 h2=some y)(d:f x y=some z)(k: .ok (z,e1)=XV):sv2 f oa ob env=XV:=by
 unfold sv2;rw[h];show(evO ob e).bind _=_;rw[h'];show cond (h1.st || ob.isP) ((opt (rsv e1 h1)).bind _) _=_;rw[c,a];rw[b];show(opt (f x y)).bind _=_;rw[d];exact k
theorem zYd{f:D->Option D}(h:evO oa env=.ok (h1,e))(a:rsv e h1=some x)(b:f x=some z)(k: .ok (z,e)=XV):sv1 f oa env=XV:=by
 unfold sv1;rw[h];show(opt (rsv e h1)).bind _=_;rw[a];show(opt (f x)).bind _=_;rw[b];exact k
theorem zYc{f:List D->Option D}{os:List Oe}{hs:List Hn}(h:evOs os env=.ok (hs,e))(a:rsvs e hs=some xs)(b:f xs=some z)(k: .ok (z,e)=XV):svN f os env=XV:=by
 unfold svN;rw[h];show(opt (rsvs e hs)).bind _=_;rw[a];show(opt (f xs)).bind _=_;rw[b];exact k
theorem qYc{f:List D->Option D}{os:List Oe}{hs:List Hn}(h:evOs os env=.ok (hs,e))(a:qQ7 hs e=.ok (xs,e1))(b:f xs=some z)(k: .ok (z,e1)=XV):svA f os env=XV:=by
 unfold svA;rw[h];show(qQ7 hs e).bind _=_;rw[a];show(opt (f xs)).bind _=_;rw[b];exact k
theorem vZb{f:List D->Option (List D)}{os:List Oe}{hs:List Hn}{ds:List D}(h:evOs os env=.ok (hs,e))(a:qQ7 hs e=.ok (xs,e1))(b:f xs=some ds)(k: .ok (.ow .lst (ds.map .fz),e1)=XE):eF f os env=XE:=by
 unfold eF;rw[h];show(qQ7 hs e).bind _=_;rw[a];show(opt (f xs)).bind _=_;rw[b];exact k
theorem qK5{ds:List D}(h:v env=.ok (d,e))(r:qW4 d=some ds)(k: .ok (ds,e)=XI):iV v env=XI:=by
 unfold iV;rw[h];show(opt (qW4 d)).bind _=_;rw[r];exact k
theorem qV4{f:List D->Option (List D)}{ds:List D}(h:evVs ss env=.ok (xs,e))(r:f xs=some ds)(k: .ok (ds,e)=XI):iL f ss env=XI:=by
 unfold iL;rw[h];show(opt (f xs)).bind _=_;rw[r];exact k
end
section
variable{env e e1:Ev}{F:Fn}{as:List Am}{hs:List Hn}{XE:Res (O×Ev)}{t0 t:List O×Ev}{args:Ev}{q:O×Ev}{os:List O}
theorem qL(h0:yR (jB as hs) env=some t0)(h1:yR (yB as hs) t0.2=some t)(h2:y9 (jB as hs) t0.1 as hs t.1=some args)(a:F args=.ok q)(b:qW5 as q.2=some os)(c:qWk t0.1 q.1 os=true)(k: .ok (q.1,putS env (jB as hs) t0.1 (putS env (yB as hs) os t.2))=XE):xX F as hs env=XE:=by
 unfold xX;rw[h0];show(opt (yR (yB as hs) t0.2)).bind _=_;rw[h1];show(opt (y9 (jB as hs) t0.1 as hs t.1)).bind _=_;rw[h2];show(F args).bind _=_;rw[a];show(opt (qW5 as q.2)).bind _=_;rw[b];show cond (qWk t0.1 q.1 os) _ _=_;grind
theorem qZm{fs:List (Str×D)}(h0:yR (jB as hs) env=some t0)(h1:yR (yB as hs) t0.2=some t)(h2:y9 (jB as hs) t0.1 as hs t.1=some args)(a:F args=.er C fs):xX F as hs env=.er C fs:=by
 unfold xX;rw[h0];show(opt (yR (yB as hs) t0.2)).bind _=_;rw[h1];show(opt (y9 (jB as hs) t0.1 as hs t.1)).bind _=_;rw[h2];show(F args).bind _=_;rw[a];rfl
theorem vQ(h:evOs (as.map Am.o) env=.ok (hs,e))(k:xX F as hs e=XE):callS F as env=XE:=by
 unfold callS;rw[h];exact k
theorem qVr{m:Str}(h:evO a0.o env=.ok (h0,e))(c:(qJp e h0 C m && (h0.st || (as.map Am.o).all Oe.isP))=true)(h2:evOs (as.map Am.o) e=.ok (hs,e1))(k:xX F (a0::as) (h0::hs) e1=XE):wC C m F a0 as env=XE:=by
 unfold wC;rw[h];show cond (qJp e h0 C m && (h0.st || (as.map Am.o).all Oe.isP)) ((evOs (as.map Am.o) e).bind _) _=_;rw[c,h2];exact k
theorem zV6{m:Str}(h:evO a0.o env=.ok (h0,e))(c:(qJp e h0 C m && (h0.st || (as.map Am.o).all Oe.isP))=true)(h2:evOs (as.map Am.o) e=.ok (hs,e1))(a:vW3 hs=some (i,j))(k:vV9 F (a0::as) (h0::hs) e1 i j=XE):qW9 C m F a0 as env=XE:=by
 unfold qW9;rw[h];show cond (qJp e h0 C m && (h0.st || (as.map Am.o).all Oe.isP)) ((evOs (as.map Am.o) e).bind _) _=_;rw[c,h2];show(opt (vW3 hs)).bind _=_;rw[a];exact k
theorem zV8{o:O}{q:O×Ev}(h:getE env i [j]=some o)(h2:xX F as (hs.map (sbH i j (fzO o))) (setE env i [j] (.fz (fzO o)))=.ok q)(c:(stab env q.2 i [j] && ndO q.1 && (setE q.2 i [j] o).all ndS && isFz (getE q.2 i [j]) && dcFz o)=true)(k: .ok (q.1,setE q.2 i [j] o)=XE):vV9 F as hs env i j=XE:=by
 unfold vV9;rw[h];show(xX F as (hs.map (sbH i j (fzO o))) (setE env i [j] (.fz (fzO o)))).bind _=_;rw[h2];show cond (stab env q.2 i [j] && ndO q.1 && (setE q.2 i [j] o).all ndS && isFz (getE q.2 i [j]) && dcFz o) _ _=_;rw[c];exact k
theorem vXt{q:O×Ev}{r:O×Ev}(h:evOs (as.map Am.o) env=.ok (hs,e))(h2:xX F (.io e.length::as) (.p e.length []::hs) (e ++ [.s false (.ow (.obj C []) [])])=.ok (.fz .non,e1))(a:popL e1 e.length=some r)(k: .ok r=XE):qXa C F as env=XE:=by
 unfold qXa;rw[h];show(xX F (.io e.length::as) (.p e.length []::hs) (e ++ [.s false (.ow (.obj C []) [])])).bind _=_;rw[h2];show opt (popL e1 e.length)=_;rw[a];exact k
end
section
variable{env e e1:Ev}{s k:SP}{a:SE}{v:SV}{i j:Nat}{π:List Nat}{o x:O}{os:List O}{XE:Res (O×Ev)}{X:Res Out}
theorem qVn{f:List O->O->Option (O×List O)}{os0:List O}{z:O×List O}(h:s env=some (.p i π))(h0:qQ9 env i π=some os0)(h1:a env=.ok (x,e))(h2:qQ9 e i π=some os)(c:stab env e i π=true)(b:f os x=some z)(k: .ok (z.1,setE e i π (.ow .lst z.2))=XE):eMu1 s a f env=XE:=by
 unfold eMu1;rw[h];show(opt (qQ9 env i π)).bind _=_;rw[h0];rw[h1];show(opt (qQ9 e i π)).bind _=_;rw[h2];show cond (stab env e i π) ((opt (f os x)).bind _) _=_;rw[c,b];exact k
theorem qXx{y:D}{key:Key}{q:List Key×List O}(h1:a env=.ok (x,e))(h:s e=some (.p i π))(h2:k e=some hk)(b:rsv e hk=some y)(d:qXc y=some key)(f:qYb e i π=some q)(c:decide (q.2.length<=lim)=true)(w: .ok (.nx (setE e i π (putO q.1 q.2 key x)))=X):qKx s k a env=X:=by
 unfold qKx;rw[h1];show(opt (s e)).bind _=_;rw[h];show(opt (k e)).bind _=_;rw[h2];show(opt (rsv e hk)).bind _=_;rw[b];show(opt (qXc y)).bind _=_;rw[d];show(opt (qYb e i π)).bind _=_;rw[f];show cond (decide (q.2.length<=lim)) _ _=_;rw[c];exact w
theorem vQ2{o:Out}(h:qKx s k a env=.ok o)(w: .ok o=X):sPutA s k a env=X:=by
 unfold sPutA;rw[h];exact w
theorem vVf{y:D}{n:Int}(h1:a env=.ok (x,e))(h:s e=some (.p i π))(h2:k e=some hk)(b:rsv e hk=some y)(d:yV y=some n)(f:qQ9 e i π=some os)(c:ixN os.length n=some j)(w: .ok (.nx (setE e i π (.ow .lst (os.set j x))))=X):sSetI s k a env=X:=by
 unfold sSetI;rw[h1];show(opt (s e)).bind _=_;rw[h];show(opt (k e)).bind _=_;rw[h2];show(opt (rsv e hk)).bind _=_;rw[b];show(opt (yV y)).bind _=_;rw[d];show(opt (qQ9 e i π)).bind _=_;rw[f];show(opt (ixN os.length n)).bind _=_;rw[c];exact w
theorem vXe{cs:List Nat}{f:Str}{q:Nat×List Str×List O}{o' :O}(h1:a env=.ok (x,e))(h:s e=some (.p i π))(h2:qW8 e i π=some q)(c:(cs.contains q.1 && decide (q.2.2.length<=999))=true)(b:qKy q.1 q.2.1 q.2.2 f x=some o')(w: .ok (.nx (setE e i π o'))=X):qQ6 cs f s a env=X:=by
 unfold qQ6;rw[h1];show(opt (s e)).bind _=_;rw[h];show(opt (qW8 e i π)).bind _=_;rw[h2];show cond (cs.contains q.1 && decide (q.2.2.length<=999)) ((opt (qKy q.1 q.2.1 q.2.2 f x)).bind _) _=_;rw[c,b];exact w
end
theorem zW{d:D}{ds:List D}{e2:Ev}{X:Res Out}(h1:g d env=some e1)(h2:body e1=.ok (.nx e2))(k:forS g body ds e2=X):forS g body (d::ds) env=X:=by
 show(opt (g d env)).bind _=_;rw[h1];show(body e1).bind _=_;rw[h2];exact k
theorem vX3{d:D}{ds:List D}{fs:List (Str×D)}(h1:g d env=some e1)(h2:body e1=.er C fs):forS g body (d::ds) env=.er C fs:=by
 show(opt (g d env)).bind _=_;rw[h1];show(body e1).bind _=_;rw[h2];rfl
section
variable{env e e1 e2:Ev}{o:O}{d x y z:D}{h1 h2 h3:Hn}{oa ob:Oe}{XV:Res (D×Ev)}{XH:Res (Hn×Ev)}{f:D->D->Option D}{f1:D->Option D}
theorem vO(h:evO oa env=.ok (h1,e))(k:hnV e h1=XV):oV oa env=XV:=by
 cases oa with
 | p s=>
   change (opt (s env)).bind _=_ at h;show(opt (s env)).bind _=_;cases q:s env with
   |none=>rw[q]at h;cases h
   |some a=>rw[q]at h;cases h;exact k
 | v s=>
   change (s env).bind _=_ at h;show s env=_;cases q:s env with
   |no=>rw[q]at h;cases h
   |er C fs=>rw[q]at h;cases h
   |ok a=>rw[q]at h;cases h;exact k
theorem qZk{s:SP}(h:s env=some h1)(k: .ok (h1,env)=XH):evO (.p s) env=XH:=by
 show(opt (s env)).bind _=_;rw[h];exact k
theorem qJw{s:SP}(h:evO (.p s) env=.ok (h1,e)):s env=some h1/\e=env:=by
 change (opt (s env)).bind _=_ at h;cases q:s env with
 |none=>rw[q]at h;cases h
 |some a=>rw[q]at h;cases h;exact⟨rfl,rfl⟩
theorem vU(h:evO oa env=.ok (h1,e))(h' :evO ob e=.ok (h2,e1))(c:(h1.st || ob.isP)=true)(a:rsv e1 h1=some x)(b:rsv e1 h2=some y)(g:f x y=some z)(k: .ok (.d z,e1)=XH):evO (o2 f oa ob) env=XH:=by
 cases oa with
 |v s=>exact zD (zQo h h' c a b g rfl) k
 | p s=>
   cases ob with
   |v t=>exact zD (zQo h h' c a b g rfl) k
   | p t=>
     obtain⟨i,rfl⟩:=qJw h;obtain⟨j,rfl⟩:=qJw h';refine qZk (h1:=.d z) ?_ k;show(s _).bind _=_;grind
theorem zQ7(h:evO oa env=.ok (h1,e))(a:rsv e h1=some x)(b:f1 x=some z)(k: .ok (.d z,e)=XH):evO (o1 f1 oa) env=XH:=by
 cases oa with
 |v s=>exact zD (zYd h a b rfl) k
 | p s=>
   obtain⟨c,rfl⟩:=qJw h;refine qZk (h1:=.d z) ?_ k;show(s _).bind _=_;rw[c];show(rsv _ h1).bind _=_;rw[a];show(f1 x).bind _=_;rw[b];rfl
theorem zL(h:evO oa env=.ok (h1,e))(h' :evO ob e=.ok (h2,e1))(c:(h1.st || (oa.isP && ob.isP))=true)(r:rsv e1 h2=some y)(g:hnIx e1 y h1=some (.d z))(k: .ok (.d z,e1)=XH):evO (oIx oa ob) env=XH:=by
 have b:∀(f:h1.st=true),((evO oa env).bind fun r=>(evO ob r.2).bind fun a =>cond r.1.st ((opt (rsv a.2 a.1)).bind fun y=>(opt (hnIx a.2 y r.1)).bind fun h=>hnV a.2 h) .no)=.ok (z,e1):=fun f=>by
  rw[h];show(evO ob e).bind _=_;rw[h'];show cond h1.st ((opt (rsv e1 h2)).bind _) _=_;rw[f,r];show(opt (hnIx e1 y h1)).bind _=_;rw[g];rfl
 cases oa with
 |v s=>exact zD (b (by simpa[Oe.isP] using c)) k
 | p s=>
   cases ob with
   |v t=>exact zD (b (by simpa[Oe.isP] using c)) k
   | p t=>
     obtain⟨i,rfl⟩:=qJw h;obtain⟨j,rfl⟩:=qJw h';refine qZk (h1:=.d z) ?_ k;grind
theorem zQh{os:List Oe}{g:List D->Option D}{hs:List Hn}(h:evOs os env=.ok (hs,e))(b:rsvs e hs=some xs)(c:g xs=some z)(k: .ok (.d z,e)=XH):evO (oL g os) env=XH:=by
 have f:=zYc h b c rfl;unfold oL;split
 ·rename_i s;have h:=h;change ((opt (s env)).bind _).bind _=_ at h;cases q:s env with
  |none=>rw[q]at h;cases h
  | some a=>
    rw[q]at h;change cond (a.st || ([]:List Oe).all Oe.isP) (Res.ok ([a],env)) Res.no=_ at h;cases w:(a.st || ([]:List Oe).all Oe.isP) with
    |false=>rw[w]at h;cases h
    | true=>
      rw[w]at h;cases h;refine qZk (h1:=.d z) ?_ k;rw[q];show(rsv env a).bind _=_;change ((rsv env a).bind _)=some xs at b;obtain⟨x,i,b⟩:=cT.mp b;cases b;rw[i];show(g [x]).bind _=_;rw[c];rfl
 ·exact zD f k
theorem vF{a:Res (List Hn×Ev)}(k: .ok ([],env)=a):evOs (([]:List Am).map Am.o) env=a:=k
theorem qS{s:SV}{hs:List Hn}{a:Res (List Hn×Ev)}(h:s env=.ok (d,e))(h2:evOs (as.map Am.o) e=.ok (hs,e1))(k: .ok (.d d::hs,e1)=a):evOs ((Am.v s::as).map Am.o) env=a:=wX (zD h rfl) rfl h2 k
theorem zX1{s:SP}{hs:List Hn}{a:Res (List Hn×Ev)}(h:s env=some h1)(c:(h1.st || (as.map Am.o).all Oe.isP)=true)(h2:evOs (as.map Am.o) env=.ok (hs,e1))(k: .ok (h1::hs,e1)=a):evOs ((Am.b s::as).map Am.o) env=a:=wX (qZk h rfl) c h2 k
end
theorem qZy{f:Str}{v:SV}{d:D}(h:v env=.ok (d,e)):wN C f v env=.er C [(f,d)]:=by
 unfold wN;rw[h];rfl
theorem qQt{t:ST}{q:Ev}{ds:List D}{a:Res (O×Ev)}(h:it env=.ok (ds,e))(c:(vW6 cs T n e.length && decide (ds.length<=lim))=true)(h2:yT g t el ds (capS cs .un e 0 n)=.ok (vs,q))(k: .ok (.ow .lst (vs.map .fz),putI cs 0 q (qV3 cs 0 n e))=a):compS n cs T it g t el env=a:=by
 unfold compS;rw[h];show cond (vW6 cs T n e.length && decide (ds.length<=lim)) ((yT g t el ds (capS cs .un e 0 n)).bind _) _=_;rw[c,h2];exact k
theorem compL_ok{t:ST}(R:Ev->Prop)(p:D->Option D):∀{ds:List D} {env:Ev},(∀d e,d∈ds->R e->∃e1,g d e=some e1/\((∃e2 v b,t e1=.ok (true,e2)/\el e2=.ok (v,b)/\p d=some v/\R b)\/(∃e2,t e1=.ok (false,e2)/\p d=none/\R e2)))->R env->∃a,yT g t el ds env=.ok (ds.filterMap p,a)/\R a
 |[],env,_,r=>⟨env,rfl,r⟩
 | d::ds,env,h,r=>by
   obtain⟨e1,l,n⟩:=h d env (by simp) r;have m:=fun {env:Ev} (r:R env)=>compL_ok R p (fun d e o r=>h d e (aM _ o) r) (env:=env) r
   rcases n with⟨e2,v,b,c,q,f,i⟩|⟨e2,c,f,i⟩
   ·obtain⟨a,j,k⟩:=m i;refine⟨a,?_,k⟩;show(opt (g d env)).bind _=_;rw[l];show((t e1).ne).bind _=_;rw[c];show((el e2).ne).bind _=_;rw[q];show(yT g t el ds b).bind _=_;rw[j,cG,f];rfl
   ·obtain⟨a,j,k⟩:=m i;refine⟨a,?_,k⟩;show(opt (g d env)).bind _=_;rw[l];show((t e1).ne).bind _=_;rw[c];show yT g t el ds e2=_;rw[j,cG,f]
theorem compL_map(R:Ev->Prop)(p:D->D){ds:List D}(h:∀d e,d∈ds->R e->∃e1 c,g d e=some e1/\el e1=.ok (p d,c)/\R c)(r:R env):∃i,yT g bTrue el ds env=.ok (ds.map p,i)/\R i :=by
 obtain⟨i,a,b⟩:=compL_ok (g:=g) (t:=bTrue) (el:=el) R (fun d=>some (p d)) (fun d e j r=>by
  obtain⟨e1,c,k,l,m⟩:=h d e j r;exact⟨e1,k,.inl ⟨e1,p d,c,rfl,l,rfl,m⟩⟩) r
 refine⟨i,?_,b⟩;rw[a];congr 2;rw[List.filterMap_eq_map' (f:=p)]
theorem qX1:∀ds:List D,fzOs (ds.map .fz)=ds
 |[]=>rfl
 |d::ds=>by show fzO (.fz d)::fzOs (ds.map .fz)=_;rw[qX1 ds];rfl
theorem vP{k:Kd}(ds:List D):fzO (.ow k (ds.map .fz))=.nd k ds:=by show D.nd k (fzOs _)=_;rw[qX1]
theorem vKj{t:ST}{q:Ev}{ds:List D}(h:it env=.ok (ds,e))(c:(vW6 cs T n e.length && decide (ds.length<=lim))=true)(h2:yT g t el ds (capS cs .un e 0 n)=.ok (vs,q))(k: .ok (.nd .lst vs,putI cs 0 q (qV3 cs 0 n e))=XV):fzS (compS n cs T it g t el) env=XV:=v8 (qQt h c h2 rfl) (by rw[vP];exact k)
theorem vVl{f:List D->Option (List D)}{os:List Oe}{hs:List Hn}{ds:List D}(h:evOs os env=.ok (hs,e))(a:qQ7 hs e=.ok (xs,e1))(b:f xs=some ds)(k: .ok (.nd .lst ds,e1)=XV):fzS (eF f os) env=XV:=v8 (vZb h a b rfl) (by rw[vP];exact k)
theorem qJ6{ds:List D}(h:evVs ss env=.ok (ds,e))(c:decide (ds.length<=1000)=true)(k: .ok (.nd .lst ds,e)=XV):fzS (eLst ss) env=XV:=v8 (vQ4 h c rfl) (by rw[vP];exact k)
section
variable{env:Ev}{o:O}{d:D}{X:Res Out}{s t s1 s2:SS}{i:Nat}{a:SE}{b:ST}{q:Bool}
theorem zJd(h:b env=.ok (q,env))(k:cond q (sSeq s1 t env) (sSeq s2 t env)=X):sSeq (sIf b s1 s2) t env=X:=qB h k
theorem zVn(h:a env=.ok (o,env))(k:t (env.set i (.s false o))=X):sSeq (sSet i a) t env=X:=qW h k
theorem zK4{x:SV}{hs:List Hn}{a:Res (List Hn×Ev)}(h:x env=.ok (d,env))(h2:evOs (as.map Am.o) env=.ok (hs,e1))(k: .ok (.d d::hs,e1)=a):evOs ((Am.v x::as).map Am.o) env=a:=qS h h2 k
end
theorem zK5{d:D}{a:SE}{hs:List Hn}{b:Res (List Hn×Ev)}(h:fzS a env=.ok (d,e))(h2:evOs (as.map Am.o) e=.ok (hs,e1))(k: .ok (.d d::hs,e1)=b):evOs ((Am.v (fzS a)::as).map Am.o) env=b:=qS h h2 k
theorem fnx{a:Ev}{r:Res (O×Ev)}(h:F a =r)(e:args=a):F args=r:=by rw[e];exact h
theorem qJv{b:SS}{ds a :List D}{c:Ev}{r:Res Out}(h:forS g b a c =r)(h1:ds=a)(h2:e=c):forS g b ds e=r:=by rw[h1,h2];exact h
theorem vKk{o:O}(h:callS F as env=.ok (o,e))(k: .ok (fzO o,e)=XV):fzS (callS F as) env=XV:=v8 h k
theorem qV8{s t:SS}{X:Res Out}(h:s env' =.ok (.nx e))(a:env=env')(k:t e=X):sSeq s t env=X:=by rw[a];exact jY h k
theorem sAt{s:SS}{X:Res Out}(h:s env' =X)(a:env=env'):s env=X:=by rw[a];exact h
end DX
namespace FM
open PySem L2 DX FP PyProof.Rows
variable{i:Nat}{α β:Type}{f:Str}{q:OT×Sd}{ν:Nm}{env e:Ev}{no:O}{io:Bool}{x5 x7 x8 x9 x10 a:Slot}{hk:Hn}{o':Os}
local macro_rules | `(tactic|array_get_dec)=>`(tactic|first
 |with_reducible refine' vX ?_ ?_
 |with_reducible refine' qVg ?_
 |((with_reducible refine' zJd (q:=?q) ?h ?k);(case h=>rfl))
 |with_reducible refine' qB ?_ ?_
 |with_reducible refine' qN ?_
 |with_reducible refine' zH ?_ ?_
 |((with_reducible refine' zVn (o:=?o) ?h ?k);(case h=>rfl))
 |with_reducible refine' qW ?_ ?_
 |with_reducible refine' j9 ?_ ?_
 |with_reducible refine' jY ?_ ?_
 |with_reducible refine' vZ ?_ ?_
 |with_reducible refine' jN ?_ ?_
 |with_reducible refine' qXu ?_ ?_
 |with_reducible refine' wW ?_ ?_
 |with_reducible refine' xY ?_ ?_
 |((with_reducible refine' qR ?_ ?_);rfl)
 |((with_reducible refine' qP ?_ ?_);rfl)
 |((with_reducible refine' qR ?_ ?_);assumption)
 |((with_reducible refine' qP ?_ ?_);assumption)
 |with_reducible refine' zK5 ?_ ?_ ?_
 |((with_reducible refine' zK4 (d:=?d) ?h ?g ?k);(case h=>rfl))
 |with_reducible refine' qS ?_ ?_ ?_
 |with_reducible refine' zX1 ?_ ?_ ?_ ?_
 |with_reducible refine' vKj ?_ ?_ ?_ ?_
 |with_reducible refine' vVl ?_ ?_ ?_ ?_
 |with_reducible refine' qJ6 ?_ ?_ ?_
 |with_reducible refine' vKk ?_ ?_
 |with_reducible refine' vQ ?_ ?_
 |with_reducible refine' qL ?_ ?_ ?_ ?_ ?_ ?_ ?_
 |with_reducible refine' qVr ?_ ?_ ?_ ?_
 |with_reducible refine' vXt ?_ ?_ ?_ ?_
 |with_reducible refine' qK5 ?_ ?_ ?_
 |with_reducible refine' qV4 ?_ ?_ ?_
 |rfl
 |with_reducible refine' vR ?_ ?_
 |with_reducible refine' v8 ?_ ?_
 |with_reducible refine' jR ?_ ?_ ?_
 |with_reducible refine' xK ?_ ?_
 |with_reducible refine' qK0 ?_ ?_
 |with_reducible refine' zQ ?_ ?_ ?_
 |with_reducible refine' vQ4 ?_ ?_ ?_
 |with_reducible refine' qZ ?_ ?_ ?_
 |with_reducible refine' vO ?_ ?_
 |with_reducible refine' zD ?_ ?_
 |with_reducible refine' vU ?_ ?_ ?_ ?_ ?_ ?_ ?_
 |with_reducible refine' zQ7 ?_ ?_ ?_ ?_
 |with_reducible refine' zL ?_ ?_ ?_ ?_ ?_ ?_
 |with_reducible refine' zQh ?_ ?_ ?_ ?_
 |with_reducible refine' wX ?_ ?_ ?_ ?_
 |with_reducible refine' vZb ?_ ?_ ?_ ?_
 |with_reducible refine' qYc ?_ ?_ ?_ ?_
 |with_reducible refine' qVn ?_ ?_ ?_ ?_ ?_ ?_ ?_
 |with_reducible refine' vQ2 ?_ ?_
 |with_reducible refine' qXx ?_ ?_ ?_ ?_ ?_ ?_ ?_ ?_
 |with_reducible refine' vXe ?_ ?_ ?_ ?_ ?_ ?_
 |with_reducible refine' qQt ?_ ?_ ?_ ?_)
inductive Sg where
 |add|sub|mul|eq|lt
def Sg.s:Sg->Str
 |.add =>"+" |.sub =>"-" |.mul =>"*" |.eq =>"=" |.lt =>"<"

inductive OT where
 |num (n:Int)|slot (i:Int)|draw (i:Nat)
 |op (s:Sg) (a b:OT)|rest (a:OT) (n:Int)|field (a:OT) (x:Str)
 |ite (c a b:OT)|rcd (xs:List Str) (as:List OT)|bind (i:Int) (a b:OT)
mutual
def OT.d:OT->D
 |.num n=>.tup [.str "num",.int n]
 |.slot i=>.tup [.str "slot",.int i]
 |.draw i=>.tup [.str "draw",.int (i:Nat)]
 |.op s a b=>.tup [.str "op",.str s.s,a.d,b.d]
 |.rest a n=>.tup [.str "rest",a.d,.int n]
 |.field a x=>.tup [.str "field",a.d,.str x]
 |.ite c a b=>.tup [.str "if",c.d,a.d,b.d]
 |.rcd xs as=>.tup [.str "record",.tup (zipD (xs.map .str) (OT.ds as))]
 |.bind i a b=>.tup [.str "bind",.int i,a.d,b.d]
def OT.ds:List OT->List D
 |[]=> []
 |a::r=>a.d::OT.ds r
end
theorem zVa:∀as:List OT,OT.ds as=as.map OT.d
 |[]=>rfl
 |a::r=>by rw[OT.ds,zVa r];rfl
noncomputable def drD(w:List (Int×Int)):D:=.nd .lst (w.map fun p=>.tup [.int p.1,.int p.2])
noncomputable abbrev Dw:=List (List (Int×Int))
noncomputable def drsD(dd:Dw):D:=.nd .lst (dd.map drD)

theorem wG{ds:List D}{d:D}(e:ds[i]?=some d):ixD (.nd .lst ds) (.int (i:Nat))=some d:=by
 have a:=(aD.mp e).1;have:ixN ds.length (i:Int)=some i:=by
  unfold ixN;simp[a]
 show((ixN ds.length (i:Int)).bind fun j=>ds[j]?)=_;rw[this];exact e
theorem yN{lo:List O}{r:O}{os:List O}(h1:qX8 r=true)(h2:flatOs os=true):qWk lo r os=true:=by
 unfold qWk;rw[h1,h2];simp

theorem qY9(x n:D):vE [.s false (.fz (.tup [.str "rest",x,n]))]=.ok (.ow .lst [.fz x],[.un]):=by kernel_rfl
theorem qXg(x n:D):vE [.s false (.fz (.tup [.str "field",x,n]))]=.ok (.ow .lst [.fz x],[.un]):=by kernel_rfl
theorem vZr(g x y:D):vE [.s false (.fz (.tup [.str "op",g,x,y]))]=.ok (.ow .lst [.fz x,.fz y],[.un]):=by kernel_rfl
section
variable{hl:List (Nat×Fn)}{dd:Dw}
noncomputable abbrev fz(d:D):Slot:=.s false (.fz d)
end

section
variable{κ α:Type}[DecidableEq κ]
def getA:List (κ×α)->κ->Option α
 |[],_=>none
 |p::r,k=>if p.1=k then some p.2 else getA r k
noncomputable def putA:List (κ×α)->κ->α->List (κ×α)
 |[],k,v=> [(k,v)]
 |p::r,k,v=>if p.1=k then(k,v)::r else p::putA r k v
theorem qQb:∀{l:List (κ×α)} {i j:κ} {v:α},getA (putA l i v) j=if i=j then some v else getA l j
 |[],i,j,v=>rfl
 | p::r,i,j,v=>by
   unfold putA;by_cases h:p.1=i
   ·rw [if_pos h];show(if i=j then some v else getA r j)=if i=j then some v else(if p.1=j then some p.2 else getA r j)
    grind
   ·rw [if_neg h];show(if p.1=j then some p.2 else getA (putA r i v) j)=if i=j then some v else(if p.1=j then some p.2 else getA r j)
    rw[qQb];grind
theorem xB:∀{l:List (κ×α)} {i:κ} {v:α},(putA l i v).length <=l.length+1
 |[],i,v=>by show 1<=0+1;omega
 | p::r,i,v=>by
   unfold putA;by_cases h:p.1=i
   ·rw[if_pos h];simp
   ·rw [if_neg h];have:=xB (l:=r) (i:=i) (v:=v);simp only[aK];omega
noncomputable def qT(a:κ->Key)(l:List (κ×α)):List Key:=l.map fun p=>a p.1
variable{kx:κ->Key}(inj:∀a b,kx a=kx b->a=b)(dv:κ×α->D)
include inj in
theorem qXb:∀{l:List (κ×α)} {i:κ} {v:α},getA l i=some v->∃j,kidx (kx i) (qT kx l)=some j/\(l.map dv)[j]?=some (dv (i,v))/\(l.map fun p=>O.fz (dv p))[j]?=some (.fz (dv (i,v)))
 |[],i,v,e=>by cases e
 | p::r,i,v,e=>by
   unfold getA at e;by_cases z:p.1=i
   ·rw [if_pos z] at e;cases e;subst z;refine⟨0,?_,rfl,rfl⟩;show(if kx p.1=kx p.1 then some 0 else _)=_;rw[if_pos rfl]
   ·rw [if_neg z] at e;obtain⟨j,a,b,c⟩:=qXb e;refine⟨j+1,?_,b,c⟩;show(if kx p.1=kx i then some 0 else(kidx (kx i) (qT kx r)).map (· + 1))=_;rw[if_neg (fun q=>z (inj _ _ q)),a];rfl
include inj in
theorem qQd:∀{l:List (κ×α)} {i:κ},getA l i=none->kidx (kx i) (qT kx l)=none
 |[],i,e=>rfl
 | p::r,i,e=>by
   unfold getA at e;by_cases z:p.1=i
   ·rw[if_pos z]at e;cases e
   ·rw [if_neg z] at e;show(if kx p.1=kx i then some 0 else(kidx (kx i) (qT kx r)).map (· + 1))=_;rw[if_neg (fun q=>z (inj _ _ q)),qQd e];rfl
include inj in
theorem vQ1{l:List (κ×α)}{i:κ}{v:α}:putO (qT kx l) (l.map fun p=>.fz (dv p)) (kx i) (.fz (dv (i,v)))=.ow (.dct (qT kx (putA l i v))) ((putA l i v).map fun p=>.fz (dv p)):=by
 have g:∀l:List (κ×α),(∀j,kidx (kx i) (qT kx l)=some j->qT kx (putA l i v)=qT kx l/\((putA l i v).map fun p=>O.fz (dv p))=(l.map fun p=>O.fz (dv p)).set j (.fz (dv (i,v))))/\(kidx (kx i) (qT kx l)=none->qT kx (putA l i v)=qT kx l ++ [kx i]/\((putA l i v).map fun p=>O.fz (dv p))=(l.map fun p=>O.fz (dv p)) ++ [.fz (dv (i,v))]):=by
  intro l;induction l with
  |nil=>exact⟨fun j h=>(by cases h),fun _=>⟨rfl,rfl⟩⟩
  | cons p r ih=>
    have e:kidx (kx i) (qT kx (p::r))=if kx p.1=kx i then some 0 else(kidx (kx i) (qT kx r)).map (· + 1):=rfl
    unfold putA;by_cases z:p.1=i
    ·have c :kx p.1=kx i:=by rw [z]
     rw[if_pos z,e,if_pos c];refine⟨fun j h=>?_,fun h=>(by cases h)⟩;cases h;exact⟨by show kx i::_=kx p.1::_;rw[z],rfl⟩
    ·have c :¬kx p.1=kx i:=fun q=>z (inj _ _ q)
     rw[if_neg z,e,if_neg c];refine⟨fun j h=>?_,fun h=>?_⟩
     ·cases q:kidx (kx i) (qT kx r) with
      |none=>rw[q]at h;cases h
      | some k=>
        rw[q]at h;cases h;obtain⟨a,b⟩:=ih.1 k q;exact⟨by show _::qT kx (putA r i v)=_;rw[a];rfl,by show _::((putA r i v).map fun p=>O.fz (dv p))=_;rw[b];rfl⟩
     ·cases q:kidx (kx i) (qT kx r) with
      |some k=>rw[q]at h;cases h
      | none=>
        obtain⟨a,b⟩:=ih.2 q;exact⟨by show _::qT kx (putA r i v)=_;rw[a];rfl,by show _::((putA r i v).map fun p=>O.fz (dv p))=_;rw[b];rfl⟩
 unfold putO;cases q:kidx (kx i) (qT kx l) with
 |some j=>obtain⟨a,b⟩:=(g l).1 j q;dsimp only;rw[a,b]
 |none=>obtain⟨a,b⟩:=(g l).2 q;dsimp only;rw[a,b]
end
theorem jC:∀a b:Str,(Sum.inr a:Key)=Sum.inr b->a=b:=fun _ _ h=>Sum.inr.inj h
inductive Tm where
 |num (n:Int)|name (x:Str)|flip (a b:Int)|pick (ps:List (Int×Int))
 |op (s:Sg) (a b:Tm)|rest (a:Tm) (n:Int)|field (a:Tm) (x:Str)
 |ite (c a b:Tm)|rcd (xs:List Str) (as:List Tm)|call (f:Str) (as:List Tm)
abbrev prI(p:Int×Int):D:=.tup [.int p.1,.int p.2]
mutual
def Tm.d:Tm->D
 |.num n=>.tup [.str "num",.int n]
 |.name x=>.tup [.str "name",.str x]
 |.flip a b=>.tup [.str "flip",.int a,.int b]
 |.pick ps=>.tup [.str "pick",.tup (ps.map prI)]
 |.op s a b=>.tup [.str "op",.str s.s,a.d,b.d]
 |.rest a n=>.tup [.str "rest",a.d,.int n]
 |.field a x=>.tup [.str "field",a.d,.str x]
 |.ite c a b=>.tup [.str "if",c.d,a.d,b.d]
 |.rcd xs as=>.tup [.str "record",.tup (zipD (xs.map .str) (Tm.ds as))]
 |.call f as=>.tup [.str "call",.str f,.tup (Tm.ds as)]
def Tm.ds:List Tm->List D
 |[]=> []
 |a::r=>a.d::Tm.ds r
end
theorem qQq:∀as:List Tm,Tm.ds as=as.map Tm.d
 |[]=>rfl
 |a::r=>by rw[Tm.ds,qQq r];rfl
mutual
noncomputable def Tm.wf:Tm->Prop
 |.num _=>True
 |.name _=>True
 |.flip _ _=>True
 |.pick _=>True
 |.op _ a b=>a.wf/\b.wf
 |.rest a _=>a.wf
 |.field a _=>a.wf
 |.ite c a b=>c.wf/\a.wf/\b.wf
 |.rcd xs as=>xs.length=as.length/\as.length<=6/\Tm.wfs as
 |.call _ as=>as.length<=100/\Tm.wfs as
noncomputable def Tm.wfs:List Tm->Prop
 |[]=>True
 |a::r=>a.wf/\Tm.wfs r
end
structure Sd where
 dr:Dw
 sl:Int
 tm:Int
noncomputable abbrev Nm:=List (Str×Int)
noncomputable abbrev Hs:=List (Str×(List Str×Tm))
noncomputable abbrev nmv:Str×Int->D:=fun p=>.int p.2
noncomputable def rowD(p:Str×(List Str×Tm)):D:=.tup [.str "def",.str p.1,.tup (p.2.1.map .str),p.2.2.d]
noncomputable def nmD(ν:Nm):D:=.nd (.dct (qT Sum.inr ν)) (ν.map nmv)
noncomputable def opO(hs:Hs)(no:O)(st:List O)(s:Sd):O:=.ow (.obj 2 ["helpers","names","steps","draws","slots","terms"]) [.ow (.dct (qT Sum.inr hs)) (hs.map fun p=>.fz (rowD p)),no,.ow .lst st,.ow .lst (s.dr.map fun w=>.fz (drD w)),.fz (.int s.sl),.fz (.int s.tm)]
noncomputable def count(s:Sd):Res Sd:=if s.tm<600 then .ok {s with tm:=s.tm+1} else .er 25 []
noncomputable def qVq(w:List (Int×Int))(s:Sd):Res (OT×Sd):=if s.dr.length<60 then .ok (.draw s.dr.length,{s with dr:=s.dr ++ [w]}) else .er 25 []
noncomputable def qV9(R:Tm->Sd->Res (OT×Sd)):List Tm->Sd->Res (List OT×Sd)
 |[],s=>.ok ([],s)
 |t::r,s=>(R t s).bind fun q=>(qV9 R r q.2).bind fun z=>.ok (q.1::z.1,z.2)
noncomputable def yJ(R:Tm->Sd->Res (OT×Sd)):List Str->List Tm->Sd->Nm->List (Int×OT)->Res (Nm×List (Int×OT)×Sd)
 |x::xs,t::ts,s,own,bs=>(count s).bind fun s=>(R t s).bind fun q=>yJ R xs ts {q.2 with sl:=q.2.sl+1} (putA own x q.2.sl) (bs ++ [(q.2.sl,q.1)])
 |_,_,s,own,bs=>.ok (own,bs,s)
noncomputable def qX5(bs:List (Int×OT))(w:OT):OT:=bs.foldr (fun b w=>.bind b.1 b.2 w) w
noncomputable def qM(hs:Hs):Nat->Nm->Tm->Sd->Res (OT×Sd)
 | 0,_,_,_=>.no
 | h + 1,ν,t,s=>match t with
   | .call f as=>match getA hs f with
     |none=>.no
     |some p=>(yJ (qM hs h ν) p.1 as s [] []).bind fun q=>(qM hs h q.1 p.2 q.2.2).bind fun w=>.ok (qX5 q.2.1 w.1,w.2)
   |.num n=>(count s).bind fun s=>.ok (.num n,s)
   | .name x=>(count s).bind fun s=>match getA ν x with
     |none=>.no
     |some i=>.ok (.slot i,s)
   |.flip a b=>(count s).bind fun s=>qVq [(0,b - a),(1,a)] s
   |.pick ps=>(count s).bind fun s=>qVq ps s
   |.op g a b=>(count s).bind fun s=>(qM hs h ν a s).bind fun q=>(qM hs h ν b q.2).bind fun r=>.ok (.op g q.1 r.1,r.2)
   |.rest a n=>(count s).bind fun s=>(qM hs h ν a s).bind fun q=>.ok (.rest q.1 n,q.2)
   |.field a x=>(count s).bind fun s=>(qM hs h ν a s).bind fun q=>.ok (.field q.1 x,q.2)
   |.ite c a b=>(count s).bind fun s=>(qM hs h ν c s).bind fun p=>(qM hs h ν a p.2).bind fun q=>(qM hs h ν b q.2).bind fun r=>.ok (.ite p.1 q.1 r.1,r.2)
   |.rcd xs as=>(count s).bind fun s=>(qV9 (qM hs h ν) as s).bind fun q=>.ok (.rcd xs q.1,q.2)
section
variable{hs:Hs}{no:O}{st:List O}{s:Sd}
theorem vKx:vV7 [2] "terms" (i2 fun i j=>i+j) (pOf (oN 0)) (oV (oC (.int 1))) [.s true (opO hs no st s)]=.ok (.nx [.s true (opO hs no st {s with tm:=s.tm+1})]):=by kernel_rfl
theorem vKw:oV (oGt (oFld [2] "terms" (oN 0)) (oC (.int 600))) [.s true (opO hs no st {s with tm:=s.tm+1})]=.ok (.bl (decide (600<s.tm+1)),[.s true (opO hs no st {s with tm:=s.tm+1})]):=by kernel_rfl
theorem wI(h:s.tm<600):z9 [.s true (opO hs no st s)]=.ok (.fz .non,[.s true (opO hs no st {s with tm:=s.tm+1})]):=by
 have a :decide (600<s.tm+1)=false:=decide_eq_false (by omega);refine vX (qV8 vKx rfl (vZ (jR vKw rfl rfl) (qP a rfl))) rfl
theorem vVd:zJ [.s true (opO hs no st s)]=.ok (.fz (.int s.sl),[.s true (opO hs no st {s with sl:=s.sl+1})]):=by
 have:zJ [.s true (opO hs no st s)]=.ok (.fz (.int (s.sl+1 - 1)),[.s true (opO hs no st {s with sl:=s.sl+1})]):=by kernel_rfl
 grind
theorem zZy(w:List (Int×Int))(h:s.dr.length<=1000):eMu1 (pOf (oFld [2] "draws" (oN 0))) (owS (oV (oN 1))) apF [.s true (opO hs no st s),.s false (.fz (drD w))]=.ok (.fz .non,[.s true (opO hs no st {s with dr:=s.dr ++ [w]}),.s false (.fz (drD w))]):=by
 have a:apF (s.dr.map fun w=>.fz (drD w)) (.fz (drD w))=some (.fz .non,(s.dr ++ [w]).map fun w=>.fz (drD w)):=by
  unfold apF;grind
 refine qVn (i:=0) (π:=[3]) (os0:=s.dr.map fun w=>.fz (drD w)) (x:=.fz (drD w)) (e:=[.s true (opO hs no st s),.s false (.fz (drD w))]) (os:=s.dr.map fun w=>.fz (drD w)) (by kernel_rfl) (by kernel_rfl) (by kernel_rfl) (by kernel_rfl) (by kernel_rfl) a rfl
theorem zZx(w:Dw)(x:D)(s:Sd)(e:s.dr=w):oV (oSub (oL lenD [(oFld [2] "draws" (oN 0))]) (oC (.int 1))) [.s true (opO hs no st s),.s false (.fz x)]=.ok (.int ((w.map fun w=>O.fz (drD w)).length - 1),[.s true (opO hs no st s),.s false (.fz x)]):=by
 subst e;have:(fzOs (s.dr.map fun w=>O.fz (drD w))).length =(s.dr.map fun w=>O.fz (drD w)).length :=by rw[qJ7,aW]
 have q:oV (oSub (oL lenD [(oFld [2] "draws" (oN 0))]) (oC (.int 1))) [.s true (opO hs no st s),.s false (.fz x)]=.ok (.int ((fzOs (s.dr.map fun w=>O.fz (drD w))).length - 1),[.s true (opO hs no st s),.s false (.fz x)]):=by kernel_rfl
 rw[q,this]
theorem zW5(x:D)(s:Sd):oV (oGt (oL lenD [(oFld [2] "draws" (oN 0))]) (oC (.int 60))) [.s true (opO hs no st s),.s false (.fz x)]=.ok (.bl (decide (60<(s.dr.length:Int))),[.s true (opO hs no st s),.s false (.fz x)]):=by
 have:(fzOs (s.dr.map fun w=>O.fz (drD w))).length =s.dr.length:=by rw[qJ7,aW,aW]
 have q:oV (oGt (oL lenD [(oFld [2] "draws" (oN 0))]) (oC (.int 60))) [.s true (opO hs no st s),.s false (.fz x)]=.ok (.bl (decide (60<((fzOs (s.dr.map fun w=>O.fz (drD w))).length :Int))),[.s true (opO hs no st s),.s false (.fz x)]):=by kernel_rfl
 rw[q,this]
theorem vX9(w:List (Int×Int))(h:s.dr.length<60):xM [.s true (opO hs no st s),.s false (.fz (drD w))]=.ok (.fz (.int (s.dr.length:Nat)),[.s true (opO hs no st {s with dr:=s.dr ++ [w]}),.un]):=by
 have a :decide (60<((s.dr ++ [w]).length :Int))=false:=decide_eq_false (by simp;omega);have e:((((s.dr ++ [w]).map fun w=>O.fz (drD w)).length :Nat):Int) - 1=(s.dr.length:Nat):=by simp
 refine vX (j9 (zZy w (by omega)) (qB (jR (zW5 (drD w) {s with dr:=s.dr ++ [w]}) rfl rfl) (qP a (qN (jN (vR (zZx (s.dr ++ [w]) (drD w) {s with dr:=s.dr ++ [w]} rfl) rfl) rfl))))) ?_
 rw[e];rfl
end

theorem vJ{x:Res α}{f:α->Res β}{b:β}(h:x.bind f=.ok b):∃a,x=.ok a/\f a=.ok b:=by
 cases x with
 |ok a=>exact⟨a,rfl,h⟩
 |er C fs=>cases h
 |no=>cases h
theorem jI{s s' :Sd}(h:count s=.ok s'):s.tm<600/\s' ={s with tm:=s.tm+1}:=by
 unfold count at h;by_cases z:s.tm<600
 ·rw[if_pos z]at h;cases h;exact⟨z,rfl⟩
 ·rw[if_neg z]at h;cases h
theorem qXh{w:List (Int×Int)}{s:Sd}(h:qVq w s=.ok q):s.dr.length<60/\q=(.draw s.dr.length,{s with dr:=s.dr ++ [w]}):=by
 unfold qVq at h;by_cases z:s.dr.length<60
 ·rw[if_pos z]at h;cases h;exact⟨z,rfl⟩
 ·rw[if_neg z]at h;cases h
theorem vQf(c x y:D):vE [.s false (.fz (.tup [.str "if",c,x,y]))]=.ok (.ow .lst [.fz c,.fz x,.fz y],[.un]):=by kernel_rfl
theorem zZ4(g x y a b:D):zU [.s false (.fz (.tup [.str "op",g,x,y])),.s false (.fz (.nd .lst [a,b]))]=.ok (.fz (.tup [.str "op",g,a,b]),[.un,.un]):=by kernel_rfl
theorem zVg(x y z a b c:D):zU [.s false (.fz (.tup [.str "if",x,y,z])),.s false (.fz (.nd .lst [a,b,c]))]=.ok (.fz (.tup [.str "if",a,b,c]),[.un,.un]):=by kernel_rfl
theorem vYk(x n a:D):zU [.s false (.fz (.tup [.str "rest",x,n])),.s false (.fz (.nd .lst [a]))]=.ok (.fz (.tup [.str "rest",a,n]),[.un,.un]):=by kernel_rfl
theorem vJ3(x n a:D):zU [.s false (.fz (.tup [.str "field",x,n])),.s false (.fz (.nd .lst [a]))]=.ok (.fz (.tup [.str "field",a,n]),[.un,.un]):=by kernel_rfl
theorem qKa(xs:List Str)(as:List Tm)(hl:xs.length=as.length)(c:as.length<=6):vE [.s false (.fz (Tm.rcd xs as).d)]=.ok (.ow .lst ((Tm.ds as).map .fz),[.un]):=by
 obtain⟨m,a,b⟩:=compL_map (g:=gT 2 (gCn (gN 0) (gCn (gN 1) gNl))) (el:=oV (oN 1)) (fun e=>∃u v,e=[u,v]) (fun d=>(match d with|.nd .tup [_,y]=>y|_=>.non)) (ds:=zipD (xs.map .str) (Tm.ds as)) (env:=[.un,.un]) (fun d e f h=>by
  obtain⟨i,j⟩:=List.mem_iff_getElem?.mp f;obtain⟨x,y,_,_,rfl⟩:=zipD_get j;obtain⟨u,v,rfl⟩:=h;exact⟨_,_,rfl,rfl,_,_,rfl⟩) ⟨_,_,rfl⟩
 obtain⟨u,v,rfl⟩:=b;have k:(zipD (xs.map D.str) (Tm.ds as)).map (fun d=>(match d with|.nd .tup [_,y]=>y|_=>D.non))=Tm.ds as:=by
  rw[qQq];clear a c;induction xs generalizing as with
  | nil=>cases as with
    |nil=>rfl
    |cons _ _=>cases hl
  | cons x xs ih=>cases as with
    |nil=>cases hl
    | cons a r=>
      show a.d::List.map _ (zipD (xs.map D.str) (r.map Tm.d))=_;rw[ih r (by simpa using hl)];rfl
 rw[k]at a;have l:(zipD (xs.map D.str) (Tm.ds as)).length <=6:=by
  rw[yW,qQq,aW,aW];omega
 have cl:decide ((zipD (xs.map D.str) (Tm.ds as)).length <=lim)=true:=decide_eq_true (aG l (by decide));show vE [.s false (.fz (.tup [.str "record",.tup (zipD (xs.map .str) (Tm.ds as))]))]=_;generalize zipD (xs.map D.str) (Tm.ds as)=zs at *;unfold vE;repeat' (first|array_get_dec|exact a|(show(true && decide (zs.length<=lim))=true;rw[cl];rfl))
theorem zVf(xs:List Str)(as:List Tm)(os:List OT)(hl:xs.length=as.length)(f:as.length<=6)(c:os.length=as.length):zU [.s false (.fz (Tm.rcd xs as).d),.s false (.fz (.nd .lst (os.map OT.d)))]=.ok (.fz (OT.rcd xs os).d,[.un,.un]):=by
 obtain⟨t,a,b⟩:=compL_map (g:=gT 2 (gCn (gN 0) (gCn (gN 1) gNl))) (el:=svTup [(oV (oIx (oN 0) (oC (.int 0)))),(oV (oN 1))]) (fun e=>∃u v,e=[u,v]) (fun d=>(match d with|.nd .tup [.nd .tup (x::_),y]=>.tup [x,y]|_=>.non)) (ds:=zipD (zipD (xs.map .str) (Tm.ds as)) (os.map OT.d)) (env:=[.un,.un]) (fun d e h j=>by
  obtain⟨i,k⟩:=List.mem_iff_getElem?.mp h;obtain⟨p,y,m,_,rfl⟩:=zipD_get k;obtain⟨x,z,_,_,rfl⟩:=zipD_get m;obtain⟨u,v,rfl⟩:=j;exact⟨_,_,rfl,rfl,_,_,rfl⟩) ⟨_,_,rfl⟩
 obtain⟨u,v,rfl⟩:=b;have n:(zipD (zipD (xs.map D.str) (Tm.ds as)) (os.map OT.d)).map (fun d=>(match d with|.nd .tup [.nd .tup (x::_),y]=>D.tup [x,y]|_=>D.non))=zipD (xs.map .str) (OT.ds os):=by
  rw[qQq,zVa];clear a f;induction xs generalizing as os with
  |nil=>rfl
  | cons x xs ih=>cases as with
    |nil=>cases hl
    | cons a r=>cases os with
      |nil=>cases c
      | cons o os=>
        show D.tup [.str x,o.d]::List.map _ (zipD (zipD (xs.map D.str) (r.map Tm.d)) (os.map OT.d))=_;rw[ih r os (by simpa using hl) (by simpa using c)];rfl
 rw[n]at a;have l:(zipD (zipD (xs.map D.str) (Tm.ds as)) (os.map OT.d)).length <=6:=by
  rw[yW,yW,qQq,aW,aW];omega
 have cl:decide ((zipD (zipD (xs.map D.str) (Tm.ds as)) (os.map OT.d)).length <=lim)=true:=decide_eq_true (aG l (by decide));have q:zpA [.tup (zipD (xs.map .str) (Tm.ds as)),.nd .lst (os.map OT.d)]=some (zipD (zipD (xs.map D.str) (Tm.ds as)) (os.map OT.d)):=rfl;show zU [.s false (.fz (.tup [.str "record",.tup (zipD (xs.map .str) (Tm.ds as))])),.s false (.fz (.nd .lst (os.map OT.d)))]=.ok (.fz (.tup [.str "record",.tup (zipD (xs.map .str) (OT.ds os))]),[.un,.un]);generalize zipD (xs.map D.str) (Tm.ds as)=zs at *;unfold zU;repeat' (first|exact q|array_get_dec|exact a|(show(true && decide (_<=lim))=true;rw[cl];rfl))
mutual
theorem wJ:∀t:OT,vD t.d=true
 |.num n=>by rw[OT.d];rfl
 |.slot i=>by rw[OT.d];rfl
 |.draw i=>by rw[OT.d];rfl
 |.op g a b=>by rw[OT.d];show(true && (true && (vD a.d && (vD b.d && true))))=true;rw[wJ a,wJ b];rfl
 |.rest a n=>by rw[OT.d];show(true && (vD a.d && (true && true)))=true;rw[wJ a];rfl
 |.field a x=>by rw[OT.d];show(true && (vD a.d && (true && true)))=true;rw[wJ a];rfl
 |.ite c a b=>by rw[OT.d];show(true && (vD c.d && (vD a.d && (vD b.d && true))))=true;rw[wJ c,wJ a,wJ b];rfl
 |.rcd xs as=>by rw[OT.d];show(true && (flatDs (zipD (xs.map .str) (OT.ds as)) && true))=true;rw[flat_ots xs as];rfl
 |.bind i a b=>by rw[OT.d];show(true && (true && (vD a.d && (vD b.d && true))))=true;rw[wJ a,wJ b];rfl
theorem flat_ots:∀(xs:List Str) (as:List OT),flatDs (zipD (xs.map .str) (OT.ds as))=true
 |[],_=>rfl
 |x::xs,[]=>by rw[OT.ds];rfl
 | x::xs,a::as=>by
   rw[OT.ds];show((true && (vD a.d && true)) && flatDs (zipD (xs.map .str) (OT.ds as)))=true;rw[wJ a,flat_ots xs as];rfl
end
theorem qZj(t:OT):qX8 (.fz t.d)=true:=wJ t
theorem zKv{x:Str}{i:Int}(e:getA ν x=some i):ixD (nmD ν) (.str x)=some (.int i):=by
 obtain⟨j,a,b,_⟩:=qXb jC nmv e;show(((some (Sum.inr x:Key)).bind fun k=>kidx k (qT Sum.inr ν)).bind fun j=>(ν.map nmv)[j]?)=_;rw[cB,a];exact b
theorem zWr{x:Str}{i:Int}(e:getA ν x=some i):hnIx env (.str x) (.d (nmD ν))=some (.d (.int i)):=by
 show(ixD (nmD ν) (.str x)).map Hn.d=_;rw[zKv e];rfl
theorem vJj(a b:Int):qZ3 [.s false (.fz (.tup [.str "flip",.int a,.int b]))]=.ok (.ow .lst [.fz (prI (0,b - a)),.fz (prI (1,a))],[.un]):=by kernel_rfl
theorem vJi(a:List (Int×Int)):qZ3 [.s false (.fz (Tm.pick a).d)]=.ok (.ow .lst ((a.map prI).map .fz),[.un]):=by kernel_rfl
section
variable{hs:Hs}
noncomputable def qQy(hs:Hs)(h:Nat):Prop:=∀(ν:Nm) (t:Tm) (s:Sd) (no:O) (st:List O) (q:OT×Sd),t.wf->qM hs h ν t s=.ok q->
 F_Opener_open_term h [.s true (opO hs no st s),.s false (.fz t.d),.s false (.fz (nmD ν))]=.ok (.fz q.1.d,[.s true (opO hs no st q.2),.un,.un])
theorem open_loop{h:Nat}(b:qQy hs h){st:List O}:∀(ts:List Tm) (s:Sd) (q:List OT×Sd) (a k x5:Slot) (acc:List O),Tm.wfs ts->acc.length+ts.length<=1000->qV9 (qM hs h ν) ts s=.ok q->
  ∃y,forS (gN 5) (wZ (F_Opener_open_term h)) (Tm.ds ts) [.s true (opO hs no st s),a,.s false (.fz (nmD ν)),k,.s false (.ow .lst acc),x5]=
   .ok (.nx [.s true (opO hs no st q.2),a,.s false (.fz (nmD ν)),k,.s false (.ow .lst (acc ++ q.1.map fun t=>.fz t.d)),y])
 | [],s,q,a,k,x5,acc,_,_,e=>by
   cases e;exact⟨x5,by rw[List.map_nil,bK];rfl⟩
 | t::ts,s,q,a,k,x5,acc,hw,hl,e=>by
   rw[Tm.wfs]at hw;obtain⟨v,c,e⟩:=vJ e;obtain⟨r,f,e⟩:=vJ e;cases e;rw[aK]at hl;have g:=b ν t s no st v hw.1 c;have i:apF acc (.fz v.1.d)=some (.fz .non,acc ++ [.fz v.1.d]):=by
    unfold apF;rw[decide_eq_true (show acc.length<=lim from aG (by omega) (show 1000<=1000000 by decide))];rfl
   obtain⟨y,j⟩:=open_loop b ts v.2 r a k (.s false (.fz t.d)) (acc ++ [.fz v.1.d]) hw.2 (by rw[aU];simp;omega) f;refine⟨y,?_⟩;rw[Tm.ds];refine zW rfl ?_ (j.trans ?_)
   ·unfold wZ;repeat' (first|((with_reducible refine' fnx g ?_);rfl)|array_get_dec|exact i)
   ·rw[dF];rfl
theorem vQg{R:Tm->Sd->Res (OT×Sd)}:∀{ts:List Tm} {s:Sd} {q:List OT×Sd},qV9 R ts s=.ok q->q.1.length=ts.length
 |[],s,q,e=>by cases e;rfl
 | t::ts,s,q,e=>by
   obtain⟨v,b,e⟩:=vJ e;obtain⟨r,a,e⟩:=vJ e;cases e;simp[vQg a]
end

section
variable{hs:Hs}{h:Nat}
theorem zW6(a:List (Int×Int)):fzO (.ow .lst ((a.map prI).map .fz))=drD a:=vP _
set_option maxHeartbeats 400000 in
theorem qZz(ν:Nm)(t:Tm)(s:Sd)(no:O)(st:List O)(q:OT×Sd)(p:(∃n,t=.num n)\/(∃x,t=.name x)\/(∃a b,t=.flip a b)\/∃j,t=.pick j)(e:qM hs (h+1) ν t s=.ok q):
  F_Opener_open_term (h+1) [.s true (opO hs no st s),.s false (.fz t.d),.s false (.fz (nmD ν))]=.ok (.fz q.1.d,[.s true (opO hs no st q.2),.un,.un]):=by
 rcases p with⟨n,rfl⟩|⟨x,rfl⟩|⟨a,b,rfl⟩|⟨j,rfl⟩
 ·obtain⟨k,f,e⟩:=vJ (show(count s).bind _=_ from e);obtain⟨g,rfl⟩:=jI f;cases e;have c:=wI (hs:=hs) (no:=no) (st:=st) g;unfold F_Opener_open_term;repeat' (first|((with_reducible refine' fnx c ?_);rfl)|array_get_dec)
 ·obtain⟨k,f,e⟩:=vJ (show(count s).bind _=_ from e);obtain⟨g,rfl⟩:=jI f;cases e2:getA ν x with
  |none=>rw[e2]at e;cases e
  | some i=>
    rw[e2]at e;cases e;have c:=wI (hs:=hs) (no:=no) (st:=st) g;unfold F_Opener_open_term;repeat' (first|((with_reducible refine' fnx c ?_);rfl)|array_get_dec|exact zWr e2)
 ·obtain⟨k,f,e⟩:=vJ (show(count s).bind _=_ from e);obtain⟨g,rfl⟩:=jI f;obtain⟨l,rfl⟩:=qXh e;have c:=wI (hs:=hs) (no:=no) (st:=st) g;have d:=vX9 (hs:=hs) (no:=no) (st:=st) (s:={s with tm:=s.tm+1}) [(0,b - a),(1,a)] l;have m:=vJj a b;unfold F_Opener_open_term;repeat' (first|((with_reducible refine' fnx c ?_);rfl)|((with_reducible refine' fnx d ?_);rfl)|((with_reducible refine' fnx m ?_);rfl)|array_get_dec)
 ·obtain⟨k,f,e⟩:=vJ (show(count s).bind _=_ from e);obtain⟨g,rfl⟩:=jI f;obtain⟨l,rfl⟩:=qXh e;have c:=wI (hs:=hs) (no:=no) (st:=st) g;have d:=vX9 (hs:=hs) (no:=no) (st:=st) (s:={s with tm:=s.tm+1}) j l;have o :=d;rw[←zW6 j]at o;have m:=vJi j;unfold F_Opener_open_term;repeat' (first|((with_reducible refine' fnx c ?_);rfl)|((with_reducible refine' fnx o ?_);rfl)|((with_reducible refine' fnx m ?_);rfl)|array_get_dec)
set_option maxHeartbeats 400000 in
theorem zJ8(b:qQy hs h)(ν:Nm)(g:Sg)(x y:Tm)(s:Sd)(no:O)(st:List O)(q:OT×Sd)(a:(Tm.op g x y).wf)(e:qM hs (h+1) ν (.op g x y) s=.ok q):
  F_Opener_open_term (h+1) [.s true (opO hs no st s),.s false (.fz (Tm.op g x y).d),.s false (.fz (nmD ν))]=.ok (.fz q.1.d,[.s true (opO hs no st q.2),.un,.un]):=by
 rw[Tm.wf]at a;obtain⟨n,f,e⟩:=vJ (show(count s).bind _=_ from e);obtain⟨i,rfl⟩:=jI f;obtain⟨v,j,e⟩:=vJ e;obtain⟨r,k,e⟩:=vJ e;cases e;have c:=wI (hs:=hs) (no:=no) (st:=st) i;have l:qV9 (qM hs h ν) [x,y] {s with tm:=s.tm+1}=.ok ([v.1,r.1],r.2):=by
  show(qM hs h ν x _).bind _=_;rw[j];show((qM hs h ν y v.2).bind _).bind _=_;rw[k];rfl
 obtain⟨z,m⟩:=open_loop b [x,y] _ _ (fz (Tm.op g x y).d) (fz (.str "op")) .un [] (by simp only[Tm.wfs];exact⟨a.1,a.2,trivial⟩) (by simp) l (no:=no) (st:=st);unfold F_Opener_open_term;repeat' (first|((with_reducible refine' fnx c ?_);rfl)|((with_reducible refine' fnx (vZr (.str g.s) x.d y.d) ?_);rfl)|((with_reducible refine' fnx (zZ4 (.str g.s) x.d y.d v.1.d r.1.d) ?_);rfl)|(with_reducible refine' qJv m ?_ ?_)|array_get_dec|exact yN (qZj (.op g v.1 r.1)) rfl)
set_option maxHeartbeats 400000 in
theorem zV4(b:qQy hs h)(ν:Nm)(c x y:Tm)(s:Sd)(no:O)(st:List O)(q:OT×Sd)(a:(Tm.ite c x y).wf)(e:qM hs (h+1) ν (.ite c x y) s=.ok q):
  F_Opener_open_term (h+1) [.s true (opO hs no st s),.s false (.fz (Tm.ite c x y).d),.s false (.fz (nmD ν))]=.ok (.fz q.1.d,[.s true (opO hs no st q.2),.un,.un]):=by
 rw[Tm.wf]at a;obtain⟨o,f,e⟩:=vJ (show(count s).bind _=_ from e);obtain⟨g,rfl⟩:=jI f;obtain⟨u,i,e⟩:=vJ e;obtain⟨v,j,e⟩:=vJ e;obtain⟨r,k,e⟩:=vJ e;cases e;have l:=wI (hs:=hs) (no:=no) (st:=st) g;have m:qV9 (qM hs h ν) [c,x,y] {s with tm:=s.tm+1}=.ok ([u.1,v.1,r.1],r.2):=by
  show(qM hs h ν c _).bind _=_;rw[i];show((qM hs h ν x u.2).bind _).bind _=_;rw[j];show(((qM hs h ν y v.2).bind _).bind _).bind _=_;rw[k];rfl
 obtain⟨z,n⟩:=open_loop b [c,x,y] _ _ (fz (Tm.ite c x y).d) (fz (.str "if")) .un [] (by simp only[Tm.wfs];exact⟨a.1,a.2.1,a.2.2,trivial⟩) (by simp) m (no:=no) (st:=st);unfold F_Opener_open_term;repeat' (first|((with_reducible refine' fnx l ?_);rfl)|((with_reducible refine' fnx (vQf c.d x.d y.d) ?_);rfl)|((with_reducible refine' fnx (zVg c.d x.d y.d u.1.d v.1.d r.1.d) ?_);rfl)|(with_reducible refine' qJv n ?_ ?_)|array_get_dec|exact yN (qZj (.ite u.1 v.1 r.1)) rfl)
set_option maxHeartbeats 400000 in
theorem vY1(b:qQy hs h)(ν:Nm)(x:Tm)(n:Int)(s:Sd)(no:O)(st:List O)(q:OT×Sd)(a:(Tm.rest x n).wf)(e:qM hs (h+1) ν (.rest x n) s=.ok q):
  F_Opener_open_term (h+1) [.s true (opO hs no st s),.s false (.fz (Tm.rest x n).d),.s false (.fz (nmD ν))]=.ok (.fz q.1.d,[.s true (opO hs no st q.2),.un,.un]):=by
 rw[Tm.wf]at a;obtain⟨l,f,e⟩:=vJ (show(count s).bind _=_ from e);obtain⟨g,rfl⟩:=jI f;obtain⟨v,i,e⟩:=vJ e;cases e;have c:=wI (hs:=hs) (no:=no) (st:=st) g;have j:qV9 (qM hs h ν) [x] {s with tm:=s.tm+1}=.ok ([v.1],v.2):=by
  show(qM hs h ν x _).bind _=_;rw[i];rfl
 obtain⟨z,k⟩:=open_loop b [x] _ _ (fz (Tm.rest x n).d) (fz (.str "rest")) .un [] (by simp only[Tm.wfs];exact⟨a,trivial⟩) (by simp) j (no:=no) (st:=st);unfold F_Opener_open_term;repeat' (first|((with_reducible refine' fnx c ?_);rfl)|((with_reducible refine' fnx (qY9 x.d (.int n)) ?_);rfl)|((with_reducible refine' fnx (vYk x.d (.int n) v.1.d) ?_);rfl)|(with_reducible refine' qJv k ?_ ?_)|array_get_dec|exact yN (qZj (.rest v.1 n)) rfl)
set_option maxHeartbeats 400000 in
theorem vWj(b:qQy hs h)(ν:Nm)(x:Tm)(n:Str)(s:Sd)(no:O)(st:List O)(q:OT×Sd)(a:(Tm.field x n).wf)(e:qM hs (h+1) ν (.field x n) s=.ok q):
  F_Opener_open_term (h+1) [.s true (opO hs no st s),.s false (.fz (Tm.field x n).d),.s false (.fz (nmD ν))]=.ok (.fz q.1.d,[.s true (opO hs no st q.2),.un,.un]):=by
 rw[Tm.wf]at a;obtain⟨l,f,e⟩:=vJ (show(count s).bind _=_ from e);obtain⟨g,rfl⟩:=jI f;obtain⟨v,i,e⟩:=vJ e;cases e;have c:=wI (hs:=hs) (no:=no) (st:=st) g;have j:qV9 (qM hs h ν) [x] {s with tm:=s.tm+1}=.ok ([v.1],v.2):=by
  show(qM hs h ν x _).bind _=_;rw[i];rfl
 obtain⟨z,k⟩:=open_loop b [x] _ _ (fz (Tm.field x n).d) (fz (.str "field")) .un [] (by simp only[Tm.wfs];exact⟨a,trivial⟩) (by simp) j (no:=no) (st:=st);unfold F_Opener_open_term;repeat' (first|((with_reducible refine' fnx c ?_);rfl)|((with_reducible refine' fnx (qXg x.d (.str n)) ?_);rfl)|((with_reducible refine' fnx (vJ3 x.d (.str n) v.1.d) ?_);rfl)|(with_reducible refine' qJv k ?_ ?_)|array_get_dec|exact yN (qZj (.field v.1 n)) rfl)
set_option maxHeartbeats 400000 in
theorem zV3(f:qQy hs h)(ν:Nm)(xs:List Str)(as:List Tm)(s:Sd)(no:O)(st:List O)(q:OT×Sd)(a:(Tm.rcd xs as).wf)(e:qM hs (h+1) ν (.rcd xs as) s=.ok q):
  F_Opener_open_term (h+1) [.s true (opO hs no st s),.s false (.fz (Tm.rcd xs as).d),.s false (.fz (nmD ν))]=.ok (.fz q.1.d,[.s true (opO hs no st q.2),.un,.un]):=by
 rw[Tm.wf]at a;obtain⟨p,g,e⟩:=vJ (show(count s).bind _=_ from e);obtain⟨i,rfl⟩:=jI g;obtain⟨v,b,e⟩:=vJ e;cases e;have c:=wI (hs:=hs) (no:=no) (st:=st) i;have j:=vQg b;obtain⟨z,l⟩:=open_loop f as _ v (fz (Tm.rcd xs as).d) (fz (.str "record")) .un [] a.2.2 (by simp;omega) b (no:=no) (st:=st);have m:=qKa xs as a.1 a.2.1;have n:fzO (.ow .lst ([] ++ v.1.map fun t=>.fz t.d))=.nd .lst (v.1.map OT.d):=by
  have:=vP (k:=.lst) (v.1.map OT.d);rw[cL]at this;exact this
 have o:zU [.s false (.fz (Tm.rcd xs as).d),.s false (.fz (fzO (.ow .lst ([] ++ v.1.map fun t=>.fz t.d))))]=.ok (.fz (OT.rcd xs v.1).d,[.un,.un]):=by rw[n];exact zVf xs as v.1 a.1 a.2.1 j
 unfold F_Opener_open_term;repeat' (first|((with_reducible refine' fnx c ?_);rfl)|((with_reducible refine' fnx m ?_);rfl)|((with_reducible refine' fnx o ?_);rfl)|(with_reducible refine' qJv l ?_ ?_)|array_get_dec|exact qX1 _|exact yN (qZj (.rcd xs v.1)) rfl)
end

section
variable{hs:Hs}{h:Nat}
noncomputable def bindO(bs:List (Int×OT)):List O:=bs.map fun b=>.fz (.tup [.int b.1,b.2.d])
theorem zXs(own:Nm):fzO (.ow (.dct (qT Sum.inr own)) (own.map fun p=>.fz (nmv p)))=nmD own:=by
 have:=vP (k:=.dct (qT Sum.inr own)) (own.map nmv);rw[cL]at this;exact this
theorem zKs{own:Nm}{x:Str}{i:Int}{a:O}{x1 x2 x3:Slot}(e:getA own x=some i):oV (oIx (oN 4) (oN 6)) [.s io a,x1,x2,x3,.s false (.ow (.dct (qT Sum.inr own)) (own.map fun p=>.fz (nmv p))),x5,.s false (.fz (.str x)),x7,x8,x9,x10]=.ok (.int i,[.s io a,x1,x2,x3,.s false (.ow (.dct (qT Sum.inr own)) (own.map fun p=>.fz (nmv p))),x5,.s false (.fz (.str x)),x7,x8,x9,x10]):=by
 obtain⟨j,h1,_,b⟩:=qXb jC nmv e;refine vO (h1:=.d (.int i)) (e:=[.s io a,x1,x2,x3,.s false (.ow (.dct (qT Sum.inr own)) (own.map fun p=>.fz (nmv p))),x5,.s false (.fz (.str x)),x7,x8,x9,x10]) ?_ rfl;refine zL (h1:=.p 4 []) (h2:=.d (.str x)) rfl rfl rfl (y:=.str x) rfl ?_ rfl;show(((some (Sum.inr x:Key)).bind fun k=>kidx k (qT Sum.inr own)).bind fun j=>((own.map fun p=>O.fz (nmv p))[j]?).bind fun o=>some (hnO o 4 ([] ++ [j])))=_;rw[cB,h1,cB,b];rfl
set_option maxHeartbeats 400000 in
theorem vKz(f:qQy hs h){own:Nm}{x:Str}{t:Tm}{s b:Sd}{st:List O}{bs:List (Int×OT)}{k3:Slot}(g:t.wf)(j:own.length<=1000)(hb:bs.length<=1000)(e1:count s=.ok b)(e2:qM hs h ν t b=.ok q):
  zR (F_Opener_open_term h) [.s true (opO hs no st s),a,.s false (.fz (nmD ν)),k3,.s false (.ow (.dct (qT Sum.inr own)) (own.map fun p=>.fz (nmv p))),.s false (.ow .lst (bindO bs)),.s false (.fz (.str x)),.s false (.fz t.d),x8,x9,x10]=
   .ok (.nx [.s true (opO hs no st {q.2 with sl:=q.2.sl+1}),a,.s false (.fz (nmD ν)),k3,.s false (.ow (.dct (qT Sum.inr (putA own x q.2.sl))) ((putA own x q.2.sl).map fun p=>.fz (nmv p))),.s false (.ow .lst (bindO (bs ++ [(q.2.sl,q.1)]))),.s false (.fz (.str x)),.s false (.fz t.d),.s false (.fz q.1.d),x9,x10]):=by
 obtain⟨k,rfl⟩:=jI e1;have c:=wI (hs:=hs) (no:=no) (st:=st) k;have l:=f ν t _ no st q g e2;have m:=vVd (hs:=hs) (no:=no) (st:=st) (s:=q.2);have n:apF (bindO bs) (.fz (.tup [.int q.2.sl,q.1.d]))=some (.fz .non,bindO (bs ++ [(q.2.sl,q.1)])):=by
  unfold apF;rw[decide_eq_true (show(bindO bs).length <=lim by unfold bindO;rw[aW];exact aG hb (show 1000<=1000000 by decide))];unfold bindO;rw[dD];rfl
 have r:decide ((own.map fun p=>O.fz (nmv p)).length <=lim)=true:=decide_eq_true (by rw[aW];exact aG j (show 1000<=1000000 by decide))
 have put:sPutA (pOf (oN 4)) (pOf (oN 6)) (wC 2 "new_slot" zJ (.io 0) []) [.s true (opO hs no st q.2),a,.s false (.fz (nmD ν)),k3,.s false (.ow (.dct (qT Sum.inr own)) (own.map fun p=>.fz (nmv p))),.s false (.ow .lst (bindO bs)),.s false (.fz (.str x)),.s false (.fz t.d),.s false (.fz q.1.d),x9,x10]=
   .ok (.nx [.s true (opO hs no st {q.2 with sl:=q.2.sl+1}),a,.s false (.fz (nmD ν)),k3,.s false (.ow (.dct (qT Sum.inr (putA own x q.2.sl))) ((putA own x q.2.sl).map fun p=>.fz (nmv p))),.s false (.ow .lst (bindO bs)),.s false (.fz (.str x)),.s false (.fz t.d),.s false (.fz q.1.d),x9,x10]):=by
  rw[←vQ1 jC nmv];repeat' (first|((with_reducible refine' fnx m ?_);rfl)|array_get_dec|exact r)
 have u:getA (putA own x q.2.sl) x=some q.2.sl:=by rw[qQb,if_pos rfl]
 unfold zR;refine j9 (o:=.fz .non) (e:=[.s true (opO hs no st {s with tm:=s.tm+1}),a,.s false (.fz (nmD ν)),k3,.s false (.ow (.dct (qT Sum.inr own)) (own.map fun p=>.fz (nmv p))),.s false (.ow .lst (bindO bs)),.s false (.fz (.str x)),.s false (.fz t.d),x8,x9,x10]) ?_ ?_
 ·repeat' (first|((with_reducible refine' fnx c ?_);rfl)|array_get_dec)
 refine qW (o:=.fz q.1.d) (e:=[.s true (opO hs no st q.2),a,.s false (.fz (nmD ν)),k3,.s false (.ow (.dct (qT Sum.inr own)) (own.map fun p=>.fz (nmv p))),.s false (.ow .lst (bindO bs)),.s false (.fz (.str x)),.s false (.fz t.d),x8,x9,x10]) ?_ ?_
 ·repeat' (first|((with_reducible refine' fnx l ?_);rfl)|array_get_dec)
 refine qV8 put rfl ?_
 refine wW (qVn (i:=5) (π:=[]) (x:=.fz (.tup [.int q.2.sl,q.1.d])) rfl rfl (vR (zQ (qZ (zKs u) (qZ rfl (qI rfl) rfl) rfl) rfl rfl) rfl) rfl rfl n rfl) rfl
theorem call_loop(g:qQy hs h){no:O}{st:List O}{a k3 x9 x10:Slot}:∀(xs:List Str) (ts:List Tm) (s:Sd) (own:Nm) (bs:List (Int×OT)) (q:Nm×List (Int×OT)×Sd) (x6 x7 x8:Slot),Tm.wfs ts->own.length+ts.length<=1000->bs.length+ts.length<=1000->yJ (qM hs h ν) xs ts s own bs=.ok q->
  ∃b c f,forS (gT 2 (gCn (gN 6) (gCn (gN 7) gNl))) (zR (F_Opener_open_term h)) (zipD (xs.map .str) (Tm.ds ts)) [.s true (opO hs no st s),a,.s false (.fz (nmD ν)),k3,.s false (.ow (.dct (qT Sum.inr own)) (own.map fun p=>.fz (nmv p))),.s false (.ow .lst (bindO bs)),x6,x7,x8,x9,x10]=
   .ok (.nx [.s true (opO hs no st q.2.2),a,.s false (.fz (nmD ν)),k3,.s false (.ow (.dct (qT Sum.inr q.1)) (q.1.map fun p=>.fz (nmv p))),.s false (.ow .lst (bindO q.2.1)),b,c,f,x9,x10])
 |[],ts,s,own,bs,q,x6,x7,x8,_,_,_,e=>by cases e;exact⟨x6,x7,x8,rfl⟩
 |x::xs,[],s,own,bs,q,x6,x7,x8,_,_,_,e=>by cases e;exact⟨x6,x7,x8,rfl⟩
 | x::xs,t::ts,s,own,bs,q,x6,x7,x8,hw,ho,hb,e=>by
   rw[aK]at ho hb;obtain⟨n,j,e⟩:=vJ (show(count s).bind _=_ from e);obtain⟨v,k,e⟩:=vJ e;have o:=xB (l:=own) (i:=x) (v:=v.2.sl);obtain⟨b,c,f,m⟩:=call_loop g (x9:=x9) (x10:=x10) (a:=a) (k3:=k3) (no:=no) (st:=st) xs ts _ _ _ q (.s false (.fz (.str x))) (.s false (.fz t.d)) (.s false (.fz v.1.d)) hw.2 (by omega) (by rw[aU];simp;omega) e;refine⟨b,c,f,?_⟩;exact zW rfl (vKz g hw.1 (by omega) (by omega) j k) m
theorem wrap_loop{R:Fn}{a0 a1 a2 a3 a4 a5 a6 a7:Slot}:∀(bs:List (Int×OT)) (w:OT) (x8 x10:Slot),∃c a,forS (gT 2 (gCn (gN 10) (gCn (gN 8) gNl))) (yY R) (bs.map fun b=>.tup [.int b.1,b.2.d]) [a0,a1,a2,a3,a4,a5,a6,a7,x8,.s false (.fz w.d),x10]=
   .ok (.nx [a0,a1,a2,a3,a4,a5,a6,a7,c,.s false (.fz (bs.foldl (fun w b=>OT.bind b.1 b.2 w) w).d),a])
 |[],w,x8,x10=>⟨x8,x10,rfl⟩
 | b::bs,w,x8,x10=>by
   obtain⟨c,a,f⟩:=wrap_loop (R:=R) (a0:=a0) (a1:=a1) (a2:=a2) (a3:=a3) (a4:=a4) (a5:=a5) (a6:=a6) (a7:=a7) bs (.bind b.1 b.2 w) (.s false (.fz b.2.d)) (.s false (.fz (.int b.1)));refine⟨c,a,?_⟩;refine zW rfl ?_ f;exact qXu (o:=.fz (OT.bind b.1 b.2 w).d) (e:=[a0,a1,a2,a3,a4,a5,a6,a7,.s false (.fz b.2.d),.s false (.fz w.d),.s false (.fz (.int b.1))]) rfl rfl
noncomputable def okHs(hs:Hs):Prop:=∀p∈hs,p.2.2.wf
theorem okHs.get{p:List Str×Tm}(a:okHs hs)(e:getA hs f=some p):p.2.wf:=by
 induction hs with
 |nil=>cases e
 | cons q r ih=>
   unfold getA at e;by_cases z:q.1=f
   ·rw[if_pos z]at e;cases e;exact a q (by simp)
   ·rw[if_neg z]at e;exact ih (fun p b=>a p (aM _ b)) e
end

section
variable{hs:Hs}{h:Nat}
theorem vKd{p:List Str×Tm}{st:List O}{s:Sd}{as:List Tm}{x2 x3 x4 x6:Slot}(e:getA hs f=some p):oV (oIx (oFld [2] "helpers" (oN 0)) (oIx (oN 1) (oC (.int 1)))) [.s true (opO hs no st s),.s false (.fz (Tm.call f as).d),x2,x3,x4,x5,x6,x7,x8,x9,x10]=.ok (rowD (f,p),[.s true (opO hs no st s),.s false (.fz (Tm.call f as).d),x2,x3,x4,x5,x6,x7,x8,x9,x10]):=by
 obtain⟨j,h1,_,a⟩:=qXb jC rowD e;refine vO (h1:=.d (rowD (f,p))) (e:=[.s true (opO hs no st s),.s false (.fz (Tm.call f as).d),x2,x3,x4,x5,x6,x7,x8,x9,x10]) ?_ rfl;refine zL (h1:=.p 0 [0]) (h2:=.d (.str f)) (e:=[.s true (opO hs no st s),.s false (.fz (Tm.call f as).d),x2,x3,x4,x5,x6,x7,x8,x9,x10]) (e1:=[.s true (opO hs no st s),.s false (.fz (Tm.call f as).d),x2,x3,x4,x5,x6,x7,x8,x9,x10]) (by kernel_rfl) (by kernel_rfl) rfl (y:=.str f) rfl ?_ rfl;show(((some (Sum.inr f:Key)).bind fun k=>kidx k (qT Sum.inr hs)).bind fun j=>((hs.map fun p=>O.fz (rowD p))[j]?).bind fun o=>some (hnO o 0 ([0] ++ [j])))=_;rw[cB,h1,cB,a];rfl
theorem vVw(u:okHs hs)(m:qQy hs h)(ν:Nm)(f:Str)(as:List Tm)(s:Sd)(no:O)(st:List O)(p:List Str×Tm)(q:Nm×List (Int×OT)×Sd)(w:OT×Sd)(n:(Tm.call f as).wf)(r:getA hs f=some p)(e1:yJ (qM hs h ν) p.1 as s [] []=.ok q)(e2:qM hs h q.1 p.2 q.2.2=.ok w):
  xV (F_Opener_open_term h) [.s true (opO hs no st s),.s false (.fz (Tm.call f as).d),.s false (.fz (nmD ν))]=.ok (.fz (qX5 q.2.1 w.1).d,[.s true (opO hs no st w.2),.un,.un]):=by
 rw[Tm.wf]at n;obtain⟨c,i,j,v⟩:=call_loop m (x9:=.un) (x10:=.un) (a:=.s false (.fz (Tm.call f as).d)) (k3:=.s false (.fz (rowD (f,p)))) (no:=no) (st:=st) p.1 as s [] [] q .un .un .un n.2 (by simp;omega) (by simp;omega) e1;have c2:=m q.1 p.2 q.2.2 no st w (u.get r) e2;have x :=c2;obtain⟨y,l,t⟩:=wrap_loop (R:=F_Opener_open_term h) (a0:=.s true (opO hs no st w.2)) (a1:=.s false (.fz (Tm.call f as).d)) (a2:=.s false (.fz (nmD ν))) (a3:=.s false (.fz (rowD (f,p)))) (a4:=.s false (.fz (nmD q.1))) (a5:=.s false (.fz (fzO (.ow .lst (bindO q.2.1))))) (a6:=c) (a7:=i) q.2.1.reverse w.1 j .un;have z:fzO (.ow .lst (bindO q.2.1))=.nd .lst (q.2.1.map fun b=>.tup [.int b.1,b.2.d]):=by
  have:=vP (k:=.lst) (q.2.1.map fun b=>D.tup [.int b.1,b.2.d]);rw[cL]at this;exact this
 have A:(q.2.1.reverse.foldl (fun w b=>OT.bind b.1 b.2 w) w.1)=qX5 q.2.1 w.1:=by
  unfold qX5;grind
 rw[A]at t;refine vX (o:=.rt (.fz (qX5 q.2.1 w.1).d) [.s true (opO hs no st w.2),.s false (.fz (Tm.call f as).d),.s false (.fz (nmD ν)),.s false (.fz (rowD (f,p))),.s false (.fz (nmD q.1)),.s false (.fz (fzO (.ow .lst (bindO q.2.1)))),c,i,y,.un,l]) ?_ rfl;refine qW (o:=.fz (rowD (f,p))) (vR (vKd r) rfl) ?_
 refine qW (o:=.ow (.dct []) []) rfl ?_
 refine qW (o:=.ow .lst []) rfl ?_
 refine jY (xY (ds:=zipD (p.1.map .str) (Tm.ds as)) (qV4 (xs:=[.tup (p.1.map .str),.tup (Tm.ds as)]) (qZ rfl (qZ rfl (qI rfl) rfl) rfl) rfl rfl) v) ?_
 refine qW (o:=.fz w.1.d) (e:=[.s true (opO hs no st w.2),.s false (.fz (Tm.call f as).d),.s false (.fz (nmD ν)),.s false (.fz (rowD (f,p))),.s false (.fz (nmD q.1)),.s false (.ow .lst (bindO q.2.1)),c,i,j,.un,.un]) ?_ ?_
 ·refine qVr (h0:= .p 0 []) rfl (by kernel_rfl) (hs:=[.d p.2.d, .d (nmD q.1)]) (e1:=[.s true (opO hs no st q.2.2), .s false (.fz (Tm.call f as).d), .s false (.fz (nmD ν)), .s false (.fz (rowD (f,p))), .s false (.fz (nmD q.1)), .s false (.ow .lst (bindO q.2.1)),c,i,j, .un, .un]) ?_ ?_
  ·refine qS (d:=p.2.d) rfl (qS (d:=nmD q.1) (e:=[.s true (opO hs no st q.2.2), .s false (.fz (Tm.call f as).d), .s false (.fz (nmD ν)), .s false (.fz (rowD (f,p))), .s false (.fz (nmD q.1)), .s false (.ow .lst (bindO q.2.1)),c,i,j, .un, .un]) ?_ (vF rfl) rfl) rfl;have g:∀e:Ev,e=[.s true (opO hs no st q.2.2),.s false (.fz (Tm.call f as).d),.s false (.fz (nmD ν)),.s false (.fz (rowD (f,p))),.s false (.ow (.dct (qT Sum.inr q.1)) (q.1.map fun p=>.fz (nmv p))),.s false (.ow .lst (bindO q.2.1)),c,i,j,.un,.un]->oV (oN 4) e=.ok (nmD q.1,[.s true (opO hs no st q.2.2),.s false (.fz (Tm.call f as).d),.s false (.fz (nmD ν)),.s false (.fz (rowD (f,p))),.s false (.fz (nmD q.1)),.s false (.ow .lst (bindO q.2.1)),c,i,j,.un,.un]):=fun e B=>by
    rw[←zXs,B];rfl
   exact g _ rfl
  ·exact qL rfl rfl rfl c2 rfl rfl rfl
 have C:rvL [.nd .lst (q.2.1.map fun b=>.tup [.int b.1,b.2.d])]=some (q.2.1.reverse.map fun b=>D.tup [.int b.1,b.2.d]):=by
  show some (List.reverse _)=_;simp_all
 refine jY (xY (ds:=q.2.1.reverse.map fun b=>D.tup [.int b.1,b.2.d]) (e:=[.s true (opO hs no st w.2),.s false (.fz (Tm.call f as).d),.s false (.fz (nmD ν)),.s false (.fz (rowD (f,p))),.s false (.fz (nmD q.1)),.s false (.fz (fzO (.ow .lst (bindO q.2.1)))),c,i,j,.s false (.fz w.1.d),.un]) (qV4 (xs:=[.nd .lst (q.2.1.map fun b=>.tup [.int b.1,b.2.d])]) ?_ C rfl) t) ?_
 ·rw[←z];exact qZ rfl (qI rfl) rfl
 ·exact jN rfl rfl
theorem vXr(l:okHs hs):∀h:Nat,qQy hs h
 | 0=>fun ν t s d st q _ e=>by cases e
 | h + 1=>fun ν t s d st q j e=>by
   have k:=vXr l h;cases t with
   |num n=>exact qZz ν _ s d st q (.inl ⟨n,rfl⟩) e
   |name x=>exact qZz ν _ s d st q (.inr (.inl ⟨x,rfl⟩)) e
   |flip a b=>exact qZz ν _ s d st q (.inr (.inr (.inl ⟨a,b,rfl⟩))) e
   |pick ps=>exact qZz ν _ s d st q (.inr (.inr (.inr ⟨ps,rfl⟩))) e
   |op g x y=>exact zJ8 k ν g x y s d st q j e
   |rest x n=>exact vY1 k ν x n s d st q j e
   |field x n=>exact vWj k ν x n s d st q j e
   |ite c x y=>exact zV4 k ν c x y s d st q j e
   |rcd xs as=>exact zV3 k ν xs as s d st q j e
   | call f as=>
     have i :(match getA hs f with|none=>Res.no|some p=>(yJ (qM hs h ν) p.1 as s [] []).bind fun q=>(qM hs h q.1 p.2 q.2.2).bind fun w=>.ok (qX5 q.2.1 w.1,w.2))=.ok q:=e;cases e0:getA hs f with
     |none=>rw[e0]at i;cases i
     | some p=>
       rw[e0]at i;obtain⟨r,m,i⟩:=vJ i;obtain⟨w,o,i⟩:=vJ i;cases i;have c:=vVw l k ν f as s d st p r w j e0 m o;unfold F_Opener_open_term;repeat' (first|((with_reducible refine' fnx c ?_);rfl)|array_get_dec)
end
theorem qVu{x:Res α}{f:α->Res β}{C:Nat}{fs:List (Str×D)}(h:x=.er C fs):x.bind f=.er C fs:=by rw[h];rfl

noncomputable def Tm.parts:Tm->List Tm
 |.op _ a b=> [a,b]
 |.rest a _=> [a]
 |.field a _=> [a]
 |.ite c a b=> [c,a,b]
 |.rcd _ as=>as
 |.call _ as=>as
 |_=> []
theorem vYz(n:D):vE [.s false (.fz (.tup [.str "num",n]))]=.ok (.ow .lst [],[.un]):=by kernel_rfl
theorem vWf(n:D):vE [.s false (.fz (.tup [.str "name",n]))]=.ok (.ow .lst [],[.un]):=by kernel_rfl
theorem vWg(a b:D):vE [.s false (.fz (.tup [.str "flip",a,b]))]=.ok (.ow .lst [],[.un]):=by kernel_rfl
theorem vWe(a:D):vE [.s false (.fz (.tup [.str "pick",a]))]=.ok (.ow .lst [],[.un]):=by kernel_rfl
theorem vWh(f:D)(ds:List D):vE [.s false (.fz (.tup [.str "call",f,.tup ds]))]=.ok (.ow .lst (ds.map .fz),[.un]):=by kernel_rfl
theorem vZq(t:Tm)(e:t.wf):vE [.s false (.fz t.d)]=.ok (.ow .lst ((Tm.ds t.parts).map .fz),[.un]):=by
 cases t with
 |num n=>exact vYz _
 |name x=>exact vWf _
 |flip a b=>exact vWg _ _
 |pick ps=>exact vWe _
 |op g a b=>exact vZr _ _ _
 |rest a n=>exact qY9 _ _
 |field a x=>exact qXg _ _
 |ite c a b=>exact vQf _ _ _
 |rcd xs as=>rw[Tm.wf]at e;exact qKa xs as e.1 e.2.1
 |call f as=>exact vWh _ _
mutual
def Tm.h:Tm->Nat
 |.num _=>1
 |.name _=>1
 |.flip _ _=>1
 |.pick _=>1
 |.op _ a b=>max a.h b.h+1
 |.rest a _=>a.h+1
 |.field a _=>a.h+1
 |.ite c a b=>max c.h (max a.h b.h)+1
 |.rcd _ as=>Tm.hs as+1
 |.call _ as=>Tm.hs as+1
def Tm.hs:List Tm->Nat
 |[]=>0
 |a::r=>max a.h (Tm.hs r)
end
theorem vXq(t:Tm):Tm.hs t.parts+1<=t.h:=by
 cases t <;> simp only[Tm.parts,Tm.h,Tm.hs] <;> omega
theorem vZp(t:Tm)(h:t.wf):Tm.wfs t.parts:=by
 cases t <;> simp only[Tm.wf]at h⊢ <;> first|trivial|exact⟨h,trivial⟩|exact⟨h.1,h.2,trivial⟩|exact⟨h.1,h.2.1,h.2.2,trivial⟩|exact h.2.2|exact h.2
mutual
def chkT(kn:Str->Bool)(hl:Nm):Tm->Bool
 |.num _=>true
 |.name x=>kn x
 |.flip _ _=>true
 |.pick _=>true
 |.op _ a b=>chkT kn hl a && chkT kn hl b
 |.rest a _=>chkT kn hl a
 |.field a _=>chkT kn hl a
 |.ite c a b=>chkT kn hl c && (chkT kn hl a && chkT kn hl b)
 |.rcd _ as=>chkTs kn hl as
 |.call f as=>decide (getA hl f=some (as.length:Int)) && chkTs kn hl as
def chkTs(kn:Str->Bool)(hl:Nm):List Tm->Bool
 |[]=>true
 |a::r=>chkT kn hl a && chkTs kn hl r
end
theorem vKy{kn:Str->Bool}{hl:Nm}(t:Tm)(h:chkT kn hl t=true):chkTs kn hl t.parts=true:=by
 cases t <;> simp_all[Tm.parts,chkT,chkTs]
theorem vJu{hl:Nm}{n:Int}(h:getA hl f=some n):qXd e (Sum.inr f) (.d (nmD hl))=some (some (.int n)):=by
 obtain⟨j,a,b,_⟩:=qXb jC nmv h;show(match kidx (Sum.inr f:Key) (qT Sum.inr hl) with|some j=>((hl.map nmv)[j]?).bind fun d=>some (some d)|none=>some none)=_;rw[a];show((hl.map nmv)[j]?).bind _=_;rw[b];rfl
section
variable{kn:Str->Bool}{hl:Nm}{nd r:D}
noncomputable def zQj(kn:Str->Bool)(hl:Nm)(nd r:D)(h:Nat):Prop:=∀t:Tm,t.h<=h->t.wf->chkT kn hl t=true->vV h [.s false (.fz r),.s false (.fz t.d),.s false (.fz nd),.s false (.fz (nmD hl))]=.ok (.fz .non,[.un,.un,.un,.un])
theorem chk_loop{h:Nat}(b:zQj kn hl nd r h){a k:Slot}:∀(ts:List Tm) (x5:Slot),Tm.hs ts<=h->Tm.wfs ts->chkTs kn hl ts=true->
  ∃y,forS (gN 5) (zZ (vV h)) (Tm.ds ts) [.s false (.fz r),a,.s false (.fz nd),.s false (.fz (nmD hl)),k,x5]=.ok (.nx [.s false (.fz r),a,.s false (.fz nd),.s false (.fz (nmD hl)),k,y])
 |[],x5,_,_,_=>⟨x5,rfl⟩
 | t::ts,x5,lh,hw,hc=>by
   rw[Tm.hs]at lh;rw[Tm.wfs]at hw;rw[chkTs,aP]at hc;have c:=b t (by omega) hw.1 hc.1;obtain⟨y,e⟩:=chk_loop b (a:=a) (k:=k) ts (.s false (.fz t.d)) (by omega) hw.2 hc.2;refine⟨y,?_⟩;rw[Tm.ds];refine zW rfl ?_ e;unfold zZ;repeat' (first|((with_reducible refine' fnx c ?_);rfl)|array_get_dec)
set_option maxHeartbeats 400000 in
theorem vQ9(w:∀x,kn x=true->inB (.str x) nd=some true):∀h:Nat,zQj kn hl nd r h
 | 0=>fun t z _ _=>by
   exfalso
   cases t <;> simp only[Tm.h]at z <;> omega
 | h + 1=>fun t z A m=>by
   have B:=vQ9 w h
   have C:=vZq t A
   have J:=vXq t
   have p:∀a k u,∃y,forS (gN 5) (zZ (vV h)) (Tm.ds t.parts) [.s false (.fz r),a,.s false (.fz nd),.s false (.fz (nmD hl)),k,u]=.ok (.nx [.s false (.fz r),a,.s false (.fz nd),.s false (.fz (nmD hl)),k,y]):=fun a k u=>chk_loop B t.parts u (by omega) (vZp t A) (vKy t m)
   have j:∀l:Str,(sIf (bAnd (asB (o2 eqF (oN 4) (oC (.str "name")))) (asB (o2 niD (oIx (oN 1) (oC (.int 1))) (oN 2)))) (wN 24 "row" (oV (oN 0))) sNil) [fz r,fz t.d,fz nd,fz (nmD hl),fz (.str l),.un]=.ok (.nx [fz r,fz t.d,fz nd,fz (nmD hl),fz (.str l),.un])->
     (sIf (bAnd (asB (o2 eqF (oN 4) (oC (.str "call")))) (asB (o2 neF (.v (qVk (pOf (oN 3)) (pOf (oIx (oN 1) (oC (.int 1)))))) (oL lenD [(oIx (oN 1) (oC (.int 2)))])))) (wN 24 "row" (oV (oN 0))) sNil) [fz r,fz t.d,fz nd,fz (nmD hl),fz (.str l),.un]=.ok (.nx [fz r,fz t.d,fz nd,fz (nmD hl),fz (.str l),.un])->
     oV (oIx (oN 0 |> fun _=>oN 1) (oC (.int 0))) [fz r,fz t.d,fz nd,fz (nmD hl),.un,.un]=.ok (.str l,[fz r,fz t.d,fz nd,fz (nmD hl),.un,.un])->vV (h+1) [.s false (.fz r),.s false (.fz t.d),.s false (.fz nd),.s false (.fz (nmD hl))]=.ok (.fz .non,[.un,.un,.un,.un]):=fun l D E F=>by
    obtain⟨y,G⟩:=p (fz t.d) (fz (.str l)) .un
    have b:sFor (iV (fzS (callS vE [(.v (oV (oN 1)))]))) (gN 5) (zZ (vV h)) [fz r,fz t.d,fz nd,fz (nmD hl),fz (.str l),.un]=.ok (.nx [fz r,fz t.d,fz nd,fz (nmD hl),fz (.str l),y]):=by
     refine xY (ds:=Tm.ds t.parts) (e:=[fz r,fz t.d,fz nd,fz (nmD hl),fz (.str l),.un]) (qK5 (d:=.nd .lst (Tm.ds t.parts)) (v8 (o:=.ow .lst ((Tm.ds t.parts).map .fz)) (vQ (qS rfl (vF rfl) rfl) (qL rfl rfl rfl C rfl rfl rfl)) (by rw[vP];rfl)) rfl rfl) G
    unfold vV
    exact vX (qW (vR F rfl) (qV8 D rfl (qV8 E rfl (sAt b rfl)))) rfl
   cases t with
   |num n=>exact j "num" rfl rfl rfl
   |flip a b=>exact j "flip" rfl rfl rfl
   |pick ps=>exact j "pick" rfl rfl rfl
   |op g a b=>exact j "op" rfl rfl rfl
   |rest a n=>exact j "rest" rfl rfl rfl
   |field a x=>exact j "field" rfl rfl rfl
   |ite c a b=>exact j "if" rfl rfl rfl
   |rcd xs as=>exact j "record" rfl rfl rfl
   | name x=>
     rw[chkT]at m
     have i:=w x m
     have H:niD (.str x) nd=some (.bl false):=by unfold niD;rw[i];rfl
     refine j "name" ?_ rfl rfl
     repeat' (first|array_get_dec|exact H)
   | call f as=>
     rw[chkT,aP]at m
     have g:=of_decide_eq_true m.1
     have ne:(!(((as.length:Nat):Int) == ((Tm.ds as).length :Nat)))=false:=by rw[qQq,aW];simp
     refine j "call" rfl ?_ rfl
     have I:qVk (pOf (oN 3)) (pOf (oIx (oN 1) (oC (.int 1)))) [fz r,fz (Tm.call f as).d,fz nd,fz (nmD hl),fz (.str "call"),.un]=.ok (.int (as.length:Nat),[fz r,fz (Tm.call f as).d,fz nd,fz (nmD hl),fz (.str "call"),.un]):=by
      have:=vJu (e:=[fz r,fz (Tm.call f as).d,fz nd,fz (nmD hl),fz (.str "call"),.un]) g
      show(opt (qXd _ (Sum.inr f) (.d (nmD hl)))).bind _=_
      rw[this];rfl
     refine vZ (q:=false) (e:=[fz r,fz (Tm.call f as).d,fz nd,fz (nmD hl),fz (.str "call"),.un]) (xK (q:=true) (e:=[fz r,fz (Tm.call f as).d,fz nd,fz (nmD hl),fz (.str "call"),.un]) rfl ?_) rfl
     refine jR (d:=.bl (!(((as.length:Nat):Int) == ((Tm.ds as).length :Nat)))) (vO (vU (zD I rfl) rfl rfl rfl rfl rfl rfl) rfl) rfl ?_
     rw[ne]
end

inductive Rw where
 |df (f:Str) (ps:List Str) (b:Tm)|lt (x:Str) (t:Tm)|ag (n:Int) (x:Str) (t:Tm)|see (t:Tm)|ask (t:Tm)
noncomputable def Rw.d:Rw->D
 |.df f ps b=>rowD (f,(ps,b))
 |.lt x t=>.tup [.str "let",.str x,t.d]
 |.ag n x t=>.tup [.str "again",.int n,.str x,t.d]
 |.see t=>.tup [.str "see",t.d]
 |.ask t=>.tup [.str "ask",t.d]
noncomputable def Rw.t:Rw->Tm
 |.df _ _ b=>b
 |.lt _ t=>t
 |.ag _ _ t=>t
 |.see t=>t
 |.ask t=>t
noncomputable abbrev Kn:=List (Str×Unit)
noncomputable abbrev knv:Str×Unit->D:=fun _=>.bl true
noncomputable def knD(kn:Kn):D:=.nd (.dct (qT Sum.inr kn)) (kn.map knv)
noncomputable def knO(kn:Kn):O:=.ow (.dct (qT Sum.inr kn)) (kn.map fun p=>.fz (knv p))
noncomputable def nmO(ν:Nm):O:=.ow (.dct (qT Sum.inr ν)) (ν.map fun p=>.fz (nmv p))
theorem zXu(kn:Kn):fzO (knO kn)=knD kn:=by
 have:=vP (k:=.dct (qT Sum.inr kn)) (kn.map knv);rw[cL]at this;exact this
theorem qYg(ν:Nm):fzO (nmO ν)=nmD ν:=zXs ν
noncomputable def zX(kn:Kn)(x:Str):Bool:=(getA kn x).isSome
theorem zQ2{l:List (Str×α)}{ds:List D}{x:Str}:inB (.str x) (.nd (.dct (qT Sum.inr l)) ds)=some (getA l x).isSome :=by
 show some (kidx (Sum.inr x:Key) (qT Sum.inr l)).isSome =_;cases e:getA l x with
 |none=>rw[qQd jC e];rfl
 | some v=>
   obtain⟨j,a,_⟩:=qXb jC (fun _=>D.non) e;rw[a];rfl
theorem qJ9:∀a:List Str,allV (a.map .str)=some (a.map V.str)
 |[]=>rfl
 | p::a=>by
   show((some (V.str p)).bind fun v=>(allV (a.map .str)).bind fun b=>some (v::b))=_;rw[qJ9 a];rfl
theorem vXv(x:Str):∀a:List Str,x∈a->inV (.str x) (a.map V.str)=true
 |[],h=>by cases h
 | p::a,h=>by
   unfold inV;simp only[aO,List.any_cons,Bool.or_eq_true];rcases aA.mp h with rfl|h
   ·left;show(x == x)=true;simp
   ·right;have:=vXv x a h;unfold inV at this;exact this
theorem zWp{x:Str}{a:List Str}(h:x∈a):inB (.str x) (.tup (a.map .str))=some true:=by
 show((some (V.str x)).bind fun v=>(allV (a.map .str)).bind fun b=>some (inV v b))=_;rw[qJ9];show some (inV (.str x) (a.map V.str))=_;rw[vXv x a h]
theorem putG{κ:Type}[DecidableEq κ]{c:κ->Key}(inj:∀a b,c a=c b->a=b){k:SP}{a:SE}{x:κ}{y:D}{l:List (κ×α)}{v:α}{dv:κ×α->D}(h1:a env=.ok (.fz (dv (x,v)),e))(hs:e[i]?=some (.s io (.ow (.dct (qT c l)) (l.map fun p=>.fz (dv p)))))(h2:k e=some hk)(d:rsv e hk=some y)(f:qXc y=some (c x))(hl:l.length<=1000):
  sPutA (pOf (oN i)) k a env=.ok (.nx (e.set i (.s io (.ow (.dct (qT c (putA l x v))) ((putA l x v).map fun p=>.fz (dv p)))))):=by
 have h:decide ((l.map fun p=>O.fz (dv p)).length <=lim)=true:=decide_eq_true (by rw[aW];exact aG hl (show 1000<=1000000 by decide));have g:getE e i []=some (.ow (.dct (qT c l)) (l.map fun p=>.fz (dv p))):=by unfold getE;rw[hs];rfl
 refine vQ2 (o:=.nx (setE e i [] (putO (qT c l) (l.map fun p=>.fz (dv p)) (c x) (.fz (dv (x,v)))))) (qXx (i:=i) (π:=[]) (q:=(qT c l,l.map fun p=>.fz (dv p))) (key:=c x) h1 ?_ h2 d f ?_ h rfl) ?_
 ·show qKz i e=_;unfold qKz;rw[hs];rfl
 ·unfold qYb;rw[g]
 ·rw [vQ1 inj dv];unfold setE;rw[hs];rfl
theorem vQe{k:SP}{a:SE}{x:Str}{l:List (Str×α)}{v:α}{dv:Str×α->D}(h1:a env=.ok (.fz (dv (x,v)),e))(hs:e[i]?=some (.s io (.ow (.dct (qT Sum.inr l)) (l.map fun p=>.fz (dv p)))))(h2:k e=some hk)(b:rsv e hk=some (.str x))(hl:l.length<=1000):
  sPutA (pOf (oN i)) k a env=.ok (.nx (e.set i (.s io (.ow (.dct (qT Sum.inr (putA l x v))) ((putA l x v).map fun p=>.fz (dv p)))))):=putG jC h1 hs h2 b rfl hl
noncomputable def jK(kn:Kn)(hl:Nm):Rw->Bool
 |.df f ps b=>(getA hl f).isNone && chkT (fun x=>decide (x∈ps)) hl b
 |.ag _ x t=>zX kn x && chkT (zX kn) hl t
 |.lt _ t=>chkT (zX kn) hl t
 |.see t=>chkT (zX kn) hl t
 |.ask t=>chkT (zX kn) hl t
noncomputable def wP(kn:Kn):Rw->Kn
 |.lt x _=>putA kn x ()
 |_=>kn
noncomputable def vG(hl:Nm):Rw->Nm
 |.df f ps _=>putA hl f ((ps.map D.str).length :Nat)
 |_=>hl
noncomputable def zT:List Rw->Kn->Nm->Bool
 |[],_,_=>true
 |r::rs,kn,hl=>jK kn hl r && zT rs (wP kn r) (vG hl r)
section
variable{kn:Kn}{hl:Nm}{p:Slot}{i:Nat}
theorem zXt(x:Str)(h:zX kn x=true):inB (.str x) (knD kn)=some true:=by
 unfold knD;rw[zQ2];unfold zX at h;rw[h]
noncomputable abbrev cE(p:Slot)(kn:Kn)(hl:Nm)(i:Nat)(d:D)(x5:Slot):Ev:=[p,.s false (knO kn),.s false (nmO hl),fz (.int (i:Nat)),fz d,x5]
end
theorem names_step{p:Slot}{kn:Kn}{hl:Nm}(r:Rw)(x5:Slot)(g:r.t.wf)(j:r.t.h<=30)(h1:kn.length<=1000)(h2:hl.length<=1000)(a:jK kn hl r=true):∃m,jG (cE p kn hl i r.d x5)=.ok (.nx (cE p (wP kn r) (vG hl r) i r.d m)):=by
 have k:=fun {t:Tm} {d:D} {u:Str} (s:t.wf) (hb:t.h<=30) (a:chkT (zX kn) hl t=true) (w:oV (oIx (oN 4) (o1 negD (oC (.int 1)))) (cE p kn hl i d (fz (.str u)))=.ok (t.d,cE p kn hl i d (fz (.str u))))=>by
  have c:=vQ9 (kn:=zX kn) (hl:=hl) (nd:=knD kn) (r:=.int (i:Nat)) zXt 30 t hb s a;rw[←qYg,←zXu]at c;exact vQ (F:=vV 30) (env:=cE p kn hl i d (fz (.str u))) (as:=[(.v (oV (oN 3))),(.v (oV (oIx (oN 4) (o1 negD (oC (.int 1)))))),(.b (pOf (oN 1))),(.b (pOf (oN 2)))]) (hs:=[.d (.int (i:Nat)),.d t.d,.p 1 [],.p 2 []]) (qS (d:=.int (i:Nat)) rfl (qS w rfl rfl) rfl) (qL rfl rfl rfl c rfl rfl rfl)
 cases r with
 | df f ps b=>
   have h:=a;change ((getA hl f).isNone && chkT (fun x=>decide (x∈ps)) hl b)=true at h;rw[aP]at h;have y:getA hl f=none:=by simpa using h.1
   have hk:(kidx (Sum.inr f:Key) (qT Sum.inr hl)).isSome =false:=by rw[qQd jC y];rfl
   have c:=vQ9 (kn:=fun x=>decide (x∈ps)) (hl:=hl) (nd:=.tup (ps.map .str)) (r:=.int (i:Nat)) (fun x z=>zWp (of_decide_eq_true z)) 30 b j g h.2;rw[←qYg]at c;exact⟨fz (.str "def"),qW (o:=.fz (.str "def")) rfl (vZ (q:=true) rfl (qB (q:=(kidx (Sum.inr f:Key) (qT Sum.inr hl)).isSome) rfl (qP hk (qN (j9 (e:=cE p kn hl i (Rw.df f ps b).d (fz (.str "def"))) (vQ (hs:=[.d (.int (i:Nat)),.d b.d,.d (.tup (ps.map .str)),.p 2 []]) rfl (qL rfl rfl rfl c rfl rfl rfl)) (vQe (α:=Int) (i:=2) (io:=false) (e:=cE p kn hl i (Rw.df f ps b).d (fz (.str "def"))) (l:=hl) (v:=((ps.map D.str).length :Nat)) (dv:=nmv) (hk:=.d (.str f)) rfl rfl rfl rfl (by omega)))))))⟩
 |lt x t=>exact⟨fz (.str "let"),qW (o:=.fz (.str "let")) rfl (vZ (q:=false) rfl (qB (q:=false) rfl (qN (j9 (k g j a rfl) (vZ (q:=true) rfl (qR rfl (vQe (α:=Unit) (i:=1) (io:=false) (e:=cE p kn hl i (Rw.lt x t).d (fz (.str "let"))) (l:=kn) (v:=()) (dv:=knv) (hk:=.d (.str x)) rfl rfl rfl rfl (by omega))))))))⟩
 | ag n x t=>
   have h:=a;change (zX kn x && chkT (zX kn) hl t)=true at h;rw[aP]at h;have hk:(!(kidx (Sum.inr x:Key) (qT Sum.inr kn)).isSome)=false:=by
    have:=zXt x h.1;change some (kidx (Sum.inr x:Key) (qT Sum.inr kn)).isSome =some true at this;rw[Option.some.inj this];rfl
   exact⟨_,qW (o:=.fz (.str "again")) rfl (vZ (q:=false) rfl (qB (q:= !(kidx (Sum.inr x:Key) (qT Sum.inr kn)).isSome) rfl (qP hk (qN (j9 (k g j h.2 rfl) rfl)))))⟩
 |see t=>exact⟨_,qW (o:=.fz (.str "see")) rfl (vZ (q:=false) rfl (qB (q:=false) rfl (qN (j9 (k g j a rfl) rfl))))⟩
 |ask t=>exact⟨_,qW (o:=.fz (.str "ask")) rfl (vZ (q:=false) rfl (qB (q:=false) rfl (qN (j9 (k g j a rfl) rfl))))⟩
theorem names_loop{p:Slot}:∀(rows:List Rw) (kn:Kn) (hl:Nm) (i:Nat) (x3 x4 x5:Slot),(∀r∈rows,r.t.wf/\r.t.h<=30)->kn.length+rows.length<=1000->hl.length+rows.length<=1000->zT rows kn hl=true->
  ∃e,forS (gT 2 (gCn (gN 3) (gCn (gN 4) gNl))) jG (qVa i (rows.map Rw.d)) [p,.s false (knO kn),.s false (nmO hl),x3,x4,x5]=.ok (.nx (p::e))/\e.length=5
 |[],kn,hl,i,x3,x4,x5,_,_,_,_=>⟨_,rfl,rfl⟩
 | r::rs,kn,hl,i,x3,x4,x5,hw,h1,h2,hc=>by
   change (jK kn hl r && zT rs (wP kn r) (vG hl r))=true at hc;rw[aP]at hc;rw[aK]at h1 h2;obtain⟨a,b⟩:=hw r (by simp);have k:(wP kn r).length <=kn.length+1:=by cases r <;> first|exact xB|(show kn.length<=_;omega)
   have l:(vG hl r).length <=hl.length+1:=by cases r <;> first|exact xB|(show hl.length<=_;omega)
   obtain⟨c,hs⟩:=names_step (p:=p) (i:=i) r x5 a b (by omega) (by omega) hc.1;obtain⟨e,f,g⟩:=names_loop (p:=p) rs (wP kn r) (vG hl r) (i+1) (fz (.int (i:Nat))) (fz r.d) c (fun q j=>hw q (aM _ j)) (by omega) (by omega) hc.2;exact⟨e,zW rfl hs f,g⟩
theorem names_ok(a:List Rw)(b:∀r∈a,r.t.wf/\r.t.h<=30)(hl:a.length<=1000)(c:zT a [] []=true):jM [fz (.nd .lst (a.map Rw.d))]=.ok (.fz .non,[.un]):=by
 obtain⟨e,f,g⟩:=names_loop (p:=fz (.nd .lst (a.map Rw.d))) a [] [] 0 .un .un .un b (by simpa using hl) (by simpa using hl) c;unfold jM;refine vX (o:=.nx (fz (.nd .lst (a.map Rw.d))::e)) (qW (o:=.ow (.dct []) []) rfl (qW (o:=.ow (.dct []) []) rfl (xY (ds:=qVa 0 (a.map Rw.d)) (qV4 (xs:=[.nd .lst (a.map Rw.d)]) (qZ rfl (qI rfl) rfl) rfl rfl) f))) rfl
noncomputable def isDf:Rw->Bool
 |.df _ _ _=>true
 |_=>false
noncomputable def dfP:D->Option D
 |.nd .tup (.str k::r)=>if k="def" then some (.nd .tup (.str k::r)) else none
 |_=>none
theorem jVk(r:Rw):dfP r.d=if isDf r=true then some r.d else none:=by cases r <;> kernel_rfl
theorem defs_ok(c:List Rw)(hl:c.length<=1000)(h:(c.filter isDf).length <=3):yI [fz (.nd .lst (c.map Rw.d))]=.ok (.fz .non,[.un]):=by
 obtain⟨k,a,b⟩:=compL_ok (g:=gN 0) (t:=asB (o2 eqF (oIx (oN 0) (oC (.int 0))) (oC (.str "def")))) (el:=oV (oN 0)) (fun e=>∃u,e=[u]) dfP (ds:=c.map Rw.d) (env:=[.un]) (fun d e i j=>by
  obtain⟨u,rfl⟩:=j;obtain⟨r,_,rfl⟩:=List.mem_map.mp i;refine⟨[fz r.d],rfl,?_⟩;cases r with
  |df f ps b=>exact .inl ⟨[fz (Rw.df f ps b).d],_,[fz (Rw.df f ps b).d],by kernel_rfl,rfl,rfl,_,rfl⟩
  |lt x t=>exact .inr ⟨[fz (Rw.lt x t).d],by kernel_rfl,rfl,_,rfl⟩
  |ag n x t=>exact .inr ⟨[fz (Rw.ag n x t).d],by kernel_rfl,rfl,_,rfl⟩
  |see t=>exact .inr ⟨[fz (Rw.see t).d],by kernel_rfl,rfl,_,rfl⟩
  |ask t=>exact .inr ⟨[fz (Rw.ask t).d],by kernel_rfl,rfl,_,rfl⟩) ⟨_,rfl⟩
 obtain⟨u,rfl⟩:=b;have l:((c.map Rw.d).filterMap dfP).length =(c.filter isDf).length :=by
  clear a h hl;induction c with
  |nil=>rfl
  | cons r rs ih=>
    rw[aO,cG,jVk,List.filter_cons];cases q:isDf r with
    |true=>rw[if_pos rfl,if_pos rfl];show _+1=_+1;rw[ih]
    |false=>rw[if_neg (by simp),if_neg (by simp)];exact ih
 have cl:decide ((c.map Rw.d).length <=lim)=true:=decide_eq_true (by rw[aW];exact aG hl (show 1000<=1000000 by decide));generalize ((c.map Rw.d).filterMap dfP)=fs at *;have m :decide ((3:Int)<(fs.length:Nat))=false:=decide_eq_false (by omega);unfold yI;generalize c.map Rw.d=ds at *;repeat' (first|array_get_dec|exact a|(show(true && decide (ds.length<=lim))=true;rw[cl];rfl))

mutual
theorem qVs:∀{d:D},vD d=true->ndD d=true
 |.non,_=>rfl
 |.int _,_=>rfl
 |.str _,_=>rfl
 |.bl _,_=>rfl
 |.fn _,_=>rfl
 | .nd .tup ds,h=>by
   rw[ndD]
   ·exact flats_nd h
   ·intro _ z;cases z
   ·intro _ z;cases z
 |.nd .lst ds,h=>by cases h
 |.nd (.dct _) ds,h=>by cases h
 |.nd (.dcT _) ds,h=>by cases h
 |.nd (.obj _ _) ds,h=>by cases h
 |.nd (.exc _ _) ds,h=>by cases h
theorem flats_nd:∀{ds:List D},flatDs ds=true->ndDs ds=true
 |[],_=>rfl
 | d::ds,h=>by
   change (vD d && flatDs ds)=true at h;rw[aP]at h;show(ndD d && ndDs ds)=true;rw[qVs h.1,flats_nd h.2];rfl
end
theorem qWz:∀a:List (Int×Int),flatDs (a.map prI)=true
 |[]=>rfl
 |p::a=>by show(vD (prI p) && flatDs (a.map prI))=true;rw[qWz a];rfl
theorem vQo:∀a:List Str,flatDs (a.map .str)=true
 |[]=>rfl
 |p::a=>by show(true && flatDs (a.map .str))=true;rw[vQo a];rfl
mutual
theorem zE:∀t:Tm,vD t.d=true
 |.num n=>by rw[Tm.d];rfl
 |.name x=>by rw[Tm.d];rfl
 |.flip a b=>by rw[Tm.d];rfl
 |.pick ps=>by rw[Tm.d];show(true && (flatDs (ps.map prI) && true))=true;rw[qWz];rfl
 |.op g a b=>by rw[Tm.d];show(true && (true && (vD a.d && (vD b.d && true))))=true;rw[zE a,zE b];rfl
 |.rest a n=>by rw[Tm.d];show(true && (vD a.d && (true && true)))=true;rw[zE a];rfl
 |.field a x=>by rw[Tm.d];show(true && (vD a.d && (true && true)))=true;rw[zE a];rfl
 |.ite c a b=>by rw[Tm.d];show(true && (vD c.d && (vD a.d && (vD b.d && true))))=true;rw[zE c,zE a,zE b];rfl
 |.rcd xs as=>by rw[Tm.d];show(true && (flatDs (zipD (xs.map .str) (Tm.ds as)) && true))=true;rw[flat_tmz xs as];rfl
 |.call f as=>by rw[Tm.d];show(true && (true && (flatDs (Tm.ds as) && true)))=true;rw[flat_tms as];rfl
theorem flat_tms:∀as:List Tm,flatDs (Tm.ds as)=true
 |[]=>by rw[Tm.ds];rfl
 |a::as=>by rw[Tm.ds];show(vD a.d && flatDs (Tm.ds as))=true;rw[zE a,flat_tms as];rfl
theorem flat_tmz:∀(xs:List Str) (as:List Tm),flatDs (zipD (xs.map .str) (Tm.ds as))=true
 |[],_=>rfl
 |x::xs,[]=>by rw[Tm.ds];rfl
 | x::xs,a::as=>by
   rw[Tm.ds];show((true && (vD a.d && true)) && flatDs (zipD (xs.map .str) (Tm.ds as)))=true;rw[zE a,flat_tmz xs as];rfl
end
theorem vZ2(p:Str×(List Str×Tm)):vD (rowD p)=true:=by
 show(true && (true && (flatDs (p.2.1.map .str) && (vD p.2.2.d && true))))=true;rw[vQo,zE];rfl
theorem qZf{f:α->D}(h:∀a,ndD (f a)=true):∀l:List α,ndOs (l.map fun a=>.fz (f a))=true
 |[]=>rfl
 | a::l=>by
   show(ndD (f a) && ndOs (l.map fun a=>.fz (f a)))=true;rw[h,qZf h l];rfl
theorem jQ8(w:List (Int×Int)):ndD (drD w)=true:=by
 unfold drD;rw[ndD]
 ·exact flats_nd (qWz w)
 ·grind
 ·grind
theorem jQ7{hs:Hs}{st:List (Int×OT)}{s:Sd}:ndO (opO hs (nmO ν) (bindO st) s)=true:=by
 show(ndOs (hs.map fun p=>.fz (rowD p)) && (ndOs (ν.map fun p=>.fz (nmv p)) && (ndOs (bindO st) && (ndOs (s.dr.map fun w=>.fz (drD w)) && (true && (true && true))))))=true;rw[qZf (f:=rowD) fun p=>qVs (vZ2 p),qZf (f:=nmv) fun _=>rfl,qZf (f:=drD) jQ8];unfold bindO;rw[qZf (f:=fun b:Int×OT=>D.tup [.int b.1,b.2.d]) fun b=>qVs (by show(true && (vD b.2.d && true))=true;rw[wJ];rfl)];rfl
theorem jVl(ν:Nm):dcFz (nmO ν)=true:=by
 unfold nmO dcFz;grind
structure Os where
 hs:Hs
 ν:Nm
 st:List (Int×OT)
 s:Sd
noncomputable def Os.o(o:Os):O:=opO o.hs (nmO o.ν) (bindO o.st) o.s
noncomputable def qQr(o:Os)(x:Str)(t:Tm):Res Os:=(qM o.hs 30 o.ν t o.s).bind fun q=>.ok {o with ν:=putA o.ν x q.2.sl,st:=o.st ++ [(q.2.sl,q.1)],s:={q.2 with sl:=q.2.sl+1}}
noncomputable def yM(x:Str)(t:Tm):Nat->Os->Res Os
 | 0,o=>.ok o
 |n+1,o=>(qQr o x t).bind (yM x t n)
noncomputable def jT(o:Os):Rw->Res Os
 |.df f ps b=>.ok {o with hs:=putA o.hs f (ps,b)}
 |.lt x t=>qQr o x t
 |.ag n x t=>yM x t n.toNat o
 |.see t=>(qM o.hs 30 o.ν t o.s).bind fun q=>.ok {o with st:=o.st ++ [(-1,q.1)],s:=q.2}
 |.ask t=>(qM o.hs 30 o.ν t o.s).bind fun q=>.ok {o with st:=o.st ++ [(q.2.sl,q.1)],s:={q.2 with sl:=q.2.sl+1}}
noncomputable def xC:List Rw->Os->Res Os
 |[],o=>.ok o
 |r::rs,o=>(jT o r).bind (xC rs)
theorem qY4{st:List (Int×OT)}{i:Int}{t:OT}(h:st.length<=1000):apF (bindO st) (.fz (.tup [.int i,t.d]))=some (.fz .non,bindO (st ++ [(i,t)])):=by
 unfold apF;rw[decide_eq_true (show(bindO st).length <=lim by unfold bindO;rw[aW];exact aG h (show 1000<=1000000 by decide))];unfold bindO;rw[dD];rfl
section
variable{o:Os}
theorem qYv(f:okHs o.hs){t:Tm}(g:t.wf)(e:qM o.hs 30 o.ν t o.s=.ok q){as:List Am}{rest:Ev}(h:rest.all ndS=true){a:SV}(k:a (.s true o.o::rest)=.ok (t.d,.s true o.o::rest)):
  qW9 2 "open_term" (F_Opener_open_term 30) (.io 0) [.v a,(.b (pOf (oFld [2] "names" (oN 0))))] (.s true o.o::rest)=.ok (.fz q.1.d,.s true (opO o.hs (nmO o.ν) (bindO o.st) q.2)::rest):=by
 have c:=vXr f 30 o.ν t o.s (.fz (fzO (nmO o.ν))) (bindO o.st) q g e;rw[←qYg]at c;refine zV6 (h0:=.p 0 []) (e:=.s true o.o::rest) (by kernel_rfl) (by kernel_rfl) (hs:=[.d t.d,.p 0 [1]]) (e1:=.s true o.o::rest) ?_ (i:=0) (j:=1) (by kernel_rfl) ?_
 ·exact qS k (zX1 (h1:=.p 0 [1]) (by kernel_rfl) (by kernel_rfl) (vF rfl) rfl) rfl
 ·refine zV8 (o:=nmO o.ν) (q:=(.fz q.1.d, .s true (opO o.hs (.fz (fzO (nmO o.ν))) (bindO o.st) q.2)::rest)) (by kernel_rfl) ?_ ?_ (by kernel_rfl)
  ·exact qL rfl rfl rfl c rfl rfl rfl
  ·have l:stab (.s true o.o::rest) (.s true (opO o.hs (.fz (fzO (nmO o.ν))) (bindO o.st) q.2)::rest) 0 [1]=true:=by kernel_rfl
   have m:ndO (.fz q.1.d)=true:=qVs (wJ q.1);have n:setE (.s true (opO o.hs (.fz (fzO (nmO o.ν))) (bindO o.st) q.2)::rest) 0 [1] (nmO o.ν)=.s true (opO o.hs (nmO o.ν) (bindO o.st) q.2)::rest:=by kernel_rfl
   have b4:isFz (getE (.s true (opO o.hs (.fz (fzO (nmO o.ν))) (bindO o.st) q.2)::rest) 0 [1])=true:=by kernel_rfl
   dsimp only;rw[l,m,n,b4,jVl,dM,h];show(true && true && (ndO (opO o.hs (nmO o.ν) (bindO o.st) q.2) && true) && true && true)=true;rw[jQ7];rfl
theorem zZd{hs:Hs}{st:List O}{s:Sd}{x:Str}{i:Int}{x2 x3:Slot}(e:getA ν x=some i):oV (oIx (oFld [2] "names" (oN 0)) (oN 1)) [.s true (opO hs (nmO ν) st s),fz (.str x),x2,x3]=.ok (.int i,[.s true (opO hs (nmO ν) st s),fz (.str x),x2,x3]):=by
 obtain⟨j,h1,_,a⟩:=qXb jC nmv e;refine vO (h1:=.d (.int i)) (e:=[.s true (opO hs (nmO ν) st s),fz (.str x),x2,x3]) ?_ rfl;refine zL (h1:=.p 0 [1]) (h2:=.d (.str x)) (e:=[.s true (opO hs (nmO ν) st s),fz (.str x),x2,x3]) (e1:=[.s true (opO hs (nmO ν) st s),fz (.str x),x2,x3]) (by kernel_rfl) (by kernel_rfl) rfl (y:=.str x) rfl ?_ rfl;show(((some (Sum.inr x:Key)).bind fun k=>kidx k (qT Sum.inr ν)).bind fun j=>((ν.map fun p=>O.fz (nmv p))[j]?).bind fun o=>some (hnO o 0 ([1] ++ [j])))=_;rw[cB,h1,cB,a];rfl
theorem zQv(a:okHs o.hs){x:Str}{t:Tm}(b:t.wf)(c:o.ν.length<=1000)(hs:o.st.length<=1000)(e:qQr o x t=.ok o'):j6 [.s true o.o,fz (.str x),fz t.d]=.ok (.fz .non,[.s true o'.o,.un,.un]):=by
 obtain⟨q,e1,e⟩:=vJ e;cases e;have f:decide ((o.ν.map fun p=>O.fz (nmv p)).length <=lim)=true:=decide_eq_true (by rw[aW];exact aG c (show 1000<=1000000 by decide));have g:=vVd (hs:=o.hs) (no:=nmO o.ν) (st:=bindO o.st) (s:=q.2);refine vX (o:=.nx [.s true (opO o.hs (nmO (putA o.ν x q.2.sl)) (bindO (o.st ++ [(q.2.sl,q.1)])) {q.2 with sl:=q.2.sl+1}),fz (.str x),fz t.d,fz q.1.d]) ?_ rfl;refine qW (qYv a b e1 (rest:=[fz (.str x),fz t.d,.un]) (as:=[]) (by show(true && (ndD t.d && (true && true)))=true;rw[qVs (zE t)];rfl) rfl) ?_
 refine jY (e:=[.s true (opO o.hs (nmO (putA o.ν x q.2.sl)) (bindO o.st) {q.2 with sl:=q.2.sl+1}),fz (.str x),fz t.d,fz q.1.d]) ?_ ?_
 ·refine vQ2 (qXx (x:= .fz (.int q.2.sl)) (e:=[.s true (opO o.hs (nmO o.ν) (bindO o.st) {q.2 with sl:=q.2.sl + 1}),fz (.str x),fz t.d,fz q.1.d]) (i:=0) (π:=[1]) (hk:= .d (.str x)) (y:= .str x) (key:=Sum.inr x) (q:=(qT Sum.inr o.ν,o.ν.map fun p=> .fz (nmv p))) ?_ (by kernel_rfl) (by kernel_rfl) rfl rfl (by kernel_rfl) f rfl) ?_
  ·refine qVr (h0:= .p 0 []) (e:=[.s true (opO o.hs (nmO o.ν) (bindO o.st) q.2),fz (.str x),fz t.d,fz q.1.d]) (by kernel_rfl) (by kernel_rfl) (hs:=[]) (e1:=[.s true (opO o.hs (nmO o.ν) (bindO o.st) q.2),fz (.str x),fz t.d,fz q.1.d]) rfl ?_
   exact qL rfl rfl rfl g rfl rfl rfl
  ·dsimp only;rw[vQ1 jC nmv (v:=q.2.sl)];rfl
 ·refine wW (qVn (i:=0) (π:=[2]) (os0:=bindO o.st) (os:=bindO o.st) (x:= .fz (.tup [.int q.2.sl,q.1.d])) (e:=[.s true (opO o.hs (nmO (putA o.ν x q.2.sl)) (bindO o.st) {q.2 with sl:=q.2.sl + 1}),fz (.str x),fz t.d,fz q.1.d]) (by kernel_rfl) (by kernel_rfl) ?_ (by kernel_rfl) (by kernel_rfl) (qY4 hs) rfl) rfl;exact vR (zQ (qZ (zZd (by rw[qQb,if_pos rfl])) (qZ rfl (qI rfl) rfl) rfl) rfl rfl) rfl
end

theorem vX6(r:Rw):vD r.d=true:=by
 cases r with
 |df f ps b=>exact vZ2 _
 |lt x t=>show(true && (true && (vD t.d && true)))=true;rw[zE];rfl
 |ag n x t=>show(true && (true && (true && (vD t.d && true))))=true;rw[zE];rfl
 |see t=>show(true && (vD t.d && true))=true;rw[zE];rfl
 |ask t=>show(true && (vD t.d && true))=true;rw[zE];rfl
section
variable{o:Os}
theorem qQu{x:Str}{t:Tm}(e:qQr o x t=.ok o'):o'.hs=o.hs/\o'.ν.length<=o.ν.length+1/\o'.st.length=o.st.length+1:=by
 obtain⟨q,a,e⟩:=vJ e;cases e;exact⟨rfl,xB,by simp⟩
theorem times_ok{x:Str}{t:Tm}{n:Int}{k:Slot}(b:t.wf):∀(ds:List D) (o o' :Os) (x3 x4:Slot),okHs o.hs->o.ν.length+ds.length<=1000->o.st.length+ds.length<=1000->yM x t ds.length o=.ok o' ->
  ∃a,forS (gN 3) yD ds [.s true o.o,fz (Rw.ag n x t).d,k,x3,x4]=.ok (.nx [.s true o'.o,fz (Rw.ag n x t).d,k,a,x4])
 |[],o,o',x3,x4,_,_,_,e=>by cases e;exact⟨x3,rfl⟩
 | d::ds,o,o',x3,x4,hh,h1,h2,e=>by
   obtain⟨o1,e1,e⟩:=vJ (show(qQr o x t).bind _=_ from e);obtain⟨f,i2,h⟩:=qQu e1;rw[aK]at h1 h2;have c:=zQv hh b (by omega) (by omega) e1;obtain⟨a,g⟩:=times_ok (n:=n) (k:=k) b ds o1 o' (fz d) x4 (by rw[f];exact hh) (by omega) (by omega) e;refine⟨a,zW (e1:=[.s true o.o,fz (Rw.ag n x t).d,k,fz d,x4]) (e2:=[.s true o1.o,fz (Rw.ag n x t).d,k,fz d,x4]) rfl ?_ g⟩;refine wW (o:=.fz .non) (qVr (h0:=.p 0 []) (e:=[.s true o.o,fz (Rw.ag n x t).d,k,fz d,x4]) (by kernel_rfl) (by kernel_rfl) (hs:=[.d (.str x),.d t.d]) (e1:=[.s true o.o,fz (Rw.ag n x t).d,k,fz d,x4]) (by kernel_rfl) ?_) rfl;exact qL rfl rfl rfl c rfl rfl rfl
noncomputable def qW6(r:Rw):Prop:=r.t.wf/\r.t.h<=30/\∀n x t,r=.ag n x t->0<=n/\n<=100
theorem qZi(r:Rw)(b:Str)(x2 x3 x4:Slot)(a:O)(hk:∃l,r.d=.tup (.str b::l)):(sSet 2 (owS (oV (oIx (oN 1) (oC (.int 0)))))) [.s true a,fz r.d,x2,x3,x4]=.ok (.nx [.s true a,fz r.d,fz (.str b),x3,x4]):=by
 obtain⟨l,e⟩:=hk;rw[e];have i:ixN ((.str b::l:List D).length) 0=some 0:=by unfold ixN;simp
 refine qXu (o:=.fz (.str b)) (vR (vO (zL (h1:=.d (.tup (.str b::l))) (h2:=.d (.int 0)) rfl rfl rfl rfl ?_ rfl) rfl) rfl) rfl;show(((yV (.int 0)).bind fun i=>ixN ((.str b::l:List D).length) i).bind fun j=>(.str b::l:List D)[j]?).map Hn.d=_;show((ixN ((.str b::l:List D).length) 0).bind fun j=>(.str b::l:List D)[j]?).map Hn.d=_;rw[i];rfl
noncomputable abbrev wE(o:Os)(r:Rw)(k:Str):Ev:=[.s true o.o,fz r.d,fz (.str k),.un,.un]
theorem zYk(a:okHs o.hs)(r:Rw)(j:qW6 r)(C:o.ν.length<=900)(hs:o.st.length<=900)(hd:o.hs.length<=900)(e:jT o r=.ok o'):j5 [.s true o.o,fz r.d]=.ok (.fz .non,[.s true o'.o,.un]):=by
 obtain⟨g,D,l⟩:=j;unfold j5;cases r with
 | df f ps b=>
   cases e;have m:decide ((o.hs.map fun p=>O.fz (rowD p)).length <=lim)=true:=decide_eq_true (by rw[aW];exact aG hd (show 900<=1000000 by decide));refine vX (o:=.nx [.s true (opO (putA o.hs f (ps,b)) (nmO o.ν) (bindO o.st) o.s),fz (Rw.df f ps b).d,fz (.str "def"),.un,.un]) (qV8 (qZi (.df f ps b) "def" .un .un .un o.o ⟨_,rfl⟩) rfl ?_) rfl;refine vZ (q:=true) (e:=(wE o (.df f ps b) "def")) (by kernel_rfl) (qR rfl ?_);refine vQ2 (qXx (x:=.fz (rowD (f,(ps,b)))) (e:=(wE o (.df f ps b) "def")) (i:=0) (π:=[0]) (hk:=.d (.str f)) (y:=.str f) (key:=Sum.inr f) (q:=(qT Sum.inr o.hs,o.hs.map fun p=>.fz (rowD p))) (by kernel_rfl) (by kernel_rfl) (by kernel_rfl) rfl rfl (by kernel_rfl) m rfl) ?_
   dsimp only;rw[vQ1 jC rowD (v:=(ps,b))];rfl
 | lt x t=>
   have c:=zQv a g (by omega) (by omega) e;refine vX (o:=.nx [.s true o'.o,fz (Rw.lt x t).d,fz (.str "let"),.un,.un]) (qV8 (qZi (.lt x t) "let" .un .un .un o.o ⟨_,rfl⟩) rfl ?_) rfl;refine vZ (q:=false) (e:=(wE o (.lt x t) "let")) (by kernel_rfl) (qP rfl ?_);refine vZ (q:=true) (e:=(wE o (.lt x t) "let")) (by kernel_rfl) (qR rfl ?_);refine wW (o:=.fz .non) (qVr (h0:=.p 0 []) (e:=(wE o (.lt x t) "let")) (by kernel_rfl) (by kernel_rfl) (hs:=[.d (.str x),.d t.d]) (e1:=(wE o (.lt x t) "let")) (by kernel_rfl) ?_) rfl;exact qL rfl rfl rfl c rfl rfl rfl
 | ag n x t=>
   obtain⟨E,F⟩:=l n x t rfl;have u:rg1 [.int n]=some (rngD 0 n.toNat):=by
    show cond (in62 n) _ _=_;have:in62 n=true:=by
     unfold in62;rw[decide_eq_true (by omega),decide_eq_true (by omega)];rfl
    rw[this];rfl
   have h:(rngD 0 n.toNat).length =n.toNat:=by unfold rngD;simp
   have w :yM x t (rngD 0 n.toNat).length o=.ok o' :=by rw[h];exact e
   obtain⟨z,A⟩:=times_ok (n:=n) (k:=fz (.str "again")) g (rngD 0 n.toNat) o o' .un .un a (by rw[h];omega) (by rw[h];omega) w;refine vX (o:=.nx [.s true o'.o,fz (Rw.ag n x t).d,fz (.str "again"),z,.un]) (qV8 (qZi (.ag n x t) "again" .un .un .un o.o ⟨_,rfl⟩) rfl ?_) rfl;refine vZ (q:=false) (e:=(wE o (.ag n x t) "again")) (by kernel_rfl) (qP rfl ?_);refine vZ (q:=false) (e:=(wE o (.ag n x t) "again")) (by kernel_rfl) (qP rfl ?_);refine vZ (q:=true) (e:=(wE o (.ag n x t) "again")) (by kernel_rfl) (qR rfl ?_);exact xY (qV4 (xs:=[.int n]) (e:=(wE o (.ag n x t) "again")) (by kernel_rfl) u rfl) A
 | see t=>
   obtain⟨q,e1,e⟩:=vJ (show(qM o.hs 30 o.ν t o.s).bind _=_ from e);cases e;refine vX (o:=.nx [.s true (opO o.hs (nmO o.ν) (bindO (o.st ++ [(-1,q.1)])) q.2),fz (Rw.see t).d,fz (.str "see"),.un,.un]) (qV8 (qZi (.see t) "see" .un .un .un o.o ⟨_,rfl⟩) rfl ?_) rfl;refine vZ (q:=false) (e:=(wE o (.see t) "see")) (by kernel_rfl) (qP rfl ?_);refine vZ (q:=false) (e:=(wE o (.see t) "see")) (by kernel_rfl) (qP rfl ?_);refine vZ (q:=false) (e:=(wE o (.see t) "see")) (by kernel_rfl) (qP rfl ?_);refine vZ (q:=true) (e:=(wE o (.see t) "see")) (by kernel_rfl) (qR rfl ?_);refine wW (qVn (i:=0) (π:=[2]) (os0:=bindO o.st) (os:=bindO o.st) (x:=.fz (.tup [.int (-1),q.1.d])) (e:=[.s true (opO o.hs (nmO o.ν) (bindO o.st) q.2),fz (Rw.see t).d,fz (.str "see"),.un,.un]) (by kernel_rfl) (by kernel_rfl) ?_ (by kernel_rfl) (by kernel_rfl) (qY4 (by omega)) rfl) rfl;exact vR (zQ (qZ (d:=.int (-1)) (e:=(wE o (.see t) "see")) (by kernel_rfl) (qZ (v8 (qYv a g e1 (as:=[]) (rest:=[fz (Rw.see t).d,fz (.str "see"),.un,.un]) (by show(ndD (Rw.see t).d && (true && (true && (true && true))))=true;rw[qVs (vX6 (.see t))];rfl) (by kernel_rfl)) rfl) (qI rfl) rfl) rfl) rfl rfl) rfl
 | ask t=>
   obtain⟨q,e1,e⟩:=vJ (show(qM o.hs 30 o.ν t o.s).bind _=_ from e);cases e;have B:=vVd (hs:=o.hs) (no:=nmO o.ν) (st:=bindO o.st) (s:=q.2);refine vX (o:=.nx [.s true (opO o.hs (nmO o.ν) (bindO (o.st ++ [(q.2.sl,q.1)])) {q.2 with sl:=q.2.sl+1}),fz (Rw.ask t).d,fz (.str "ask"),.un,fz q.1.d]) (qV8 (qZi (.ask t) "ask" .un .un .un o.o ⟨_,rfl⟩) rfl ?_) rfl;refine vZ (q:=false) (e:=(wE o (.ask t) "ask")) (by kernel_rfl) (qP rfl ?_);refine vZ (q:=false) (e:=(wE o (.ask t) "ask")) (by kernel_rfl) (qP rfl ?_);refine vZ (q:=false) (e:=(wE o (.ask t) "ask")) (by kernel_rfl) (qP rfl ?_);refine vZ (q:=false) (e:=(wE o (.ask t) "ask")) (by kernel_rfl) (qP rfl ?_);refine qW (qYv a g e1 (as:=[]) (rest:=[fz (Rw.ask t).d,fz (.str "ask"),.un,.un]) (by show(ndD (Rw.ask t).d && (true && (true && (true && true))))=true;rw[qVs (vX6 (.ask t))];rfl) (by kernel_rfl)) ?_
   refine wW (qVn (i:=0) (π:=[2]) (os0:=bindO o.st) (os:=bindO o.st) (x:=.fz (.tup [.int q.2.sl,q.1.d])) (e:=[.s true (opO o.hs (nmO o.ν) (bindO o.st) {q.2 with sl:=q.2.sl+1}),fz (Rw.ask t).d,fz (.str "ask"),.un,fz q.1.d]) (by kernel_rfl) (by kernel_rfl) ?_ (by kernel_rfl) (by kernel_rfl) (qY4 (by omega)) rfl) rfl;refine vR (zQ (qZ (d:=.int q.2.sl) (e:=[.s true (opO o.hs (nmO o.ν) (bindO o.st) {q.2 with sl:=q.2.sl+1}),fz (Rw.ask t).d,fz (.str "ask"),.un,fz q.1.d]) (v8 (o:=.fz (.int q.2.sl)) (e:=[.s true (opO o.hs (nmO o.ν) (bindO o.st) {q.2 with sl:=q.2.sl+1}),fz (Rw.ask t).d,fz (.str "ask"),.un,fz q.1.d]) (qVr (h0:=.p 0 []) (e:=[.s true (opO o.hs (nmO o.ν) (bindO o.st) q.2),fz (Rw.ask t).d,fz (.str "ask"),.un,fz q.1.d]) (by kernel_rfl) (by kernel_rfl) (hs:=[]) (e1:=[.s true (opO o.hs (nmO o.ν) (bindO o.st) q.2),fz (Rw.ask t).d,fz (.str "ask"),.un,fz q.1.d]) rfl ?_) rfl) (qZ rfl (qI rfl) rfl) rfl) rfl rfl) rfl;exact qL rfl rfl rfl B rfl rfl rfl
end

noncomputable def zS(st:List (Int×OT)):List D:=st.map fun b=>.tup [.int b.1,b.2.d]
theorem zZ3(st:List (Int×OT)):bindO st=(zS st).map .fz :=by unfold bindO zS;rw[cL];rfl
noncomputable def oneO(st:List (Int×OT))(dd:Dw)(n:Int):O:=.ow (.obj 1 ["steps","draws","slots"]) [.ow .lst ((zS st).map .fz),.ow .lst ((dd.map drD).map .fz),.fz (.int n)]
noncomputable def oneD(st:List (Int×OT))(dd:Dw)(n:Int):D:=.nd (.obj 1 ["steps","draws","slots"]) [.nd .lst (zS st),drsD dd,.int n]
theorem zWb(st:List (Int×OT))(dd:Dw)(n:Int):fzO (oneO st dd n)=oneD st dd n:=by
 show D.nd _ [fzO (.ow .lst ((zS st).map .fz)),fzO (.ow .lst ((dd.map drD).map .fz)),.int n]=_;rw[vP,vP];rfl
theorem zWn(st:List (Int×OT))(dd:Dw)(n:Int)(hd:dd.length<=1000):qQn [.s true (.ow (.obj 1 []) []),fz (.nd .lst (zS st)),fz (drsD dd),fz (.int n)]=.ok (.fz .non,[.s true (oneO st dd n),.un,.un,.un]):=by
 obtain⟨f,a,b⟩:=compL_map (g:=gN 0) (el:=fzS (eF listD [oN 0])) (fun e=>∃u,e=[u]) (fun d=>d) (ds:=dd.map drD) (env:=[.un]) (fun d e hd c=>by
  obtain⟨u,rfl⟩:=c;obtain⟨w,_,rfl⟩:=List.mem_map.mp hd;refine⟨[fz (drD w)],[fz (drD w)],rfl,?_,_,rfl⟩;exact vVl (hs:=[.d (drD w)]) (e:=[fz (drD w)]) rfl (xs:=[drD w]) rfl (ds:=w.map prI) rfl rfl) ⟨_,rfl⟩
 obtain⟨u,rfl⟩:=b;rw[List.map_id']at a;have cl:decide ((dd.map drD).length <=lim)=true:=decide_eq_true (by rw[aW];exact aG hd (show 1000<=1000000 by decide));refine vX (o:=.nx [.s true (oneO st dd n),fz (.nd .lst (zS st)),fz (drsD dd),fz (.int n)]) ?_ rfl;refine jY (e:=[.s true (.ow (.obj 1 ["steps"]) [.ow .lst ((zS st).map .fz)]),fz (.nd .lst (zS st)),fz (drsD dd),fz (.int n)]) (by kernel_rfl) ?_
 refine jY (e:=[.s true (.ow (.obj 1 ["steps","draws"]) [.ow .lst ((zS st).map .fz),.ow .lst ((dd.map drD).map .fz)]),fz (.nd .lst (zS st)),fz (drsD dd),fz (.int n)]) ?_ (by kernel_rfl)
 refine vXe (x:=.ow .lst ((dd.map drD).map .fz)) (e:=[.s true (.ow (.obj 1 ["steps"]) [.ow .lst ((zS st).map .fz)]),fz (.nd .lst (zS st)),fz (drsD dd),fz (.int n)]) ?_ (i:=0) (π:=[]) (by kernel_rfl) (q:=(1,["steps"],[.ow .lst ((zS st).map .fz)])) (by kernel_rfl) (by kernel_rfl) (o' :=.ow (.obj 1 ["steps","draws"]) [.ow .lst ((zS st).map .fz),.ow .lst ((dd.map drD).map .fz)]) (by kernel_rfl) (by kernel_rfl)
 refine qQt (ds:=dd.map drD) (vs:=dd.map drD) (e:=[.s true (.ow (.obj 1 ["steps"]) [.ow .lst ((zS st).map .fz)]),fz (.nd .lst (zS st)),fz (drsD dd),fz (.int n)]) (by kernel_rfl) ?_ a (by kernel_rfl);rw[cl];rfl
theorem vJd{o:Os}{r:Rw}(h:qW6 r)(e:jT o r=.ok o')(i:okHs o.hs):okHs o'.hs/\o'.ν.length<=o.ν.length+101/\o'.st.length<=o.st.length+101/\o'.hs.length<=o.hs.length+1:=by
 have j:∀(x:Str) (t:Tm) (n:Nat) (o o' :Os),yM x t n o=.ok o' ->o'.hs=o.hs/\o'.ν.length<=o.ν.length+n/\o'.st.length<=o.st.length+n:=fun x t n=>by
  induction n with
  |zero=>intro o o' e;cases e;exact⟨rfl,by omega,by omega⟩
  | succ n ih=>
    intro o o' e;obtain⟨o1,d,e⟩:=vJ (show(qQr o x t).bind _=_ from e);obtain⟨a,b,c⟩:=qQu d;grind
 cases r with
 | df f ps b=>
   cases e;refine⟨?_,by show o.ν.length<=_;omega,by show o.st.length<=_;omega,xB⟩;have hb:b.wf:=h.1;have:∀l:Hs,okHs l->okHs (putA l f (ps,b)):=fun l=>by
    induction l with
    |nil=>intro _ p hp;cases bW.mp hp;exact hb
    | cons q r ih=>
      intro g;unfold putA;by_cases z:q.1=f
      ·rw [if_pos z];intro p hp;rcases aA.mp hp with rfl|hp
       ·exact hb
       ·exact g p (aM _ hp)
      ·rw [if_neg z];intro p hp;rcases aA.mp hp with rfl|hp
       ·exact g _ (by simp)
       ·exact ih (fun p hp=>g p (aM _ hp)) p hp
   grind
 |lt x t=>obtain⟨a,b,c⟩:=qQu e;exact⟨by rw[a];exact i,by omega,by omega,by rw[a];omega⟩
 | ag n x t=>
   obtain⟨k,m⟩:=h.2.2 n x t rfl;obtain⟨a,b,c⟩:=j x t n.toNat o o' e;grind
 | see t=>
   obtain⟨q,d,e⟩:=vJ (show(qM o.hs 30 o.ν t o.s).bind _=_ from e);grind
 | ask t=>
   obtain⟨q,d,e⟩:=vJ (show(qM o.hs 30 o.ν t o.s).bind _=_ from e);grind
noncomputable def room(o:Os)(a:List Rw):Prop:=(∀b c o1,a=b ++ c->xC b o=.ok o1->o1.ν.length<=900/\o1.st.length<=900/\o1.hs.length<=900)
theorem rows_ok{p:Slot}:∀(rows:List Rw) (o o' :Os) (x2:Slot),okHs o.hs->(∀r∈rows,qW6 r)->room o rows->xC rows o=.ok o' ->
  ∃a,forS (gN 2) qKj (rows.map Rw.d) [p,.s false o.o,x2]=.ok (.nx [p,.s false o'.o,a])
 |[],o,o',x2,_,_,_,e=>by cases e;exact⟨x2,rfl⟩
 | r::rs,o,o',x2,hh,hw,hm,e=>by
   obtain⟨o1,e1,e⟩:=vJ (show(jT o r).bind _=_ from e);obtain⟨h,i,j⟩:=hm [] (r::rs) o rfl rfl;have g:=hw r (by simp);obtain⟨k,_⟩:=vJd g e1 hh;have c:=zYk hh r g h i j e1;obtain⟨a,l⟩:=rows_ok (p:=p) rs o1 o' (fz r.d) k (fun q m=>hw q (aM _ m)) (fun b f o2 n t=>hm (r::b) f o2 (by rw[n];rfl) (by show(jT o r).bind _=_;rw[e1];exact t)) e;refine⟨a,zW (e1:=[p,.s false o.o,fz r.d]) (e2:=[p,.s false o1.o,fz r.d]) rfl ?_ l⟩;refine wW (o:=.fz .non) (qVr (h0:=.p 1 []) (e:=[p,.s false o.o,fz r.d]) (by kernel_rfl) (by kernel_rfl) (hs:=[.d r.d]) (e1:=[p,.s false o.o,fz r.d]) (by kernel_rfl) ?_) rfl;exact qL rfl rfl rfl c rfl rfl rfl
noncomputable def os0:Os:=⟨[],[],[],⟨[],0,0⟩⟩
theorem zJ7:qXa 2 qQm [] [p,.un,.un]=.ok (os0.o,[p,.un,.un]):=by kernel_rfl
theorem vY0(a:List Rw)(o:Os)(b:∀r∈a,qW6 r)(hl:a.length<=1000)(g:zT a [] []=true)(h:(a.filter isDf).length <=3)(i:room os0 a)(hd:o.s.dr.length<=1000)(e:xC a os0=.ok o):wQ [fz (.nd .lst (a.map Rw.d))]=.ok (oneO o.st o.s.dr o.s.sl,[.un]):=by
 have j:=names_ok a (fun r c=>⟨(b r c).1,(b r c).2.1⟩) hl g;have c2:=defs_ok a hl h;obtain⟨f,l⟩:=rows_ok (p:=fz (.nd .lst (a.map Rw.d))) a os0 o .un (fun p m=>nomatch m) b i e;have n:=zWn o.st o.s.dr o.s.sl hd;have t:fzO (.ow .lst (bindO o.st))=.nd .lst (zS o.st):=by rw[zZ3,vP]
 have u:fzO (.ow .lst (o.s.dr.map fun w=>.fz (drD w)))=drsD o.s.dr:=by
  have:=vP (k:=.lst) (o.s.dr.map drD);rw[cL]at this;exact this
 refine vX (o:=.rt (oneO o.st o.s.dr o.s.sl) [fz (.nd .lst (a.map Rw.d)),.s false (.ow (.obj 2 ["helpers","names","steps","draws","slots","terms"]) [.ow (.dct (qT Sum.inr o.hs)) (o.hs.map fun p=>.fz (rowD p)),nmO o.ν,.fz (.nd .lst (zS o.st)),.fz (drsD o.s.dr),.fz (.int o.s.sl),.fz (.int o.s.tm)]),f]) ?_ rfl;refine j9 (o:=.fz .non) (e:=[fz (.nd .lst (a.map Rw.d)),.un,.un]) (vQ (qS rfl (vF rfl) rfl) (qL rfl rfl rfl j rfl rfl rfl)) ?_
 refine j9 (o:=.fz .non) (e:=[fz (.nd .lst (a.map Rw.d)),.un,.un]) (vQ (qS rfl (vF rfl) rfl) (qL rfl rfl rfl c2 rfl rfl rfl)) ?_
 refine qW zJ7 ?_
 refine jY (xY (ds:=a.map Rw.d) (e:=[fz (.nd .lst (a.map Rw.d)),.s false os0.o,.un]) rfl l) ?_
 refine jN (vXt (q:=(.fz .non,[])) (hs:=[.d (.nd .lst (zS o.st)),.d (drsD o.s.dr),.d (.int o.s.sl)]) (e:=[fz (.nd .lst (a.map Rw.d)),.s false (.ow (.obj 2 ["helpers","names","steps","draws","slots","terms"]) [.ow (.dct (qT Sum.inr o.hs)) (o.hs.map fun p=>.fz (rowD p)),nmO o.ν,.fz (.nd .lst (zS o.st)),.fz (drsD o.s.dr),.fz (.int o.s.sl),.fz (.int o.s.tm)]),f]) ?_ (qL rfl rfl rfl n rfl rfl rfl) rfl rfl) rfl;rw[←t,←u];kernel_rfl

theorem zZo{hl:Nm}(h:getA hl f=none):qXd e (Sum.inr f) (.d (nmD hl))=some none:=by
 show(match kidx (Sum.inr f:Key) (qT Sum.inr hl) with|some j=>((hl.map nmv)[j]?).bind fun d=>some (some d)|none=>some none)=_;rw[qQd jC h]
section
variable{kn:Str->Bool}{hl:Nm}{nd r:D}
noncomputable def ErC(kn:Str->Bool)(hl:Nm)(nd r:D)(h:Nat):Prop:=∀t:Tm,t.h<=h->t.wf->chkT kn hl t=false->vV h [.s false (.fz r),.s false (.fz t.d),.s false (.fz nd),.s false (.fz (nmD hl))]=.er 24 [("row",r)]
theorem vYg{h:Nat}(b:zQj kn hl nd r h)(e:ErC kn hl nd r h){k:Slot}:∀(ts:List Tm) (x5:Slot),Tm.hs ts<=h->Tm.wfs ts->chkTs kn hl ts=false->
  forS (gN 5) (zZ (vV h)) (Tm.ds ts) [.s false (.fz r),a,.s false (.fz nd),.s false (.fz (nmD hl)),k,x5]=.er 24 [("row",r)]
 |[],_,_,_,hc=>by rw[chkTs]at hc;cases hc
 | t::ts,x5,lh,hw,hc=>by
   rw[Tm.hs]at lh;rw[Tm.wfs]at hw;rw[chkTs]at hc;rw[Tm.ds];cases q:chkT kn hl t with
   | false=>
     have c:=e t (by omega) hw.1 q;refine vX3 (e1:=[.s false (.fz r),a,.s false (.fz nd),.s false (.fz (nmD hl)),k,.s false (.fz t.d)]) rfl ?_
     unfold zZ;exact qVu (vQ (hs:=[.d r,.d t.d,.d nd,.d (nmD hl)]) rfl (qZm rfl rfl rfl c))
   | true=>
     rw[q]at hc;have c:=b t (by omega) hw.1 q;refine zW rfl ?_ (vYg b e (k:=k) ts (.s false (.fz t.d)) (by omega) hw.2 hc)
     unfold zZ;repeat' (first|((with_reducible refine' fnx c ?_);rfl)|array_get_dec)
noncomputable abbrev tst1:SS:=(sIf (bAnd (asB (o2 eqF (oN 4) (oC (.str "name")))) (asB (o2 niD (oIx (oN 1) (oC (.int 1))) (oN 2)))) (wN 24 "row" (oV (oN 0))) sNil)
noncomputable abbrev tst2:SS:=(sIf (bAnd (asB (o2 eqF (oN 4) (oC (.str "call")))) (asB (o2 neF (.v (qVk (pOf (oN 3)) (pOf (oIx (oN 1) (oC (.int 1)))))) (oL lenD [(oIx (oN 1) (oC (.int 2)))])))) (wN 24 "row" (oV (oN 0))) sNil)
set_option maxHeartbeats 400000 in
theorem vJz(u:∀x,inB (.str x) nd=some (kn x)):∀h:Nat,ErC kn hl nd r h
 | 0=>fun t w _ _=>by
   exfalso
   cases t <;> simp only[Tm.h]at w <;> omega
 | h + 1=>fun t w y i=>by
   have B:=vQ9 (hl:=hl) (r:=r) (kn:=kn) (nd:=nd) (fun x C=>by rw[u,C]) h
   have D:=vJz u h
   have E:=vZq t y
   have M:=vXq t
   have j:∀l:Str,chkTs kn hl t.parts=false->tst1 [fz r,fz t.d,fz nd,fz (nmD hl),fz (.str l),.un]=.ok (.nx [fz r,fz t.d,fz nd,fz (nmD hl),fz (.str l),.un])->
     tst2 [fz r,fz t.d,fz nd,fz (nmD hl),fz (.str l),.un]=.ok (.nx [fz r,fz t.d,fz nd,fz (nmD hl),fz (.str l),.un])->
     oV (oIx (oN 1) (oC (.int 0))) [fz r,fz t.d,fz nd,fz (nmD hl),.un,.un]=.ok (.str l,[fz r,fz t.d,fz nd,fz (nmD hl),.un,.un])->vV (h+1) [.s false (.fz r),.s false (.fz t.d),.s false (.fz nd),.s false (.fz (nmD hl))]=.er 24 [("row",r)]:=fun l F G H I=>by
    have J:=vYg B D (a:=fz t.d) (k:=fz (.str l)) t.parts .un (by omega) (vZp t y) F
    have b:sFor (iV (fzS (callS vE [(.v (oV (oN 1)))]))) (gN 5) (zZ (vV h)) [fz r,fz t.d,fz nd,fz (nmD hl),fz (.str l),.un]=.er 24 [("row",r)]:=by
     refine xY (ds:=Tm.ds t.parts) (e:=[fz r,fz t.d,fz nd,fz (nmD hl),fz (.str l),.un]) (qK5 (d:=.nd .lst (Tm.ds t.parts)) (v8 (o:=.ow .lst ((Tm.ds t.parts).map .fz)) (vQ (qS rfl (vF rfl) rfl) (qL rfl rfl rfl E rfl rfl rfl)) (by rw[vP];rfl)) rfl rfl) J
    unfold vV
    exact qYi (qW (vR I rfl) (qV8 G rfl (qV8 H rfl (sAt b rfl))))
   cases t with
   |num n=>rw[chkT]at i;cases i
   |flip a b=>rw[chkT]at i;cases i
   |pick ps=>rw[chkT]at i;cases i
   |op g a b=>rw[chkT]at i;exact j "op" (by rw[Tm.parts,chkTs,chkTs,chkTs,Bool.and_true];exact i) rfl rfl rfl
   |rest a n=>rw[chkT]at i;exact j "rest" (by rw[Tm.parts,chkTs,chkTs,Bool.and_true];exact i) rfl rfl rfl
   |field a x=>rw[chkT]at i;exact j "field" (by rw[Tm.parts,chkTs,chkTs,Bool.and_true];exact i) rfl rfl rfl
   |ite c a b=>rw[chkT]at i;exact j "if" (by rw[Tm.parts,chkTs,chkTs,chkTs,chkTs,Bool.and_true];exact i) rfl rfl rfl
   |rcd xs as=>rw[chkT]at i;exact j "record" i rfl rfl rfl
   | name x=>
     rw[chkT]at i
     have K:niD (.str x) nd=some (.bl true):=by unfold niD;rw[u,i];rfl
     unfold vV
     refine qYi (qW (o:=.fz (.str "name")) (e:=[fz r,fz (Tm.name x).d,fz nd,fz (nmD hl),.un,.un]) rfl (qB (q:=true) (e:=[fz r,fz (Tm.name x).d,fz nd,fz (nmD hl),fz (.str "name"),.un]) ?_ (qR rfl (qQw (qZy rfl)))))
     repeat' (first|array_get_dec|exact K)
   | call f as=>
     rw[chkT]at i
     have A:((Tm.ds as).length :Nat)=as.length:=by rw[qQq,aW]
     by_cases g:getA hl f=some (as.length:Int)
     ·rw [decide_eq_true g,Bool.true_and] at i
      have ne:(!(((as.length:Nat):Int) == ((Tm.ds as).length :Nat)))=false:=by rw[A];simp
      refine j "call" i rfl ?_ rfl
      have p:qVk (pOf (oN 3)) (pOf (oIx (oN 1) (oC (.int 1)))) [fz r,fz (Tm.call f as).d,fz nd,fz (nmD hl),fz (.str "call"),.un]=.ok (.int (as.length:Nat),[fz r,fz (Tm.call f as).d,fz nd,fz (nmD hl),fz (.str "call"),.un]):=by
       have:=vJu (e:=[fz r,fz (Tm.call f as).d,fz nd,fz (nmD hl),fz (.str "call"),.un]) g
       show(opt (qXd _ (Sum.inr f) (.d (nmD hl)))).bind _=_
       rw[this];rfl
      refine vZ (q:=false) (e:=[fz r,fz (Tm.call f as).d,fz nd,fz (nmD hl),fz (.str "call"),.un]) (xK (q:=true) (e:=[fz r,fz (Tm.call f as).d,fz nd,fz (nmD hl),fz (.str "call"),.un]) rfl ?_) rfl
      refine jR (d:=.bl (!(((as.length:Nat):Int) == ((Tm.ds as).length :Nat)))) (vO (vU (zD p rfl) rfl rfl rfl rfl rfl rfl) rfl) rfl ?_
      rw[ne]
     ·have L:asB (o2 neF (.v (qVk (pOf (oN 3)) (pOf (oIx (oN 1) (oC (.int 1)))))) (oL lenD [(oIx (oN 1) (oC (.int 2)))])) [fz r,fz (Tm.call f as).d,fz nd,fz (nmD hl),fz (.str "call"),.un]=.ok (true,[fz r,fz (Tm.call f as).d,fz nd,fz (nmD hl),fz (.str "call"),.un]):=by
       cases q:getA hl f with
       | none=>
         have p:qVk (pOf (oN 3)) (pOf (oIx (oN 1) (oC (.int 1)))) [fz r,fz (Tm.call f as).d,fz nd,fz (nmD hl),fz (.str "call"),.un]=.ok (.non,[fz r,fz (Tm.call f as).d,fz nd,fz (nmD hl),fz (.str "call"),.un]):=by
          show(opt (qXd _ (Sum.inr f) (.d (nmD hl)))).bind _=_
          rw[zZo q];rfl
         exact jR (d:=.bl true) (vO (vU (zD p rfl) rfl rfl rfl rfl rfl rfl) rfl) rfl rfl
       | some m=>
         have p:qVk (pOf (oN 3)) (pOf (oIx (oN 1) (oC (.int 1)))) [fz r,fz (Tm.call f as).d,fz nd,fz (nmD hl),fz (.str "call"),.un]=.ok (.int m,[fz r,fz (Tm.call f as).d,fz nd,fz (nmD hl),fz (.str "call"),.un]):=by
          show(opt (qXd _ (Sum.inr f) (.d (nmD hl)))).bind _=_
          rw[vJu q];rfl
         have ne:(!(m == ((Tm.ds as).length :Nat)))=true:=by
          rw[A]
          simp only[dG,beq_eq_false_iff_ne]
          intro z
          exact g (by rw[q,z])
         refine jR (d:=.bl (!(m == ((Tm.ds as).length :Nat)))) (vO (vU (zD p rfl) rfl rfl rfl rfl rfl rfl) rfl) rfl ?_
         rw[ne]
      unfold vV
      exact qYi (qW (o:=.fz (.str "call")) (e:=[fz r,fz (Tm.call f as).d,fz nd,fz (nmD hl),.un,.un]) rfl (qB (q:=false) (e:=[fz r,fz (Tm.call f as).d,fz nd,fz (nmD hl),fz (.str "call"),.un]) rfl (qP rfl (qN (qB (q:=true) (e:=[fz r,fz (Tm.call f as).d,fz nd,fz (nmD hl),fz (.str "call"),.un]) (xK (q:=true) (e:=[fz r,fz (Tm.call f as).d,fz nd,fz (nmD hl),fz (.str "call"),.un]) rfl (qR rfl L)) (qR rfl (qQw (qZy rfl))))))))
end
theorem qYz(x:Str):∀a:List Str,inV (.str x) (a.map V.str)=decide (x∈a)
 |[]=>rfl
 | p::a=>by
   have:=qYz x a;unfold inV at this⊢;rw[aO,List.any_cons,this];show((p == x) || _)=_;by_cases h:p=x
   ·subst h;simp
   ·rw[show(p == x)=false by simpa using h];simp[Ne.symm h]
theorem vZz(x:Str)(a:List Str):inB (.str x) (.tup (a.map .str))=some (decide (x∈a)):=by
 show((some (V.str x)).bind fun v=>(allV (a.map .str)).bind fun b=>some (inV v b))=_;rw[qJ9];show some (inV (.str x) (a.map V.str))=_;rw[qYz]
theorem zQx(kn:Kn)(x:Str):inB (.str x) (knD kn)=some (zX kn x):=by
 unfold knD;rw[zQ2];rfl
theorem vJe{p:Slot}{kn:Kn}{hl:Nm}(r:Rw)(x5:Slot)(g:r.t.wf)(k:r.t.h<=30)(a:jK kn hl r=false):jG (cE p kn hl i r.d x5)=.er 24 [("row",.int (i:Nat))]:=by
 have m:=fun {t:Tm} {d:D} {u:Str} (w:t.wf) (hb:t.h<=30) (a:chkT (zX kn) hl t=false) (y:oV (oIx (oN 4) (o1 negD (oC (.int 1)))) (cE p kn hl i d (fz (.str u)))=.ok (t.d,cE p kn hl i d (fz (.str u))))=>by
  have c:=vJz (kn:=zX kn) (hl:=hl) (nd:=knD kn) (r:=.int (i:Nat)) (zQx kn) 30 t hb w a;rw[←qYg,←zXu]at c;exact vQ (F:=vV 30) (env:=cE p kn hl i d (fz (.str u))) (as:=[(.v (oV (oN 3))),(.v (oV (oIx (oN 4) (o1 negD (oC (.int 1)))))),(.b (pOf (oN 1))),(.b (pOf (oN 2)))]) (hs:=[.d (.int (i:Nat)),.d t.d,.p 1 [],.p 2 []]) (qS (d:=.int (i:Nat)) rfl (qS y rfl rfl) rfl) (qZm rfl rfl rfl c)
 cases r with
 | df f ps b=>
   have h:((getA hl f).isNone && chkT (fun x=>decide (x∈ps)) hl b)=false:=a;cases gn:getA hl f with
   | some v=>
     have s:(kidx (Sum.inr f:Key) (qT Sum.inr hl)).isSome =true:=by
      obtain⟨j,z,_⟩:=qXb jC (fun _=>D.non) gn;rw[z];rfl
     exact qW (o:=.fz (.str "def")) (e:=cE p kn hl i (Rw.df f ps b).d x5) rfl (vZ (q:=true) (e:=cE p kn hl i (Rw.df f ps b).d (fz (.str "def"))) rfl (qR rfl (qB (q:=(kidx (Sum.inr f:Key) (qT Sum.inr hl)).isSome) (e:=cE p kn hl i (Rw.df f ps b).d (fz (.str "def"))) rfl (qR s (qQw (qZy rfl))))))
   | none=>
     rw[gn]at h;have s:(kidx (Sum.inr f:Key) (qT Sum.inr hl)).isSome =false:=by rw[qQd jC gn];rfl
     have c:=vJz (kn:=fun x=>decide (x∈ps)) (hl:=hl) (nd:=.tup (ps.map .str)) (r:=.int (i:Nat)) (fun x=>vZz x ps) 30 b k g (by simpa using h);rw[←qYg]at c;exact qW (o:=.fz (.str "def")) (e:=cE p kn hl i (Rw.df f ps b).d x5) rfl (vZ (q:=true) (e:=cE p kn hl i (Rw.df f ps b).d (fz (.str "def"))) rfl (qR rfl (qB (q:=(kidx (Sum.inr f:Key) (qT Sum.inr hl)).isSome) (e:=cE p kn hl i (Rw.df f ps b).d (fz (.str "def"))) rfl (qP s (qN (qQw (qVu (vQ (hs:=[.d (.int (i:Nat)),.d b.d,.d (.tup (ps.map .str)),.p 2 []]) rfl (qZm rfl rfl rfl c)))))))))
 |lt x t=>exact qW (o:=.fz (.str "let")) (e:=cE p kn hl i (Rw.lt x t).d x5) rfl (vZ (q:=false) (e:=cE p kn hl i (Rw.lt x t).d (fz (.str "let"))) rfl (qP rfl (qB (q:=false) (e:=cE p kn hl i (Rw.lt x t).d (fz (.str "let"))) rfl (qP rfl (qN (qQw (qVu (m g k a rfl))))))))
 |see t=>exact qW (o:=.fz (.str "see")) (e:=cE p kn hl i (Rw.see t).d x5) rfl (vZ (q:=false) (e:=cE p kn hl i (Rw.see t).d (fz (.str "see"))) rfl (qP rfl (qB (q:=false) (e:=cE p kn hl i (Rw.see t).d (fz (.str "see"))) rfl (qP rfl (qN (qQw (qVu (m g k a rfl))))))))
 |ask t=>exact qW (o:=.fz (.str "ask")) (e:=cE p kn hl i (Rw.ask t).d x5) rfl (vZ (q:=false) (e:=cE p kn hl i (Rw.ask t).d (fz (.str "ask"))) rfl (qP rfl (qB (q:=false) (e:=cE p kn hl i (Rw.ask t).d (fz (.str "ask"))) rfl (qP rfl (qN (qQw (qVu (m g k a rfl))))))))
 | ag n x t=>
   have h:(zX kn x && chkT (zX kn) hl t)=false:=a;have l:bAnd (asB (o2 eqF (oN 5) (oC (.str "again")))) (asB (o2 niD (oIx (oN 4) (oC (.int 2))) (oN 1))) (cE p kn hl i (Rw.ag n x t).d (fz (.str "again")))=.ok (!(kidx (Sum.inr x:Key) (qT Sum.inr kn)).isSome,cE p kn hl i (Rw.ag n x t).d (fz (.str "again"))):=rfl;have A:(kidx (Sum.inr x:Key) (qT Sum.inr kn)).isSome =zX kn x:=Option.some.inj (zQx kn x);rw[A]at l;cases q:zX kn x with
   | false=>
     rw[q]at l;exact qW (o:=.fz (.str "again")) (e:=cE p kn hl i (Rw.ag n x t).d x5) rfl (vZ (q:=false) (e:=cE p kn hl i (Rw.ag n x t).d (fz (.str "again"))) rfl (qP rfl (qB l (qR rfl (qQw (qZy rfl))))))
   | true=>
     rw[q]at l h;exact qW (o:=.fz (.str "again")) (e:=cE p kn hl i (Rw.ag n x t).d x5) rfl (vZ (q:=false) (e:=cE p kn hl i (Rw.ag n x t).d (fz (.str "again"))) rfl (qP rfl (qB l (qP rfl (qN (qQw (qVu (m g k h rfl))))))))
theorem vQh{p:Slot}{r:Rw}{rest:List Rw}:∀(rows:List Rw) (kn:Kn) (hl:Nm) (i:Nat) (x3 x4 x5:Slot),(∀q∈rows,q.t.wf/\q.t.h<=30)->r.t.wf/\r.t.h<=30->kn.length+rows.length<=1000->hl.length+rows.length<=1000->zT rows kn hl=true->jK (rows.foldl wP kn) (rows.foldl vG hl) r=false->
  forS (gT 2 (gCn (gN 3) (gCn (gN 4) gNl))) jG (qVa i ((rows ++ r::rest).map Rw.d)) [p,.s false (knO kn),.s false (nmO hl),x3,x4,x5]=.er 24 [("row",.int (i+rows.length:Nat))]
 |[],kn,hl,i,x3,x4,x5,_,hr,_,_,_,hx=>vX3 (e1:=cE p kn hl i r.d x5) rfl (vJe r x5 hr.1 hr.2 hx)
 | q::rs,kn,hl,i,x3,x4,x5,hw,hr,h1,h2,hc,hx=>by
   change (jK kn hl q && zT rs (wP kn q) (vG hl q))=true at hc;rw[aP]at hc;rw[aK]at h1 h2;obtain⟨a,b⟩:=hw q (by simp);have g:(wP kn q).length <=kn.length+1:=by cases q <;> first|exact xB|(show kn.length<=_;omega)
   have j:(vG hl q).length <=hl.length+1:=by cases q <;> first|exact xB|(show hl.length<=_;omega)
   obtain⟨c,hs⟩:=names_step (p:=p) (i:=i) q x5 a b (by omega) (by omega) hc.1;have e:=vQh (p:=p) (r:=r) (rest:=rest) rs (wP kn q) (vG hl q) (i+1) (fz (.int (i:Nat))) (fz q.d) c (fun q f=>hw q (aM _ f)) hr (by omega) (by omega) hc.2 hx;rw[aK,show i+(rs.length+1)=i+1+rs.length by omega];exact zW rfl hs e
theorem vWi(a:List Rw)(r:Rw)(rest:List Rw)(e:∀q∈a,q.t.wf/\q.t.h<=30)(f:r.t.wf/\r.t.h<=30)(hl:a.length<=1000)(g:zT a [] []=true)(i:jK (a.foldl wP []) (a.foldl vG []) r=false):wQ [fz (.nd .lst ((a ++ r::rest).map Rw.d))]=.er 24 [("row",.int (a.length:Nat))]:=by
 have b:=vQh (p:=fz (.nd .lst ((a ++ r::rest).map Rw.d))) (r:=r) (rest:=rest) a [] [] 0 .un .un .un e f (by simpa using hl) (by simpa using hl) g i;rw[Nat.zero_add]at b;generalize (a ++ r::rest).map Rw.d=ds at *;have c:jM [fz (.nd .lst ds)]=.er 24 [("row",.int (a.length:Nat))]:=by
  unfold jM;exact qYi (qW (o:=.ow (.dct []) []) rfl (qW (o:=.ow (.dct []) []) rfl (xY (ds:=qVa 0 ds) (qV4 (xs:=[.nd .lst ds]) (qZ rfl (qI rfl) rfl) rfl rfl) b)))
 unfold wQ;exact qYi (qQw (qVu (vQ (qS rfl (vF rfl) rfl) (qZm rfl rfl rfl c))))
end FM
namespace X24
open PySem L2 DX FP FM PyProof.Rows
variable{a b m i n:Nat}{c:Int}{α:Type}{env e:Ev}{h1:Hn}{v:SV}{kn:List Str}{z:Nat->Nat}{N:Nat->Str}{R A B:List Rw}{f y:Str}{hl ν:Nm}{p:D}
theorem ml{a b:Int}(h:IntMulOk a b):i2g IntMulOk (fun i j=>i * j) (.int a) (.int b)=some (.int (a * b)):=if_pos h
theorem md{a b:Int}(h:0<b):i2g (fun _ j=>0<j) (fun i j=>i % j) (.int a) (.int b)=some (.int (a % b)):=if_pos h
noncomputable abbrev nI(n:Nat):D:=.int (n:Nat)
noncomputable abbrev fI(n:Int):Slot:=fz (.int n)
noncomputable abbrev sX(ns:List Int):Slot:=fz (.nd .lst (ns.map D.int))
noncomputable abbrev cl(ns:List Int)(k:Nat):Int:=ns.getD k 0
theorem qYq(i j:Nat):rngD (i:Int) (j+1)=.int (i:Nat)::rngD ((i+1:Nat):Int) j:=by
 unfold rngD;rw[List.range_succ_eq_map,aO,cL];congr 1;apply List.map_congr_left;intro a _;show D.int ((i:Int)+((a+1:Nat):Int))=D.int (((i+1:Nat):Int)+(a:Int));congr 1;omega
theorem vW0(h:m<=30):rg1 [.int (m:Nat)]=some (rngD 0 m):=by
 have:∀m:Nat,m<=30->in62 (m:Int)=true:=by decide +kernel
 show cond (in62 (m:Int)) (some (rngD 0 (m:Int).toNat)) none=_;rw[this m h,Int.toNat_natCast];rfl
theorem zW8(ns:List Int)(k:Nat):F_law_cell_at [sX ns,fI (k:Nat)]=.ok (.fz (.int (cl ns k)),[.un,.un]):=by
 unfold F_law_cell_at;have b:asB (oLt (oN 1) (oL lenD [(oN 0)])) [sX ns,fI (k:Nat)]=.ok (decide ((k:Int)<((ns.map D.int).length :Nat)),[sX ns,fI (k:Nat)]):=by kernel_rfl
 rw[aW]at b;by_cases z:k<ns.length
 ·have e:ns[k]?=some (cl ns k):=by unfold cl;rw [cZ,aL z];rfl
  exact vX (qB b (qR (decide_eq_true (by omega)) (zH (o:=.fz (.int (cl ns k))) (vR (vO (zL (h1:=.d (.nd .lst (ns.map D.int))) (h2:=.d (nI k)) (y:=nI k) rfl rfl rfl rfl (by show(ixD (.nd .lst (ns.map D.int)) (nI k)).map Hn.d=_;rw[wG (d:=.int (cl ns k)) (by rw[bT,e];rfl)];rfl) rfl) rfl) rfl) rfl))) rfl
 ·have e:cl ns k=0:=by unfold cl;rw [cZ,List.getElem?_eq_none (by omega)];rfl
  rw[e];exact vX (qB b (qP (decide_eq_false (by omega)) (qN (jN (o:=.fz (.int 0)) rfl rfl)))) rfl
theorem mix_ok(c:Int){k:Nat}(hk:k<=20):∃v:Int,0<=v/\qD [fI c,fI (k:Nat)]=.ok (.fz (.int v),[.un,.un]):=by
 unfold qD;have a:∃s:Int,0<=s/\s<2 ^ 40/\oV (oAdd (oAdd (oMod (oN 0) (oC (.int 1000000007))) (oMul (oC (.int 31)) (oN 1))) (oC (.int 1))) [fI c,fI (k:Nat),.un]=.ok (.int s,[fI c,fI (k:Nat),.un]):=
  ⟨c % 1000000007+31 * (k:Int)+1,by omega,by omega,vO (vU (h1:=.d (.int (c % 1000000007+31 * (k:Int)))) (h2:=.d (.int 1)) (vU (h1:=.d (.int (c % 1000000007))) (h2:=.d (.int (31 * (k:Int)))) rfl (vU (h1:=.d (.int 31)) (h2:=.d (nI k)) rfl rfl rfl rfl rfl (ml (.of_left (by decide +kernel))) rfl) rfl rfl rfl rfl rfl) rfl rfl rfl rfl rfl rfl) rfl⟩
 obtain⟨s,h1,h2,e⟩:=a;refine⟨s * s % 2147483629 * ((k:Int)+7) % 2147483647,by omega,?_⟩;exact vX (qW (vR e rfl) (jN (o:=.fz (.int (s * s % 2147483629 * ((k:Int)+7) % 2147483647))) (e:=[fI c,fI (k:Nat),fI s]) (vR (vO (vU (h1:=.d (.int (s * s % 2147483629 * ((k:Int)+7)))) (h2:=.d (.int 2147483647)) (vU (h1:=.d (.int (s * s % 2147483629))) (h2:=.d (.int ((k:Int)+7))) (vU (h1:=.d (.int (s * s))) (h2:=.d (.int 2147483629)) (vU (h1:=.d (.int s)) (h2:=.d (.int s)) rfl rfl rfl rfl rfl (ml (.of_left (intBits_le_64 (by omega) (by omega)))) rfl) rfl rfl rfl rfl rfl rfl) rfl rfl rfl rfl (ml (.of_right (intBits_le_64 (by omega) (by omega)))) rfl) rfl rfl rfl rfl rfl rfl) rfl) rfl) rfl)) rfl
noncomputable def Sx(r:List Nat):Str:=⟨r.toArray⟩
theorem vJ2(a b:List Nat):Sx a ++ Sx b=Sx (a ++ b):=by show(⟨a.toArray ++ b.toArray⟩:Str)=⟨(a ++ b).toArray⟩;simp
theorem qVp(r:List Nat):(Sx r).length =r.length:=by show r.toArray.size=_;simp
theorem zVd{a b:List Nat}(h:Sx a=Sx b):a=b:=congrArg (fun s:Str=>s.cps.toList) h
noncomputable def ltr:List Nat:=[97,98,99,100,103,104,106,107,108,109,110,111,113,115,116,117,118,119,120,121,122]
noncomputable def chr(b a k j:Nat):Nat:=ltr.getD ((b+(j * j+(if j=a then 1 else 0) * k * 5)) % 21) 0
noncomputable def chs(b a k:Nat):Nat->Nat->List Nat
 |_,0=> []
 |j,n+1=>chr b a k j::chs b a k (j+1) n
noncomputable def nmL(b m a k:Nat):List Nat:=chs b a k 0 m
noncomputable def okL(b m a:Nat):Bool:=let N:=[0,1,2,3,4,5].map (nmL b m a)
 decide N.Nodup &&!N.contains [122,122,102] &&!N.contains (102::(nmL b m a 0).drop 1) &&!N.contains (if m=8 then(nmL b m a 0).take 7 ++ [102] else nmL b m a 0 ++ [122])
theorem zWc:∀b,b<21->∀m,m<9->∀a,a<m->okL b m a=true:=by decide +kernel
theorem vYf(b a k:Nat):∀j n,(chs b a k j n).length =n
 |_,0=>rfl
 |j,n+1=>by rw[chs,aK,vYf b a k (j+1) n]
theorem zKt{r:Nat}(h:r<21):ixD (.str "abcdghjklmnoqstuvwxyz") (.int (r:Nat))=some (.str (Sx [ltr.getD r 0])):=by
 have:∀r:Nat,r<21->atI ("abcdghjklmnoqstuvwxyz":Str).cps.toList (r:Int)=some (ltr.getD r 0):=by decide +kernel
 show(atI ("abcdghjklmnoqstuvwxyz":Str).cps.toList (r:Int)).bind (fun a=>cond (decide (("abcdghjklmnoqstuvwxyz":Str).length <=aI)) (some (D.str ⟨#[a]⟩)) none)=_;rw[this r h];rfl
section
variable{c:Int}{x2 x4:Slot}{a k:Nat}
noncomputable abbrev nE(c:Int)(x2:Slot)(a:Nat)(x4:Slot)(k:Nat)(acc:List Nat)(x7 x8:Slot):Ev:=[fI c,fz (.str "abcdghjklmnoqstuvwxyz"),x2,fI (a:Nat),x4,fI (k:Nat),fz (.str (Sx acc)),x7,x8]
theorem name_step{j:Nat}(hb:c / 64 % 21=(b:Nat))(r:j<=8)(hk:k<=6){acc:List Nat}(hl:acc.length<=8){x8:Slot}:∃m,qQ4 (nE c x2 a x4 k acc (fI (j:Nat)) x8)=.ok (.nx (nE c x2 a x4 k (acc ++ [chr b a k j]) (fI (j:Nat)) m)):=by
 have e:((if((j:Nat):Int) == ((a:Nat):Int) then 1 else 0:Int))=((if j=a then 1 else 0:Nat):Int):=by
  by_cases z:j=a
  ·rw[if_pos z,z,beq_self_eq_true];rfl
  ·rw[if_neg z,show(((j:Nat):Int) == ((a:Nat):Int))=false from beq_false_of_ne (by omega)];rfl
 generalize f:(if j=a then 1 else 0:Nat)=i at e;have o:i<=1:=by rw[←f];split <;> omega
 have g:∀n:Nat,n<=100->Builtin.Int.intBits (n:Int)<=64:=fun n h=>intBits_le_64 (by omega) (by omega)
 have l:oV (oAdd (oMul (oN 7) (oN 7)) (oMul (oMul (oL intD [(o2 eqF (oN 7) (oN 3))]) (oN 5)) (oC (.int 5)))) (nE c x2 a x4 k acc (fI (j:Nat)) x8)=.ok (nI (j * j+i * k * 5),nE c x2 a x4 k acc (fI (j:Nat)) x8):=by
  unfold nI;rw[Int.natCast_add,Int.natCast_mul,Int.natCast_mul,Int.natCast_mul];exact vO (vU (h1:=.d (.int ((j:Int) * (j:Int)))) (h2:=.d (.int ((i:Int) * (k:Int) * 5))) (vU (h1:=.d (nI j)) (h2:=.d (nI j)) rfl rfl rfl rfl rfl (ml (.of_left (g j (by omega)))) rfl) (vU (h1:=.d (.int ((i:Int) * (k:Int)))) (h2:=.d (.int 5)) (vU (h1:=.d (nI i)) (h2:=.d (nI k)) (by show Res.ok (Hn.d (D.int (if((j:Nat):Int) == ((a:Nat):Int) then 1 else 0)),_)=_;rw[e]) rfl rfl rfl rfl (ml (.of_left (g i (by omega)))) rfl) rfl rfl rfl rfl (ml (.of_right (by decide +kernel))) rfl) rfl rfl rfl rfl rfl) rfl
 generalize hs:j * j+i * k * 5=s at l;have p:(c / 64+(s:Int)) % 21=(((b+s) % 21:Nat):Int):=by omega
 have q:oV (o2 addS (oN 6) (oIx (oN 1) (oMod (oAdd (oDiv (oN 0) (oC (.int 64))) (oN 8)) (oC (.int 21))))) (nE c x2 a x4 k acc (fI (j:Nat)) (fI (s:Nat)))=.ok (.str (Sx (acc ++ [chr b a k j])),nE c x2 a x4 k acc (fI (j:Nat)) (fI (s:Nat))):=by
  refine vO (vU (h1:=.d (.str (Sx acc))) (h2:=.d (.str (Sx [chr b a k j]))) rfl (zL (h1:=.d (.str "abcdghjklmnoqstuvwxyz")) (h2:=.d (.int ((c / 64+(s:Int)) % 21))) (y:=.int ((c / 64+(s:Int)) % 21)) rfl rfl rfl rfl ?_ rfl) rfl rfl rfl ?_ rfl) rfl
  ·show(ixD (.str "abcdghjklmnoqstuvwxyz") (.int ((c / 64 + (s:Int)) % 21))).map Hn.d=_;rw[p,zKt (Nat.mod_lt _ (by decide)),show chr b a k j=ltr.getD ((b+s) % 21) 0 by unfold chr;rw[f,hs]];rfl
  ·show(if(Sx acc).length + (Sx [chr b a k j]).length <=aI then some (D.str (Sx acc ++ Sx [chr b a k j])) else none)=_;rw[if_pos (by rw[qVp,qVp];exact aG (show acc.length+1<=9 by omega) (by decide)),vJ2]
 exact⟨_,qW (vR l rfl) (qXu (vR q rfl) rfl)⟩
theorem name_loop(hb:c / 64 % 21=(b:Nat))(hk:k<=6):∀(n j:Nat) (acc:List Nat) (x7 x8:Slot),j+n<=8->acc.length=j->∃g d,forS (gN 7) qQ4 (rngD (j:Nat) n) (nE c x2 a x4 k acc x7 x8)=.ok (.nx (nE c x2 a x4 k (acc ++ chs b a k j n) g d))
 | 0,j,acc,x7,x8,_,_=>⟨x7,x8,by rw[chs,bK];rfl⟩
 | n + 1,j,acc,x7,x8,h,hl=>by
   obtain⟨d,e⟩:=name_step (x2:=x2) (x4:=x4) (a:=a) (k:=k) hb (show j<=8 by omega) hk (acc:=acc) (by omega) (x8:=x8);obtain⟨i,l,f⟩:=name_loop hb hk n (j+1) (acc ++ [chr b a k j]) (fI (j:Nat)) d (by omega) (by rw[aU,hl];rfl);rw[dF]at f;exact⟨i,l,by rw[qYq];exact zW rfl e f⟩
end
noncomputable abbrev nmS(b m a k:Nat):Str:=Sx (nmL b m a k)
noncomputable abbrev oE'(c:Int)(m a:Nat)(ds:List D)(x5 x6 x7 x8:Slot):Ev:=[fI c,fz (.str "abcdghjklmnoqstuvwxyz"),fI (m:Nat),fI (a:Nat),.s false (.ow .lst (ds.map .fz)),x5,x6,x7,x8]
theorem names_loop(hb:c / 64 % 21=(b:Nat))(j:m<=8):∀(n k:Nat) (ds:List D) (x5 x6 x7 x8:Slot),k+n<=6->ds.length=k->∃l p d f,forS (gN 5) qJb (rngD (k:Nat) n) (oE' c m a ds x5 x6 x7 x8)=.ok (.nx (oE' c m a (ds ++ (List.range n).map fun i=>D.str (nmS b m a (k+i))) l p d f))
 | 0,k,ds,x5,x6,x7,x8,_,_=>⟨x5,x6,x7,x8,by rw[List.range_zero,List.map_nil,bK];rfl⟩
 | n + 1,k,ds,x5,x6,x7,x8,h,hd=>by
   obtain⟨d,f,e⟩:=name_loop (x2:=fI (m:Nat)) (x4:=.s false (.ow .lst (ds.map .fz))) (a:=a) (k:=k) hb (by omega) m 0 [] x7 x8 (by omega) rfl;obtain⟨q,r,t,u,g⟩:=names_loop hb j n (k+1) (ds ++ [.str (nmS b m a k)]) (fI (k:Nat)) (fz (.str (nmS b m a k))) d f (by omega) (by rw[aU,hd];rfl);refine⟨q,r,t,u,?_⟩;rw[qYq,List.range_succ_eq_map,aO,cL];rw[dF]at g;have v:apF (ds.map .fz) (.fz (.str (nmS b m a k)))=some (.fz .non,(ds ++ [D.str (nmS b m a k)]).map .fz):=by
    unfold apF;rw[decide_eq_true (show(ds.map O.fz).length <=lim by rw[aW];exact aG (show ds.length<=6 by omega) (show 6<=1000000 by decide)),dD];rfl
   refine zW (e1:=oE' c m a ds (fI (k:Nat)) x6 x7 x8) rfl (qW (o:=.fz (.str (Sx []))) rfl (jY (xY (qV4 (xs:=[nI m]) rfl (vW0 (by omega)) rfl) e) (wW (qVn (i:=4) (π:=[]) (os0:=ds.map .fz) (os:=ds.map .fz) (x:=.fz (.str (nmS b m a k))) rfl rfl rfl rfl rfl v rfl) rfl))) ?_
   refine g.trans ?_
   rw[show((List.range n).map fun i=>D.str (nmS b m a (k+1+i)))=(List.range n).map ((fun i=>D.str (nmS b m a (k+i))) ∘ Nat.succ) from List.map_congr_left fun i _=>by show D.str (nmS b m a (k+1+i))=D.str (nmS b m a (k+(i+1)));rw[show k+1+i=k+(i+1) by omega]];rfl
structure Nms(N:Nat->Str)(u fb:Str):Prop where
 inj:∀i,i<6->∀j,j<6->N i=N j->i=j
 zz:∀i,i<6->N i≠"zzf"
 un:∀i,i<6->N i≠u
 bf:∀i,i<6->N i≠fb
noncomputable def unL(b m a:Nat):List Nat:=if m=8 then(nmL b m a 0).take 7 ++ [102] else nmL b m a 0 ++ [122]
theorem zKi(hb:b<21)(o:m<9)(p:a<m):Nms (nmS b m a) (Sx (unL b m a)) (Sx (102::(nmL b m a 0).drop 1)):=by
 have h:=zWc b hb m o a p;unfold okL at h;simp only[aP,dG,decide_eq_true_eq]at h;obtain⟨⟨⟨q,r⟩,s⟩,t⟩:=h;have d:∀i,i<6->i∈ [0,1,2,3,4,5]:=by decide
 have f:∀i,i<6->nmL b m a i∈ [0,1,2,3,4,5].map (nmL b m a):=fun i c=>List.mem_map.mpr ⟨i,d i c,rfl⟩
 have g:∀(l:List Nat),(([0,1,2,3,4,5].map (nmL b m a)).contains l)=false->∀i,i<6->nmS b m a i≠Sx l:=fun l k i c e=>by
  have:=f i c;rw[zVd e]at this;rw[List.contains_iff_mem.mpr this]at k;cases k
 refine⟨fun i c j u e=>?_,fun i c e=>g [122,122,102] r i c e,g _ t,g _ s⟩;have n:∀i,i<6->([0,1,2,3,4,5].map (nmL b m a))[i]?=some (nmL b m a i):=fun i c=>by
  rw[bT,show [0,1,2,3,4,5][i]?=some i from(by decide:∀i,i<6-> [0,1,2,3,4,5][i]?=some i) i c];rfl
 exact(List.getElem?_inj (by simpa using c) q).mp (by rw[n i c,n j u,zVd e])
theorem names_ok(c:Int):∃b m a:Nat,b<21/\m<9/\a<m/\yX [fI c]=.ok (.ow .lst (((List.range 6).map fun k=>D.str (nmS b m a k)).map .fz),[.un]):=by
 obtain⟨b,hb⟩:∃b:Nat,c / 64 % 21=(b:Nat):=⟨(c / 64 % 21).toNat,by omega⟩
 obtain⟨m,g⟩:∃m:Nat,1+c % 8=(m:Nat):=⟨(1+c % 8).toNat,by omega⟩
 have f:(0:Int)<(m:Nat):=by omega
 obtain⟨a,h⟩:∃a:Nat,c / 8 % (m:Nat)=(a:Nat):=⟨(c / 8 % (m:Nat)).toNat,by have:=Int.emod_nonneg (c / 8) (show((m:Nat):Int)≠0 by omega);omega⟩
 have l:=Int.emod_lt_of_pos (c / 8) f;refine⟨b,m,a,by omega,by omega,by omega,?_⟩;obtain⟨n,p,q,r,e⟩:=names_loop (a:=a) hb (show m<=8 by omega) 6 0 [] .un .un .un .un (by omega) rfl;have i:oV (oAdd (oC (.int 1)) (oMod (oN 0) (oC (.int 8)))) [fI c,fz (.str "abcdghjklmnoqstuvwxyz"),.un,.un,.un,.un,.un,.un,.un]=.ok (nI m,[fI c,fz (.str "abcdghjklmnoqstuvwxyz"),.un,.un,.un,.un,.un,.un,.un]):=by unfold nI;rw[←g];rfl
 have j:oV (oMod (oDiv (oN 0) (oC (.int 8))) (oN 2)) [fI c,fz (.str "abcdghjklmnoqstuvwxyz"),fI (m:Nat),.un,.un,.un,.un,.un,.un]=.ok (nI a,[fI c,fz (.str "abcdghjklmnoqstuvwxyz"),fI (m:Nat),.un,.un,.un,.un,.un,.un]):=by
  unfold nI;rw[←h];exact vO (vU (h1:=.d (.int (c / 8))) (h2:=.d (nI m)) rfl rfl rfl rfl rfl (md f) rfl) rfl
 unfold yX;refine vX (qW (o:=.fz (.str "abcdghjklmnoqstuvwxyz")) rfl (qW (vR i rfl) (qW (vR j rfl) (qW (o:=.ow .lst []) rfl (jY (xY (qV4 (xs:=[.int 6]) (e:=oE' c m a [] .un .un .un .un) rfl rfl rfl) e) (jN rfl rfl)))))) ?_
 simp only[Nat.zero_add];rfl
noncomputable abbrev nD(N:Nat->Str):D:=.nd .lst [.str (N 0),.str (N 1),.str (N 2),.str (N 3),.str (N 4),.str (N 5)]
noncomputable abbrev sD(z:Nat->Nat):D:=.nd .lst [nI (z 0),nI (z 1),nI (z 2)]
noncomputable abbrev rO(R:List Rw):Slot:=.s false (.ow .lst ((R.map Rw.d).map .fz))
theorem vQ8(xs:List α)(n:Nat):cutL xs none (some (n:Int))=xs.take n:=by
 unfold cutL;rw[show HT.sIx xs.length 0 none=0 from rfl,List.drop_zero,Nat.sub_zero,HT.vXf];by_cases h:n<=xs.length
 ·rw[Nat.min_eq_left h]
 ·rw[Nat.min_eq_right (by omega),dI (aB _),dI (by omega)]
theorem qYd{ds:List D}{lo hi:Option SV}{a b:Option Int}(h:evO (oN i) env=.ok (h1,env))(hl:evI lo env=.ok (a,env))(c:evI hi env=.ok (b,env))(st:h1.st=true)(r:rsvB env h1=.ok (.nd .lst ds,env)):eSlL (oN i) lo hi env=.ok (.ow .lst ((cutL ds a b).map .fz),env):=by
 show(evO (oN i) env).bind _=_;rw[h];show(evI lo env).bind _=_;rw[hl];show(evI hi env).bind _=_;rw[c];show cond h1.st ((rsvB env h1).bind _) _=_;rw[st,r];rfl
theorem qYj{n:Int}(h:v env=.ok (.int n,env)):evI (some v) env=.ok (some n,env):=by
 show(v env).bind _=_;rw[h];rfl
theorem zQ9(t:Tm):∀n,Tm.ds (List.replicate n t)=List.replicate n t.d
 | 0=>rfl
 |n+1=>by rw[dQ,dQ,Tm.ds,zQ9 t n]
theorem qZx(f:Str)(h:n<=30)(t:D){T:Tm}(b:T.d=t):zP [fz (.str f),fI (n:Nat),fz t]=.ok (.fz (Tm.call f (List.replicate n T)).d,[.un,.un,.un]):=by
 subst b;obtain⟨p,a,u,rfl⟩:=compL_map (g:=gN 0) (el:=oV (oN 1)) (fun e=>∃u,e=[u,fz T.d]) (fun _=>T.d) (ds:=rngD 0 n) (env:=[.un,fz T.d]) (fun d e q i=>by
  obtain⟨u,rfl⟩:=i;exact⟨[fz d,fz T.d],[fz d,fz T.d],rfl,rfl,_,rfl⟩) ⟨_,rfl⟩
 have l:(rngD 0 n).length =n:=by unfold rngD;rw[aW,List.length_range]
 have j:(rngD 0 n).map (fun _=>T.d)=List.replicate n T.d:=by rw[List.map_const',l]
 have c:compS 2 [(1,2)] [0] (iL rg1 [(oV (oN 1))]) (gN 0) bTrue (oV (oN 1)) [fz (.str f),fI (n:Nat),fz T.d]=.ok (.ow .lst ((List.replicate n T.d).map .fz),[fz (.str f),fI (n:Nat),fz T.d]):=by
  rw[←j];refine qQt (ds:=rngD 0 n) (vs:=(rngD 0 n).map fun _=>T.d) (e:=[fz (.str f),fI (n:Nat),fz T.d]) (qV4 (xs:=[nI n]) rfl (vW0 h) rfl) ?_ a rfl;show(true && decide ((rngD 0 n).length <=lim))=true;rw[l,decide_eq_true (aG h (show 30<=1000000 by decide))];rfl
 have k:fzS (compS 2 [(1,2)] [0] (iL rg1 [(oV (oN 1))]) (gN 0) bTrue (oV (oN 1))) [fz (.str f),fI (n:Nat),fz T.d]=.ok (.nd .lst (List.replicate n T.d),[fz (.str f),fI (n:Nat),fz T.d]):=v8 c (by rw[vP]);have m:svA tupleD [(.v (fzS (compS 2 [(1,2)] [0] (iL rg1 [(oV (oN 1))]) (gN 0) bTrue (oV (oN 1)))))] [fz (.str f),fI (n:Nat),fz T.d]=.ok (.tup (List.replicate n T.d),[fz (.str f),fI (n:Nat),fz T.d]):=qYc (hs:=[.d (.nd .lst (List.replicate n T.d))]) (wX (zD k rfl) rfl (qVe rfl) rfl) rfl rfl rfl;unfold zP;refine vX (jN (o:=.fz (.tup [.str "call",.str f,.tup (List.replicate n T.d)])) (vR (zQ (qZ (d:=.str "call") rfl (qZ (d:=.str f) rfl (qZ m (qI rfl) rfl) rfl) rfl) rfl rfl) rfl) rfl) ?_
 rw[Tm.d,zQ9];rfl
theorem vJs(c:Int):∃v:Int,yO [fI c]=.ok (.fz (Tm.num v).d,[.un]):=
 ⟨_,vX (jN (vR (zQ (qZ (d:=.str "num") rfl (qZ (vO (vU (h1:=.d (.int (c * 467))) (h2:=.d (.int 1000000000000)) (vU (h1:=.d (.int c)) (h2:=.d (.int 467)) rfl rfl rfl rfl rfl (ml (.of_right (by decide +kernel))) rfl) rfl rfl rfl rfl (md (by decide)) rfl) rfl) (qI rfl) rfl) rfl) rfl rfl) rfl) rfl) rfl⟩
noncomputable def bs(N:Nat->Str)(z:Nat->Nat)(k:Nat):Tm:=if 0<z k then .op .add (.name (N (5 - k))) (.flip ((k+1:Nat):Int) 9) else .flip ((k+1:Nat):Int) 9
noncomputable def bd(N:Nat->Str)(z:Nat->Nat):Nat->Tm
 | 0=>bs N z 0
 |k+1=>.ite (bs N z (k+1)) (.call (N k) (List.replicate (z k) (.num ((k+1:Nat):Int)))) (bs N z (k+1))
noncomputable def pr(N:Nat->Str)(k:Nat):List Str:=[N (5 - k),N ((9 - k) % 6),N k]
noncomputable def dfR(N:Nat->Str)(z:Nat->Nat)(k:Nat):Rw:=.df (N k) ((pr N k).take (z k)) (bd N z k)
section
variable{N:Nat->Str}{z:Nat->Nat}{R:List Rw}{x4 x5:Slot}
theorem vW7{r:Rw}(hs:env[i]?=some (rO R))(h:v env=.ok (r.d,env))(hl:R.length<=1000):eMu1 (pOf (oN i)) (owS v) apF env=.ok (.fz .non,env.set i (rO (R ++ [r]))):=by
 have a:apF ((R.map Rw.d).map .fz) (.fz r.d)=some (.fz .non,((R ++ [r]).map Rw.d).map .fz):=by
  unfold apF;rw[decide_eq_true (show((R.map Rw.d).map O.fz).length <=lim by rw[aW,aW];exact aG hl (show 1000<=1000000 by decide)),dD,dD];rfl
 have g:getE env i []=some (.ow .lst ((R.map Rw.d).map .fz)):=by unfold getE;rw[hs];rfl
 have l:qQ9 env i []=some ((R.map Rw.d).map .fz):=by unfold qQ9;rw[g]
 refine qVn (i:=i) (π:=[]) (os0:=(R.map Rw.d).map .fz) (os:=(R.map Rw.d).map .fz) ?_ l (vR h rfl) l ?_ a ?_
 ·show qKz i env=_;unfold qKz;rw[hs];rfl
 ·rfl
 ·unfold setE;rw[hs];rfl
noncomputable abbrev dE(N:Nat->Str)(z:Nat->Nat)(R:List Rw)(k:Nat)(x4 x5:Slot):Ev:=[fz (nD N),fz (sD z),rO R,fI (k:Nat),x4,x5]
theorem def_step{k:Nat}(hk:k<3)(n:∀k,k<3->z k<=3)(hl:R.length<=1000):∃a b,qWc (dE N z R k x4 x5)=.ok (.nx (dE N z (R ++ [dfR N z k]) k a b)):=by
 have f:∀(i:Nat) (a b:Slot),i<3->∀{o:Oe},evO o (dE N z R k a b)=.ok (.d (nI i),dE N z R k a b)->oV (oIx (oN 1) o) (dE N z R k a b)=.ok (nI (z i),dE N z R k a b):=fun i a b g o h=>vO (zL (h1:=.d (sD z)) (h2:=.d (nI i)) (y:=nI i) rfl h rfl rfl (by
  show(ixD (sD z) (nI i)).map Hn.d=_;rw[wG (d:=nI (z i)) (by match i,g with | 0,_=>rfl | 1,_=>rfl | 2,_=>rfl)];rfl) rfl) rfl
 have c:∀(i:Nat) (a b:Slot),i<6->∀{o:Oe},evO o (dE N z R k a b)=.ok (.d (nI i),dE N z R k a b)->oV (oIx (oN 0) o) (dE N z R k a b)=.ok (.str (N i),dE N z R k a b):=fun i a b g o h=>vO (zL (h1:=.d (nD N)) (h2:=.d (nI i)) (y:=nI i) rfl h rfl rfl (by
  show(ixD (nD N) (nI i)).map Hn.d=_;rw[wG (d:=.str (N i)) (by match i,g with | 0,_=>rfl | 1,_=>rfl | 2,_=>rfl | 3,_=>rfl | 4,_=>rfl | 5,_=>rfl)];rfl) rfl) rfl
 have j:∀a b,evO (oSub (oC (.int 5)) (oN 3)) (dE N z R k a b)=.ok (.d (nI (5 - k)),dE N z R k a b):=fun a b=>by
  unfold nI;rw[show((5 - k:Nat):Int)=5 - (k:Nat) by omega];rfl
 have u:∀a b,evO (oMod (oSub (oC (.int 9)) (oN 3)) (oC (.int 6))) (dE N z R k a b)=.ok (.d (nI ((9 - k) % 6)),dE N z R k a b):=fun a b=>by
  unfold nI;rw[show(((9 - k) % 6:Nat):Int)=(9 - (k:Nat)) % 6 by omega];rfl
 have w:∀(t:SS) X,t (dE N z R k (fz (bs N z k).d) x5)=X->sSeq (sIf (asB (oGt (oIx (oN 1) (oN 3)) (oC (.int 0)))) (sSet 4 (owS (svTup [(oV (oC (.str "op"))),(oV (oC (.str "+"))),(svTup [(oV (oC (.str "name"))),(oV (oIx (oN 0) (oSub (oC (.int 5)) (oN 3))))]),(oV (oN 4))]))) sNil) t (dE N z R k (fz (Tm.flip ((k+1:Nat):Int) 9).d) x5)=X:=fun t X h=>by
  have l:asB (oGt (oIx (oN 1) (oN 3)) (oC (.int 0))) (dE N z R k (fz (Tm.flip ((k+1:Nat):Int) 9).d) x5)=.ok (decide ((0:Int)<(z k:Nat)),dE N z R k (fz (Tm.flip ((k+1:Nat):Int) 9).d) x5):=jR (vO (vU (h1:=.d (nI (z k))) (h2:=.d (.int 0)) (zL (h1:=.d (sD z)) (h2:=.d (nI k)) (y:=nI k) rfl rfl rfl rfl (by
   show(ixD (sD z) (nI k)).map Hn.d=_;rw[wG (d:=nI (z k)) (by match k,hk with | 0,_=>rfl | 1,_=>rfl | 2,_=>rfl)];rfl) rfl) rfl rfl rfl rfl rfl rfl) rfl) rfl rfl
  by_cases y:0<z k
  ·unfold bs at h;rw[if_pos y]at h;exact qB l (qR (decide_eq_true (by omega)) (qW (o:=.fz (Tm.op .add (.name (N (5 - k))) (.flip ((k+1:Nat):Int) 9)).d) (vR (zQ (qZ (d:=.str "op") rfl (qZ (d:=.str "+") rfl (qZ (zQ (qZ (d:=.str "name") rfl (qZ (c _ _ _ (by omega) (j _ _)) (qI rfl) rfl) rfl) rfl rfl) (qZ (d:=(Tm.flip ((k+1:Nat):Int) 9).d) rfl (qI rfl) rfl) rfl) rfl) rfl) rfl rfl) rfl) h))
  ·unfold bs at h;rw[if_neg y]at h;exact qB l (qP (decide_eq_false (by omega)) (qN h))
 have x:∀(t:SS) X,t (dE N z R k (fz (bd N z k).d) x5)=X->sSeq (sIf (asB (oGt (oN 3) (oC (.int 0)))) (sSet 4 (owS (svTup [(oV (oC (.str "if"))),(oV (oN 4)),(fzS (callS zP [(.v (oV (oIx (oN 0) (oSub (oN 3) (oC (.int 1)))))),(.v (oV (oIx (oN 1) (oSub (oN 3) (oC (.int 1)))))),(.v (svTup [(oV (oC (.str "num"))),(oV (oN 3))]))])),(oV (oN 4))]))) sNil) t (dE N z R k (fz (bs N z k).d) x5)=X:=fun t X h=>by
  cases k with
  |zero=>exact qB (q:=false) rfl (qP rfl (qN h))
  | succ k=>
    have m:∀a,evO (oSub (oN 3) (oC (.int 1))) (dE N z R (k+1) a x5)=.ok (.d (nI k),dE N z R (k+1) a x5):=fun a=>by
     unfold nI;rw[show((k:Nat):Int)=((k+1:Nat):Int) - 1 by omega];rfl
    have A:callS zP [(.v (oV (oIx (oN 0) (oSub (oN 3) (oC (.int 1)))))),(.v (oV (oIx (oN 1) (oSub (oN 3) (oC (.int 1)))))),(.v (svTup [(oV (oC (.str "num"))),(oV (oN 3))]))] (dE N z R (k+1) (fz (bs N z (k+1)).d) x5)=.ok (.fz (Tm.call (N k) (List.replicate (z k) (.num ((k+1:Nat):Int)))).d,dE N z R (k+1) (fz (bs N z (k+1)).d) x5):=vQ (F:=zP) (qS (c k (fz (bs N z (k+1)).d) x5 (by omega) (m _)) (qS (f k (fz (bs N z (k+1)).d) x5 (by omega) (m _)) (qS (s:=svTup [(oV (oC (.str "num"))),(oV (oN 3))]) (d:=(Tm.num ((k+1:Nat):Int)).d) rfl (vF rfl) rfl) rfl) rfl) (qL rfl rfl rfl (qZx (N k) (aG (n k (by omega)) (by decide)) _ (T:=.num ((k+1:Nat):Int)) rfl) rfl rfl rfl);exact qB (q:=decide ((0:Int)<((k+1:Nat):Int))) rfl (qR (decide_eq_true (by omega)) (qW (o:=.fz (bd N z (k+1)).d) (e:=dE N z R (k+1) (fz (bs N z (k+1)).d) x5) (vR (zQ (qZ (d:=.str "if") rfl (qZ (d:=(bs N z (k+1)).d) rfl (qZ (v8 A rfl) (qZ (d:=(bs N z (k+1)).d) rfl (qI rfl) rfl) rfl) rfl) rfl) rfl rfl) (by rw[bd,Tm.d];rfl)) h))
 have B:eLst [(oV (oIx (oN 0) (oSub (oC (.int 5)) (oN 3)))),(oV (oIx (oN 0) (oMod (oSub (oC (.int 9)) (oN 3)) (oC (.int 6))))),(oV (oIx (oN 0) (oN 3)))] (dE N z R k (fz (bd N z k).d) x5)=.ok (.ow .lst (((pr N k).map D.str).map .fz),dE N z R k (fz (bd N z k).d) x5):=
  vQ4 (qZ (c _ _ _ (by omega) (j _ _)) (qZ (c _ _ _ (by omega) (u _ _)) (qZ (c k _ _ (by omega) rfl) (qI rfl) rfl) rfl) rfl) rfl rfl
 have C:svA tupleD [(.v (fzS (eSlL (oN 5) none (some (oV (oIx (oN 1) (oN 3)))))))] (dE N z R k (fz (bd N z k).d) (.s false (.ow .lst (((pr N k).map D.str).map .fz))))=.ok (.tup (((pr N k).take (z k)).map D.str),dE N z R k (fz (bd N z k).d) (.s false (.ow .lst (((pr N k).map D.str).map .fz)))):=by
  have e:=qYd (i:=5) (env:=dE N z R k (fz (bd N z k).d) (.s false (.ow .lst (((pr N k).map D.str).map .fz)))) (ds:=(pr N k).map D.str) (lo:=none) (h1:=.p 5 []) rfl rfl (qYj (f k _ _ hk (o:=oN 3) rfl)) rfl rfl;rw[vQ8,←List.map_take]at e;exact qYc (hs:=[.d (.nd .lst (((pr N k).take (z k)).map D.str))]) (wX (zD (v8 e (by rw[vP])) rfl) rfl (qVe rfl) rfl) rfl rfl rfl
 have E:oV (oIx (oN 0) (oN 3)) (dE N z R k (fz (bd N z k).d) (.s false (.ow .lst (((pr N k).map D.str).map .fz))))=.ok (.str (N k),dE N z R k (fz (bd N z k).d) (.s false (.ow .lst (((pr N k).map D.str).map .fz)))):=c k _ _ (by omega) rfl;exact⟨_,_,qW (o:=.fz (Tm.flip ((k+1:Nat):Int) 9).d) (e:=dE N z R k x4 x5) rfl (w _ _ (x _ _ (qW B (wW (vW7 (i:=2) (r:=dfR N z k) rfl (zQ (qZ (d:=.str "def") rfl (qZ E (qZ C (qZ (d:=(bd N z k).d) rfl (qI rfl) rfl) rfl) rfl) rfl) rfl rfl) hl) rfl))))⟩
theorem defs_ok(a:∀k,k<3->z k<=3):qQg [fz (nD N),fz (sD z)]=.ok (.ow .lst (([dfR N z 0,dfR N z 1,dfR N z 2].map Rw.d).map .fz),[.un,.un]):=by
 obtain⟨b,c,e⟩:=def_step (N:=N) (z:=z) (R:=[]) (x4:=.un) (x5:=.un) (k:=0) (by decide) a (by decide);obtain⟨f,g,h⟩:=def_step (N:=N) (z:=z) (R:=[dfR N z 0]) (x4:=b) (x5:=c) (k:=1) (by decide) a (by simp);obtain⟨j,l,i⟩:=def_step (N:=N) (z:=z) (R:=[dfR N z 0,dfR N z 1]) (x4:=f) (x5:=g) (k:=2) (by decide) a (by simp);unfold qQg;exact vX (qW (o:=.ow .lst []) rfl (jY (xY (ds:=[nI 0,nI 1,nI 2]) (qV4 (xs:=[.int 3]) rfl rfl rfl) (zW rfl e (zW rfl h (zW rfl i rfl)))) (jN rfl rfl))) rfl
end
noncomputable abbrev lsD(kn:List Str):D:=.nd .lst (kn.map .str)
noncomputable abbrev kO(kn:List Str):Slot:=.s false (.ow .lst ((kn.map D.str).map .fz))
theorem mix_at{a b:SV}{k:Nat}(d:a env=.ok (.int c,env))(hb:b env=.ok (nI k,env))(hk:k<=20):∃v:Int,0<=v/\callS qD [(.v a),(.v b)] env=.ok (.fz (.int v),env):=by
 obtain⟨v,f,e⟩:=mix_ok c hk;exact⟨v,f,vQ (qS d (qS hb (vF rfl) rfl) rfl) (qL rfl rfl rfl e rfl rfl rfl)⟩
theorem ix_mod(hk:kn≠ []){o w:Oe}{m:Int}(h:evO o env=.ok (h1,env))(st:h1.st=true)(b:evO (oL lenD [o]) env=.ok (.d (nI kn.length),env))(c:∀(j:Nat) (x:Str),kn[j]?=some x->hnIx env (nI j) h1=some (.d (.str x)))(e:evO w env=.ok (.d (.int m),env)):∃x∈kn,oV (oIx o (oMod w (oL lenD [o]))) env=.ok (.str x,env):=by
 have k:0<kn.length:=List.length_pos_iff.mpr hk;have g1:=Int.emod_nonneg m (show((kn.length:Nat):Int)≠0 by omega);have l:=Int.emod_lt_of_pos m (show(0:Int)<(kn.length:Nat) by omega);obtain⟨j,g⟩:=Int.eq_ofNat_of_zero_le g1;have a:j<kn.length:=by omega
 refine⟨kn[j],List.getElem_mem a,vO (zL (h1:=h1) (h2:=.d (nI j)) (y:=nI j) h (by
  have:=vU (f:=i2g (fun _ j=>0<j) fun i j=>i % j) (x:=.int m) (y:=nI kn.length) (z:=.int (m % (kn.length:Nat))) (oa:=w) (ob:=oL lenD [o]) e b rfl rfl rfl (md (by omega)) rfl;rw[g]at this;exact this) (by rw[st];rfl) rfl (c j kn[j] (aL a)) rfl) rfl⟩
theorem jQ9(j:Nat)(x:Str)(h:kn[j]?=some x):hnIx env (nI j) (.d (lsD kn))=some (.d (.str x)):=by
 show(ixD (lsD kn) (nI j)).map Hn.d=_;rw[wG (d:=.str x) (by rw[bT,h];rfl)];rfl
theorem qXy(h:i<n):ixN n (i:Int)=some i:=by
 unfold ixN;simp[h]
theorem ix_ow(hs:env[i]?=some (kO kn))(j:Nat)(x:Str)(h:kn[j]?=some x):hnIx env (nI j) (.p i [])=some (.d (.str x)):=by
 have a:=(aD.mp h).1;have g:getE env i []=some (.ow .lst ((kn.map D.str).map .fz)):=by unfold getE;rw[hs];rfl
 show(match getE env i [] with|some (.ow k' os)=>(idxK os.length (nI j) k').bind fun j=>(os[j]?).bind fun o=>some (hnO o i ([] ++ [j]))|_=>none)=_;rw[g];show((ixN ((kn.map D.str).map O.fz).length (j:Nat)).bind fun j=>(((kn.map D.str).map O.fz)[j]?).bind fun o=>some (hnO o i ([] ++ [j])))=_;rw[qXy (by rw[aW,aW];exact a),cB,bT,bT,h];rfl
theorem ix3{o i:Oe}{k:Nat}(hk:k<3)(a:evO o env=.ok (.d (sD z),env))(hi:evO i env=.ok (.d (nI k),env)):oV (oIx o i) env=.ok (nI (z k),env):=vO (zL (h1:=.d (sD z)) (h2:=.d (nI k)) (y:=nI k) a hi rfl rfl (by
  show(ixD (sD z) (nI k)).map Hn.d=_;rw[wG (d:=nI (z k)) (by match k,hk with | 0,_=>rfl | 1,_=>rfl | 2,_=>rfl)];rfl) rfl) rfl
theorem ix6{o i:Oe}{k:Nat}(hk:k<6)(a:evO o env=.ok (.d (nD N),env))(hi:evO i env=.ok (.d (nI k),env)):oV (oIx o i) env=.ok (.str (N k),env):=vO (zL (h1:=.d (nD N)) (h2:=.d (nI k)) (y:=nI k) a hi rfl rfl (by
  show(ixD (nD N) (nI k)).map Hn.d=_;rw[wG (d:=.str (N k)) (by match k,hk with | 0,_=>rfl | 1,_=>rfl | 2,_=>rfl | 3,_=>rfl | 4,_=>rfl | 5,_=>rfl)];rfl) rfl) rfl
inductive Gt(N:Nat->Str)(z:Nat->Nat)(kn:List Str):Tm->Prop
 |name {x:Str} (h:x∈kn):Gt N z kn (.name x)
 |lt {x:Str} (h:x∈kn) (n:Int):Gt N z kn (.op .lt (.name x) (.num n))
 |fld {x:Str} (h:x∈kn) (n:Int):Gt N z kn (.field (.rcd ["a","b"] [.name x,.num n]) "b")
 |call {x:Str} (h:x∈kn) {k:Nat} (hk:k<3):Gt N z kn (.call (N k) (List.replicate (z k) (.name x)))
section
variable{N:Nat->Str}{z:Nat->Nat}{kn:List Str}
theorem term_ok(r:∀k,k<3->z k<=3)(hk:kn≠ [])(c:Int):∃t,Gt N z kn t/\wR [fI c,fz (nD N),fz (lsD kn),fz (sD z)]=.ok (.fz t.d,[.un,.un,.un,.un]):=by
 obtain⟨F,_,s⟩:=mix_at (env:=[fI c,fz (nD N),fz (lsD kn),fz (sD z),.un,.un]) (a:=oV (oN 0)) (b:=oV (oC (.int 4))) (c:=c) (k:=4) rfl rfl (by decide);obtain⟨x,e,u⟩:=ix_mod hk (env:=[fI c,fz (nD N),fz (lsD kn),fz (sD z),.un,.un]) (o:=oN 2) (h1:=.d (lsD kn)) rfl rfl (by show Res.ok (Hn.d (nI (kn.map D.str).length),_)=_;rw[aW]) jQ9 (zD (v8 s rfl) rfl);obtain⟨j,G,y⟩:=mix_at (env:=[fI c,fz (nD N),fz (lsD kn),fz (sD z),fz (Tm.name x).d,.un]) (a:=oV (oN 0)) (b:=oV (oC (.int 5))) (c:=c) (k:=5) rfl rfl (by decide);obtain⟨w,A⟩:∃w:Nat,j % 3=(w:Nat):=⟨(j % 3).toNat,by omega⟩
 have B:oV (oMod (.v (fzS (callS qD [(.v (oV (oN 0))),(.v (oV (oC (.int 5))))]))) (oC (.int 3))) [fI c,fz (nD N),fz (lsD kn),fz (sD z),fz (Tm.name x).d,.un]=.ok (nI w,[fI c,fz (nD N),fz (lsD kn),fz (sD z),fz (Tm.name x).d,.un]):=by
  unfold nI;rw[←A];exact vO (vU (h1:=.d (.int j)) (h2:=.d (.int 3)) (zD (v8 y rfl) rfl) rfl rfl rfl rfl (md (by decide)) rfl) rfl
 have f:∀{t:SS} {X},t [fI c,fz (nD N),fz (lsD kn),fz (sD z),fz (Tm.name x).d,fI (w:Nat)]=X->sSeq (sSet 4 (owS (svTup [(oV (oC (.str "name"))),(oV (oIx (oN 2) (oMod (.v (fzS (callS qD [(.v (oV (oN 0))),(.v (oV (oC (.int 4))))]))) (oL lenD [(oN 2)]))))]))) (sSeq (sSet 5 (owS (oV (oMod (.v (fzS (callS qD [(.v (oV (oN 0))),(.v (oV (oC (.int 5))))]))) (oC (.int 3)))))) t) [fI c,fz (nD N),fz (lsD kn),fz (sD z),.un,.un]=X:=fun h=>qW (o:=.fz (Tm.name x).d) (vR (zQ (qZ (d:=.str "name") rfl (qZ u (qI rfl) rfl) rfl) rfl rfl) rfl) (qW (vR B rfl) h)
 unfold wR;by_cases g:c % 4=0
 ·exact⟨_,.name e,vX (f (qB (q:=c % 4 == 0) rfl (qR (by rw[g];rfl) (zH (o:=.fz (Tm.name x).d) rfl rfl)))) rfl⟩
 by_cases l:c % 4=1
 ·obtain⟨C,_,E⟩:=mix_at (env:=[fI c,fz (nD N),fz (lsD kn),fz (sD z),fz (Tm.name x).d,fI (w:Nat)]) (a:=oV (oN 0)) (b:=oV (oC (.int 6))) (c:=c) (k:=6) rfl rfl (by decide);obtain⟨n,m⟩:=vJs C;exact⟨_,.lt e n,vX (f (qB (q:=c % 4 == 0) rfl (qP (beq_false_of_ne g) (qN (qB (q:=c % 4 == 1) rfl (qR (by rw[l];rfl) (zH (o:=.fz (Tm.op .lt (.name x) (.num n)).d) (vR (zQ (qZ (d:=.str "op") rfl (qZ (d:=.str "<") rfl (qZ (d:=(Tm.name x).d) rfl (qZ (v8 (vQ (qS (v8 E rfl) (vF rfl) rfl) (qL rfl rfl rfl m rfl rfl rfl)) rfl) (qI rfl) rfl) rfl) rfl) rfl) rfl rfl) rfl) rfl))))))) rfl⟩
 by_cases p:c % 4=2
 ·obtain⟨n,m⟩:=vJs c;exact⟨_,.fld e n,vX (f (qB (q:=c % 4 == 0) rfl (qP (beq_false_of_ne g) (qN (qB (q:=c % 4 == 1) rfl (qP (beq_false_of_ne l) (qN (qB (q:=c % 4 == 2) rfl (qR (by rw[p];rfl) (zH (o:=.fz (Tm.field (.rcd ["a","b"] [.name x,.num n]) "b").d) (vR (zQ (qZ (d:=.str "field") rfl (qZ (zQ (qZ (d:=.str "record") rfl (qZ (zQ (qZ (d:=.tup [.str "a",(Tm.name x).d]) rfl (qZ (zQ (qZ (d:=.str "b") rfl (qZ (v8 (vQ (qS (d:=.int c) rfl (vF rfl) rfl) (qL rfl rfl rfl m rfl rfl rfl)) rfl) (qI rfl) rfl) rfl) rfl rfl) (qI rfl) rfl) rfl) rfl rfl) (qI rfl) rfl) rfl) rfl rfl) (qZ (d:=.str "b") rfl (qI rfl) rfl) rfl) rfl) rfl rfl) rfl) rfl)))))))))) rfl⟩
 ·exact⟨_,.call e (k:=w) (by omega),vX (f (qB (q:=c % 4 == 0) rfl (qP (beq_false_of_ne g) (qN (qB (q:=c % 4 == 1) rfl (qP (beq_false_of_ne l) (qN (qB (q:=c % 4 == 2) rfl (qP (beq_false_of_ne p) (qN (jN (vQ (qS (ix6 (o:=oN 1) (i:=oN 5) (k:=w) (by omega) rfl rfl) (qS (ix3 (o:=oN 3) (i:=oN 5) (k:=w) (by omega) rfl rfl) (qS (d:=(Tm.name x).d) rfl (vF rfl) rfl) rfl) rfl) (qL rfl rfl rfl (qZx (N w) (aG (r w (by omega)) (by decide)) _ rfl) rfl rfl rfl)) rfl))))))))))) rfl⟩
end
inductive Gr(N:Nat->Str)(z:Nat->Nat)(k:Nat)(kn:List Str):Rw->List Str->Prop
 |see {t:Tm} (g:Gt N z kn t) (h:k<14\/∃x,t=.name x):Gr N z k kn (.see t) kn
 |ag {t:Tm} {x:Str} {j:Nat} (hx:x∈kn) (hj:j<=1) (g:Gt N z kn t) (h:k<14\/∃x,t=.name x):Gr N z k kn (.ag j x t) kn
 |lt {i:Nat} (h1:1<=i) (h6:i<6) (n:Int):Gr N z k kn (.lt (N i) (.num n)) (if N i∈kn then kn else kn ++ [N i])
theorem zQ0(x:Str)(a:List Str):inB (.str x) (lsD a)=some (decide (x∈a)):=by
 show((some (V.str x)).bind fun v=>(allV (a.map .str)).bind fun b=>some (inV v b))=_;rw[qJ9];show some (inV (.str x) (a.map V.str))=_;rw[qYz]
theorem vW2{ds:List D}(h:evO (oL lenD [oN i]) env=.ok (.d (nI (fzOs (ds.map .fz)).length),env)):evO (oL lenD [oN i]) env=.ok (.d (nI ds.length),env):=by rw[qX1]at h;exact h
section
variable{ns:List Int}{N:Nat->Str}{z:Nat->Nat}{R:List Rw}{kn:List Str}{c:Int}{x6 x7 x8:Slot}
noncomputable abbrev gE(ns:List Int)(N:Nat->Str)(z:Nat->Nat)(R:List Rw)(kn:List Str)(c:Int)(x6 x7 x8:Slot):Ev:=[sX ns,fz (nD N),fz (sD z),rO R,kO kn,fI c,x6,x7,x8]
theorem jVr{x:Str}(hl:kn.length<=1000):eMu1 (pOf (oN 4)) (owS (oV (oN 8))) apF (gE ns N z R kn c x6 x7 (fz (.str x)))=.ok (.fz .non,gE ns N z R (kn ++ [x]) c x6 x7 (fz (.str x))):=by
 have a:apF ((kn.map D.str).map .fz) (.fz (.str x))=some (.fz .non,((kn ++ [x]).map D.str).map .fz):=by
  unfold apF;rw[decide_eq_true (show((kn.map D.str).map O.fz).length <=lim by rw[aW,aW];exact aG hl (show 1000<=1000000 by decide)),dD,dD];rfl
 exact qVn (i:=4) (π:=[]) (os0:=(kn.map D.str).map .fz) (os:=(kn.map D.str).map .fz) (x:=.fz (.str x)) rfl rfl rfl rfl rfl a rfl
theorem good_step(L:∀k,k<3->z k<=3)(hk:kn≠ [])(B:R.length<=1000)(M:kn.length<=1000):∃r l e f g,Gr N z R.length kn r l /\yL (gE ns N z R kn c x6 x7 x8)=.ok (.nx (gE ns N z (R ++ [r]) l c e f g)):=by
 have H:∀{e f g},evO (oL lenD [oN 4]) (gE ns N z R kn c e f g)=.ok (.d (nI kn.length),gE ns N z R kn c e f g):=fun {e f g}=>by
  have:=vW2 (ds:=kn.map D.str) (i:=4) (env:=gE ns N z R kn c e f g) rfl;rw[aW]at this;exact this
 obtain⟨v3,_,O⟩:=mix_at (env:=gE ns N z R kn c x6 x7 x8) (a:=oV (oN 5)) (b:=oV (oC (.int 3))) (c:=c) (k:=3) rfl rfl (by decide);obtain⟨x,P,Q⟩:=ix_mod hk (env:=gE ns N z R kn c x6 x7 x8) (o:=oN 4) (h1:=.p 4 []) rfl rfl H (ix_ow (i:=4) rfl) (zD (v8 O rfl) rfl);obtain⟨C,_,S⟩:=mix_at (env:=gE ns N z R kn c (fz (Tm.name x).d) x7 x8) (a:=oV (oN 5)) (b:=oV (oC (.int 1))) (c:=c) (k:=1) rfl rfl (by decide);obtain⟨u,T,U⟩:=term_ok (N:=N) (z:=z) L hk C;have E :wR [fI C,fz (nD N),fz (fzO (.ow .lst ((kn.map D.str).map .fz))),fz (sD z)]=.ok (.fz u.d,[.un,.un,.un,.un]):=by rw[vP];exact U
 have V:∃t,Gt N z kn t/\(R.length<14\/∃x,t=.name x)/\∀{s:SS} {X},s (gE ns N z R kn c (fz t.d) x7 x8)=X->sSeq (sIf (asB (oLt (oL lenD [(oN 3)]) (oC (.int 14)))) (sSet 6 (callS wR [(.v (fzS (callS qD [(.v (oV (oN 5))),(.v (oV (oC (.int 1))))]))),(.v (oV (oN 1))),(.b (pOf (oN 4))),(.v (oV (oN 2)))])) sNil) s (gE ns N z R kn c (fz (Tm.name x).d) x7 x8)=X:=by
  have W:evO (oL lenD [oN 3]) (gE ns N z R kn c (fz (Tm.name x).d) x7 x8)=.ok (.d (nI R.length),gE ns N z R kn c (fz (Tm.name x).d) x7 x8):=by
   have:=vW2 (ds:=R.map Rw.d) (i:=3) (env:=gE ns N z R kn c (fz (Tm.name x).d) x7 x8) rfl;rw[aW]at this;exact this
  have A:asB (oLt (oL lenD [(oN 3)]) (oC (.int 14))) (gE ns N z R kn c (fz (Tm.name x).d) x7 x8)=.ok (decide ((R.length:Int)<14),gE ns N z R kn c (fz (Tm.name x).d) x7 x8):=jR (vO (vU (h1:=.d (nI R.length)) (h2:=.d (.int 14)) W rfl rfl rfl rfl rfl rfl) rfl) rfl rfl;by_cases q:R.length<14
  ·exact⟨u,T,.inl q,fun h=>qB A (qR (decide_eq_true (by omega)) (qW (vQ (hs:=[.d (.int C),.d (nD N),.p 4 [],.d (sD z)]) (qS (v8 S rfl) rfl rfl) (qL rfl rfl rfl E rfl (yN (zE u) rfl) rfl)) h))⟩
  ·exact⟨.name x,.name P,.inr ⟨x,rfl⟩,fun h=>qB A (qP (decide_eq_false (by omega)) (qN h))⟩
 obtain⟨t,I,J,Y⟩:=V;have F:∀{s:SS} {X},s (gE ns N z R kn c (fz t.d) (fI (c % 5)) x8)=X->sSeq (sSet 6 (owS (svTup [(oV (oC (.str "name"))),(oV (oIx (oN 4) (oMod (.v (fzS (callS qD [(.v (oV (oN 5))),(.v (oV (oC (.int 3))))]))) (oL lenD [(oN 4)]))))]))) (sSeq (sIf (asB (oLt (oL lenD [(oN 3)]) (oC (.int 14)))) (sSet 6 (callS wR [(.v (fzS (callS qD [(.v (oV (oN 5))),(.v (oV (oC (.int 1))))]))),(.v (oV (oN 1))),(.b (pOf (oN 4))),(.v (oV (oN 2)))])) sNil) (sSeq (sSet 7 (owS (oV (oMod (oN 5) (oC (.int 5)))))) s)) (gE ns N z R kn c x6 x7 x8)=X:=fun h=>qW (o:=.fz (Tm.name x).d) (vR (zQ (qZ (d:=.str "name") rfl (qZ Q (qI rfl) rfl) rfl) rfl rfl) rfl) (Y (qW (o:=.fz (.int (c % 5))) rfl h))
 unfold yL;by_cases G:c % 5=0
 ·exact⟨_,_,_,_,_,.see I J,F (vZ (q:=c % 5 == 0) rfl (qR (by rw[G];rfl) (wW (vW7 (i:=3) (r:=.see t) rfl rfl B) rfl)))⟩
 by_cases K:c % 5=1
 ·obtain⟨y,Z,ey⟩:=ix_mod hk (env:=gE ns N z R kn c (fz t.d) (fI (c % 5)) x8) (o:=oN 4) (w:=oDiv (oN 5) (oC (.int 10))) (m:=c / 10) (h1:= .p 4 []) rfl rfl H (ix_ow (i:=4) rfl) rfl;obtain⟨j,hj⟩:∃j:Nat,c / 5 % 2=(j:Nat):=⟨(c / 5 % 2).toNat,by omega⟩
  have ej:oV (oMod (oDiv (oN 5) (oC (.int 5))) (oC (.int 2))) (gE ns N z R kn c (fz t.d) (fI (c % 5)) x8)=.ok (nI j,gE ns N z R kn c (fz t.d) (fI (c % 5)) x8):=by unfold nI;rw[←hj];rfl
  exact⟨_,_,_,_,_,.ag (j:=j) Z (by omega) I J,F (vZ (q:=c % 5 == 0) rfl (qP (beq_false_of_ne G) (vZ (q:=c % 5 == 1) rfl (qR (by rw[K];rfl) (wW (vW7 (i:=3) (r:=.ag j y t) rfl (zQ (qZ (d:=.str "again") rfl (qZ ej (qZ ey (qZ (d:=t.d) rfl (qI rfl) rfl) rfl) rfl) rfl) rfl rfl) B) rfl)))))⟩
 ·obtain⟨i,hi⟩:∃i:Nat,1 + c / 5 % 5=(i:Nat):=⟨(1 + c / 5 % 5).toNat,by omega⟩
  have ei:evO (oAdd (oC (.int 1)) (oMod (oDiv (oN 5) (oC (.int 5))) (oC (.int 5)))) (gE ns N z R kn c (fz t.d) (fI (c % 5)) x8)=.ok (.d (nI i),gE ns N z R kn c (fz t.d) (fI (c % 5)) x8):=by unfold nI;rw[←hi];rfl
  have en:=ix6 (N:=N) (o:=oN 1) (k:=i) (by omega) rfl ei;obtain⟨v2,_,m2⟩:=mix_at (env:=gE ns N z R kn c (fz t.d) (fI (c % 5)) (fz (.str (N i)))) (a:=oV (oN 5)) (b:=oV (oC (.int 2))) (c:=c) (k:=2) rfl rfl (by decide);obtain⟨n,nn⟩:=vJs v2;have ea:=vW7 (R:=R) (i:=3) (env:=gE ns N z R kn c (fz t.d) (fI (c % 5)) (fz (.str (N i)))) (r:=.lt (N i) (.num n)) (v:=svTup [(oV (oC (.str "let"))),(oV (oN 8)),(fzS (callS yO [(.v (fzS (callS qD [(.v (oV (oN 5))),(.v (oV (oC (.int 2))))])))]))]) rfl (zQ (qZ (d:=.str "let") rfl (qZ (d:=.str (N i)) rfl (qZ (v8 (vQ (qS (v8 m2 rfl) (vF rfl) rfl) (qL rfl rfl rfl nn rfl rfl rfl)) rfl) (qI rfl) rfl) rfl) rfl) rfl rfl) B;have A:asB (o2 niD (oN 8) (oN 4)) (gE ns N z (R ++ [.lt (N i) (.num n)]) kn c (fz t.d) (fI (c % 5)) (fz (.str (N i))))=.ok (!decide (N i∈kn),gE ns N z (R ++ [.lt (N i) (.num n)]) kn c (fz t.d) (fI (c % 5)) (fz (.str (N i)))):=by
   refine jR (d:=.bl (!decide (N i∈kn))) (vO (vU (h1:=.d (.str (N i))) (h2:=.p 4 []) (x:=.str (N i)) (y:=lsD kn) rfl rfl rfl rfl (by show some (fzO (.ow .lst ((kn.map D.str).map .fz)))=_;rw[vP]) (by unfold niD;rw[zQ0];rfl) rfl) rfl) rfl rfl
  refine⟨.lt (N i) (.num n),_,fz t.d,fI (c % 5),fz (.str (N i)),.lt (by omega) (by omega) n,F (vZ (q:=c % 5 == 0) rfl (qP (beq_false_of_ne G) (vZ (q:=c % 5 == 1) rfl (qP (beq_false_of_ne K) (qW (vR en rfl) (j9 ea (vZ A ?_)))))))⟩;by_cases q:N i∈kn
  ·rw [if_pos q];exact qP (by rw[decide_eq_true q];rfl) rfl
  ·rw [if_neg q];exact qR (by rw[decide_eq_false q];rfl) (wW (jVr M) rfl)
inductive Gs(N:Nat->Str)(z:Nat->Nat):List Rw->List Str->Prop
 |nil:Gs N z [.lt (N 4) (.num 1),dfR N z 0,dfR N z 1,dfR N z 2] [N 4]
 |snoc {R:List Rw} {kn kn' :List Str} {r:Rw} (h:Gs N z R kn) (g:Gr N z R.length kn r kn'):Gs N z (R ++ [r]) kn'
theorem Gs.len(h:Gs N z R kn):kn≠ []/\kn.length<=R.length:=by
 induction h with
 |nil=>exact⟨by simp,by simp⟩
 | snoc h g ih=>
   rw[aU];show _/\_<=_+1;cases g with
   |see|ag=>exact⟨ih.1,by omega⟩
   | lt h1 h6 n=>
     split
     ·exact⟨ih.1,by omega⟩
     ·exact⟨by simp,by rw[aU];show _+1<=_;omega⟩
theorem good_loop(l:∀k,k<3->z k<=3):∀(cs:List Int) (R:List Rw) (kn:List Str) (x5 x6 x7 x8:Slot),Gs N z R kn->R.length+cs.length<=40->∃b a m d f i,Gs N z b a /\b.length=R.length+cs.length/\forS (gN 5) yL (cs.map D.int) [sX ns,fz (nD N),fz (sD z),rO R,kO kn,x5,x6,x7,x8]=.ok (.nx [sX ns,fz (nD N),fz (sD z),rO b,kO a,m,d,f,i])
 |[],R,kn,x5,x6,x7,x8,g,_=>⟨R,kn,x5,x6,x7,x8,g,rfl,rfl⟩
 | c::cs,R,kn,x5,x6,x7,x8,g,h=>by
   rw[aK]at h;obtain⟨n,x⟩:=g.len;obtain⟨r,j,d,f,i,o,e⟩:=good_step (ns:=ns) (N:=N) (c:=c) (x6:=x6) (x7:=x7) (x8:=x8) l n (show R.length<=1000 by omega) (by omega);obtain⟨b,a,p,q,s,t,u,v,w⟩:=good_loop l cs (R ++ [r]) j (fI c) d f i (.snoc g o) (by rw[aU];show _+1+_<=_;omega);exact⟨b,a,p,q,s,t,u,by rw[v,aU,aK];show R.length+1+cs.length=R.length+(cs.length+1);omega,zW rfl e w⟩
end
theorem qJ4(k:Kd)(ds:List D):qK2 (.ow k (ds.map .fz))=.ow k (ds.map .fz):=by show O.ow k ((ds.map O.fz).map fun o=>O.fz (fzO o))=_;rw[cL];rfl
theorem catO{oa ob:Oe}{e1 e2:Ev}{h2:Hn}{xs ys:List D}(a:evO oa env=.ok (h1,e))(b:evO ob e=.ok (h2,e1))(c:(h1.st || ob.isP)=true)(r:qQ7 [h1,h2] e1=.ok ([.nd .lst xs,.nd .lst ys],e2))(l:xs.length+ys.length<=9000):eCat oa ob env=.ok (.ow .lst ((xs ++ ys).map .fz),e2):=by
 show(evO oa env).bind _=_;rw[a];show(evO ob e).bind _=_;rw[b];show cond (h1.st || ob.isP) ((qQ7 [h1,h2] e1).bind _) _=_;rw[c,r];show cond (decide (xs.length+ys.length<=lim)) (Res.ok (O.ow .lst ((xs ++ ys).map O.fz),e2)) Res.no=_;rw[decide_eq_true (aG l (by decide))];rfl
theorem good_ok(ns:List Int)(m:∀k,k<3->z k<=3):∃R kn x,Gs N z R kn/\R.length<=34/\x∈kn/\qQf [sX ns,fz (nD N),fz (sD z)]=.ok (.ow .lst (((R ++ [Rw.ask (.name x)]).map Rw.d).map .fz),[.un,.un,.un]):=by
 obtain⟨R,kn,a,b,c,f,g,t,e⟩:=good_loop (ns:=ns) (N:=N) m (ns.take 30) [.lt (N 4) (.num 1),dfR N z 0,dfR N z 1,dfR N z 2] [N 4] .un .un .un .un .nil (by rw[bG];show 4+_<=40;omega);have l :R.length<=34:=by rw[t,bG];show 4+_<=34;omega
 obtain⟨h,C⟩:=g.len;have q:kn[kn.length - 1]?=some (kn.getLast h):=by rw[List.getLast_eq_getElem,aL]
 refine⟨R,kn,kn.getLast h,g,l,List.getLast_mem h,?_⟩;generalize kn.getLast h=x at q;have u:eCat (.v (fzS (eLst [(svTup [(oV (oC (.str "let"))),(oV (oIx (oN 1) (oC (.int 4)))),(svTup [(oV (oC (.str "num"))),(oV (oC (.int 1)))])])]))) (.v (fzS (callS qQg [(.v (oV (oN 1))),(.v (oV (oN 2)))]))) [sX ns,fz (nD N),fz (sD z),.un,.un,.un,.un,.un,.un]=.ok (.ow .lst (([Rw.lt (N 4) (.num 1),dfR N z 0,dfR N z 1,dfR N z 2].map Rw.d).map .fz),[sX ns,fz (nD N),fz (sD z),.un,.un,.un,.un,.un,.un]):=
  catO (xs:=[(Rw.lt (N 4) (.num 1)).d]) (ys:=[dfR N z 0,dfR N z 1,dfR N z 2].map Rw.d) (zD (qJ6 (qZ (zQ (qZ (d:=.str "let") rfl (qZ (ix6 (k:=4) (by decide) rfl rfl) (qZ (d:=(Tm.num 1).d) rfl (qI rfl) rfl) rfl) rfl) rfl rfl) (qI rfl) rfl) rfl rfl) rfl) (zD (v8 (vQ (qS (d:=nD N) rfl (qS (d:=sD z) rfl (vF rfl) rfl) rfl) (qL rfl rfl rfl (defs_ok m) rfl rfl rfl)) (by rw[vP];rfl)) rfl) rfl rfl (show 1+3<=9000 by decide)
 have w:fzS (eSlL (oN 0) none (some (oV (oC (.int 30))))) [sX ns,fz (nD N),fz (sD z),rO [.lt (N 4) (.num 1),dfR N z 0,dfR N z 1,dfR N z 2],kO [N 4],.un,.un,.un,.un]=.ok (.nd .lst ((ns.take 30).map D.int),[sX ns,fz (nD N),fz (sD z),rO [.lt (N 4) (.num 1),dfR N z 0,dfR N z 1,dfR N z 2],kO [N 4],.un,.un,.un,.un]):=by
  have:=qYd (i:=0) (env:=[sX ns,fz (nD N),fz (sD z),rO [.lt (N 4) (.num 1),dfR N z 0,dfR N z 1,dfR N z 2],kO [N 4],.un,.un,.un,.un]) (ds:=ns.map D.int) (lo:=none) (h1:=.d (.nd .lst (ns.map D.int))) rfl rfl (qYj (v:=oV (oC (.int 30))) (n:=((30:Nat):Int)) rfl) rfl rfl;rw[vQ8,←List.map_take]at this;exact v8 this (by rw[vP])
 have A:oV (oIx (oN 4) (o1 negD (oC (.int 1)))) [sX ns,fz (nD N),fz (sD z),rO R,kO kn,a,b,c,f]=.ok (.str x,[sX ns,fz (nD N),fz (sD z),rO R,kO kn,a,b,c,f]):=by
  have E:0<kn.length:=List.length_pos_iff.mpr h;refine vO (zL (h1:=.p 4 []) (h2:=.d (.int (-1))) (y:=.int (-1)) rfl rfl rfl rfl ?_ rfl) rfl;show((ixN ((kn.map D.str).map O.fz).length (-1)).bind fun j=>(((kn.map D.str).map O.fz)[j]?).bind fun o=>some (hnO o 4 ([] ++ [j])))=_;have i:ixN kn.length (-1)=some (kn.length - 1):=by unfold ixN;simp;omega
  rw[aW,aW,i,cB,bT,bT,q];rfl
 have ls:=qJ6 (env:=[sX ns,fz (nD N),fz (sD z),rO R,kO kn,a,b,c,f]) (qZ (zQ (qZ (v:=oV (oC (.str "ask"))) (d:=.str "ask") rfl (qZ (zQ (qZ (v:=oV (oC (.str "name"))) (d:=.str "name") rfl (qZ A (qI rfl) rfl) rfl) rfl rfl) (qI rfl) rfl) rfl) rfl rfl) (qI rfl) rfl) rfl rfl;have B:qQ7 [.p 3 [],.d (.nd .lst [(Rw.ask (.name x)).d])] [sX ns,fz (nD N),fz (sD z),rO R,kO kn,a,b,c,f]=.ok ([.nd .lst (R.map Rw.d),.nd .lst [(Rw.ask (.name x)).d]],[sX ns,fz (nD N),fz (sD z),rO R,kO kn,a,b,c,f]):=by
  show Res.ok ([fzO (.ow .lst ((R.map Rw.d).map .fz)),.nd .lst [(Rw.ask (.name x)).d]],[sX ns,fz (nD N),fz (sD z),.s false (qK2 (.ow .lst ((R.map Rw.d).map .fz))),kO kn,a,b,c,f])=_;rw[vP,qJ4]
 have r:=catO (env:=[sX ns,fz (nD N),fz (sD z),rO R,kO kn,a,b,c,f]) (oa:=oN 3) (h1:=.p 3 []) rfl (zD ls rfl) rfl B (by rw[aW];show _+1<=9000;omega);rw[show R.map Rw.d ++ [(Rw.ask (.name x)).d]=(R ++ [Rw.ask (.name x)]).map Rw.d by rw[dD];rfl]at r;unfold qQf;exact vX (qW u (qW (o:=.ow .lst (([N 4].map D.str).map .fz)) (vQ4 (qZ (ix6 (k:=4) (by decide) rfl rfl) (qI rfl) rfl) rfl rfl) (jY (xY (qK5 w rfl rfl) e) (jN r rfl)))) rfl
noncomputable abbrev knR(A:List Rw):Kn:=A.foldl wP []
noncomputable abbrev hlR(A:List Rw):Nm:=A.foldl vG []
theorem qVt(B:List Rw):∀(A:List Rw) (kn:Kn) (hl:Nm),zT (A ++ B) kn hl=(zT A kn hl && zT B (A.foldl wP kn) (A.foldl vG hl))
 |[],kn,hl=>rfl
 | r::A,kn,hl=>by
   show(jK kn hl r && zT (A ++ B) (wP kn r) (vG hl r))=((jK kn hl r && zT A (wP kn r) (vG hl r)) && _);rw[qVt B A,Bool.and_assoc];rfl
theorem vKa(kn:Kn)(x y:Str):zX (putA kn x ()) y=(decide (x=y) || zX kn y):=by
 unfold zX;rw[qQb];by_cases h:x=y
 ·rw[if_pos h,decide_eq_true h];rfl
 ·rw[if_neg h,decide_eq_false h];rfl
noncomputable def lets:List Rw->List Str
 |[]=> []
 |.lt x _::A=>x::lets A
 |_::A=>lets A
theorem jZ:∀A B,lets (A ++ B)=lets A ++ lets B
 |[],B=>rfl
 |.lt x t::A,B=>by show x::lets (A ++ B)=x::(lets A ++ lets B);rw[jZ A B]
 |.df _ _ _::A,B=>jZ A B
 |.ag _ _ _::A,B=>jZ A B
 |.see _::A,B=>jZ A B
 |.ask _::A,B=>jZ A B
theorem xS(y:Str):∀(A:List Rw) (kn:Kn),zX (A.foldl wP kn) y=(zX kn y || decide (y∈lets A))
 |[],kn=>by rw[show lets []=[] from rfl];simp
 | .lt x t::A,kn=>by
   show zX (A.foldl wP (putA kn x ())) y=_;rw[xS y A,vKa,show lets (.lt x t::A)=x::lets A from rfl];by_cases h:x=y
   ·subst h;simp
   ·rw[decide_eq_false h];simp[Ne.symm h]
 |.df _ _ _::A,kn=>xS y A kn
 |.ag _ _ _::A,kn=>xS y A kn
 |.see _::A,kn=>xS y A kn
 |.ask _::A,kn=>xS y A kn
theorem qZh(A:List Rw)(y:Str):zX (knR A) y=decide (y∈lets A):=by rw[xS];rfl
section
variable{N:Nat->Str}{z:Nat->Nat}{u fb:Str}
noncomputable abbrev hl3(N:Nat->Str)(z:Nat->Nat):Nm:=[(N 0,(z 0:Nat)),(N 1,(z 1:Nat)),(N 2,(z 2:Nat))]
theorem get3(nm:Nms N u fb){k:Nat}(hk:k<3):getA (hl3 N z) (N k)=some (z k:Int):=by
 have ne:∀i j,i<6->j<6->i≠j->N i≠N j:=fun i j a b h e=>h (nm.inj i a j b e)
 unfold hl3 getA getA getA;match k,hk with
 | 0,_=>rw[if_pos rfl]
 | 1,_=>rw[if_neg (ne 0 1 (by decide) (by decide) (by decide)),if_pos rfl]
 | 2,_=>rw[if_neg (ne 0 2 (by decide) (by decide) (by decide)),if_neg (ne 1 2 (by decide) (by decide) (by decide)),if_pos rfl]
theorem vKi(h:∀k,k<3->N k≠f):getA (hl3 N z) f=none:=by
 unfold hl3 getA getA getA getA;rw[if_neg (h 0 (by decide)),if_neg (h 1 (by decide)),if_neg (h 2 (by decide))]
theorem pr_len(k:Nat)(a:z k<=3):(((pr N k).take (z k)).map D.str).length =z k:=by rw[aW,bG];show min (z k) 3=_;omega
theorem zXh(nm:Nms N u fb)(a:∀k,k<3->z k<=3):vG (vG (vG [] (dfR N z 0)) (dfR N z 1)) (dfR N z 2)=hl3 N z/\vG (vG [] (dfR N z 0)) (dfR N z 1)=[(N 0,(z 0:Int)),(N 1,(z 1:Int))]/\vG [] (dfR N z 0)=[(N 0,(z 0:Int))]:=by
 have ne:∀i j,i<6->j<6->i≠j->N i≠N j:=fun i j d f h e=>h (nm.inj i d j f e)
 have b:vG [] (dfR N z 0)=[(N 0,(z 0:Int))]:=by
  show putA [] (N 0) _=_;rw[pr_len 0 (a 0 (by decide))];rfl
 have c:vG [(N 0,(z 0:Int))] (dfR N z 1)=[(N 0,(z 0:Int)),(N 1,(z 1:Int))]:=by
  show putA [(N 0,(z 0:Int))] (N 1) _=_;rw[pr_len 1 (a 1 (by decide))];unfold putA putA;rw[if_neg (ne 0 1 (by decide) (by decide) (by decide))]
 have g:vG [(N 0,(z 0:Int)),(N 1,(z 1:Int))] (dfR N z 2)=hl3 N z:=by
  show putA [(N 0,(z 0:Int)),(N 1,(z 1:Int))] (N 2) _=_;rw[pr_len 2 (a 2 (by decide))];unfold putA putA putA;rw[if_neg (ne 0 2 (by decide) (by decide) (by decide)),if_neg (ne 1 2 (by decide) (by decide) (by decide))]
 exact⟨by rw[b,c,g],by rw[b,c],b⟩
theorem qX2{kn:Str->Bool}{t:Tm}(h:chkT kn hl t=true):∀n,chkTs kn hl (List.replicate n t)=true
 | 0=>by rw[List.replicate_zero,chkTs]
 |n+1=>by rw[dQ,chkTs,h,qX2 h n];rfl
theorem zQ5(nm:Nms N u fb){t:Tm}{a:Str->Bool}(g:Gt N z kn t)(hk:∀x∈kn,a x=true):chkT a (hl3 N z) t=true:=by
 cases g with
 |name h=>rw[chkT];exact hk _ h
 |lt h n=>rw[chkT,chkT,chkT,hk _ h];rfl
 |fld h n=>rw[chkT,chkT,chkTs,chkTs,chkTs,chkT,chkT,hk _ h];rfl
 |call h hk' =>rw[chkT,bF,get3 nm hk',decide_eq_true rfl,qX2 (by rw[chkT];exact hk _ h)];rfl
theorem vJ0(hl:Nm)(k:Nat):chkT (fun x=>decide (x∈(pr N k).take (z k))) hl (bs N z k)=true:=by
 unfold bs;by_cases h:0<z k
 ·rw[if_pos h,chkT,chkT,chkT,decide_eq_true (show N (5 - k)∈(pr N k).take (z k) by unfold pr;cases e:z k with|zero=>omega|succ n=>rw[List.take_succ_cons];exact cC)];rfl
 ·rw[if_neg h,chkT]
theorem zK8(nm:Nms N u fb)(c:∀k,k<3->z k<=3):jK ([]:Kn) [] (dfR N z 0)=true/\(∀kn,jK kn [(N 0,(z 0:Int))] (dfR N z 1)=true)/\∀kn,jK kn [(N 0,(z 0:Int)),(N 1,(z 1:Int))] (dfR N z 2)=true:=by
 have ne:∀i j,i<6->j<6->i≠j->N i≠N j:=fun i j a b h e=>h (nm.inj i a j b e)
 refine⟨?_,fun kn=>?_,fun kn=>?_⟩
 ·show(true && chkT _ _ (bs N z 0))=true;rw[vJ0];rfl
 ·show((getA [(N 0,(z 0:Int))] (N 1)).isNone && chkT _ _ (bd N z 1))=true;rw[show getA [(N 0,(z 0:Int))] (N 1)=none by unfold getA getA;rw[if_neg (ne 0 1 (by decide) (by decide) (by decide))]];rw[bd,chkT,chkT,vJ0,bF,show getA [(N 0,(z 0:Int))] (N 0)=some (z 0:Int) by unfold getA;rw[if_pos rfl],decide_eq_true rfl,qX2 (by rw[chkT])];rfl
 ·show((getA [(N 0,(z 0:Int)),(N 1,(z 1:Int))] (N 2)).isNone && chkT _ _ (bd N z 2))=true;rw[show getA [(N 0,(z 0:Int)),(N 1,(z 1:Int))] (N 2)=none by unfold getA getA getA;rw[if_neg (ne 0 2 (by decide) (by decide) (by decide)),if_neg (ne 1 2 (by decide) (by decide) (by decide))]];rw[bd,chkT,chkT,vJ0,bF,show getA [(N 0,(z 0:Int)),(N 1,(z 1:Int))] (N 1)=some (z 1:Int) by unfold getA getA;rw[if_neg (ne 0 1 (by decide) (by decide) (by decide)),if_pos rfl],decide_eq_true rfl,qX2 (by rw[chkT])];rfl
structure Gk(N:Nat->Str)(z:Nat->Nat)(R:List Rw)(kn:List Str):Prop where
 chk:zT R [] []=true
 hl:hlR R=hl3 N z
 mem:∀x,x∈kn↔x∈lets R
 nm:∀x∈lets R,∃i,1<=i/\i<6/\x=N i
theorem zQ6(nm:Nms N u fb)(b:∀k,k<3->z k<=3)(h:Gs N z R kn):Gk N z R kn:=by
 induction h with
 | nil=>
   obtain⟨c,d,e⟩:=zXh nm b;obtain⟨f,j,c2⟩:=zK8 nm b;refine⟨?_,?_,fun x=>Iff.rfl,fun x hx=>⟨4,by decide,by decide,bW.mp hx⟩⟩
   ·show(chkT (zX []) [] (.num 1) && (jK [(N 4,())] [] (dfR N z 0) && (jK [(N 4,())] (vG [] (dfR N z 0)) (dfR N z 1) && (jK [(N 4,())] (vG (vG [] (dfR N z 0)) (dfR N z 1)) (dfR N z 2) && true))))=true;rw[d,e,chkT,show jK [(N 4,())] [] (dfR N z 0)=true from f,j,c2];rfl
   ·exact c
 | @snoc R kn kn' r h g ih=>
   have a:∀x∈kn,zX (knR R) x=true:=fun x hx=>by rw[qZh,decide_eq_true ((ih.mem x).mp hx)]
   cases g with
   | see g h' =>
     refine⟨?_,by unfold hlR;rw[List.foldl_append];exact ih.hl,fun x=>by rw[jZ,show lets [Rw.see _]=[] from rfl,bK];exact ih.mem x,fun x hx=>ih.nm x (by rw[jZ,show lets [Rw.see _]=[] from rfl,bK]at hx;exact hx)⟩;rw[qVt,ih.chk,show R.foldl vG []=hl3 N z from ih.hl];show(chkT (zX (knR R)) (hl3 N z) _ && true)=true;rw[zQ5 nm g a];rfl
   | ag hx hj g h' =>
     refine⟨?_,by unfold hlR;rw[List.foldl_append];exact ih.hl,fun x=>by rw[jZ,show lets [Rw.ag _ _ _]=[] from rfl,bK];exact ih.mem x,fun x hx=>ih.nm x (by rw[jZ,show lets [Rw.ag _ _ _]=[] from rfl,bK]at hx;exact hx)⟩;rw[qVt,ih.chk,show R.foldl vG []=hl3 N z from ih.hl];show((zX (knR R) _ && chkT (zX (knR R)) (hl3 N z) _) && true)=true;rw[zQ5 nm g a,a _ hx];rfl
   | @lt i h1 h6 n=>
     refine⟨?_,by unfold hlR;rw[List.foldl_append];exact ih.hl,fun x=>?_,fun x hx=>?_⟩
     ·rw [qVt,ih.chk,show R.foldl vG []=hl3 N z from ih.hl];show(chkT (zX (knR R)) (hl3 N z) (.num n) && true)=true;rw[chkT];rfl
     ·rw [jZ,show lets [Rw.lt (N i) (.num n)]=[N i] from rfl,bR,←ih.mem];split
      ·rename_i q;exact⟨.inl,fun h=>h.elim id fun h=>by rw[bW.mp h];exact q⟩
      ·exact bR
     ·rw [jZ,show lets [Rw.lt (N i) (.num n)]=[N i] from rfl,bR] at hx;rcases hx with hx|hx
      ·exact ih.nm x hx
      ·exact⟨i,h1,h6,bW.mp hx⟩
end
inductive Co(hs:Hs):Nat->Nm->Tm->Nat->Nat->Prop
 |num {h:Nat} {ν:Nm} (n:Int):Co hs (h+1) ν (.num n) 1 0
 |name {h:Nat} {ν:Nm} {x:Str} (e:∃i,getA ν x=some i):Co hs (h+1) ν (.name x) 1 0
 |flip {h:Nat} {ν:Nm} (a b:Int):Co hs (h+1) ν (.flip a b) 1 1
 |op {h:Nat} {ν:Nm} {g:Sg} {x y:Tm} {a b c d:Nat} (hx:Co hs h ν x a b) (hy:Co hs h ν y c d):Co hs (h+1) ν (.op g x y) (1+a+c) (b+d)
 |ite {h:Nat} {ν:Nm} {w x y:Tm} {p q a b c d:Nat} (hw:Co hs h ν w p q) (hx:Co hs h ν x a b) (hy:Co hs h ν y c d):Co hs (h+1) ν (.ite w x y) (1+p+a+c) (q+b+d)
 |fld {h:Nat} {ν:Nm} {x:Tm} {f:Str} {a b:Nat} (hx:Co hs h ν x a b):Co hs (h+1) ν (.field x f) (1+a) b
 |rcd {h:Nat} {ν:Nm} {fs:List Str} {x y:Tm} {a b c d:Nat} (hx:Co hs h ν x a b) (hy:Co hs h ν y c d):Co hs (h+1) ν (.rcd fs [x,y]) (1+a+c) (b+d)
 |call {h:Nat} {ν:Nm} {f:Str} {ps:List Str} {b t:Tm} {n m k l:Nat} (e:getA hs f=some (ps,b)) (ht:Co hs h ν t n m) (hb:∀μ:Nm,(∀x∈ps,∃i,getA μ x=some i)->Co hs h μ b k l):Co hs (h+1) ν (.call f (List.replicate ps.length t)) (ps.length * (1+n)+k) (ps.length * m+l)
 |le {h:Nat} {ν:Nm} {t:Tm} {n m n' m' :Nat} (c:Co hs h ν t n m) (h1:n<=n') (h2:m<=m'):Co hs h ν t n' m'
noncomputable def Op(r:Res (OT×Sd))(s:Sd)(n m:Nat):Prop:=∃q,r=.ok q/\q.2.tm<=s.tm+n/\q.2.dr.length<=s.dr.length+m
theorem cnt{s:Sd}(h:s.tm+(1+n:Nat)<=600):count s=.ok {s with tm:=s.tm+1}:=by
 unfold count;rw[if_pos (by omega)]
theorem args_co{R:Tm->Sd->Res (OT×Sd)}{t:Tm}(a:∀s:Sd,s.tm+n<=600->s.dr.length+m<=60->Op (R t s) s n m):∀(ps:List Str) (s:Sd) (own:Nm) (bs:List (Int×OT)),s.tm+(ps.length * (1+n):Nat)<=600->s.dr.length+ps.length * m<=60->∃q,yJ R ps (List.replicate ps.length t) s own bs=.ok q/\q.2.2.tm<=s.tm+(ps.length * (1+n):Nat)/\q.2.2.dr.length<=s.dr.length+ps.length * m/\∀x,(x∈ps\/∃i,getA own x=some i)->∃i,getA q.1 x=some i
 |[],s,own,bs,_,_=>⟨(own,bs,s),rfl,by simp,by simp,fun x hx=>hx.elim (fun h=>nomatch h) id⟩
 | p::ps,s,own,bs,h1,h2=>by
   rw[aK,Nat.succ_mul]at h1 h2;rw[aK,Nat.succ_mul,Nat.succ_mul,dQ];obtain⟨q,e,b,c⟩:=a {s with tm:=s.tm+1} (by show s.tm+1+n<=600;omega) (by show s.dr.length+m<=60;omega);have d :q.2.tm<=s.tm+1+n:=b;have f :q.2.dr.length<=s.dr.length+m:=c;obtain⟨r,g,j,k,l⟩:=args_co a ps {q.2 with sl:=q.2.sl+1} (putA own p q.2.sl) (bs ++ [(q.2.sl,q.1)]) (by show q.2.tm+_<=600;omega) (by show q.2.dr.length+_<=60;omega);have o :r.2.2.tm<=q.2.tm+(ps.length * (1+n):Nat):=j;have u :r.2.2.dr.length<=q.2.dr.length+ps.length * m:=k;refine⟨r,?_,by omega,by omega,fun x hx=>l x ?_⟩
   ·show(count s).bind _=_;rw[cnt (n:=n) (by omega)];show(R t {s with tm:=s.tm+1}).bind _=_;rw[e];exact g
   ·rcases hx with hx | ⟨i,v⟩
    ·rcases aA.mp hx with rfl | hx
     ·exact .inr ⟨_,by rw[qQb,if_pos rfl]⟩
     ·exact .inl hx
    ·right;rw[qQb];by_cases y:p=x
     ·rw[if_pos y];exact⟨_,rfl⟩
     ·rw[if_neg y];exact⟨i,v⟩
theorem co_open{hs:Hs}{h:Nat}{t:Tm}(c:Co hs h ν t n m):∀s:Sd,s.tm+n<=600->s.dr.length+m<=60->Op (qM hs h ν t s) s n m:=by
 induction c with
 | num n=>
   intro s j u;show Op ((count s).bind _) s 1 0;rw[cnt (n:=0) j];exact⟨_,rfl,Int.le_refl _,aB _⟩
 | @name h ν x e=>
   intro s j u;obtain⟨i,e⟩:=e;have o :qM hs (h+1) ν (.name x) s=(count s).bind fun s=>match getA ν x with
    |none=>.no
    |some i=>.ok (.slot i,s):=rfl
   rw[o,e,cnt (n:=0) j];exact⟨_,rfl,Int.le_refl _,aB _⟩
 | flip a b=>
   intro s j u;show Op ((count s).bind fun s=>qVq _ s) s 1 1;rw[cnt (n:=0) j];show Op (qVq _ _) s 1 1;unfold qVq;rw[if_pos (show s.dr.length<60 by omega)];exact⟨_,rfl,Int.le_refl _,by simp⟩
 | @op h ν g x y a b c d E hy ix iy=>
   intro s j u;obtain⟨q,A,B,C⟩:=ix {s with tm:=s.tm+1} (by show s.tm+1+a<=600;omega) (by show s.dr.length+b<=60;omega);have F :q.2.tm<=s.tm+1+a:=B;have G :q.2.dr.length<=s.dr.length+b:=C;obtain⟨r,D,H,I⟩:=iy q.2 (by omega) (by omega);have o :qM hs (h+1) ν (.op g x y) s=(count s).bind fun s=>(qM hs h ν x s).bind fun q=>(qM hs h ν y q.2).bind fun r=>.ok (.op g q.1 r.1,r.2):=rfl
   rw[o,cnt (n:=a+c) (by omega)];show Op ((qM hs h ν x {s with tm:=s.tm+1}).bind _) s _ _;rw[A];show Op ((qM hs h ν y q.2).bind _) s _ _;rw[D];exact⟨_,rfl,by show r.2.tm<=_;omega,by show r.2.dr.length<=_;omega⟩
 | @ite h ν w x y p p' a b c d hw E hy iw ix iy=>
   intro s j u;obtain⟨v,J,K,L⟩:=iw {s with tm:=s.tm+1} (by show s.tm+1+p<=600;omega) (by show s.dr.length+p' <=60;omega);have M :v.2.tm<=s.tm+1+p:=K;have N :v.2.dr.length<=s.dr.length+p' :=L;obtain⟨q,A,B,C⟩:=ix v.2 (by omega) (by omega);obtain⟨r,D,H,I⟩:=iy q.2 (by omega) (by omega);have o :qM hs (h+1) ν (.ite w x y) s=(count s).bind fun s=>(qM hs h ν w s).bind fun p=>(qM hs h ν x p.2).bind fun q=>(qM hs h ν y q.2).bind fun r=>.ok (.ite p.1 q.1 r.1,r.2):=rfl
   rw[o,cnt (n:=p+a+c) (by omega)];show Op ((qM hs h ν w {s with tm:=s.tm+1}).bind _) s _ _;rw[J];show Op ((qM hs h ν x v.2).bind _) s _ _;rw[A];show Op ((qM hs h ν y q.2).bind _) s _ _;rw[D];exact⟨_,rfl,by show r.2.tm<=_;omega,by show r.2.dr.length<=_;omega⟩
 | @fld h ν x f a b E ix=>
   intro s j u;obtain⟨q,A,B,C⟩:=ix {s with tm:=s.tm+1} (by show s.tm+1+a<=600;omega) u;have F :q.2.tm<=s.tm+1+a:=B;have o :qM hs (h+1) ν (.field x f) s=(count s).bind fun s=>(qM hs h ν x s).bind fun q=>.ok (.field q.1 f,q.2):=rfl
   rw[o,cnt (n:=a) (by omega)];show Op ((qM hs h ν x {s with tm:=s.tm+1}).bind _) s _ _;rw[A];exact⟨_,rfl,by show q.2.tm<=_;omega,C⟩
 | @rcd h ν fs x y a b c d E hy ix iy=>
   intro s j u;obtain⟨q,A,B,C⟩:=ix {s with tm:=s.tm+1} (by show s.tm+1+a<=600;omega) (by show s.dr.length+b<=60;omega);have F :q.2.tm<=s.tm+1+a:=B;have G :q.2.dr.length<=s.dr.length+b:=C;obtain⟨r,D,H,I⟩:=iy q.2 (by omega) (by omega);have o :qM hs (h+1) ν (.rcd fs [x,y]) s=(count s).bind fun s=>(qV9 (qM hs h ν) [x,y] s).bind fun q=>.ok (.rcd fs q.1,q.2):=rfl
   rw[o,cnt (n:=a+c) (by omega)];show Op (((qM hs h ν x {s with tm:=s.tm+1}).bind fun q=>(qV9 (qM hs h ν) [y] q.2).bind fun z=>.ok (q.1::z.1,z.2)).bind _) s _ _;rw[A];show Op ((((qM hs h ν y q.2).bind fun q=>(qV9 (qM hs h ν) [] q.2).bind fun z=>.ok (q.1::z.1,z.2)).bind _).bind _) s _ _;rw[D];exact⟨_,rfl,by show r.2.tm<=_;omega,by show r.2.dr.length<=_;omega⟩
 | @call h ν f ps b t n m k l e ht hb it ib=>
   intro s j u;obtain⟨q,A,B,C,O⟩:=args_co it ps s [] [] (by omega) (by omega);obtain⟨r,D,H,I⟩:=ib q.1 (fun x E=>O x (.inl E)) q.2.2 (by omega) (by omega);have o :qM hs (h+1) ν (.call f (List.replicate ps.length t)) s=match getA hs f with
    |none=>.no
    |some p=>(yJ (qM hs h ν) p.1 (List.replicate ps.length t) s [] []).bind fun q=>(qM hs h q.1 p.2 q.2.2).bind fun w=>.ok (qX5 q.2.1 w.1,w.2):=rfl
   rw[o,e];show Op ((yJ (qM hs h ν) ps (List.replicate ps.length t) s [] []).bind _) s _ _;rw[A];show Op ((qM hs h q.1 b q.2.2).bind _) s _ _;rw[D];exact⟨_,rfl,by show r.2.tm<=_;omega,by show r.2.dr.length<=_;omega⟩
 | le c j u ih=>
   intro s g1 P;obtain⟨q,e,B,C⟩:=ih s (by omega) (by omega);exact⟨q,e,by omega,by omega⟩
section
variable{N:Nat->Str}{z:Nat->Nat}{u fb:Str}
noncomputable abbrev hs3(N:Nat->Str)(z:Nat->Nat):Hs:=[(N 0,((pr N 0).take (z 0),bd N z 0)),(N 1,((pr N 1).take (z 1),bd N z 1)),(N 2,((pr N 2).take (z 2),bd N z 2))]
theorem getH(nm:Nms N u fb){k:Nat}(hk:k<3):getA (hs3 N z) (N k)=some ((pr N k).take (z k),bd N z k):=by
 have ne:∀i j,i<6->j<6->i≠j->N i≠N j:=fun i j a b h e=>h (nm.inj i a j b e)
 unfold hs3 getA getA getA;match k,hk with
 | 0,_=>rw[if_pos rfl]
 | 1,_=>rw[if_neg (ne 0 1 (by decide) (by decide) (by decide)),if_pos rfl]
 | 2,_=>rw[if_neg (ne 0 2 (by decide) (by decide) (by decide)),if_neg (ne 1 2 (by decide) (by decide) (by decide)),if_pos rfl]
theorem vZc{hs:Hs}(k h:Nat)(μ:Nm)(a:∀x∈(pr N k).take (z k),∃i,getA μ x=some i):Co hs (h+2) μ (bs N z k) 3 1:=by
 unfold bs;by_cases g:0<z k
 ·rw [if_pos g];exact .op (.name (a _ (by unfold pr;cases e:z k with|zero=>omega|succ n=>rw[List.take_succ_cons];exact cC))) (.flip _ _)
 ·rw [if_neg g];exact .le (.flip _ _) (by decide) (by decide)
theorem vVp(nm:Nms N u fb)(a:∀k,k<3->z k<=3){k h:Nat}(hk:k<3){t:Tm}(b:Co (hs3 N z) h ν t 1 0)(hb:∀μ:Nm,(∀x∈(pr N k).take (z k),∃i,getA μ x=some i)->Co (hs3 N z) h μ (bd N z k) n m):Co (hs3 N z) (h+1) ν (.call (N k) (List.replicate (z k) t)) (6+n) m:=by
 have l:((pr N k).take (z k)).length =z k:=by rw[bG];show min (z k) 3=_;have:=a k hk;omega
 have c:=Co.call (getH nm hk) b hb;rw[l]at c;exact c.le (by have:=a k hk;omega) (by omega)
theorem jVq(nm:Nms N u fb)(b:∀k,k<3->z k<=3){k:Nat}(hk:k<3)(h:Nat)(μ:Nm)(a:∀x∈(pr N k).take (z k),∃i,getA μ x=some i):Co (hs3 N z) (h+6) μ (bd N z k) 29 5:=by
 have c:∀h μ,(∀x∈(pr N 0).take (z 0),∃i,getA μ x=some i)->Co (hs3 N z) (h+2) μ (bd N z 0) 3 1:=fun h μ a=>vZc 0 h μ a
 have d:∀h μ,(∀x∈(pr N 1).take (z 1),∃i,getA μ x=some i)->Co (hs3 N z) (h+4) μ (bd N z 1) 16 3:=fun h μ a=>(Co.ite (vZc 1 (h+1) μ a) (vVp nm b (k:=0) (h:=h+2) (by decide) (.num _) (c h)) (vZc 1 (h+1) μ a)).le (by decide) (by decide)
 match k,hk with
 | 0,_=>exact(c (h+4) μ a).le (by decide) (by decide)
 | 1,_=>exact(d (h+2) μ a).le (by decide) (by decide)
 | 2,_=>exact(Co.ite (vZc 2 (h+3) μ a) (vVp nm b (k:=1) (h:=h+4) (by decide) (.num _) (d h)) (vZc 2 (h+3) μ a)).le (by decide) (by decide)
theorem jVe(nm:Nms N u fb)(a:∀k,k<3->z k<=3){t:Tm}(g:Gt N z kn t)(hk:∀x∈kn,∃i,getA ν x=some i):Co (hs3 N z) 30 ν t 35 5:=by
 cases g with
 |name h=>exact(Co.name (h:=29) (hk _ h)).le (by decide) (by decide)
 |lt h n=>exact(Co.op (h:=29) (.name (h:=28) (hk _ h)) (.num n)).le (by decide) (by decide)
 |fld h n=>exact(Co.fld (h:=29) (.rcd (h:=28) (.name (h:=27) (hk _ h)) (.num n))).le (by decide) (by decide)
 |call h hk' =>exact vVp nm a (h:=29) hk' (.name (h:=28) (hk _ h)) (jVq nm a hk' 23)
theorem zXz{t:Tm}(a:∀k,k<3->z k<=3)(g:Gt N z kn t):t.wf/\t.h<=3:=by
 have rw1:∀(x:Str) n,Tm.wfs (List.replicate n (.name x))/\Tm.hs (List.replicate n (.name x))<=1:=fun x n=>by
  induction n with
  |zero=>simp[Tm.wfs,Tm.hs]
  |succ n ih=>rw[dQ,Tm.wfs,Tm.hs];exact⟨⟨by simp[Tm.wf],ih.1⟩,by rw[Tm.h];omega⟩
 cases g with
 |name|lt|fld=>simp[Tm.wf,Tm.wfs,Tm.h,Tm.hs]
 | @call x h k hk=>
   rw[Tm.wf,Tm.h,bF];have:=a k hk;exact⟨⟨by omega,(rw1 x _).1⟩,by have:=(rw1 x (z k)).2;omega⟩
end
theorem qVd(r:Rw):∀(A:List Rw) (o:Os),xC (A ++ [r]) o=(xC A o).bind fun o=>jT o r
 | [],o=>by
   show(jT o r).bind (xC [])=jT o r;cases jT o r <;> rfl
 | q::A,o=>by
   show(jT o q).bind _=((jT o q).bind _).bind _;cases jT o q with
   |ok p=>exact qVd r A p
   |er|no=>rfl
noncomputable def rw1:Rw->Bool
 |.ag n _ _=>decide (n<=1)
 |_=>true
theorem zJj{o o' :Os}{r:Rw}(h:rw1 r=true)(e:jT o r=.ok o'):o'.ν.length<=o.ν.length+1/\o'.st.length<=o.st.length+1/\o'.hs.length<=o.hs.length+1:=by
 have lt:∀{x t} {o o' :Os},qQr o x t=.ok o' ->o'.ν.length<=o.ν.length+1/\o'.st.length<=o.st.length+1/\o'.hs.length<=o.hs.length+1:=fun {x t o o'} e=>by
  obtain⟨a,b,c⟩:=qQu e;exact⟨by omega,by omega,by rw[a];omega⟩
 cases r with
 |df f ps t=>cases e;exact⟨cS _,cS _,xB⟩
 |lt x t=>exact lt e
 | ag n x t=>
   have j:n<=1:=of_decide_eq_true h;have d :yM x t n.toNat o=.ok o' :=e;rcases(by omega:n.toNat=0\/n.toNat=1) with q|q
   ·rw[q]at d;cases d;exact⟨cS _,cS _,cS _⟩
   ·rw [q] at d;obtain⟨o1,g,i⟩:=vJ (show(qQr o x t).bind _=_ from d);cases i;exact lt g
 | see t=>
   obtain⟨q,g,e⟩:=vJ (show(qM o.hs 30 o.ν t o.s).bind _=_ from e);cases e;exact⟨cS _,by simp,cS _⟩
 | ask t=>
   obtain⟨q,g,e⟩:=vJ (show(qM o.hs 30 o.ν t o.s).bind _=_ from e);cases e;exact⟨cS _,by simp,cS _⟩
theorem vZm:∀(rs:List Rw) (o o' :Os),(∀r∈rs,rw1 r=true)->xC rs o=.ok o' ->o'.ν.length<=o.ν.length+rs.length/\o'.st.length<=o.st.length+rs.length/\o'.hs.length<=o.hs.length+rs.length
 |[],o,o',_,e=>by cases e;exact⟨aB _,aB _,aB _⟩
 | r::rs,o,o',hw,e=>by
   obtain⟨o1,d,e⟩:=vJ (show(jT o r).bind _=_ from e);obtain⟨i2,g,h⟩:=zJj (hw r (by simp)) d;obtain⟨a,b,c⟩:=vZm rs o1 o' (fun q f=>hw q (aM _ f)) e;rw[aK];exact⟨by omega,by omega,by omega⟩
section
variable{N:Nat->Str}{z:Nat->Nat}{u fb:Str}
theorem vV8(n:Nat)(c:Int):Tm.wfs (List.replicate n (.num c))/\Tm.hs (List.replicate n (.num c))<=1:=by
 induction n with
 |zero=>simp[Tm.wfs,Tm.hs]
 |succ n ih=>rw[dQ,Tm.wfs,Tm.hs];exact⟨⟨by simp[Tm.wf],ih.1⟩,by rw[Tm.h];omega⟩
theorem df_ok(a:∀k,k<3->z k<=3){k:Nat}(hk:k<3):(bd N z k).wf /\(bd N z k).h <=4:=by
 have b:∀k,(bs N z k).wf /\(bs N z k).h <=2:=fun k=>by
  unfold bs;split <;> simp[Tm.wf,Tm.h]
 cases k with
 |zero=>exact⟨(b 0).1,by have:=(b 0).2;rw[bd];omega⟩
 | succ k=>
   have:=(b (k+1)).2;have r:=vV8 (z k) ((k+1:Nat):Int);have:=a k (by omega);rw[bd,Tm.wf,Tm.h,Tm.wf,Tm.h,bF];exact⟨⟨(b (k+1)).1,⟨by omega,r.1⟩,(b (k+1)).1⟩,by omega⟩
structure Gw(R:List Rw):Prop where
 ok:∀r∈R,qW6 r/\r.t.h<=4/\rw1 r=true
 df:(R.filter isDf).length =3
theorem zX0(f:∀k,k<3->z k<=3)(h:Gs N z R kn):Gw R:=by
 have i:∀k,k<3->qW6 (dfR N z k)/\(dfR N z k).t.h<=4/\rw1 (dfR N z k)=true:=fun k m=>by
  obtain⟨a,b⟩:=df_ok (N:=N) f m;exact⟨⟨a,by show(bd N z k).h <=30;omega,fun _ _ _ e=>nomatch e⟩,b,rfl⟩
 have d:∀n:Int,(Tm.num n).wf /\(Tm.num n).h <=4:=fun n=>by simp[Tm.wf,Tm.h]
 induction h with
 | nil=>
   refine⟨fun r l=>?_,rfl⟩;simp only[aA,List.not_mem_nil,or_false]at l;rcases l with rfl|rfl|rfl|rfl
   ·exact⟨⟨(d 1).1,by show(Tm.num 1).h <=30;have:=(d 1).2;omega,fun _ _ _ e=>nomatch e⟩,(d 1).2,rfl⟩
   ·exact i 0 (by decide)
   ·exact i 1 (by decide)
   ·exact i 2 (by decide)
 | @snoc R kn kn' r h g ih=>
   have c:qW6 r/\r.t.h<=4/\rw1 r=true/\isDf r=false:=by
    cases g with
    | @see t g h' =>
      obtain⟨a,b⟩:=zXz f g;exact⟨⟨a,by show t.h<=30;omega,fun _ _ _ e=>nomatch e⟩,by show t.h<=4;omega,rfl,rfl⟩
    | @ag t x j hx hj g h' =>
      obtain⟨a,b⟩:=zXz f g;exact⟨⟨a,by show t.h<=30;omega,fun _ _ _ e=>by cases e;omega⟩,by show t.h<=4;omega,decide_eq_true (by omega),rfl⟩
    |lt h1 h6 n=>exact⟨⟨(d n).1,by show(Tm.num n).h <=30;have:=(d n).2;omega,fun _ _ _ e=>nomatch e⟩,(d n).2,rfl,rfl⟩
   refine⟨fun q hq=>?_,by rw[List.filter_append,aU,ih.df,List.filter_cons_of_neg (by rw[c.2.2.2];decide)];rfl⟩;rcases bR.mp hq with hq|hq
   ·exact ih.ok q hq
   ·cases bW.mp hq;exact⟨c.1,c.2.1,c.2.2.1⟩
structure Go(N:Nat->Str)(z:Nat->Nat)(R:List Rw)(kn:List Str)(o:Os):Prop where
 e:xC R os0=.ok o
 hs:o.hs=hs3 N z
 kn:∀x∈kn,∃i,getA o.ν x=some i
 tm:o.s.tm<=((1+35 * (min R.length 14 - 4)+(R.length - 4):Nat):Int)
 dr:o.s.dr.length<=5 * (min R.length 14 - 4)
theorem put2{x:Str}{a b:α}(h:x≠y):putA [(x,a)] y b=[(x,a),(y,b)]:=by
 unfold putA putA;rw[if_neg h]
theorem put3{x w:Str}{a b c:α}(h:x≠w)(h2:y≠w):putA [(x,a),(y,b)] w c=[(x,a),(y,b),(w,c)]:=by
 unfold putA putA putA;rw[if_neg h,if_neg h2]
theorem vXj{x:Str}{j:Int}(h:x=y\/∃i,getA ν y=some i):∃i,getA (putA ν x j) y=some i:=by
 rw[qQb];by_cases q:x=y
 ·rw[if_pos q];exact⟨_,rfl⟩
 ·rw[if_neg q];exact h.elim (fun e=>absurd e q) id
theorem vX1(nm:Nms N u fb)(v:∀k,k<3->z k<=3)(h:Gs N z R kn):4<=R.length/\(R.length<=34->∃o,Go N z R kn o):=by
 have ne:∀i j,i<6->j<6->i≠j->N i≠N j:=fun i j w m h e=>h (nm.inj i w j m e)
 induction h with
 | nil=>
   refine⟨aB _,fun _=>⟨⟨hs3 N z,[(N 4,0)],[(0,.num 1)],⟨[],1,1⟩⟩,?_,rfl,fun x c=>⟨0,by rw[bW.mp c];unfold getA;rw[if_pos rfl]⟩,by show(1:Int)<=1;decide,eJ _⟩⟩;show Res.ok (Os.mk (putA (putA (putA [] (N 0) ((pr N 0).take (z 0),bd N z 0)) (N 1) ((pr N 1).take (z 1),bd N z 1)) (N 2) ((pr N 2).take (z 2),bd N z 2)) [(N 4,0)] [(0,.num 1)] ⟨[],1,1⟩)=_;rw[show putA ([]:Hs) (N 0) ((pr N 0).take (z 0),bd N z 0)=[(N 0,((pr N 0).take (z 0),bd N z 0))] from rfl,put2 (ne 0 1 (by decide) (by decide) (by decide)),put3 (ne 0 2 (by decide) (by decide) (by decide)) (ne 1 2 (by decide) (by decide) (by decide))]
 | @snoc R kn kn' r h g ih=>
   rw[aU];refine⟨by show 4<=_+1;omega,fun l=>?_⟩;have D :R.length+1<=34:=l;obtain⟨o,a⟩:=ih.2 (by omega);have E:=ih.1;have F:=a.tm;have G:=a.dr;have bd:∀{t:Tm},Gt N z kn t->(R.length<14\/∃x,t=.name x)->∃q,qM o.hs 30 o.ν t o.s=.ok q/\q.2.tm<=((1+35 * (min (R.length+1) 14 - 4)+(R.length+1 - 4):Nat):Int)/\q.2.dr.length<=5 * (min (R.length+1) 14 - 4):=fun {t} b A=>by
    by_cases q:R.length<14
    ·obtain⟨p,e,B,C⟩:=co_open (jVe nm v b a.kn) o.s (by omega) (by omega);rw[a.hs];exact⟨p,e,by omega,by omega⟩
    ·obtain⟨x,rfl⟩:=A.resolve_left q;have c:x∈kn:=by cases b;assumption
     obtain⟨p,e,B,C⟩:=co_open (hs:=hs3 N z) (Co.name (h:=29) (a.kn x c)) o.s (by omega) (by omega);rw[a.hs];exact⟨p,e,by omega,by omega⟩
   cases g with
   | see b h' =>
     obtain⟨q,e,d,f⟩:=bd b h';refine⟨{o with st:=o.st ++ [(-1,q.1)],s:=q.2},?_,a.hs,a.kn,?_,?_⟩
     ·rw [qVd,a.e];show(qM o.hs 30 o.ν _ o.s).bind _=_;rw[e];rfl
     ·rw[aU];exact d
     ·rw[aU];exact f
   | @ag t x j c m b h' =>
     obtain⟨q,e,d,f⟩:=bd b h';rcases(by omega:j=0\/j=1) with rfl|rfl
     ·refine⟨o,?_,a.hs,a.kn,?_,?_⟩
      ·rw[qVd,a.e];rfl
      ·rw[aU];show _<=((1+35 * (min (R.length+1) 14 - 4)+(R.length+1 - 4):Nat):Int);omega
      ·rw[aU];show _<=5 * (min (R.length+1) 14 - 4);omega
     ·refine⟨{o with ν:=putA o.ν x q.2.sl,st:=o.st ++ [(q.2.sl,q.1)],s:={q.2 with sl:=q.2.sl + 1}},?_,a.hs,fun y hy=>vXj (.inr (a.kn y hy)),?_,?_⟩
      ·rw [qVd,a.e];show(((qM o.hs 30 o.ν t o.s).bind _).bind _)=_;rw[e];rfl
      ·rw[aU];exact d
      ·rw[aU];exact f
   | @lt i h1 h6 n=>
     obtain⟨q,e,d,f⟩:=co_open (hs:=o.hs) (ν:=o.ν) (Co.num (h:=29) n) o.s (by omega) (by omega);refine⟨{o with ν:=putA o.ν (N i) q.2.sl,st:=o.st ++ [(q.2.sl,q.1)],s:={q.2 with sl:=q.2.sl+1}},?_,a.hs,fun y hy=>vXj ?_,?_,?_⟩
     ·rw [qVd,a.e];show(qM o.hs 30 o.ν _ o.s).bind _=_;rw[e];rfl
     ·split at hy
      ·exact .inr (a.kn y hy)
      ·rcases bR.mp hy with hy | hy
       ·exact .inr (a.kn y hy)
       ·exact .inl (bW.mp hy).symm
     ·rw[aU];show q.2.tm<=((1+35 * (min (R.length+1) 14 - 4)+(R.length+1 - 4):Nat):Int);omega
     ·rw[aU];show q.2.dr.length<=5 * (min (R.length+1) 14 - 4);omega
theorem vKh(nm:Nms N u fb)(i:∀k,k<3->z k<=3)(h:Gs N z R kn)(l:R.length<=34){x:Str}(n:x∈kn):∃o:Os,wQ [fz (.nd .lst ((R ++ [Rw.ask (.name x)]).map Rw.d))]=.ok (oneO o.st o.s.dr o.s.sl,[.un]):=by
 obtain⟨o,g⟩:=(vX1 nm i h).2 l;have p:=zQ6 nm i h;have j:=zX0 i h;have y:=g.tm;have A:=g.dr;obtain⟨q,e,B,C⟩:=co_open (hs:=o.hs) (Co.name (h:=29) (g.kn x n)) o.s (by omega) (by omega);have ok:∀r∈R ++ [Rw.ask (.name x)],qW6 r/\rw1 r=true:=fun r hr=>by
  rcases bR.mp hr with hr|hr
  ·exact⟨(j.ok r hr).1,(j.ok r hr).2.2⟩
  ·cases bW.mp hr;exact⟨⟨by show(Tm.name x).wf;simp[Tm.wf],by show(Tm.name x).h <=30;simp[Tm.h],fun _ _ _ e=>nomatch e⟩,rfl⟩
 refine⟨{o with st:=o.st ++ [(q.2.sl,q.1)],s:={q.2 with sl:=q.2.sl+1}},vY0 (R ++ [Rw.ask (.name x)]) _ (fun r hr=>(ok r hr).1) (by simp;omega) ?_ (by rw[List.filter_append,aU,j.df];exact aB 3) (fun f m o1 v w=>?_) (by show q.2.dr.length<=1000;omega) ?_⟩
 ·rw [qVt,p.chk];show(chkT (zX (knR R)) (hlR R) (.name x) && true)=true;rw[chkT,qZh,decide_eq_true ((p.mem x).mp n)];rfl
 ·obtain⟨a,b,c⟩:=vZm f os0 o1 (fun r hr=>(ok r (by rw [v];exact eV _ hr)).2) w;have:f.length<=35:=by
   have:=congrArg List.length v;rw[aU,aU]at this;have t:R.length+1=f.length+m.length:=this;omega
  have D :o1.ν.length<=0+f.length:=a;have E :o1.st.length<=0+f.length:=b;have F :o1.hs.length<=0+f.length:=c;exact⟨by omega,by omega,by omega⟩
 ·rw [qVd,g.e];show(qM o.hs 30 o.ν _ o.s).bind _=_;rw[e];rfl
end
theorem zY9{o:Oe}{h:Hn}(p:o.isP=true)(x:evO o env=.ok (h,e)):pOf o env=some h:=by
 cases o with
 | p s=>
   change (opt (s env)).bind _=_ at x;show s env=some h;cases q:s env with
   |none=>rw[q]at x;cases x
   |some v=>rw[q]at x;cases x;rfl
 |v s=>cases p
theorem jQm(R:List Nat)(hb:b<=R.length):Txt.slice (Sx R) none (some (b:Int))=Sx (R.take b):=by
 have:=beq_iff_eq.mp (slice_closes_to (x:=Sx R) (j:=b) ⟨by omega,by show((b:Nat):Int)<=((R.length:Nat):Int);omega⟩);rw[this];rfl
theorem zJb(R:List Nat)(b:a<=R.length):Txt.slice (Sx R) (some (a:Int)) none=Sx (R.drop a):=by
 have:=beq_iff_eq.mp (slice_closes_from (x:=Sx R) (i:=a) ⟨by omega,by show((a:Nat):Int)<=((R.length:Nat):Int);omega⟩);rw[this];show Sx _=Sx _;congr 1;rw[dI]
 ·rfl
 ·rw[dY];show R.length - ((a:Nat):Int).toNat <=(((R.length:Nat):Int) - ((a:Nat):Int)).toNat;omega
structure Nm0(N:Nat->Str)(u fb:Str)(l:List Nat):Prop extends Nms N u fb where
 n0:N 0=Sx l
 len:1<=l.length/\l.length<=8
 u0:u=Sx (if l.length=8 then l.take 7 ++ [102] else l ++ [122])
 f0:fb=Sx (102::l.drop 1)
noncomputable def letP:D->Option D
 |.nd .tup (.str k::x::_)=>if k="let" then some x else none
 |_=>none
noncomputable def letR:Rw->Option D
 |.lt x _=>some (.str x)
 |_=>none
theorem qJf(r:Rw):letP r.d=letR r:=by cases r <;> kernel_rfl
theorem qWx:∀A:List Rw,(A.map Rw.d).filterMap letP=(lets A).map D.str
 |[]=>rfl
 | r::A=>by
   rw[aO,cG,qJf];cases r with
   |lt x t=>show D.str x::_=D.str x::_;rw[qWx A]
   |df|ag|see|ask=>exact qWx A
noncomputable def lowP(A:List Str)(d:D):Option D:=(letP d).bind fun x=>match x with
 |.str s=>if s∈A then none else some (.str s)
 |_=>none
noncomputable def lowR(A:List Str):Rw->Option D
 |.lt x _=>if x∈A then none else some (.str x)
 |_=>none
theorem qWi(A:List Str)(r:Rw):lowP A r.d=lowR A r:=by
 unfold lowP;rw[qJf];cases r <;> rfl
theorem vZx(A:List Str):∀B:List Rw,∃ys:List Str,(B.map Rw.d).filterMap (lowP A)=ys.map D.str/\∀y∈ys,y∉A
 |[]=>⟨[],rfl,fun _ h=>nomatch h⟩
 | r::B=>by
   obtain⟨ys,e,h⟩:=vZx A B;rw[aO,cG,qWi];cases r with
   | lt x t=>
     by_cases a:x∈A
     ·rw[show lowR A (Rw.lt x t)=none from if_pos a];exact⟨ys,e,h⟩
     ·rw[show lowR A (Rw.lt x t)=some (.str x) from if_neg a];exact⟨x::ys,by show D.str x::_=D.str x::_;rw[e],fun y b=>(aA.mp b).elim (fun z=>by rw[z];exact a) (h y)⟩
   |df|ag|see|ask=>exact⟨ys,e,h⟩
theorem jQa(xs:List α)(n:Nat):cutL xs (some (n:Int)) none=xs.drop n:=by
 unfold cutL;rw[HT.vXf,show HT.sIx xs.length xs.length none=xs.length from rfl];by_cases h:n<=xs.length
 ·rw [Nat.min_eq_left h,dI];rw[dY];omega
 ·rw[Nat.min_eq_right (by omega),List.drop_of_length_le (aB _),List.drop_of_length_le (by omega),List.take_nil]
section
variable{N:Nat->Str}{u fb:Str}{l:List Nat}
theorem vYl(nm:Nm0 N u fb l)(W:List Rw)(a:Nat)(c:Int)(hl:W.length<=100):∃y,((∀x∈lets (W.take a),∃i,1<=i/\i<6/\x=N i)->y∉lets (W.take a))/\wY [fz (.nd .lst (W.map Rw.d)),fI (a:Nat),fI c,fz (nD N)]=.ok (.fz (.str y),[.un,.un,.un,.un]):=by
 have T:(∀x∈lets (W.take a),∃i,1<=i/\i<6/\x=N i)->N 0∉lets (W.take a):=fun G h=>by
  obtain⟨i,h1,H,e⟩:=G _ h;have:=nm.inj 0 (by decide) i H e;omega
 have U:(∀x∈lets (W.take a),∃i,1<=i/\i<6/\x=N i)->u∉lets (W.take a):=fun G h=>by
  obtain⟨i,h1,H,e⟩:=G _ h;exact nm.un i H e.symm
 have C:compS 1 [] [0] (iV (fzS (eSlL (oN 0) none (some (oV (oN 1)))))) (gN 0) (asB (o2 eqF (oIx (oN 0) (oC (.int 0))) (oC (.str "let")))) (oV (oIx (oN 0) (oC (.int 1)))) [fz (.nd .lst (W.map Rw.d)),fI (a:Nat),fI c,fz (nD N),.un,.un]=.ok (.ow .lst (((lets (W.take a)).map D.str).map .fz),[fz (.nd .lst (W.map Rw.d)),fI (a:Nat),fI c,fz (nD N),.un,.un]):=by
  obtain⟨V,k,v,rfl⟩:=compL_ok (g:=gN 0) (t:=asB (o2 eqF (oIx (oN 0) (oC (.int 0))) (oC (.str "let")))) (el:=oV (oIx (oN 0) (oC (.int 1)))) (fun e=>∃u,e=[u]) letP (ds:=(W.take a).map Rw.d) (env:=[.un]) (fun d e I J=>by
   obtain⟨v,rfl⟩:=J;obtain⟨r,_,rfl⟩:=List.mem_map.mp I;refine⟨[fz r.d],rfl,?_⟩;cases r with
   |lt x t=>exact .inl ⟨[fz (Rw.lt x t).d],_,[fz (Rw.lt x t).d],by kernel_rfl,rfl,qJf _,_,rfl⟩
   |df f ps b=>exact .inr ⟨[fz (Rw.df f ps b).d],by kernel_rfl,qJf _,_,rfl⟩
   |ag n x t=>exact .inr ⟨[fz (Rw.ag n x t).d],by kernel_rfl,qJf _,_,rfl⟩
   |see t=>exact .inr ⟨[fz (Rw.see t).d],by kernel_rfl,qJf _,_,rfl⟩
   |ask t=>exact .inr ⟨[fz (Rw.ask t).d],by kernel_rfl,qJf _,_,rfl⟩) ⟨_,rfl⟩
  rw[qWx]at k;have B:=qYd (i:=0) (env:=[fz (.nd .lst (W.map Rw.d)),fI (a:Nat),fI c,fz (nD N),.un,.un]) (ds:=W.map Rw.d) (lo:=none) (h1:=.d (.nd .lst (W.map Rw.d))) rfl rfl (qYj (v:=oV (oN 1)) (n:=(a:Int)) rfl) rfl rfl;rw[vQ8,←List.map_take]at B;refine qQt (ds:=(W.take a).map Rw.d) (e:=[fz (.nd .lst (W.map Rw.d)),fI (a:Nat),fI c,fz (nD N),.un,.un]) (qK5 (d:=.nd .lst ((W.take a).map Rw.d)) (v8 B (by rw[vP])) rfl rfl) ?_ k rfl;show(true && decide (((W.take a).map Rw.d).length <=lim))=true;rw[decide_eq_true (show((W.take a).map Rw.d).length <=lim by rw[aW,bG];exact aG (show min a W.length<=100 by omega) (show 100<=1000000 by decide))];rfl
 obtain⟨j,X,Y⟩:=vZx (lets (W.take a)) (W.drop a);generalize lets (W.take a)=A at *;have E:compS 2 [(1,4)] [0] (iV (fzS (eSlL (oN 0) (some (oV (oN 1))) none))) (gN 0) (bAnd (asB (o2 eqF (oIx (oN 0) (oC (.int 0))) (oC (.str "let")))) (asB (o2 niD (oIx (oN 0) (oC (.int 1))) (oN 1)))) (oV (oIx (oN 0) (oC (.int 1)))) [fz (.nd .lst (W.map Rw.d)),fI (a:Nat),fI c,fz (nD N),kO A,.un]=.ok (.ow .lst ((j.map D.str).map .fz),[fz (.nd .lst (W.map Rw.d)),fI (a:Nat),fI c,fz (nD N),kO A,.un]):=by
  obtain⟨V,k,v,rfl⟩:=compL_ok (g:=gN 0) (t:=bAnd (asB (o2 eqF (oIx (oN 0) (oC (.int 0))) (oC (.str "let")))) (asB (o2 niD (oIx (oN 0) (oC (.int 1))) (oN 1)))) (el:=oV (oIx (oN 0) (oC (.int 1)))) (fun e=>∃u,e=[u,kO A]) (lowP A) (ds:=(W.drop a).map Rw.d) (env:=[.un,kO A]) (fun d e I J=>by
   obtain⟨v,rfl⟩:=J;obtain⟨r,_,rfl⟩:=List.mem_map.mp I;refine⟨[fz r.d,kO A],rfl,?_⟩;cases r with
   | lt x t=>
     have q:lowP A (Rw.lt x t).d =if x∈A then none else some (.str x):=qWi A _
     have O:asB (o2 niD (oIx (oN 0) (oC (.int 1))) (oN 1)) [fz (Rw.lt x t).d,kO A]=.ok (!decide (x∈A),[fz (Rw.lt x t).d,kO A]):=
      jR (d:=.bl (!decide (x∈A))) (vO (vU (h1:=.d (.str x)) (h2:=.p 1 []) (x:=.str x) (y:=lsD A) rfl rfl rfl rfl (by show some (fzO (.ow .lst ((A.map D.str).map .fz)))=_;rw[vP]) (by unfold niD;rw[zQ0];rfl) rfl) rfl) rfl rfl
     by_cases F:x∈A
     ·exact .inr ⟨[fz (Rw.lt x t).d,kO A],xK (q:=true) (e:=[fz (Rw.lt x t).d,kO A]) (by kernel_rfl) (qR rfl (O.trans (by rw[decide_eq_true F];rfl))),by rw[q,if_pos F],_,rfl⟩
     ·exact .inl ⟨[fz (Rw.lt x t).d,kO A],.str x,[fz (Rw.lt x t).d,kO A],xK (q:=true) (e:=[fz (Rw.lt x t).d,kO A]) (by kernel_rfl) (qR rfl (O.trans (by rw[decide_eq_false F];rfl))),rfl,by rw[q,if_neg F],_,rfl⟩
   |df f ps b=>exact .inr ⟨[fz (Rw.df f ps b).d,kO A],by kernel_rfl,qWi A _,_,rfl⟩
   |ag n x t=>exact .inr ⟨[fz (Rw.ag n x t).d,kO A],by kernel_rfl,qWi A _,_,rfl⟩
   |see t=>exact .inr ⟨[fz (Rw.see t).d,kO A],by kernel_rfl,qWi A _,_,rfl⟩
   |ask t=>exact .inr ⟨[fz (Rw.ask t).d,kO A],by kernel_rfl,qWi A _,_,rfl⟩) ⟨_,rfl⟩
  rw[X]at k;have B:=qYd (i:=0) (env:=[fz (.nd .lst (W.map Rw.d)),fI (a:Nat),fI c,fz (nD N),kO A,.un]) (ds:=W.map Rw.d) (hi:=none) (h1:=.d (.nd .lst (W.map Rw.d))) rfl (qYj (v:=oV (oN 1)) (n:=(a:Int)) rfl) rfl rfl rfl;rw[jQa,←List.map_drop]at B;refine qQt (ds:=(W.drop a).map Rw.d) (e:=[fz (.nd .lst (W.map Rw.d)),fI (a:Nat),fI c,fz (nD N),kO A,.un]) (qK5 (d:=.nd .lst ((W.drop a).map Rw.d)) (v8 B (by rw[vP])) rfl rfl) ?_ k rfl;show(true && decide (((W.drop a).map Rw.d).length <=lim))=true;rw[decide_eq_true (show((W.drop a).map Rw.d).length <=lim by rw[aW,dY];exact aG (show W.length - a<=100 by omega) (show 100<=1000000 by decide))];rfl
 have P:evO (oL lenD [oN 5]) [fz (.nd .lst (W.map Rw.d)),fI (a:Nat),fI c,fz (nD N),kO A,kO j]=.ok (.d (nI j.length),[fz (.nd .lst (W.map Rw.d)),fI (a:Nat),fI c,fz (nD N),kO A,kO j]):=by
  have:=vW2 (ds:=j.map D.str) (i:=5) (env:=[fz (.nd .lst (W.map Rw.d)),fI (a:Nat),fI c,fz (nD N),kO A,kO j]) rfl;rw[aW]at this;exact this
 have Q:asB (oGt (oL lenD [(oN 5)]) (oC (.int 0))) [fz (.nd .lst (W.map Rw.d)),fI (a:Nat),fI c,fz (nD N),kO A,kO j]=.ok (decide ((0:Int)<(j.length:Nat)),[fz (.nd .lst (W.map Rw.d)),fI (a:Nat),fI c,fz (nD N),kO A,kO j]):=jR (vO (vU (h1:=.d (nI j.length)) (h2:=.d (.int 0)) P rfl rfl rfl rfl rfl rfl) rfl) rfl rfl;unfold wY;by_cases z:(0:Int)<(j.length:Nat)/\0<c % 3
 ·obtain⟨y,Z,e⟩:=ix_mod (kn:=j) (fun h=>by rw [h] at z;exact absurd z.1 (by decide)) (env:=[fz (.nd .lst (W.map Rw.d)),fI (a:Nat),fI c,fz (nD N),kO A,kO j]) (o:=oN 5) (w:=oDiv (oN 2) (oC (.int 3))) (m:=c / 3) (h1:= .p 5 []) rfl rfl P (ix_ow (i:=5) rfl) rfl;exact⟨y,fun _=>Y y Z,vX (qW C (qW E (qB (q:=decide (0<c % 3)) (xK Q (qR (decide_eq_true z.1) rfl)) (qR (decide_eq_true z.2) (zH (vR e rfl) rfl))))) rfl⟩
 have K:bAnd (asB (oGt (oL lenD [(oN 5)]) (oC (.int 0)))) (asB (oGt (oMod (oN 2) (oC (.int 3))) (oC (.int 0)))) [fz (.nd .lst (W.map Rw.d)),fI (a:Nat),fI c,fz (nD N),kO A,kO j]=.ok (false,[fz (.nd .lst (W.map Rw.d)),fI (a:Nat),fI c,fz (nD N),kO A,kO j]):=by
  refine xK Q ?_
  by_cases q:(0:Int)<(j.length:Nat)
  ·refine qR (decide_eq_true q) ?_
   rw[←decide_eq_false (show¬(0<c % 3) from fun h=>z ⟨q,h⟩)];rfl
  ·exact qP (decide_eq_false q) rfl
 by_cases q:c % 2=0
 ·exact⟨N 0,T,vX (qW C (qW E (qB K (qP rfl (qN (qB (q:=c % 2 == 0) rfl (qR (by rw[q];rfl) (zH (vR (ix6 (k:=0) (by decide) rfl rfl) rfl) rfl)))))))) rfl⟩
 ·refine⟨u,U,?_⟩;have L:evO (oIx (oN 3) (oC (.int 0))) [fz (.nd .lst (W.map Rw.d)),fI (a:Nat),fI c,fz (nD N),kO A,kO j]=.ok (.d (.str (Sx l)),[fz (.nd .lst (W.map Rw.d)),fI (a:Nat),fI c,fz (nD N),kO A,kO j]):=by rw[←nm.n0];rfl
  have s:∀n,n<=20->n<=aI:=fun n h=>aG h (by decide)
  have R:asB (o2 eqF (oL lenD [(oIx (oN 3) (oC (.int 0)))]) (oC (.int 8))) [fz (.nd .lst (W.map Rw.d)),fI (a:Nat),fI c,fz (nD N),kO A,kO j]=.ok (((l.length:Nat):Int) == 8,[fz (.nd .lst (W.map Rw.d)),fI (a:Nat),fI c,fz (nD N),kO A,kO j]):=by
   refine jR (d:=.bl (((l.length:Nat):Int) == 8)) (vO (vU (h1:=.d (nI l.length)) (h2:=.d (.int 8)) (zQh (hs:=[.d (.str (Sx l))]) (wX L rfl (qVe rfl) rfl) rfl (by
    show cond (decide ((Sx l).length <=aI)) (some (D.int (Sx l).length)) none=_;rw[qVp,decide_eq_true (s _ (by have:=nm.len;omega))];rfl) rfl) rfl rfl rfl rfl rfl rfl) rfl) rfl rfl
  have S:∀p r:List Nat,p.length+r.length<=20->addS (.str (Sx p)) (.str (Sx r))=some (.str (Sx (p ++ r))):=fun p r h=>by
   show(if(Sx p).length+(Sx r).length <=aI then some (D.str (Sx p ++ Sx r)) else none)=_;rw[if_pos (by rw[qVp,qVp];exact s _ h),vJ2]
  by_cases M:l.length=8
  ·have sv:qKw (oIx (oN 3) (oC (.int 0))) none (some (oV (oC (.int 7)))) [fz (.nd .lst (W.map Rw.d)),fI (a:Nat),fI c,fz (nD N),kO A,kO j]=.ok (.str (Sx (l.take 7)),[fz (.nd .lst (W.map Rw.d)),fI (a:Nat),fI c,fz (nD N),kO A,kO j]):=by
    show(evO (oIx (oN 3) (oC (.int 0))) _).bind _=_;rw[L];show(opt (cond (decide ((Sx l).length <=aI)) (some (D.str (Txt.slice (Sx l) none (some ((7:Nat):Int))))) none)).bind _=_;rw[qVp,decide_eq_true (s _ (by omega)),jQm l (by omega)];rfl
   rw[nm.u0,if_pos M];exact vX (qW C (qW E (qB K (qP rfl (qN (qB (q:=c % 2 == 0) rfl (qP (beq_false_of_ne q) (qN (qB R (qR (by rw[M];rfl) (zH (vR (vO (vU (h1:=.d (.str (Sx (l.take 7)))) (h2:=.d (.str (Sx [102]))) (zD sv rfl) rfl rfl rfl rfl (S _ _ (by rw[bG];show _+1<=20;omega)) rfl) rfl) rfl) rfl))))))))))) rfl
  ·rw [nm.u0,if_neg M];exact vX (qW C (qW E (qB K (qP rfl (qN (qB (q:=c % 2 == 0) rfl (qP (beq_false_of_ne q) (qN (qB R (qP (beq_false_of_ne (by omega)) (qN (jN (vR (vO (vU (h1:=.d (.str (Sx l))) (h2:=.d (.str (Sx [122]))) L rfl rfl rfl rfl (S _ _ (by have:=nm.len;show _+1<=20;omega)) rfl) rfl) rfl) rfl)))))))))))) rfl
end
theorem qZ1{kn:Str->Bool}{b:Tm}(h:chkT kn hl b=false):∀{as:List Tm},b∈as->chkTs kn hl as=false
 | a::as,m=>by
   rw[chkTs];rcases aA.mp m with rfl|m
   ·rw[h];rfl
   ·rw[qZ1 h m,eQ]
theorem vW9:∀{as:List Tm},(∀a∈as,a.wf)->Tm.wfs as
 |[],_=>by rw[Tm.wfs];trivial
 |a::as,h=>by rw[Tm.wfs];exact⟨h a (by simp),vW9 fun b hb=>h b (aM _ hb)⟩
theorem zQ3:∀{as:List Tm},(∀a∈as,a.h<=m)->Tm.hs as<=m
 |[],_=>by rw[Tm.hs];omega
 | a::as,h=>by
   rw[Tm.hs];have:=h a (by simp);have:=zQ3 fun b hb=>h b (aM a hb)
   omega
theorem zXc(z:Nat->Nat){k:Nat}(hk:k<3): [nI (z 0),nI (z 1),nI (z 2)][k]?=some (nI (z k)):=by match k,hk with | 0,_=>rfl | 1,_=>rfl | 2,_=>rfl
theorem jVd(t:Tm):1<=t.h:=by cases t <;> rw[Tm.h] <;> omega
structure In(b t:Tm):Prop where
 bad:∀kn hl,chkT kn hl b=false->chkT kn hl t=false
 wf:b.wf->t.wf
 h:t.h<=b.h+1
section
variable{N:Nat->Str}{z:Nat->Nat}{u fb:Str}{l:List Nat}
noncomputable abbrev wE(c:Int)(N:Nat->Str)(z:Nat->Nat)(b:Tm)(x4 x5 x6:Slot):Ev:=[fI c,fz (nD N),fz (sD z),fz b.d,x4,x5,x6]
theorem within_ok(F:∀k,k<3->z k<=3)(c:Int)(b:Tm):∃t,In b t/\zV [fI c,fz (nD N),fz (sD z),fz b.d]=.ok (.fz t.d,[.un,.un,.un,.un]):=by
 have hb:=jVd b;obtain⟨w,W⟩:∃w:Nat,c / 9 % 3=(w:Nat):=⟨(c / 9 % 3).toNat,by omega⟩
 have m:w<3:=by omega
 have L:oV (oMod (oDiv (oN 0) (oC (.int 9))) (oC (.int 3))) (wE c N z b (fz (Tm.num (c % 1000)).d) .un .un)=.ok (nI w,wE c N z b (fz (Tm.num (c % 1000)).d) .un .un):=by unfold nI;rw[←W];rfl
 generalize M:Tm.num (c % 1000)=p at L;have B:p.wf/\p.h=1:=by rw[←M];simp[Tm.wf,Tm.h]
 have G:∀{s:SS} {X},s (wE c N z b (fz p.d) (fI (w:Nat)) .un)=X->sSeq (sSet 4 (owS (svTup [(oV (oC (.str "num"))),(oV (oMod (oN 0) (oC (.int 1000))))]))) (sSeq (sSet 5 (owS (oV (oMod (oDiv (oN 0) (oC (.int 9))) (oC (.int 3)))))) s) (wE c N z b .un .un .un)=X:=fun h=>qW (o:=.fz p.d) (e:=wE c N z b .un .un .un) (by rw[←M];rfl) (qW (vR L rfl) h)
 have P:asB (oGt (oIx (oN 2) (oN 5)) (oC (.int 0))) (wE c N z b (fz p.d) (fI (w:Nat)) .un)=.ok (decide ((0:Int)<(z w:Nat)),wE c N z b (fz p.d) (fI (w:Nat)) .un):=jR (vO (vU (h1:=.d (nI (z w))) (h2:=.d (.int 0)) (zL (h1:=.d (sD z)) (h2:=.d (nI w)) (y:=nI w) rfl rfl rfl rfl (by
   show(ixD (sD z) (nI w)).map Hn.d=_;rw[wG (d:=nI (z w)) (zXc z m)];rfl) rfl) rfl rfl rfl rfl rfl rfl) rfl) rfl rfl
 have C:∀(g:Sg),In b (.op g p b)/\In b (.op g b p):=fun g=>⟨⟨fun r A h=>by rw[chkT,h,eQ],fun h=>by rw[Tm.wf];exact⟨B.1,h⟩,by rw[Tm.h];omega⟩,⟨fun r A h=>by rw[chkT,h,Bool.false_and],fun h=>by rw[Tm.wf];exact⟨h,B.1⟩,by rw[Tm.h];omega⟩⟩
 unfold zV;by_cases D:c % 9=0/\(0:Int)<(z w:Nat)
 ·obtain⟨i,Y⟩:∃i:Nat,c / 27 % (z w:Nat)=(i:Nat):=⟨(c / 27 % (z w:Nat)).toNat,by have:=Int.emod_nonneg (c / 27) (show((z w:Nat):Int)≠0 by omega);omega⟩
  have Q:i<z w:=by have:=Int.emod_lt_of_pos (c / 27) D.2;omega
  have Z:oV (oIx (oN 2) (oN 5)) (wE c N z b (fz p.d) (fI (w:Nat)) .un)=.ok (nI (z w),wE c N z b (fz p.d) (fI (w:Nat)) .un):=ix3 (o:=oN 2) (i:=oN 5) m rfl rfl;obtain⟨e',a,v,rfl⟩:=compL_map (g:=gN 0) (el:=oV (oN 1)) (fun e=>∃u,e=[u,fz p.d]) (fun _=>p.d) (ds:=rngD 0 (z w)) (env:=[.un,fz p.d]) (fun d e G he=>by
   obtain⟨u,rfl⟩:=he;exact⟨[fz d,fz p.d],[fz d,fz p.d],rfl,rfl,_,rfl⟩) ⟨_,rfl⟩
  have R:(rngD 0 (z w)).length =z w:=by unfold rngD;rw[aW,List.length_range]
  rw[List.map_const',R]at a;have s6:compS 2 [(1,4)] [0] (iL rg1 [(oV (oIx (oN 2) (oN 5)))]) (gN 0) bTrue (oV (oN 1)) (wE c N z b (fz p.d) (fI (w:Nat)) .un)=.ok (.ow .lst ((List.replicate (z w) p.d).map .fz),wE c N z b (fz p.d) (fI (w:Nat)) .un):=by
   refine qQt (ds:=rngD 0 (z w)) (e:=wE c N z b (fz p.d) (fI (w:Nat)) .un) (qV4 (xs:=[nI (z w)]) (qZ Z (qI rfl) rfl) (vW0 (by have:=F w m;omega)) rfl) ?_ a rfl;show(true && decide ((rngD 0 (z w)).length <=lim))=true;rw[R,decide_eq_true (aG (F w m) (show 3<=1000000 by decide))];rfl
  have kx:pOf (oMod (oDiv (oN 0) (oC (.int 27))) (oIx (oN 2) (oN 5))) (wE c N z b (fz p.d) (fI (w:Nat)) (.s false (.ow .lst ((List.replicate (z w) p.d).map .fz))))=some (.d (.int (c / 27 % (z w:Nat)))):=zY9 (e:=wE c N z b (fz p.d) (fI (w:Nat)) (.s false (.ow .lst ((List.replicate (z w) p.d).map .fz)))) rfl (vU (h1:=.d (.int (c / 27))) (h2:=.d (nI (z w))) rfl (zL (h1:=.d (sD z)) (h2:=.d (nI w)) (y:=nI w) rfl rfl rfl rfl (by
   show(ixD (sD z) (nI w)).map Hn.d=_;rw[wG (d:=nI (z w)) (zXc z m)];rfl) rfl) rfl rfl rfl (md D.2) rfl)
  have st:sSetI (pOf (oN 6)) (pOf (oMod (oDiv (oN 0) (oC (.int 27))) (oIx (oN 2) (oN 5)))) (owS (oV (oN 3))) (wE c N z b (fz p.d) (fI (w:Nat)) (.s false (.ow .lst ((List.replicate (z w) p.d).map .fz))))=.ok (.nx (wE c N z b (fz p.d) (fI (w:Nat)) (.s false (.ow .lst (((List.replicate (z w) p.d).set i b.d).map .fz))))):=by
   refine vVf (x:=.fz b.d) (i:=6) (π:=[]) (n:=c / 27 % (z w:Nat)) (os:=(List.replicate (z w) p.d).map .fz) (j:=i) rfl rfl kx rfl rfl rfl (by rw[Y,aW,bF];exact qXy Q) ?_
   show Res.ok (Out.nx (wE c N z b (fz p.d) (fI (w:Nat)) (.s false (.ow .lst (((List.replicate (z w) p.d).map O.fz).set i (.fz b.d))))))=_;rw[List.map_set]
  have tp:svA tupleD [(oN 6)] (wE c N z b (fz p.d) (fI (w:Nat)) (.s false (.ow .lst (((List.replicate (z w) p.d).set i b.d).map .fz))))=.ok (.tup ((List.replicate (z w) p.d).set i b.d),wE c N z b (fz p.d) (fI (w:Nat)) (.s false (.ow .lst (((List.replicate (z w) p.d).set i b.d).map .fz)))):=by
   refine qYc (hs:=[.p 6 []]) (xs:=[.nd .lst ((List.replicate (z w) p.d).set i b.d)]) rfl ?_ rfl rfl;show Res.ok ([fzO (.ow .lst (((List.replicate (z w) p.d).set i b.d).map .fz))],wE c N z b (fz p.d) (fI (w:Nat)) (.s false (qK2 (.ow .lst (((List.replicate (z w) p.d).set i b.d).map .fz)))))=_;rw[vP,qJ4]
  have bm:b∈(List.replicate (z w) p).set i b:=List.mem_set (by rw[bF];exact Q) b;have S:∀a∈(List.replicate (z w) p).set i b,a=b\/a=p:=fun a l=>(List.mem_or_eq_of_mem_set l).elim (fun h=>.inr (List.eq_of_mem_replicate h)) .inl
  have td:(Tm.call (N w) ((List.replicate (z w) p).set i b)).d =.tup [.str "call",.str (N w),.tup ((List.replicate (z w) p.d).set i b.d)]:=by
   rw[Tm.d,qQq,List.map_set,List.map_replicate]
  refine⟨.call (N w) ((List.replicate (z w) p).set i b),⟨fun r A h=>by rw[chkT,qZ1 h bm,eQ],fun h=>by rw[Tm.wf];exact⟨by rw[bS,bF];have:=F w m;omega,vW9 fun a l=>(S a l).elim (fun e=>by rw[e];exact h) fun e=>by rw[e];exact B.1⟩,by rw[Tm.h];exact Nat.succ_le_succ (zQ3 fun a l=>(S a l).elim (fun e=>by rw[e];omega) fun e=>by rw[e];omega)⟩,?_⟩;rw[td];exact vX (G (qB (q:=decide ((0:Int)<(z w:Nat))) (xK (q:=c % 9 == 0) rfl (qR (by rw[D.1];rfl) P)) (qR (decide_eq_true D.2) (qVg (qW s6 (qVg (jY st (zH (vR (zQ (qZ (d:=.str "call") rfl (qZ (ix6 (o:=oN 1) (i:=oN 5) (k:=w) (by omega) rfl rfl) (qZ tp (qI rfl) rfl) rfl) rfl) rfl rfl) rfl) rfl)))))))) rfl
 have t0:bAnd (asB (o2 eqF (oMod (oN 0) (oC (.int 9))) (oC (.int 0)))) (asB (oGt (oIx (oN 2) (oN 5)) (oC (.int 0)))) (wE c N z b (fz p.d) (fI (w:Nat)) .un)=.ok (false,wE c N z b (fz p.d) (fI (w:Nat)) .un):=by
  refine xK (q:=c % 9 == 0) rfl ?_
  by_cases y:c % 9=0
  ·refine qR (by rw [y];rfl) ?_
   rw[P,decide_eq_false (fun h=>D ⟨y,h⟩)]
  ·exact qP (beq_false_of_ne y) rfl
 have f:∀{s s1:SS} {X},s (wE c N z b (fz p.d) (fI (w:Nat)) .un)=X->sSeq (sSet 4 (owS (svTup [(oV (oC (.str "num"))),(oV (oMod (oN 0) (oC (.int 1000))))]))) (sSeq (sSet 5 (owS (oV (oMod (oDiv (oN 0) (oC (.int 9))) (oC (.int 3)))))) (sSeq (sIf (bAnd (asB (o2 eqF (oMod (oN 0) (oC (.int 9))) (oC (.int 0)))) (asB (oGt (oIx (oN 2) (oN 5)) (oC (.int 0))))) s1 sNil) s)) (wE c N z b .un .un .un)=X:=fun h=>G (qB t0 (qP rfl (qN h)))
 by_cases E:c % 9<2
 ·exact⟨_,(C .mul).1,vX (f (qB (q:=decide (c % 9<2)) rfl (qR (decide_eq_true E) (zH (o:=.fz (Tm.op .mul p b).d) rfl rfl)))) rfl⟩
 by_cases H:c % 9=2
 ·exact⟨_,(C .eq).2,vX (f (qB (q:=decide (c % 9<2)) rfl (qP (decide_eq_false E) (qN (qB (q:=c % 9 == 2) rfl (qR (by rw[H];rfl) (zH (o:=.fz (Tm.op .eq b p).d) rfl rfl))))))) rfl⟩
 by_cases T:c % 9<6
 ·have I:∀(j:Nat) (t:Tm),c % 9 - 3=(j:Nat)->j<3->In b t->t.d=.tup (.str "if":: [p.d,p.d,p.d].set j b.d)->∃t,In b t/\fnS 4 3 (sSeq (sSet 4 (owS (svTup [(oV (oC (.str "num"))),(oV (oMod (oN 0) (oC (.int 1000))))]))) (sSeq (sSet 5 (owS (oV (oMod (oDiv (oN 0) (oC (.int 9))) (oC (.int 3)))))) (sSeq (sIf (bAnd (asB (o2 eqF (oMod (oN 0) (oC (.int 9))) (oC (.int 0)))) (asB (oGt (oIx (oN 2) (oN 5)) (oC (.int 0))))) (sSeq (sSet 6 (compS 2 [(1,4)] [0] (iL rg1 [(oV (oIx (oN 2) (oN 5)))]) (gN 0) bTrue (oV (oN 1)))) (sSeq (sSetI (pOf (oN 6)) (pOf (oMod (oDiv (oN 0) (oC (.int 27))) (oIx (oN 2) (oN 5)))) (owS (oV (oN 3)))) (sRet (owS (svTup [(oV (oC (.str "call"))),(oV (oIx (oN 1) (oN 5))),(svA tupleD [(oN 6)])]))))) sNil) (sSeq (sIf (asB (oLt (oMod (oN 0) (oC (.int 9))) (oC (.int 2)))) (sRet (owS (svTup [(oV (oC (.str "op"))),(oV (oC (.str "*"))),(oV (oN 4)),(oV (oN 3))]))) sNil) (sSeq (sIf (asB (o2 eqF (oMod (oN 0) (oC (.int 9))) (oC (.int 2)))) (sRet (owS (svTup [(oV (oC (.str "op"))),(oV (oC (.str "="))),(oV (oN 3)),(oV (oN 4))]))) sNil) (sSeq (sIf (asB (oLt (oMod (oN 0) (oC (.int 9))) (oC (.int 6)))) (sSeq (sSet 6 (eLst [(oV (oN 4)),(oV (oN 4)),(oV (oN 4))])) (sSeq (sSetI (pOf (oN 6)) (pOf (oSub (oMod (oN 0) (oC (.int 9))) (oC (.int 3)))) (owS (oV (oN 3)))) (sRet (owS (svTup [(oV (oC (.str "if"))),(oV (oIx (oN 6) (oC (.int 0)))),(oV (oIx (oN 6) (oC (.int 1)))),(oV (oIx (oN 6) (oC (.int 2))))]))))) sNil) (sSeq (sIf (asB (o2 eqF (oMod (oN 0) (oC (.int 9))) (oC (.int 6)))) (sRet (owS (svTup [(oV (oC (.str "record"))),(svTup [(svTup [(oV (oC (.str "ab"))),(oV (oN 4))]),(svTup [(oV (oC (.str "aa"))),(oV (oN 3))])])]))) sNil) (sSeq (sIf (asB (o2 eqF (oMod (oN 0) (oC (.int 9))) (oC (.int 7)))) (sRet (owS (svTup [(oV (oC (.str "field"))),(oV (oN 3)),(oV (oC (.str "ab")))]))) sNil) (sRet (owS (svTup [(oV (oC (.str "rest"))),(oV (oN 3)),(oV (oC (.int 7)))]))))))))))) [fI c,fz (nD N),fz (sD z),fz b.d]=.ok (.fz t.d,[.un,.un,.un,.un]):=fun j t hj U ib ht=>by
   refine⟨t,ib,?_⟩;have st:sSetI (pOf (oN 6)) (pOf (oSub (oMod (oN 0) (oC (.int 9))) (oC (.int 3)))) (owS (oV (oN 3))) (wE c N z b (fz p.d) (fI (w:Nat)) (.s false (.ow .lst ([p.d,p.d,p.d].map .fz))))=.ok (.nx (wE c N z b (fz p.d) (fI (w:Nat)) (.s false (.ow .lst (([p.d,p.d,p.d].set j b.d).map .fz))))):=by
    refine vVf (x:=.fz b.d) (i:=6) (π:=[]) (n:=c % 9 - 3) (os:=[p.d,p.d,p.d].map .fz) (j:=j) rfl rfl rfl rfl rfl rfl (by rw[hj];exact qXy U) ?_
    show Res.ok (Out.nx (wE c N z b (fz p.d) (fI (w:Nat)) (.s false (.ow .lst (([p.d,p.d,p.d].map O.fz).set j (.fz b.d))))))=_;rw[List.map_set]
   rw[ht];refine vX (f (qB (q:=decide (c % 9<2)) rfl (qP (decide_eq_false E) (qN (qB (q:=c % 9 == 2) rfl (qP (beq_false_of_ne H) (qN (qB (q:=decide (c % 9<6)) rfl (qR (decide_eq_true T) (qVg (qW (o:=.ow .lst ([p.d,p.d,p.d].map .fz)) rfl (qVg (jY st (zH (o:=.fz (.tup (.str "if":: [p.d,p.d,p.d].set j b.d))) (e:=wE c N z b (fz p.d) (fI (w:Nat)) (.s false (.ow .lst (([p.d,p.d,p.d].set j b.d).map .fz)))) ?_ rfl)))))))))))))) rfl;match j,U with
   | 0,_=>rfl
   | 1,_=>rfl
   | 2,_=>rfl
  have J:∀(x y w:Tm),b∈ [x,y,w]->(∀a∈ [x,y,w],a=b\/a=p)->In b (.ite x y w):=fun x y w hm l=>by
   have g:∀a∈ [x,y,w],(b.wf->a.wf)/\a.h<=b.h:=fun a h=>(l a h).elim (fun e=>by rw[e];exact⟨id,aB _⟩) fun e=>by rw[e];exact⟨fun _=>B.1,by omega⟩
   have g0:=g x (by simp);have g1:=g y (by simp);have g2:=g w (by simp);refine⟨fun r A h=>?_,fun h=>by rw[Tm.wf];exact⟨g0.1 h,g1.1 h,g2.1 h⟩,by rw[Tm.h];omega⟩;have:=qZ1 h hm;rw[chkTs,chkTs,chkTs,chkTs,Bool.and_true]at this;rw[chkT];exact this
  rcases(by omega:c % 9=3\/c % 9=4\/c % 9=5) with y|y|y
  ·exact I 0 (.ite b p p) (by omega) (by decide) (J b p p (by simp) (by simp)) (by rw[Tm.d];rfl)
  ·exact I 1 (.ite p b p) (by omega) (by decide) (J p b p (by simp) (by simp)) (by rw[Tm.d];rfl)
  ·exact I 2 (.ite p p b) (by omega) (by decide) (J p p b (by simp) (by simp)) (by rw[Tm.d];rfl)
 have hd2:∀{s s1 s2 s3 s4:SS} {X},s (wE c N z b (fz p.d) (fI (w:Nat)) .un)=X->sSeq (sSet 4 (owS (svTup [(oV (oC (.str "num"))),(oV (oMod (oN 0) (oC (.int 1000))))]))) (sSeq (sSet 5 (owS (oV (oMod (oDiv (oN 0) (oC (.int 9))) (oC (.int 3)))))) (sSeq (sIf (bAnd (asB (o2 eqF (oMod (oN 0) (oC (.int 9))) (oC (.int 0)))) (asB (oGt (oIx (oN 2) (oN 5)) (oC (.int 0))))) s1 sNil) (sSeq (sIf (asB (oLt (oMod (oN 0) (oC (.int 9))) (oC (.int 2)))) s2 sNil) (sSeq (sIf (asB (o2 eqF (oMod (oN 0) (oC (.int 9))) (oC (.int 2)))) s3 sNil) (sSeq (sIf (asB (oLt (oMod (oN 0) (oC (.int 9))) (oC (.int 6)))) s4 sNil) s))))) (wE c N z b .un .un .un)=X:=fun h=>f (qB (q:=decide (c % 9<2)) rfl (qP (decide_eq_false E) (qN (qB (q:=c % 9 == 2) rfl (qP (beq_false_of_ne H) (qN (qB (q:=decide (c % 9<6)) rfl (qP (decide_eq_false T) (qN h)))))))))
 by_cases K:c % 9=6
 ·refine⟨.rcd ["ab","aa"] [p,b],⟨fun r A h=>by rw [chkT];exact qZ1 h (by simp),fun h=>by rw [Tm.wf,Tm.wfs,Tm.wfs,Tm.wfs];exact⟨rfl,by simp,B.1,h,trivial⟩,by rw [Tm.h,Tm.hs,Tm.hs,Tm.hs];omega⟩,?_⟩;exact vX (hd2 (qB (q:=c % 9 == 6) rfl (qR (by rw[K];rfl) (zH (o:=.fz (Tm.rcd ["ab","aa"] [p,b]).d) rfl rfl)))) rfl
 by_cases V:c % 9=7
 ·exact⟨.field b "ab",⟨fun r A h=>by rw[chkT];exact h,fun h=>by rw[Tm.wf];exact h,by rw[Tm.h];omega⟩,vX (hd2 (qB (q:=c % 9 == 6) rfl (qP (beq_false_of_ne K) (qN (qB (q:=c % 9 == 7) rfl (qR (by rw[V];rfl) (zH (o:=.fz (Tm.field b "ab").d) rfl rfl))))))) rfl⟩
 ·exact⟨.rest b 7,⟨fun r A h=>by rw[chkT];exact h,fun h=>by rw[Tm.wf];exact h,by rw[Tm.h];omega⟩,vX (hd2 (qB (q:=c % 9 == 6) rfl (qP (beq_false_of_ne K) (qN (qB (q:=c % 9 == 7) rfl (qP (beq_false_of_ne V) (qN (jN (o:=.fz (Tm.rest b 7).d) rfl rfl)))))))) rfl⟩
end
section
variable{N:Nat->Str}{z:Nat->Nat}{u fb:Str}{l:List Nat}
structure Bd(N:Nat->Str)(z:Nat->Nat)(y:Str)(t:Tm):Prop where
 bad:∀(kn:Str->Bool) (hl:Nm),kn y=false->(hl=[]\/hl=hl3 N z)->chkT kn hl t=false
 wf:t.wf
 h:t.h<=2
theorem vZ9(h:∀hl,(hl=[]\/hl=hl3 N z)->getA hl f≠some (n:Int))(b:n<=10)(y:Str):Bd N z y (.call f (List.replicate n (.num c))):=by
 refine⟨fun d hl _ a=>by rw[chkT,bF,decide_eq_false (h hl a),Bool.false_and],?_,?_⟩
 ·rw[Tm.wf,bF];exact⟨by omega,(vV8 n c).1⟩
 ·rw[Tm.h];have:=(vV8 n c).2;omega
theorem jQb(nm:Nm0 N u fb l)(g:∀k,k<3->z k<=3)(c:Int)(y:Str):∃t,Bd N z y t/\jW [fI c,fz (nD N),fz (sD z),fz (.str y)]=.ok (.fz t.d,[.un,.un,.un,.un]):=by
 obtain⟨k,A⟩:∃k:Nat,c / 8 % 3=(k:Nat):=⟨(c / 8 % 3).toNat,by omega⟩
 have i:k<3:=by omega
 have L:=g k i;have a:∀n:Nat,n≠z k->n<=10->Bd N z y (.call (N k) (List.replicate n (.num 2))):=fun n M j=>vZ9 (fun B m e=>by
  rcases m with rfl|rfl
  ·cases e
  ·rw [get3 nm.toNms i] at e;have:=Option.some.inj e;omega) j y
 have p:∀x4,evO (oMod (oDiv (oN 0) (oC (.int 8))) (oC (.int 3))) [fI c,fz (nD N),fz (sD z),fz (.str y),x4]=.ok (.d (nI k),[fI c,fz (nD N),fz (sD z),fz (.str y),x4]):=fun x4=>by unfold nI;rw[←A];rfl
 unfold jW;by_cases r:c / 2 % 4=0
 ·exact⟨.name y,⟨fun O B h _=>by rw[chkT];exact h,by simp[Tm.wf],by simp[Tm.h]⟩,vX (qB (q:=c / 2 % 4 == 0) rfl (qR (by rw[r];rfl) (zH (o:=.fz (Tm.name y).d) rfl rfl))) rfl⟩
 by_cases C:c / 2 % 4=1
 ·have G:evO (oIx (oN 1) (oC (.int 0))) [fI c,fz (nD N),fz (sD z),fz (.str y), .un]= .ok (.d (.str (Sx l)),[fI c,fz (nD N),fz (sD z),fz (.str y), .un]):=by rw [←nm.n0];rfl
  have b:∀n,n<=20->n<=aI:=fun n h=>aG h (by decide)
  have H:qKw (oIx (oN 1) (oC (.int 0))) (some (oV (oC (.int 1)))) none [fI c,fz (nD N),fz (sD z),fz (.str y),.un]=.ok (.str (Sx (l.drop 1)),[fI c,fz (nD N),fz (sD z),fz (.str y),.un]):=by
   show(evO (oIx (oN 1) (oC (.int 0))) _).bind _=_;rw[G];show(opt (cond (decide ((Sx l).length <=aI)) (some (D.str (Txt.slice (Sx l) (some ((1:Nat):Int)) none))) none)).bind _=_;rw[qVp,decide_eq_true (b _ (by have:=nm.len;omega)),zJb l nm.len.1];rfl
  have I:oV (o2 addS (oC (.str "f")) (.v (qKw (oIx (oN 1) (oC (.int 0))) (some (oV (oC (.int 1)))) none))) [fI c,fz (nD N),fz (sD z),fz (.str y),.un]=.ok (.str fb,[fI c,fz (nD N),fz (sD z),fz (.str y),.un]):=by
   rw[nm.f0];refine vO (vU (h1:=.d (.str (Sx [102]))) (h2:=.d (.str (Sx (l.drop 1)))) rfl (zD H rfl) rfl rfl rfl ?_ rfl) rfl;show(if(Sx [102]).length+(Sx (l.drop 1)).length <=aI then some (D.str (Sx [102] ++ Sx (l.drop 1))) else none)=_;rw[if_pos (by rw[qVp,qVp,dY];exact b _ (by have:=nm.len;show 1+_<=20;omega)),vJ2];rfl
  refine⟨.call fb (List.replicate (z 0) (.num 2)),vZ9 (fun B m e=>?_) (by have:=g 0 (by decide);omega) y,vX (qB (q:=c / 2 % 4 == 0) rfl (qP (beq_false_of_ne r) (qN (qB (q:=c / 2 % 4 == 1) rfl (qR (by rw[C];rfl) (zH (vQ (qS I (qS (ix3 (k:=0) (by decide) rfl rfl) (qS (d:=(Tm.num 2).d) rfl (vF rfl) rfl) rfl) rfl) (qL rfl rfl rfl (qZx fb (by have:=g 0 (by decide);omega) _ rfl) rfl rfl rfl)) rfl)))))) rfl⟩;rcases m with rfl|rfl
  ·cases e
  ·rw[vKi fun k A=>nm.bf k (by omega)]at e;cases e
 have J:oV (oIx (oN 2) (oMod (oDiv (oN 0) (oC (.int 8))) (oC (.int 3)))) [fI c,fz (nD N),fz (sD z),fz (.str y),.un]=.ok (nI (z k),[fI c,fz (nD N),fz (sD z),fz (.str y),.un]):=ix3 i rfl (p .un);have f:∃q:Bool,bOr (asB (o2 eqF (oN 4) (oC (.int 0)))) (bAnd (asB (oLt (oN 4) (oC (.int 3)))) (asB (o2 eqF (oMod (oDiv (oN 0) (oC (.int 2))) (oC (.int 4))) (oC (.int 2))))) [fI c,fz (nD N),fz (sD z),fz (.str y),fI (z k:Nat)]=.ok (q,[fI c,fz (nD N),fz (sD z),fz (.str y),fI (z k:Nat)])/\(q=false->z k≠0):=by
  by_cases w:z k=0
  ·exact⟨true,qK0 (q:=((z k:Nat):Int) == 0) rfl (qR (by rw[w];rfl) rfl),fun h=>nomatch h⟩
  ·by_cases E:((z k:Nat):Int) < 3
   ·exact⟨c / 2 % 4 == 2,qK0 (q:=((z k:Nat):Int) == 0) rfl (qP (beq_false_of_ne (by omega)) (xK (q:=decide (((z k:Nat):Int)<3)) rfl (qR (decide_eq_true E) rfl))),fun _=>w⟩
   ·exact⟨false,qK0 (q:=((z k:Nat):Int) == 0) rfl (qP (beq_false_of_ne (by omega)) (xK (q:=decide (((z k:Nat):Int)<3)) rfl (qP (decide_eq_false E) rfl))),fun _=>w⟩
 obtain⟨q,f,K⟩:=f;have F:∀{s:SS} {s1 s2:SS} {X},s [fI c,fz (nD N),fz (sD z),fz (.str y),fI (z k:Nat)]=X->sSeq (sIf (asB (o2 eqF (oMod (oDiv (oN 0) (oC (.int 2))) (oC (.int 4))) (oC (.int 0)))) s1 sNil) (sSeq (sIf (asB (o2 eqF (oMod (oDiv (oN 0) (oC (.int 2))) (oC (.int 4))) (oC (.int 1)))) s2 sNil) (sSeq (sSet 4 (owS (oV (oIx (oN 2) (oMod (oDiv (oN 0) (oC (.int 8))) (oC (.int 3))))))) s)) [fI c,fz (nD N),fz (sD z),fz (.str y),.un]=X:=fun h=>qB (q:=c / 2 % 4 == 0) rfl (qP (beq_false_of_ne r) (qN (qB (q:=c / 2 % 4 == 1) rfl (qP (beq_false_of_ne C) (qN (qW (vR J rfl) h))))))
 cases q with
 | true=>
   have x:oV (oAdd (oN 4) (oC (.int 1))) [fI c,fz (nD N),fz (sD z),fz (.str y),fI (z k:Nat)]=.ok (nI (z k+1),[fI c,fz (nD N),fz (sD z),fz (.str y),fI (z k:Nat)]):=rfl;exact⟨_,a (z k+1) (by omega) (by omega),vX (F (qB f (qR rfl (zH (vQ (qS (ix6 (k:=k) (by omega) rfl (p _)) (qS x (qS (d:=(Tm.num 2).d) rfl (vF rfl) rfl) rfl) rfl) (qL rfl rfl rfl (qZx (N k) (by omega) _ rfl) rfl rfl rfl)) rfl)))) rfl⟩
 | false=>
   have P:=K rfl;have x:oV (oSub (oN 4) (oC (.int 1))) [fI c,fz (nD N),fz (sD z),fz (.str y),fI (z k:Nat)]=.ok (nI (z k - 1),[fI c,fz (nD N),fz (sD z),fz (.str y),fI (z k:Nat)]):=by
    unfold nI;rw[show((z k - 1:Nat):Int)=((z k:Nat):Int) - 1 by omega];rfl
   exact⟨_,a (z k - 1) (by omega) (by omega),vX (F (qB f (qP rfl (qN (jN (vQ (qS (ix6 (k:=k) (by omega) rfl (p _)) (qS x (qS (d:=(Tm.num 2).d) rfl (vF rfl) rfl) rfl) rfl) (qL rfl rfl rfl (qZx (N k) (by omega) _ rfl) rfl rfl rfl)) rfl))))) rfl⟩
noncomputable abbrev pE(W:List Rw)(a:Nat)(c:Int)(N:Nat->Str)(z:Nat->Nat)(r:Rw)(O:List Rw)(y:Str)(x8 x9:Slot):Ev:=[fz (.nd .lst (W.map Rw.d)),fI (a:Nat),fI c,fz (nD N),fz (sD z),fz r.d,rO O,fz (.str y),x8,x9]
variable{A B:List Rw}{r r' :Rw}{c:Int}{y:Str}{x8 x9:Slot}{W:List Rw}
theorem vVe(f:Rw->α):∀(A:List Rw),((A ++ r::B).map f).set A.length (f r')=(A ++ r' ::B).map f
 |[]=>rfl
 |q::A=>by show f q::((A ++ r::B).map f).set A.length (f r')=f q::_;rw[vVe f A];rfl
theorem zXm{p:Rw}(h:v (pE W A.length c N z p (A ++ r::B) y x8 x9)=.ok (r'.d,pE W A.length c N z p (A ++ r::B) y x8 x9)):sSetI (pOf (oN 6)) (pOf (oN 1)) (owS v) (pE W A.length c N z p (A ++ r::B) y x8 x9)=.ok (.nx (pE W A.length c N z p (A ++ r' ::B) y x8 x9)):=by
 refine vVf (x:=.fz r'.d) (i:=6) (π:=[]) (n:=(A.length:Nat)) (os:=((A ++ r::B).map Rw.d).map .fz) (j:=A.length) (vR h rfl) rfl rfl rfl rfl rfl (by rw[aW,aW];exact qXy (by rw[aU,aK];omega)) ?_
 show Res.ok (Out.nx [fz (.nd .lst (W.map Rw.d)),fI (A.length:Nat),fI c,fz (nD N),fz (sD z),fz p.d,.s false (.ow .lst ((((A ++ r::B).map Rw.d).map O.fz).set A.length (.fz r'.d))),fz (.str y),x8,x9])=_;have e:=vVe (r:=r) (r' :=r') (B:=B) (O.fz ∘ Rw.d) A;rw[←cL,←cL]at e;rw[show(((A ++ r::B).map Rw.d).map O.fz).set A.length (.fz r'.d)=((A ++ r' ::B).map Rw.d).map O.fz from e]
end
section
variable{N:Nat->Str}{z:Nat->Nat}{u fb:Str}{l:List Nat}
noncomputable def Sh(N:Nat->Str)(z:Nat->Nat)(a:Nat):Rw->Prop
 |.df f ps _=>∃k,k<3/\a=k+1/\(f=N k\/f=N 0)/\ps=(pr N k).take (z k)
 |_=>a=0\/4<=a
structure Pf(N:Nat->Str)(z:Nat->Nat)(A:List Rw):Prop where
 h0:A.length=0\/4<=A.length->hlR A=[]\/hlR A=hl3 N z
 hk:∀k,k<3->A.length=k+1->getA (hlR A) (N k)=none/\(1<=k->∃v,getA (hlR A) (N 0)=some v)
 nm:∀x∈lets A,∃i,1<=i/\i<6/\x=N i
structure Sr(N:Nat->Str)(z:Nat->Nat)(A:List Rw)(r r' :Rw):Prop where
 bad:Pf N z A->jK (knR A) (hlR A) r' =false
 wf:r'.t.wf
 h:r'.t.h<=4
 sh:Sh N z A.length r'
theorem vZf{r:Rw}:(A ++ r::B).take A.length=A:=by rw[List.take_left'];rfl
theorem qJt{r:Rw}:(A ++ r::B)[A.length]?=some r:=by rw[eZ (aB _),Nat.sub_self];rfl
theorem spoil_ok(nm:Nm0 N u fb l)(S:∀k,k<3->z k<=3)(c:Int){r:Rw}(H:Sh N z A.length r)(K:r.t.wf/\r.t.h<=4)(hl:(A ++ r::B).length <=100):∃r',Sr N z A r r' /\wM [fz (.nd .lst ((A ++ r::B).map Rw.d)),fI (A.length:Nat),fI c,fz (nD N),fz (sD z)]=.ok (.ow .lst (((A ++ r' ::B).map Rw.d).map .fz),[.un,.un,.un,.un,.un]):=by
 obtain⟨y,hy,eu⟩:=vYl nm (A ++ r::B) A.length c hl;rw[vZf]at hy;generalize T:A ++ r::B=W at hl eu;have gm:(W.map Rw.d)[A.length]?=some r.d:=by rw[←T,bT,qJt];rfl
 have hd:∀{s:SS} {X},s (pE W A.length c N z r W y .un .un)=X->sSeq (sSet 5 (owS (oV (oIx (oN 0) (oN 1))))) (sSeq (sSet 6 (eF listD [(oN 0)])) (sSeq (sSet 7 (callS wY [(.v (oV (oN 0))),(.v (oV (oN 1))),(.v (oV (oN 2))),(.v (oV (oN 3)))])) s)) [fz (.nd .lst (W.map Rw.d)),fI (A.length:Nat),fI c,fz (nD N),fz (sD z),.un,.un,.un,.un,.un]=X:=fun h=>
  qW (o:=.fz r.d) (vR (vO (zL (h1:=.d (.nd .lst (W.map Rw.d))) (h2:=.d (nI A.length)) (y:=nI A.length) rfl rfl rfl rfl (by show(ixD (.nd .lst (W.map Rw.d)) (nI A.length)).map Hn.d=_;rw[wG gm];rfl) rfl) rfl) rfl)
   (qW (o:=.ow .lst ((W.map Rw.d).map .fz)) (vZb (hs:=[.d (.nd .lst (W.map Rw.d))]) rfl (xs:=[.nd .lst (W.map Rw.d)]) rfl (ds:=W.map Rw.d) rfl rfl)
   (qW (vQ (qS (d:=.nd .lst (W.map Rw.d)) rfl (qS (d:=nI A.length) rfl (qS (d:=.int c) rfl (qS (d:=nD N) rfl (vF rfl) rfl) rfl) rfl) rfl) (qL rfl rfl rfl eu rfl rfl rfl)) h))
 have hb:∀{v:SV} {r' :Rw} {x8 C:Slot},v (pE W A.length c N z r W y x8 C)=.ok (r'.d,pE W A.length c N z r W y x8 C)->sSetI (pOf (oN 6)) (pOf (oN 1)) (owS v) (pE W A.length c N z r W y x8 C)=.ok (.nx (pE W A.length c N z r (A ++ r' ::B) y x8 C)):=fun {v r' x8 C} h=>by
  have h' :v (pE W A.length c N z r (A ++ r::B) y x8 C)=.ok (r'.d,pE W A.length c N z r (A ++ r::B) y x8 C):=by rw[T];exact h
  have:=zXm h';rw[T]at this;exact this
 have L:Pf N z A->zX (knR A) y=false:=fun m=>by rw[qZh,decide_eq_false (hy m.nm)]
 have k0:Pf N z A->zX (knR A) (N 0)=false:=fun m=>by
  rw[qZh];refine decide_eq_false fun h=>?_
  obtain⟨i,h1,h6,e⟩:=m.nm _ h;have:=nm.inj 0 (by decide) i h6 e;omega
 obtain⟨v1,_,m1⟩:=mix_ok c (k:=1) (by decide);have mx:∀{x8 C},fzS (callS qD [(.v (oV (oN 2))),(.v (oV (oC (.int 1))))]) (pE W A.length c N z r W y x8 C)=.ok (.int v1,pE W A.length c N z r W y x8 C):=v8 (vQ (qS (d:=.int c) rfl (qS (d:=nI 1) rfl (vF rfl) rfl) rfl) (qL rfl rfl rfl m1 rfl rfl rfl)) rfl;have M:∀{x8:Slot} (b:Tm),∃t,In b t/\fzS (callS zV [(.v (fzS (callS qD [(.v (oV (oN 2))),(.v (oV (oC (.int 1))))]))),(.v (oV (oN 3))),(.v (oV (oN 4))),(.v (oV (oN 9)))]) (pE W A.length c N z r W y x8 (fz b.d))=.ok (t.d,pE W A.length c N z r W y x8 (fz b.d)):=fun {x8} b=>by
  obtain⟨t,i,e⟩:=within_ok (N:=N) S v1 b;exact⟨t,i,v8 (vQ (qS mx (qS (d:=nD N) rfl (qS (d:=sD z) rfl (qS (d:=b.d) rfl (vF rfl) rfl) rfl) rfl) rfl) (qL rfl rfl rfl e rfl rfl rfl)) rfl⟩
 have P:∀(n:Int) {o:SV},o (pE W A.length c N z r W y .un .un)=.ok (.int n,pE W A.length c N z r W y .un .un)->∃t,Bd N z y t/\callS jW [(.v o),(.v (oV (oN 3))),(.v (oV (oN 4))),(.v (oV (oN 7)))] (pE W A.length c N z r W y .un .un)=.ok (.fz t.d,pE W A.length c N z r W y .un .un):=fun n o ho=>by
  obtain⟨t,i,e⟩:=jQb nm S n y;exact⟨t,i,vQ (qS ho (qS (d:=nD N) rfl (qS (d:=sD z) rfl (qS (d:=.str y) rfl (vF rfl) rfl) rfl) rfl) rfl) (qL rfl rfl rfl e rfl rfl rfl)⟩
 have w:∀{r' :Rw} {s:SS} {x8 C:Slot},s (pE W A.length c N z r W y .un .un)=.ok (.nx (pE W A.length c N z r (A ++ r' ::B) y x8 C))->fnS 5 5 (sSeq (sSet 5 (owS (oV (oIx (oN 0) (oN 1))))) (sSeq (sSet 6 (eF listD [(oN 0)])) (sSeq (sSet 7 (callS wY [(.v (oV (oN 0))),(.v (oV (oN 1))),(.v (oV (oN 2))),(.v (oV (oN 3)))])) (sSeq s (sRet (eMv 6)))))) [fz (.nd .lst (W.map Rw.d)),fI (A.length:Nat),fI c,fz (nD N),fz (sD z)]=.ok (.ow .lst (((A ++ r' ::B).map Rw.d).map .fz),[.un,.un,.un,.un,.un]):=fun {r' s x8 C} h=>vX (hd (jY h (jN (o:=.ow .lst (((A ++ r' ::B).map Rw.d).map .fz)) (e:=[fz (.nd .lst (W.map Rw.d)),fI (A.length:Nat),fI c,fz (nD N),fz (sD z),fz r.d,.un,fz (.str y),x8,C]) rfl rfl))) rfl
 have U:∀{pre:List D} {b t:Tm} {r' :Rw},vV6 (oN 5) none (some (oV (o1 negD (oC (.int 1))))) (pE W A.length c N z r W y .un (fz b.d))=.ok (.tup pre,pE W A.length c N z r W y .un (fz b.d))->pre.length<=10->r'.d=.tup (pre ++ [t.d])->fzS (callS zV [(.v (fzS (callS qD [(.v (oV (oN 2))),(.v (oV (oC (.int 1))))]))),(.v (oV (oN 3))),(.v (oV (oN 4))),(.v (oV (oN 9)))]) (pE W A.length c N z r W y .un (fz b.d))=.ok (t.d,pE W A.length c N z r W y .un (fz b.d))->
   sSetI (pOf (oN 6)) (pOf (oN 1)) (owS (svA tupleD [(.v (fzS (eCat (.v (fzS (eF listD [(.v (vV6 (oN 5) none (some (oV (o1 negD (oC (.int 1)))))))]))) (.v (fzS (eLst [(fzS (callS zV [(.v (fzS (callS qD [(.v (oV (oN 2))),(.v (oV (oC (.int 1))))]))),(.v (oV (oN 3))),(.v (oV (oN 4))),(.v (oV (oN 9)))]))]))))))])) (pE W A.length c N z r W y .un (fz b.d))=.ok (.nx (pE W A.length c N z r (A ++ r' ::B) y .un (fz b.d))):=fun {pre b t r'} sv hp hr wt=>by
  refine hb ?_
  rw[hr];have l1:fzS (eF listD [(.v (vV6 (oN 5) none (some (oV (o1 negD (oC (.int 1)))))))]) (pE W A.length c N z r W y .un (fz b.d))=.ok (.nd .lst pre,pE W A.length c N z r W y .un (fz b.d)):=vVl (hs:=[.d (.tup pre)]) (wX (zD sv rfl) rfl (qVe rfl) rfl) (xs:=[.tup pre]) rfl (ds:=pre) rfl rfl;have l2:=qJ6 (ds:=[t.d]) (qZ wt (qI rfl) rfl) rfl rfl;have ct:=catO (env:=pE W A.length c N z r W y .un (fz b.d)) (zD l1 rfl) (zD l2 rfl) rfl (e2:=pE W A.length c N z r W y .un (fz b.d)) rfl (show pre.length+1<=9000 by omega);exact qYc (hs:=[.d (.nd .lst (pre ++ [t.d]))]) (wX (zD (v8 ct (by rw[vP])) rfl) rfl (qVe rfl) rfl) rfl rfl rfl
 unfold wM;cases r with
 | lt x t=>
   obtain⟨b,E,I⟩:=P (c / 3) (o:=oV (oDiv (oN 2) (oC (.int 3)))) rfl;obtain⟨a,j,F⟩:=M (x8:=.un) b;have h1:=j.h;have h2:=E.h;refine⟨.lt x a,⟨fun m=>j.bad _ _ (E.bad _ _ (L m) (m.h0 H)),j.wf E.wf,by show a.h<=4;omega,H⟩,w (vZ (q:=false) (e:=pE W A.length c N z (.lt x t) W y .un .un) rfl (qP rfl (vZ (q:=false) (e:=pE W A.length c N z (.lt x t) W y .un .un) rfl (qP rfl (vZ (q:=false) (e:=pE W A.length c N z (.lt x t) W y .un .un) rfl (qP rfl (qW I (U (pre:=[.str "let",.str x]) ?_ (by simp) rfl F))))))))⟩;show cond (vD (.tup [.str "let",.str x,t.d]) && true) (Res.ok (D.tup [.str "let",.str x],_)) Res.no=_;rw[show vD (.tup [.str "let",.str x,t.d])=true by show(true && (true && (vD t.d && true)))=true;rw[zE];rfl];rfl
 | see t=>
   obtain⟨b,E,I⟩:=P (c / 3) (o:=oV (oDiv (oN 2) (oC (.int 3)))) rfl;obtain⟨a,j,F⟩:=M (x8:=.un) b;have h1:=j.h;have h2:=E.h;refine⟨.see a,⟨fun m=>j.bad _ _ (E.bad _ _ (L m) (m.h0 H)),j.wf E.wf,by show a.h<=4;omega,H⟩,w (vZ (q:=false) (e:=pE W A.length c N z (.see t) W y .un .un) rfl (qP rfl (vZ (q:=false) (e:=pE W A.length c N z (.see t) W y .un .un) rfl (qP rfl (vZ (q:=false) (e:=pE W A.length c N z (.see t) W y .un .un) rfl (qP rfl (qW I (U (pre:=[.str "see"]) ?_ (by simp) rfl F))))))))⟩;show cond (vD (.tup [.str "see",t.d]) && true) (Res.ok (D.tup [.str "see"],_)) Res.no=_;rw[show vD (.tup [.str "see",t.d])=true by show(true && (vD t.d && true))=true;rw[zE];rfl];rfl
 | ask t=>
   obtain⟨b,E,I⟩:=P (c / 3) (o:=oV (oDiv (oN 2) (oC (.int 3)))) rfl;obtain⟨a,j,F⟩:=M (x8:=.un) b;have h1:=j.h;have h2:=E.h;refine⟨.ask a,⟨fun m=>j.bad _ _ (E.bad _ _ (L m) (m.h0 H)),j.wf E.wf,by show a.h<=4;omega,H⟩,w (vZ (q:=false) (e:=pE W A.length c N z (.ask t) W y .un .un) rfl (qP rfl (vZ (q:=false) (e:=pE W A.length c N z (.ask t) W y .un .un) rfl (qP rfl (vZ (q:=false) (e:=pE W A.length c N z (.ask t) W y .un .un) rfl (qP rfl (qW I (U (pre:=[.str "ask"]) ?_ (by simp) rfl F))))))))⟩;show cond (vD (.tup [.str "ask",t.d]) && true) (Res.ok (D.tup [.str "ask"],_)) Res.no=_;rw[show vD (.tup [.str "ask",t.d])=true by show(true && (vD t.d && true))=true;rw[zE];rfl];rfl
 | ag n x t=>
   by_cases q:c % 3=0
   ·refine⟨.ag (c / 3 % 3) (N 0) t,⟨fun m=>?_,K.1,K.2,H⟩,w (vZ (q:=false) (e:=pE W A.length c N z (.ag n x t) W y .un .un) rfl (qP rfl (vZ (q:=c % 3 == 0) (e:=pE W A.length c N z (.ag n x t) W y .un .un) rfl (qR (by rw [q];rfl) (hb (zQ (qZ (d:= .str "again") rfl (qZ (d:= .int (c / 3 % 3)) rfl (qZ (ix6 (k:=0) (by decide) rfl rfl) (qZ (d:=t.d) rfl (qI rfl) rfl) rfl) rfl) rfl) rfl rfl))))))⟩;show(zX (knR A) (N 0) && _)=false;rw[k0 m];rfl
   ·obtain⟨b,E,I⟩:=P (c / 9) (o:=oV (oDiv (oN 2) (oC (.int 9)))) rfl;obtain⟨a,j,F⟩:=M (x8:=.un) b;have h1:=j.h;have h2:=E.h;refine⟨.ag (c / 3 % 3) x a,⟨fun m=>?_,j.wf E.wf,by show a.h<=4;omega,H⟩,w (vZ (q:=false) (e:=pE W A.length c N z (.ag n x t) W y .un .un) rfl (qP rfl (vZ (q:=c % 3 == 0) (e:=pE W A.length c N z (.ag n x t) W y .un .un) rfl (qP (beq_false_of_ne q) (vZ (q:=true) (e:=pE W A.length c N z (.ag n x t) W y .un .un) rfl (qR rfl (qW I (hb (zQ (qZ (d:=.str "again") rfl (qZ (d:=.int (c / 3 % 3)) rfl (qZ (d:=.str x) rfl (qZ F (qI rfl) rfl) rfl) rfl) rfl) rfl rfl)))))))))⟩;show(zX (knR A) x && chkT (zX (knR A)) (hlR A) a)=false;rw[j.bad _ _ (E.bad _ _ (L m) (m.h0 H)),eQ]
 | df f ps t=>
   obtain⟨k,Q,R,V,G⟩:=H;have psl:ps.length<=3:=by rw[G,bG];show min _ 3<=3;omega
   have i5:∀{x8 C},oV (oIx (oN 3) (oC (.int 0))) (pE W A.length c N z (.df f ps t) W y x8 C)=.ok (.str (N 0),pE W A.length c N z (.df f ps t) W y x8 C):=ix6 (k:=0) (by decide) rfl rfl;have J:∃q:Bool,bAnd (asB (o2 eqF (oMod (oN 2) (oC (.int 3))) (oC (.int 0)))) (asB (o2 neF (oIx (oN 5) (oC (.int 1))) (oIx (oN 3) (oC (.int 0))))) (pE W A.length c N z (.df f ps t) W y .un .un)=.ok (q,pE W A.length c N z (.df f ps t) W y .un .un)/\(q=true->f≠N 0):=by
    by_cases q:c % 3=0
    ·refine⟨!decide (f=N 0),xK (q:=c % 3 == 0) rfl (qR (by rw [q];rfl) rfl),fun h e=>?_⟩;rw[decide_eq_true e]at h;cases h
    ·exact⟨false,xK (q:=c % 3 == 0) rfl (qP (beq_false_of_ne q) rfl),fun h=>nomatch h⟩
   obtain⟨q,J,hq⟩:=J;cases q with
   | true=>
     have fk:f=N k:=V.resolve_right (hq rfl);have k1:1<=k:=by
      rcases Nat.eq_zero_or_pos k with e|e
      ·exact absurd (by rw[fk,e]) (hq rfl)
      ·exact e
     refine⟨.df (N 0) ps t,⟨fun m=>?_,K.1,K.2,⟨k,Q,R,.inr rfl,G⟩⟩,w (vZ (q:=true) (e:=pE W A.length c N z (.df f ps t) W y .un .un) rfl (qR rfl (vZ J (qR rfl (hb (zQ (qZ (d:=.str "def") rfl (qZ i5 (qZ (d:=.tup (ps.map .str)) rfl (qZ (d:=t.d) rfl (qI rfl) rfl) rfl) rfl) rfl) rfl rfl))))))⟩;obtain⟨v,hv⟩:=(m.hk k Q R).2 k1;show((getA (hlR A) (N 0)).isNone && _)=false;rw[hv];rfl
   | false=>
     by_cases Y:c % 3=1
     ·have ca:fzS (callS zP [(.v (oV (oIx (oN 5) (oC (.int 1))))),(.v (oV (oL lenD [(oIx (oN 5) (oC (.int 2)))]))),(.v (svTup [(oV (oC (.str "num"))),(oV (oC (.int 1)))]))]) (pE W A.length c N z (.df f ps t) W y .un .un)= .ok ((Tm.call f (List.replicate ps.length (.num 1))).d,pE W A.length c N z (.df f ps t) W y .un .un):=v8 (vQ (qS (d:= .str f) rfl (qS (d:=nI ps.length) (by show Res.ok (D.int ((ps.map D.str).length :Nat),_)=_;rw [aW]) (qS (d:=(Tm.num 1).d) rfl (vF rfl) rfl) rfl) rfl) (qL rfl rfl rfl (qZx f (by omega) _ rfl) rfl rfl rfl)) rfl;refine⟨.df f ps (.call f (List.replicate ps.length (.num 1))),⟨fun _=>?_,by show(Tm.call f (List.replicate ps.length (.num 1))).wf;rw[Tm.wf,bF];exact⟨by omega,(vV8 _ _).1⟩,by show(Tm.call f (List.replicate ps.length (.num 1))).h <=4;rw[Tm.h];have:=(vV8 ps.length 1).2;omega,⟨k,Q,R,V,G⟩⟩,w (vZ (q:=true) (e:=pE W A.length c N z (.df f ps t) W y .un .un) rfl (qR rfl (vZ J (qP rfl (vZ (q:=c % 3 == 1) (e:=pE W A.length c N z (.df f ps t) W y .un .un) rfl (qR (by rw[Y];rfl) (hb (zQ (qZ (d:=.str "def") rfl (qZ (d:=.str f) rfl (qZ (d:=.tup (ps.map .str)) rfl (qZ ca (qI rfl) rfl) rfl) rfl) rfl) rfl rfl))))))))⟩;show((getA (hlR A) f).isNone && chkT _ (hlR A) (.call f (List.replicate ps.length (.num 1))))=false;rw[chkT];cases getA (hlR A) f with
      |none=>rw[decide_eq_false (fun h=>nomatch h),Bool.false_and,eQ]
      |some v=>rfl
     ·have nx:∃x:Str,x∉ps/\∀{s:SS} {X},s (pE W A.length c N z (.df f ps t) W y (fz (.str x)) .un)=X->sSeq (sSet 8 (owS (oV (oIx (oN 3) (oC (.int 4)))))) (sSeq (sIf (asB (o2 inD (oN 8) (oIx (oN 5) (oC (.int 2))))) (sSet 8 (owS (oV (oC (.str "zzf"))))) sNil) s) (pE W A.length c N z (.df f ps t) W y .un .un)=X:=by
       have i4:oV (oIx (oN 3) (oC (.int 4))) (pE W A.length c N z (.df f ps t) W y .un .un)=.ok (.str (N 4),pE W A.length c N z (.df f ps t) W y .un .un):=ix6 (k:=4) (by decide) rfl rfl;have ti:asB (o2 inD (oN 8) (oIx (oN 5) (oC (.int 2)))) (pE W A.length c N z (.df f ps t) W y (fz (.str (N 4))) .un)=.ok (decide (N 4∈ps),pE W A.length c N z (.df f ps t) W y (fz (.str (N 4))) .un):=jR (d:=.bl (decide (N 4∈ps))) (vO (vU (h1:=.d (.str (N 4))) (h2:=.d (.tup (ps.map .str))) rfl rfl rfl rfl rfl (by unfold inD;rw[vZz];rfl) rfl) rfl) rfl rfl;by_cases h:N 4∈ps
       ·refine⟨"zzf",fun hm=>?_,fun g=>qW (vR i4 rfl) (qB ti (qR (decide_eq_true h) (qW (o:= .fz (.str "zzf")) rfl g)))⟩;rw[G]at hm;have:=List.mem_of_mem_take hm;unfold pr at this;simp only[aA,List.not_mem_nil,or_false]at this;rcases this with e|e|e
        ·exact nm.zz (5 - k) (by omega) e.symm
        ·exact nm.zz ((9 - k) % 6) (by omega) e.symm
        ·exact nm.zz k (by omega) e.symm
       ·exact⟨N 4,h,fun g=>qW (vR i4 rfl) (qB ti (qP (decide_eq_false h) (qN g)))⟩
      obtain⟨x,hx,ex⟩:=nx;have wd:∀(Z :Nat->Nat) {O:List Rw} {sz:SV},(∀k,k<3->Z k<=3)->sz (pE W A.length c N z (.df f ps t) O y (fz (.str x)) .un)=.ok (sD Z,pE W A.length c N z (.df f ps t) O y (fz (.str x)) .un)->∃a,In (.name x) a/\svTup [(oV (oC (.str "def"))),(oV (oIx (oN 5) (oC (.int 1)))),(oV (oIx (oN 5) (oC (.int 2)))),(fzS (callS zV [(.v (oV (oDiv (oN 2) (oC (.int 3))))),(.v (oV (oN 3))),(.v sz),(.v (svTup [(oV (oC (.str "name"))),(oV (oN 8))]))]))] (pE W A.length c N z (.df f ps t) O y (fz (.str x)) .un)=.ok ((Rw.df f ps a).d,pE W A.length c N z (.df f ps t) O y (fz (.str x)) .un):=fun Z {O sz} hz' hs=>by
       obtain⟨a,j,F⟩:=within_ok (N:=N) hz' (c / 3) (.name x);exact⟨a,j,zQ (qZ (d:=.str "def") rfl (qZ (d:=.str f) rfl (qZ (d:=.tup (ps.map .str)) rfl (qZ (v8 (vQ (qS (d:=.int (c / 3)) rfl (qS (d:=nD N) rfl (qS hs (qS (d:=(Tm.name x).d) rfl (vF rfl) rfl) rfl) rfl) rfl) (qL rfl rfl rfl F rfl rfl rfl)) rfl) (qI rfl) rfl) rfl) rfl) rfl) rfl rfl⟩
      have ok:∀{a:Tm},In (.name x) a->Sr N z A (.df f ps t) (.df f ps a):=fun {a} j=>by
       have h1:=j.h;have hx1:(Tm.name x).h =1:=by simp[Tm.h]
       refine⟨fun _=>?_,j.wf (by simp[Tm.wf]),by show a.h<=4;omega,⟨k,Q,R,V,G⟩⟩;show((getA (hlR A) f).isNone && chkT (fun y=>decide (y∈ps)) (hlR A) a)=false;rw[j.bad _ _ (by rw[chkT];exact decide_eq_false hx),eQ]
      obtain⟨a,j,F⟩:=wd (fun _=>0) (O:=W) (sz:=fzS (eLst [(oV (oC (.int 0))),(oV (oC (.int 0))),(oV (oC (.int 0)))])) (fun _ _=>by decide) rfl;have s1:=hb (r' :=.df f ps a) F;have t2:asB (o2 eqF (oIx (oN 5) (oC (.int 1))) (oIx (oN 3) (oC (.int 2)))) (pE W A.length c N z (.df f ps t) (A ++ .df f ps a::B) y (fz (.str x)) .un)=.ok (decide (f=N 2),pE W A.length c N z (.df f ps t) (A ++ .df f ps a::B) y (fz (.str x)) .un):=rfl;by_cases f2:f=N 2
      ·have hz2:∀k,k<3->(if k=2 then 0 else z k)<=3:=fun k hk=>by
        split
        ·omega
        ·exact S k hk
       obtain⟨t3,i3,e3⟩:=wd (fun k=>if k=2 then 0 else z k) (O:=A ++ .df f ps a::B) (sz:=fzS (eCat (.v (fzS (eSlL (oN 4) none (some (oV (oC (.int 2))))))) (.v (fzS (eLst [(oV (oC (.int 0)))]))))) hz2 (by rfl);have s3:=zXm (W:=W) (A:=A) (B:=B) (r:=.df f ps a) (r' :=.df f ps t3) (p:=.df f ps t) e3;exact⟨_,ok i3,w (vZ (q:=true) (e:=pE W A.length c N z (.df f ps t) W y .un .un) rfl (qR rfl (vZ J (qP rfl (vZ (q:=c % 3 == 1) (e:=pE W A.length c N z (.df f ps t) W y .un .un) rfl (qP (beq_false_of_ne Y) (ex (jY s1 (vZ t2 (qR (decide_eq_true f2) s3))))))))))⟩
      ·exact⟨_,ok j,w (vZ (q:=true) (e:=pE W A.length c N z (.df f ps t) W y .un .un) rfl (qR rfl (vZ J (qP rfl (vZ (q:=c % 3 == 1) (e:=pE W A.length c N z (.df f ps t) W y .un .un) rfl (qP (beq_false_of_ne Y) (ex (jY s1 (vZ t2 (qP (decide_eq_false f2) rfl))))))))))⟩
end
section
variable{N:Nat->Str}{z:Nat->Nat}{u fb:Str}{l:List Nat}
noncomputable abbrev b4(N:Nat->Str)(z:Nat->Nat):List Rw:=[.lt (N 4) (.num 1),dfR N z 0,dfR N z 1,dfR N z 2]
theorem vZ0(h:Gs N z R kn):∃T,R=b4 N z ++ T/\∀r∈T,isDf r=false:=by
 induction h with
 |nil=>exact⟨[],rfl,fun _ h=>nomatch h⟩
 | snoc h g ih=>
   obtain⟨T,e,a⟩:=ih;refine⟨T ++ [_],by rw[e,dF],fun r hr=>?_⟩;rcases bR.mp hr with hr|hr
   ·exact a r hr
   ·cases bW.mp hr;cases g <;> rfl
theorem vX0:∀(T:List Rw) (hl:Nm),(∀r∈T,isDf r=false)->T.foldl vG hl=hl
 |[],_,_=>rfl
 | r::T,hl,h=>by
   have a:=h r (by simp);cases r with
   |df=>cases a
   |lt|ag|see|ask=>exact vX0 T hl fun q b=>h q (aM _ b)
structure Gd(N:Nat->Str)(z:Nat->Nat)(G:List Rw):Prop where
 chk:zT G [] []=true
 len:5<=G.length/\G.length<=40
 pf:∀a,Pf N z (G.take a)
 sh:∀i r,G[i]?=some r->Sh N z i r/\r.t.wf/\r.t.h<=4
theorem jVf(nm:Nms N u fb)(c:∀k,k<3->z k<=3)(h:Gs N z R kn)(D:R.length<=34){x:Str}(p:x∈kn):Gd N z (R ++ [Rw.ask (.name x)]):=by
 have d:=zQ6 nm c h;have n:=zX0 c h;have ne:∀i j,i<6->j<6->i≠j->N i≠N j:=fun i j q s h e=>h (nm.inj i q j s e)
 obtain⟨w,A,B⟩:=zXh nm c;have E:=(vX1 nm c h).1;refine⟨?_,by rw[aU];show 5<=_+1/\_+1<=40;omega,fun a=>?_,fun i r hr=>?_⟩
 ·rw [qVt,d.chk];show(chkT (zX (knR R)) (hlR R) (.name x) && true)=true;rw[chkT,qZh,decide_eq_true ((d.mem x).mp p)];rfl
 ·have lt:∀y∈lets ((R ++ [Rw.ask (.name x)]).take a),∃i,1<=i/\i<6/\y=N i:=fun y C=>by
   refine d.nm y ?_
   have e:lets (R ++ [Rw.ask (.name x)])=lets R:=by rw[jZ];exact bK _
   rw[←e,←List.take_append_drop a (R ++ [Rw.ask (.name x)]),jZ];exact eV _ C
  obtain⟨T,f,g⟩:=vZ0 h;rw[f,dF]at lt⊢;match a with
  | 0=>exact⟨fun _=>.inl rfl,(fun k _ e=>nomatch e),lt⟩
  | 1=>
    refine⟨fun h=>absurd h (by show¬(1=0\/4<=1);decide),fun k l e=>?_,lt⟩;have b:k=0:=(Nat.succ.inj e).symm;subst b;exact⟨rfl,fun h=>absurd h (by decide)⟩
  | 2=>
    refine⟨fun h=>absurd h (by show¬(2=0\/4<=2);decide),fun k l e=>?_,lt⟩;have b:k=1:=(Nat.succ.inj e).symm;subst b;show getA (vG [] (dfR N z 0)) (N 1)=none/\(1<=1->∃v,getA (vG [] (dfR N z 0)) (N 0)=some v);rw[B];exact⟨by unfold getA getA;rw[if_neg (ne 0 1 (by decide) (by decide) (by decide))],fun _=>⟨_,by unfold getA;rw[if_pos rfl]⟩⟩
  | 3=>
    refine⟨fun h=>absurd h (by show¬(3=0\/4<=3);decide),fun k l e=>?_,lt⟩;have b:k=2:=(Nat.succ.inj e).symm;subst b;show getA (vG (vG [] (dfR N z 0)) (dfR N z 1)) (N 2)=none/\(1<=2->∃v,getA (vG (vG [] (dfR N z 0)) (dfR N z 1)) (N 0)=some v);rw[A];exact⟨by unfold getA getA getA;rw[if_neg (ne 0 2 (by decide) (by decide) (by decide)),if_neg (ne 1 2 (by decide) (by decide) (by decide))],fun _=>⟨_,by unfold getA;rw[if_pos rfl]⟩⟩
  | a + 4=>
    have e:(b4 N z ++ (T ++ [Rw.ask (.name x)])).take (a+4)=b4 N z ++ (T ++ [Rw.ask (.name x)]).take a:=rfl;refine⟨fun _=>.inr ?_,fun k l o=>?_,lt⟩
    ·rw [e];unfold hlR;rw[List.foldl_append];refine(vX0 _ _ fun r hr=>?_).trans w;rcases bR.mp (List.mem_of_mem_take hr) with hr|hr
     ·exact g r hr
     ·cases bW.mp hr;rfl
    ·rw [e,aU] at o;have:4+((T ++ [Rw.ask (.name x)]).take a).length =k+1:=o;omega
 ·have wf:r.t.wf/\r.t.h<=4:=by
   rcases bR.mp (List.mem_of_getElem? hr) with hm|hm
   ·exact⟨(n.ok r hm).1.1,(n.ok r hm).2.1⟩
   ·cases bW.mp hm;exact⟨by show(Tm.name x).wf;simp[Tm.wf],by show(Tm.name x).h <=4;simp[Tm.h]⟩
  refine⟨?_,wf⟩;obtain⟨T,f,g⟩:=vZ0 h;rw[f,dF]at hr;match i with
  | 0=>cases hr;exact .inl rfl
  | 1=>cases hr;exact⟨0,by decide,rfl,.inl rfl,rfl⟩
  | 2=>cases hr;exact⟨1,by decide,rfl,.inl rfl,rfl⟩
  | 3=>cases hr;exact⟨2,by decide,rfl,.inl rfl,rfl⟩
  | i + 4=>
    have m :(T ++ [Rw.ask (.name x)])[i]?=some r:=hr;have nd:isDf r=false:=by
     rcases bR.mp (List.mem_of_getElem? m) with hm|hm
     ·exact g r hm
     ·cases bW.mp hm;rfl
    cases r with
    |df=>cases nd
    |lt|ag|see|ask=>exact .inr (Nat.le_add_left 4 i)
variable{G W:List Rw}{due:Int}
structure St(N:Nat->Str)(z:Nat->Nat)(G W:List Rw)(due:Int):Prop where
 len:W.length=G.length
 sh:∀i r,W[i]?=some r->Sh N z i r/\r.t.wf/\r.t.h<=4
 fb:(due= -2/\W=G)\/∃d:Nat,due=(d:Nat)/\W.take d=G.take d/\∃r,W[d]?=some r/\jK (knR (G.take d)) (hlR (G.take d)) r=false
theorem St.turn(m:Gd N z G){r r' :Rw}(st:St N z G (A ++ r::B) due)(c:Sr N z A r r'):St N z G (A ++ r' ::B) (if due<0\/(A.length:Int)<due then(A.length:Nat) else due):=by
 have e:A ++ r' ::B=(A ++ r::B).set A.length r' :=by have:=vVe (r:=r) (r' :=r') (B:=B) id A;rw[List.map_id,List.map_id]at this;exact this.symm
 have n:A.length<(A ++ r::B).length :=by rw[aU,aK];omega
 have f:∀d,d<=A.length->(A ++ r' ::B).take d=(A ++ r::B).take d:=fun d h=>by rw[List.take_append_of_le_length h,List.take_append_of_le_length h]
 have b:(A ++ r::B).take A.length=G.take A.length->jK (knR (G.take A.length)) (hlR (G.take A.length)) r' =false:=fun h=>by
  have p:=m.pf A.length;rw[←h,vZf]at p⊢;exact c.bad p
 refine⟨by rw[e,bS];exact st.len,fun i q a=>?_,?_⟩
 ·rw [e,List.getElem?_set] at a;by_cases h:A.length=i
  ·rw [if_pos h] at a;rw[if_pos (by omega)]at a;cases a;rw[←h];exact⟨c.sh,c.wf,c.h⟩
  ·rw [if_neg h] at a;exact st.sh i q a
 ·rcases st.fb with⟨j,k⟩ | ⟨d,j,g,q,a,hb⟩
  ·rw [if_pos (.inl (by omega))];exact .inr ⟨A.length,rfl,by rw[f _ (aB _),k],r',qJt,b (by rw[k])⟩
  ·by_cases h:(A.length:Int) < due
   ·rw [if_pos (.inr h)];have l:(A ++ r::B).take A.length=G.take A.length:=by
     have:=congrArg (List.take A.length) g;rw[List.take_take,List.take_take,Nat.min_eq_left (by omega)]at this;exact this
    exact .inr ⟨A.length,rfl,by rw[f _ (aB _)];exact l,r',qJt,b l⟩
   ·rw [if_neg (fun x=>x.elim (fun x=>by omega) h)];have dl:d<=A.length:=by omega
    refine .inr ⟨d,j,by rw[f d dl];exact g,?_⟩;rcases Nat.lt_or_eq_of_le dl with dl|dl
    ·refine⟨q,?_,hb⟩;rw[e,List.getElem?_set,if_neg (by omega)];exact a
    ·subst dl;exact⟨r',qJt,b g⟩
noncomputable abbrev pD(a:List Rw):D:=.nd .lst (a.map Rw.d)
section
variable{F:Fn}{as:List Am}{hd:Nat->Bool}{i:Nat}{su:SS}{env:Ev}{r:List Hn×Ev}
theorem zX7{C:Nat}{fs:List (Str×D)}{o:O}(h0:evOs (as.map Am.o) env=.ok r)(h1:xX F as r.1 r.2=.er C fs)(h2:(hd C && decide (i<env.length))=true)(a:su ((r.2.map qYa).set i (.s false (.fz (.nd (.exc C (fs.map (·.1))) (fs.map (·.2))))))=.ok (.rt o e)):sTry F as hd i su env=.ok (.rt o e):=by
 unfold sTry;rw[h0];simp only[h1,h2,a,cond]
theorem zX6{q:O×Ev}(h0:evOs (as.map Am.o) env=.ok r)(h1:xX F as r.1 r.2=.ok q):sTry F as hd i su env=.ok (.nx q.2):=by
 unfold sTry;rw[h0];simp only[h1]
end
theorem zYl{o:O}(h:wQ [fz p]=.ok (o,[.un])):zF [fz p]=.ok (.fz (.int (-2)),[.un]):=by
 unfold zF;exact vX (jY (zX6 (r:=([.d p],[fz p,.un,.un])) rfl (qL rfl rfl rfl h rfl rfl rfl)) (jN (o:=.fz (.int (-2))) rfl rfl)) rfl
theorem zVq{n:Int}(h:wQ [fz p]=.er 24 [("row",.int n)]):zF [fz p]=.ok (.fz (.int n),[.un]):=by
 unfold zF;exact vX (zYg (zX7 (r:=([.d p],[fz p,.un,.un])) rfl (qZm rfl rfl rfl h) rfl (o:=.fz (.int n)) rfl) rfl) rfl
theorem St.ref(a:Gd N z G){o:O}(j:wQ [fz (pD G)]=.ok (o,[.un]))(st:St N z G W due):zF [fz (pD W)]=.ok (.fz (.int due),[.un]):=by
 rcases st.fb with⟨rfl,rfl⟩|⟨d,rfl,k,q,b,hb⟩
 ·exact zYl j
 ·have l:d < W.length:=(aD.mp b).1;have e:W=G.take d ++ q::W.drop (d+1):=by
   rw[←k];have:=(aD.mp b).2;rw[←this,←List.drop_eq_getElem_cons l,List.take_append_drop]
  have f:(G.take d).length =d:=by rw[bG];have:=st.len;omega
  have c:zT (G.take d) [] []=true:=by
   have c:=a.chk;rw[←List.take_append_drop d G,qVt,aP]at c;exact c.1
  have g:=st.sh d q b;have h:=vWi (G.take d) q (W.drop (d+1)) (fun r m=>by
   obtain⟨i,n⟩:=List.getElem?_of_mem (List.mem_of_mem_take m)
   have:=a.sh i r n;exact⟨this.2.1,by have:=this.2.2;omega⟩) ⟨g.2.1,by have:=g.2.2;omega⟩ (by rw[f];have:=a.len;have:=st.len;omega) c hb
  rw[←e,f]at h;exact zVq h
end
noncomputable def Eqs(n:Nat)(d:D):Prop:=∀m,n<=m->deq m d d=some true
theorem qW1{f:D->D->Option Bool}:∀{ds:List D},(∀d∈ds,f d d=some true)->all2 f ds ds=some true
 |[],_=>rfl
 | d::ds,h=>by
   show(f d d).bind _=_;rw[h d (by simp)];show(all2 f ds ds).bind _=_;rw[qW1 fun x a=>h x (aM _ a)];rfl
section
variable{n m:Nat}{d:D}{ds:List D}
theorem Eqs.mk(h:∀d∈ds,Eqs n d):Eqs (n+1) (.tup ds)
 | 0,l=>by omega
 |m+1,l=>qW1 fun d a=>h d a m (by omega)
theorem Eqs.ls(h:∀d∈ds,Eqs n d):Eqs (n+1) (.nd .lst ds)
 | 0,l=>by omega
 |m+1,l=>qW1 fun d a=>h d a m (by omega)
theorem Eqs.ne(h:Eqs n d)(l:n<=30):neQ d d=some (.bl false):=by unfold neQ;rw[h 30 l];rfl
theorem Eqs.int(i:Int):Eqs n (.int i)
 | 0,_=>by show some (i == i)=_;simp
 |m+1,_=>by show some (i == i)=_;simp
theorem Eqs.str(x:Str):Eqs n (.str x)
 | 0,_=>by show some (decide (x=x))=_;simp
 |m+1,_=>by show some (decide (x=x))=_;simp
theorem Eqs.up(h:Eqs n d)(l:n<=m):Eqs m d:=fun k q=>h k (by omega)
theorem al(h:Eqs n d)(k:∀x∈ds,Eqs n x):∀x∈d::ds,Eqs n x:=List.forall_mem_cons.mpr ⟨h,k⟩
theorem an:∀x∈([]:List D),Eqs n x:=fun x h=>by cases h
end
mutual
theorem qQx:∀t:Tm,Eqs (3 * t.h) t.d
 |.num n=>by rw[Tm.d,Tm.h];exact Eqs.mk (n:=2) (al (.str _) (al (.int _) an))
 |.name x=>by rw[Tm.d,Tm.h];exact Eqs.mk (n:=2) (al (.str _) (al (.str _) an))
 |.flip a b=>by rw[Tm.d,Tm.h];exact Eqs.mk (n:=2) (al (.str _) (al (.int _) (al (.int _) an)))
 | .pick ps=>by
   rw[Tm.d,Tm.h];refine Eqs.mk (n:=2) (al (.str _) (al (Eqs.mk (n:=1) fun d e=>?_) an));obtain⟨p,_,rfl⟩:=List.mem_map.mp e;exact Eqs.mk (n:=0) (al (.int _) (al (.int _) an))
 | .op s a b=>by
   rw[Tm.d,Tm.h];exact(Eqs.mk (n:=3 * max a.h b.h) (al (.str _) (al (.str _) (al ((qQx a).up (by omega)) (al ((qQx b).up (by omega)) an))))).up (by omega)
 | .rest a n=>by
   rw[Tm.d,Tm.h];exact(Eqs.mk (n:=3 * a.h) (al (.str _) (al (qQx a) (al (.int _) an)))).up (by omega)
 | .field a n=>by
   rw[Tm.d,Tm.h];exact(Eqs.mk (n:=3 * a.h) (al (.str _) (al (qQx a) (al (.str _) an)))).up (by omega)
 | .ite c a b=>by
   rw[Tm.d,Tm.h];exact(Eqs.mk (n:=3 * max c.h (max a.h b.h)) (al (.str _) (al ((qQx c).up (by omega)) (al ((qQx a).up (by omega)) (al ((qQx b).up (by omega)) an))))).up (by omega)
 | .rcd xs as=>by
   rw[Tm.d,Tm.h];exact(Eqs.mk (n:=3 * Tm.hs as+2) (al (.str _) (al (Eqs.mk (eqs_tmz xs as)) an))).up (by omega)
 | .call f as=>by
   rw[Tm.d,Tm.h];exact(Eqs.mk (n:=3 * Tm.hs as+1) (al (.str _) (al (.str _) (al (Eqs.mk (eqs_tms as)) an)))).up (by omega)
theorem eqs_tms:∀as:List Tm,∀d∈Tm.ds as,Eqs (3 * Tm.hs as) d
 |[],d,h=>by rw[Tm.ds]at h;cases h
 | a::as,d,h=>by
   rw[Tm.ds]at h;rw[Tm.hs];rcases aA.mp h with rfl|h
   ·exact(qQx a).up (by omega)
   ·exact(eqs_tms as d h).up (by omega)
theorem eqs_tmz:∀(xs:List Str) (as:List Tm),∀d∈zipD (xs.map .str) (Tm.ds as),Eqs (3 * Tm.hs as+1) d
 |[],_,d,h=>by cases h
 |x::xs,[],d,h=>by rw[Tm.ds]at h;cases h
 | x::xs,a::as,d,h=>by
   rw[Tm.ds]at h;rw[Tm.hs];rcases aA.mp (show d∈D.tup [.str x,a.d]::zipD (xs.map .str) (Tm.ds as) from h) with rfl|h
   ·exact(Eqs.mk (n:=3 * a.h) (al (.str _) (al (qQx a) an))).up (by omega)
   ·exact(eqs_tmz xs as d h).up (by omega)
end
theorem zJk(r:Rw)(h:r.t.h<=4):Eqs 13 r.d:=by
 have e:=(qQx r.t).up (show 3 * r.t.h<=12 by omega);cases r with
 |df f ps b=>exact Eqs.mk (al (.str _) (al (.str _) (al ((Eqs.mk (n:=0) fun d a=>by obtain⟨p,_,rfl⟩:=List.mem_map.mp a;exact .str p).up (by decide)) (al e an))))
 |lt x t=>exact Eqs.mk (al (.str _) (al (.str _) (al e an)))
 |ag n x t=>exact Eqs.mk (al (.str _) (al (.int _) (al (.str _) (al e an))))
 |see t=>exact Eqs.mk (al (.str _) (al e an))
 |ask t=>exact Eqs.mk (al (.str _) (al e an))
section
variable{ns:List Int}{N:Nat->Str}{z:Nat->Nat}{u fb:Str}{l:List Nat}{G W:List Rw}{due S:Int}{x4 x7 x8:Slot}
noncomputable abbrev lE(ns:List Int)(S:Int)(N:Nat->Str)(z:Nat->Nat)(x4:Slot)(W:Slot)(a:Int)(x7 x8 x9:Slot):Ev:=[sX ns,fI S,fz (nD N),fz (sD z),x4,W,fI a,x7,x8,x9]
theorem fr5(x4 x7 x8 x9:Slot):oV (oN 5) (lE ns S N z x4 (rO W) due x7 x8 x9)=.ok (pD W,lE ns S N z x4 (fz (pD W)) due x7 x8 x9):=by
 unfold pD;rw[←vP (k:=.lst) (W.map Rw.d)];rfl
theorem cellA{c:SV}{k:Nat}(h0:oV (oN 0) env=.ok (.nd .lst (ns.map D.int),env))(h:c env=.ok (nI k,env)):fzS (callS F_law_cell_at [(.v (oV (oN 0))),(.v c)]) env=.ok (.int (cl ns k),env):=
 v8 (vQ (qS h0 (qS h (vF rfl) rfl) rfl) (qL rfl rfl rfl (zW8 ns k) rfl rfl rfl)) rfl
theorem turn_ok(nm:Nm0 N u fb l)(E:∀k,k<3->z k<=3)(C:Gd N z G)(st:St N z G W due){k:Nat}(hk:k<=4)(hd:due= -2\/0<=due):∃W' f F,St N z G W' f /\(f = -2\/0<=f)/\vVt (lE ns S N z x4 (rO W) due (fI (k:Nat)) x8 .un)=.ok (.nx (lE ns S N z x4 (rO W') f (fI (k:Nat)) F .un)):=by
 have T:=C.len;have U:=st.len;obtain⟨v,V,H⟩:=mix_at (env:=lE ns S N z x4 (rO W) due (fI (k:Nat)) x8 .un) (a:=fzS (callS F_law_cell_at [(.v (oV (oN 0))),(.v (oV (oN 7)))])) (b:=oV (oAdd (oC (.int 7)) (oN 7))) (c:=cl ns k) (k:=7+k) (cellA rfl rfl) rfl (by omega);have I:evO (oL lenD [oN 5]) (lE ns S N z x4 (rO W) due (fI (k:Nat)) x8 .un)=.ok (.d (nI W.length),lE ns S N z x4 (rO W) due (fI (k:Nat)) x8 .un):=by
  have:=vW2 (ds:=W.map Rw.d) (i:=5) (env:=lE ns S N z x4 (rO W) due (fI (k:Nat)) x8 .un) rfl;rw[aW]at this;exact this
 have g1:=Int.emod_nonneg v (show((W.length:Nat):Int)≠0 by omega);have Y:=Int.emod_lt_of_pos v (show(0:Int)<(W.length:Nat) by omega);obtain⟨g,p⟩:=Int.eq_ofNat_of_zero_le g1;have J:oV (oMod (.v (fzS (callS qD [(.v (fzS (callS F_law_cell_at [(.v (oV (oN 0))),(.v (oV (oN 7)))]))),(.v (oV (oAdd (oC (.int 7)) (oN 7))))]))) (oL lenD [(oN 5)])) (lE ns S N z x4 (rO W) due (fI (k:Nat)) x8 .un)=.ok (nI g,lE ns S N z x4 (rO W) due (fI (k:Nat)) x8 .un):=by
  unfold nI;rw[show((g:Nat):Int)=v % (W.length:Nat) from p.symm];exact vO (vU (h1:=.d (.int v)) (h2:=.d (nI W.length)) (zD (v8 H rfl) rfl) I rfl rfl rfl (md (by omega)) rfl) rfl
 obtain⟨m,_,t⟩:=mix_at (env:=lE ns S N z x4 (rO W) due (fI (k:Nat)) (fI (g:Nat)) .un) (a:=oV (oN 1)) (b:=oV (oAdd (oC (.int 12)) (oN 7))) (c:=S) (k:=12+k) rfl rfl (by omega);have w:∃a:Nat,a<W.length/\∀{s:SS} {X},s (lE ns S N z x4 (rO W) due (fI (k:Nat)) (fI (a:Nat)) .un)=X->sSeq (sIf (asB (o2 eqF (oMod (.v (fzS (callS qD [(.v (oV (oN 1))),(.v (oV (oAdd (oC (.int 12)) (oN 7))))]))) (oC (.int 2))) (oC (.int 0)))) (sSet 8 (owS (oV (oMod (oN 8) (oC (.int 4)))))) sNil) s (lE ns S N z x4 (rO W) due (fI (k:Nat)) (fI (g:Nat)) .un)=X:=by
  have D:asB (o2 eqF (oMod (.v (fzS (callS qD [(.v (oV (oN 1))),(.v (oV (oAdd (oC (.int 12)) (oN 7))))]))) (oC (.int 2))) (oC (.int 0))) (lE ns S N z x4 (rO W) due (fI (k:Nat)) (fI (g:Nat)) .un)=.ok (m % 2 == 0,lE ns S N z x4 (rO W) due (fI (k:Nat)) (fI (g:Nat)) .un):=jR (vO (vU (h1:=.d (.int (m % 2))) (h2:=.d (.int 0)) (vU (h1:=.d (.int m)) (h2:=.d (.int 2)) (zD (v8 t rfl) rfl) rfl rfl rfl rfl (md (by decide)) rfl) rfl rfl rfl rfl rfl rfl) rfl) rfl rfl;by_cases q:m % 2=0
  ·refine⟨g % 4,by have:=Nat.mod_le g 4;omega,fun h=>qB D (qR (by rw[q];rfl) (qW (o:=.fz (nI (g % 4))) (e:=lE ns S N z x4 (rO W) due (fI (k:Nat)) (fI (g:Nat)) .un) rfl h))⟩
  ·exact⟨g,by omega,fun h=>qB D (qP (beq_false_of_ne q) (qN h))⟩
 obtain⟨a,K,L⟩:=w;obtain⟨A,r,B,rfl,rfl⟩:∃A r B,W=A ++ r::B/\A.length=a:=⟨W.take a,W[a],W.drop (a+1),by rw[←List.drop_eq_getElem_cons K,List.take_append_drop],by rw[bG];omega⟩
 obtain⟨M,_,x⟩:=mix_at (env:=lE ns S N z x4 (fz (pD (A ++ r::B))) due (fI (k:Nat)) (fI (A.length:Nat)) .un) (a:=fzS (callS F_law_cell_at [(.v (oV (oN 0))),(.v (oV (oAdd (oC (.int 2)) (oN 7))))])) (b:=oV (oAdd (oC (.int 9)) (oN 7))) (c:=cl ns (2+k)) (k:=9+k) (cellA (k:=2+k) rfl rfl) rfl (by omega);have j:=st.sh A.length r qJt;obtain⟨n,O,P⟩:=spoil_ok nm E M (A:=A) (B:=B) (r:=r) j.1 j.2 (by omega);have Q:callS wM [(.v (oV (oN 5))),(.v (oV (oN 8))),(.v (fzS (callS qD [(.v (fzS (callS F_law_cell_at [(.v (oV (oN 0))),(.v (oV (oAdd (oC (.int 2)) (oN 7))))]))),(.v (oV (oAdd (oC (.int 9)) (oN 7))))]))),(.v (oV (oN 2))),(.v (oV (oN 3)))] (lE ns S N z x4 (rO (A ++ r::B)) due (fI (k:Nat)) (fI (A.length:Nat)) .un)=.ok (.ow .lst (((A ++ n ::B).map Rw.d).map .fz),lE ns S N z x4 (fz (pD (A ++ r::B))) due (fI (k:Nat)) (fI (A.length:Nat)) .un):=
  vQ (qS (fr5 _ _ _ _) (qS (d:=nI A.length) rfl (qS (v8 x rfl) (qS (d:=nD N) rfl (qS (d:=sD z) rfl (vF rfl) rfl) rfl) rfl) rfl) rfl) (qL rfl rfl rfl P rfl rfl rfl)
 have R:bOr (asB (oLt (oN 6) (oC (.int 0)))) (asB (oLt (oN 8) (oN 6))) (lE ns S N z x4 (rO (A ++ n ::B)) due (fI (k:Nat)) (fI (A.length:Nat)) .un)=.ok (decide (due<0) || decide ((A.length:Int)<due),lE ns S N z x4 (rO (A ++ n ::B)) due (fI (k:Nat)) (fI (A.length:Nat)) .un):=by
  refine qK0 (q:=decide (due<0)) rfl ?_
  cases decide (due<0) <;> rfl
 have y :=st.turn C O;refine⟨A ++ n ::B,_,fI (A.length:Nat),y,?_,qW (vR J rfl) (L (qW Q (vZ R ?_)))⟩
 ·split
  ·right;omega
  ·rename_i q;right;omega
 ·by_cases q:due < 0\/(A.length:Int) < due
  ·rw [if_pos q];exact qR (by rw[Bool.or_eq_true,decide_eq_true_eq,decide_eq_true_eq];exact q) rfl
  ·rw [if_neg q];exact qP (by rw[Bool.or_eq_false_iff,decide_eq_false_iff_not,decide_eq_false_iff_not];exact⟨fun h=>q (.inl h),fun h=>q (.inr h)⟩) rfl
theorem turns_ok(nm:Nm0 N u fb l)(g:∀k,k<3->z k<=3)(i:Gd N z G):∀(n k:Nat) (W:List Rw) (due:Int) (x7 x8:Slot),k+n<=4->St N z G W due->(due= -2\/0<=due)->∃W' a j c,St N z G W' a /\forS (gN 7) vVt (rngD (k:Nat) n) (lE ns S N z x4 (rO W) due x7 x8 .un)=.ok (.nx (lE ns S N z x4 (rO W') a j c .un))
 | 0,k,W,due,x7,x8,_,st,_=>⟨W,due,x7,x8,st,rfl⟩
 | n + 1,k,W,due,x7,x8,h,st,hd=>by
   obtain⟨m,b,c,d,e,o⟩:=turn_ok (ns:=ns) (S:=S) (x4:=x4) (x8:=x8) nm g i st (show k<=4 by omega) hd;obtain⟨W',a,p,q,f,r⟩:=turns_ok nm g i n (k+1) m b (fI (k:Nat)) c (by omega) d e;exact⟨W',a,p,q,f,by rw[qYq];exact zW rfl o r⟩
end
theorem zV9(ns:List Int)(h:ns.length<=63):∃e,zQi [.s false (.fz (.nd .lst (ns.map .int)))]=.ok (.fz (.bl true),e):=by
 have A:∃S:Int,oV (oL sumD [(.v (fzS (eSlL (oN 0) none (some (oV (oC (.int 63)))))))]) [sX ns,.un,.un,.un,.un,.un,.un,.un,.un,.un]=.ok (.int S,[sX ns,.un,.un,.un,.un,.un,.un,.un,.un,.un]):=by
  have V:=qYd (i:=0) (env:=[sX ns,.un,.un,.un,.un,.un,.un,.un,.un,.un]) (ds:=ns.map D.int) (lo:=none) (h1:=.d (.nd .lst (ns.map D.int))) rfl rfl (qYj (v:=oV (oC (.int 63))) (n:=((63:Nat):Int)) rfl) rfl rfl;rw[vQ8,←List.map_take]at V;exact⟨(ns.take 63).sum,vO (zQh (hs:=[.d (.nd .lst ((ns.take 63).map D.int))]) (wX (zD (v8 V (by rw[vP])) rfl) rfl (qVe rfl) rfl) rfl (by show(qWm ((ns.take 63).map D.int)).bind _=_;rw[qKi];rfl) rfl) rfl⟩
 obtain⟨S,A⟩:=A;obtain⟨v,_,ev⟩:=mix_at (env:=[sX ns,fI S,.un,.un,.un,.un,.un,.un,.un,.un]) (a:=oV (oN 1)) (b:=oV (oC (.int 1))) (c:=S) (k:=1) rfl rfl (by decide);obtain⟨b,m,a,hb,hm,ha,en⟩:=names_ok v;have l:Nm0 (nmS b m a) (Sx (unL b m a)) (Sx (102::(nmL b m a 0).drop 1)) (nmL b m a 0):=by
  have X:(nmL b m a 0).length =m:=vYf b a 0 0 m;exact⟨zKi hb hm ha,rfl,by rw[X];omega,by rw[X];rfl,rfl⟩
 have Y:callS yX [(.v (fzS (callS qD [(.v (oV (oN 1))),(.v (oV (oC (.int 1))))])))] [sX ns,fI S,.un,.un,.un,.un,.un,.un,.un,.un]=.ok (.ow .lst ([.str (nmS b m a 0),.str (nmS b m a 1),.str (nmS b m a 2),.str (nmS b m a 3),.str (nmS b m a 4),.str (nmS b m a 5)].map .fz),[sX ns,fI S,.un,.un,.un,.un,.un,.un,.un,.un]):=vQ (qS (v8 ev rfl) (vF rfl) rfl) (qL rfl rfl rfl en rfl rfl rfl);generalize nmS b m a=N at l Y;have B:∀k:Nat,k<=5->∃n:Nat,n<=3/\∀x:Slot,(oV (oMod (.v (fzS (callS qD [(.v (oV (oN 1))),(.v (oV (oAdd (oC (.int 2)) (oN 0))))]))) (oC (.int 4)))) [fI (k:Nat),fI S]=.ok (nI n,[fI (k:Nat),fI S]):=fun k hk=>by
  obtain⟨w,hw,ew⟩:=mix_at (env:=[fI (k:Nat),fI S]) (a:=oV (oN 1)) (b:=oV (oAdd (oC (.int 2)) (oN 0))) (c:=S) (k:=2+k) rfl rfl (by omega);obtain⟨n,hn⟩:∃n:Nat,w % 4=(n:Nat):=⟨(w % 4).toNat,by omega⟩
  refine⟨n,by omega,fun _=>?_⟩;unfold nI;rw[←hn];exact vO (vU (h1:=.d (.int w)) (h2:=.d (.int 4)) (zD (v8 ew rfl) rfl) rfl rfl rfl rfl (md (by decide)) rfl) rfl
 obtain⟨C,h0,E⟩:=B 0 (by decide);obtain⟨F,h1,H⟩:=B 1 (by decide);obtain⟨I,h2,J⟩:=B 2 (by decide);obtain⟨z,K,t⟩:∃z:Nat->Nat,(z 0=C/\z 1=F/\z 2=I)/\∀k,k<3->z k<=3:=⟨fun k=>if k=0 then C else if k=1 then F else I,⟨rfl,rfl,rfl⟩,fun k _=>by
  show(if k=0 then C else if k=1 then F else I)<=3;split
  ·exact h0
  ·split
   ·exact h1
   ·exact h2⟩
 obtain⟨q0,q1,q2⟩:=K;rw[←q0]at E;rw[←q1]at H;rw[←q2]at J;have L:yT (gN 0) bTrue (oV (oMod (.v (fzS (callS qD [(.v (oV (oN 1))),(.v (oV (oAdd (oC (.int 2)) (oN 0))))]))) (oC (.int 4)))) [nI 0,nI 1,nI 2] [.un,fI S]=.ok ([nI (z 0),nI (z 1),nI (z 2)],[fI (2:Nat),fI S]):=by
  generalize hel:(oV (oMod (.v (fzS (callS qD [(.v (oV (oN 1))),(.v (oV (oAdd (oC (.int 2)) (oN 0))))]))) (oC (.int 4))):SV)=el at E H J;show((el [fI (0:Nat),fI S]).ne.bind fun v=>(yT (gN 0) bTrue el [nI 1,nI 2] v.2).bind fun q=>.ok (v.1::q.1,q.2))=_;rw[E .un];show(((el [fI (1:Nat),fI S]).ne.bind fun v=>(yT (gN 0) bTrue el [nI 2] v.2).bind fun q=>.ok (v.1::q.1,q.2)).bind fun q=>.ok (nI (z 0)::q.1,q.2))=_;rw[H .un];show((((el [fI (2:Nat),fI S]).ne.bind fun v=>(yT (gN 0) bTrue el [] v.2).bind fun q=>.ok (v.1::q.1,q.2)).bind fun q=>.ok (nI (z 1)::q.1,q.2)).bind fun q=>.ok (nI (z 0)::q.1,q.2))=_;rw[J .un];rfl
 have s3:compS 2 [(1,1)] [0] (iL rg1 [(oV (oC (.int 3)))]) (gN 0) bTrue (oV (oMod (.v (fzS (callS qD [(.v (oV (oN 1))),(.v (oV (oAdd (oC (.int 2)) (oN 0))))]))) (oC (.int 4)))) [sX ns,fI S,.s false (.ow .lst ([.str (N 0),.str (N 1),.str (N 2),.str (N 3),.str (N 4),.str (N 5)].map .fz)),.un,.un,.un,.un,.un,.un,.un]=.ok (.ow .lst ([nI (z 0),nI (z 1),nI (z 2)].map .fz),[sX ns,fI S,.s false (.ow .lst ([.str (N 0),.str (N 1),.str (N 2),.str (N 3),.str (N 4),.str (N 5)].map .fz)),.un,.un,.un,.un,.un,.un,.un]):=qQt (ds:=[nI 0,nI 1,nI 2]) (e:=[sX ns,fI S,.s false (.ow .lst ([.str (N 0),.str (N 1),.str (N 2),.str (N 3),.str (N 4),.str (N 5)].map .fz)),.un,.un,.un,.un,.un,.un,.un]) (by kernel_rfl) rfl L rfl;obtain⟨R,kn,x,Z,lR,hx,eg⟩:=good_ok ns (N:=N) t;have u:=jVf l.toNms t Z lR hx;obtain⟨o,M⟩:=vKh l.toNms t Z lR hx;generalize R ++ [Rw.ask (.name x)]=G at eg u M;have s4:callS qQf [(.v (oV (oN 0))),(.v (oV (oN 2))),(.v (oV (oN 3)))] [sX ns,fI S,.s false (.ow .lst ([.str (N 0),.str (N 1),.str (N 2),.str (N 3),.str (N 4),.str (N 5)].map .fz)),.s false (.ow .lst ([nI (z 0),nI (z 1),nI (z 2)].map .fz)),.un,.un,.un,.un,.un,.un]=.ok (.ow .lst ((G.map Rw.d).map .fz),[sX ns,fI S,fz (nD N),fz (sD z),.un,.un,.un,.un,.un,.un]):=vQ (qS (d:=.nd .lst (ns.map D.int)) rfl (qS (d:=nD N) rfl (qS (d:=sD z) rfl (vF rfl) rfl) rfl) rfl) (qL rfl rfl rfl eg rfl rfl rfl);have s5:eF listD [(oN 4)] [sX ns,fI S,fz (nD N),fz (sD z),rO G,.un,.un,.un,.un,.un]=.ok (.ow .lst ((G.map Rw.d).map .fz),[sX ns,fI S,fz (nD N),fz (sD z),rO G,.un,.un,.un,.un,.un]):=by
  refine vZb (hs:=[.p 4 []]) (e:=[sX ns,fI S,fz (nD N),fz (sD z),rO G,.un,.un,.un,.un,.un]) rfl (xs:=[pD G]) ?_ (ds:=G.map Rw.d) rfl rfl;show Res.ok ([fzO (.ow .lst ((G.map Rw.d).map .fz))],[sX ns,fI S,fz (nD N),fz (sD z),.s false (qK2 (.ow .lst ((G.map Rw.d).map .fz))),.un,.un,.un,.un,.un])=_;rw[vP,qJ4]
 obtain⟨O,hw6,e6⟩:=mix_at (env:=lE ns S N z (rO G) (rO G) (-2) .un .un .un) (a:=oV (oN 1)) (b:=oV (oC (.int 6))) (c:=S) (k:=6) rfl rfl (by decide);obtain⟨P,Q⟩:∃n:Nat,O % 3=(n:Nat):=⟨(O % 3).toNat,by omega⟩
 have i6:oV (oMod (.v (fzS (callS qD [(.v (oV (oN 1))),(.v (oV (oC (.int 6))))]))) (oC (.int 3))) (lE ns S N z (rO G) (rO G) (-2) .un .un .un)=.ok (nI P,lE ns S N z (rO G) (rO G) (-2) .un .un .un):=by
  unfold nI;rw[←Q];exact vO (vU (h1:=.d (.int O)) (h2:=.d (.int 3)) (zD (v8 e6 rfl) rfl) rfl rfl rfl rfl (md (by decide)) rfl) rfl
 obtain⟨W,f,g,j,st,lp⟩:=turns_ok (ns:=ns) (S:=S) (x4:=rO G) l t u P 0 G (-2) .un .un (by omega) ⟨rfl,u.sh,.inl ⟨rfl,rfl⟩⟩ (.inl rfl);have rf:=st.ref u M;have s9:eF listD [(oN 5)] (lE ns S N z (rO G) (rO W) f g j .un)=.ok (.ow .lst ((W.map Rw.d).map .fz),lE ns S N z (rO G) (rO W) f g j .un):=by
  refine vZb (hs:=[.p 5 []]) (e:=lE ns S N z (rO G) (rO W) f g j .un) rfl (xs:=[pD W]) ?_ (ds:=W.map Rw.d) rfl rfl;show Res.ok ([fzO (.ow .lst ((W.map Rw.d).map .fz))],lE ns S N z (rO G) (.s false (qK2 (.ow .lst ((W.map Rw.d).map .fz)))) f g j .un)=_;rw[vP,qJ4]
 have f9:oV (oN 9) (lE ns S N z (rO G) (rO W) f g j (rO W))=.ok (pD W,lE ns S N z (rO G) (rO W) f g j (fz (pD W))):=by
  unfold pD;have:∀q:Slot,oV (oN 9) (lE ns S N z (rO G) q f g j (rO W))=.ok (fzO (.ow .lst ((W.map Rw.d).map .fz)),lE ns S N z (rO G) q f g j (fz (fzO (.ow .lst ((W.map Rw.d).map .fz))))):=fun q=>rfl
  rw[this,vP]
 have T:neQ (pD W) (pD W)=some (.bl false):=(Eqs.ls (n:=13) fun d hd=>by
  obtain⟨r,hr,rfl⟩:=List.mem_map.mp hd;obtain⟨i,hi⟩:=List.getElem?_of_mem hr;exact zJk r (st.sh i r hi).2.2).ne (by decide)
 have U:neF (.int f) (.int f)=some (.bl false):=by show some (D.bl (!(f == f)))=_;rw[beq_self_eq_true];rfl
 have t9:bOr (asB (o2 neF (.v (fzS (callS zF [(.v (oV (oN 9)))]))) (oN 6))) (asB (o2 neQ (oN 9) (oN 5))) (lE ns S N z (rO G) (rO W) f g j (rO W))=.ok (false,lE ns S N z (rO G) (rO W) f g j (fz (pD W))):=
  qK0 (q:=false) (e:=lE ns S N z (rO G) (rO W) f g j (fz (pD W))) (jR (vO (vU (h1:=.d (.int f)) (h2:=.d (.int f)) (zD (v8 (vQ (qS f9 (vF rfl) rfl) (qL rfl rfl rfl rf rfl rfl rfl)) rfl) rfl) rfl rfl rfl rfl U rfl) rfl) rfl rfl) (qP rfl (jR (vO (vU (h1:=.d (pD W)) (h2:=.p 5 []) (x:=pD W) (y:=pD W) rfl rfl rfl rfl (by show some (fzO (.ow .lst ((W.map Rw.d).map .fz)))=_;rw[vP]) T rfl) rfl) rfl rfl))
 have f4:oV (oN 4) (lE ns S N z (rO G) (rO W) f g j (fz (pD W)))=.ok (pD G,lE ns S N z (fz (pD G)) (rO W) f g j (fz (pD W))):=by
  unfold pD;have:∀p q:Slot,oV (oN 4) (lE ns S N z (rO G) q f g j p)=.ok (fzO (.ow .lst ((G.map Rw.d).map .fz)),lE ns S N z (fz (fzO (.ow .lst ((G.map Rw.d).map .fz)))) q f g j p):=fun p q=>rfl
  rw[this,vP]
 have op:fzS (callS wQ [(.v (oV (oN 4)))]) (lE ns S N z (rO G) (rO W) f g j (fz (pD W)))=.ok (oneD o.st o.s.dr o.s.sl,lE ns S N z (fz (pD G)) (rO W) f g j (fz (pD W))):=v8 (vQ (qS f4 (vF rfl) rfl) (qL rfl rfl rfl M rfl rfl rfl)) (by rw[zWb];rfl);unfold zQi;exact⟨_,vX (qW (vR A rfl) (qW Y (qW s3 (qW s4 (qW s5 (qW (o:=.fz (.int (-2))) (e:=[sX ns,fI S,fz (nD N),fz (sD z),rO G,rO G,.un,.un,.un,.un]) rfl (jY (xY (qV4 (xs:=[nI P]) (qZ i6 (qI rfl) rfl) (vW0 (by omega)) rfl) lp) (qW s9 (qB t9 (qP rfl (qN (jN (o:=.fz (.bl true)) (vR (vO (zQ7 (h1:=.d (oneD o.st o.s.dr o.s.sl)) (zD op rfl) rfl rfl rfl) rfl) rfl) rfl)))))))))))) rfl⟩
end X24
namespace L2
open PySem PySem.Spec PyProof.Rows
variable{prog:bZ}{w:bP}{A:cW}{E Q:Value->aJ->Prop}{t':Bool}{elts:List Expr}{kk:Nat}{pos:Pos}
noncomputable def SqB:Bool->aQ->Hp->aZ->List V->Prop
 |true,K,H,a,xs=>SqT K H a xs
 |false,K,H,a,xs=>SqL K H a xs
noncomputable def IsB:Bool->Heap->aZ->Array Value->Prop
 |true,h,a,xs=>h.IsTuple a xs
 |false,h,a,xs=>h.IsList a xs
noncomputable def ItB:Bool->Heap->aZ->aZ->Nat->Prop
 |true,h,i,l,k=>h.IsTupleIter i l k
 |false,h,i,l,k=>h.IsListIter i l k
noncomputable def itO:Bool->aZ->Obj
 |true,l=> {cls:=.type "tuple_iterator",data:=.fields #[.ref l,.int 0 0]}
 |false,l=> {cls:=.type "list_iterator",data:=.fields #[.ref l,.int 0 0]}
section
variable{t t' :Bool}{h g:Heap}{a b i l m:aZ}{k:Nat}{xs ys:Array Value}
theorem vW4(t:Bool)(a:l≠i)(xs:Array Value):Feed i l (fun k h=>ItB t h i l k/\IsB t h l xs) (fun k=>xs[k]?):=by
 cases t
 ·exact vKl a xs
 ·exact vWq a xs
theorem IsB.lt(p:IsB t h a xs):a<h.objs.size:=by
 cases t <;> (obtain⟨_,e,_⟩:=p;exact aC e)
theorem IsB.push{o:Obj}(p:IsB t h a xs):IsB t (h.push o) a xs:=by
 cases t
 ·exact Heap.IsList.push p _
 ·exact Heap.IsTuple.push p _
theorem ItB.new(e:h.get? i=some (itO t l)):ItB t h i l 0:=by
 cases t <;> exact⟨_,e,rfl,rfl⟩
theorem ItB.obj(p:ItB t h i l k):∃o,h.get? i=some o/\∀v,o.data≠ .cell v:=by
 cases t <;> (obtain⟨o,e,_,d⟩:=p;exact⟨o,e,fun v z=>by rw[d]at z;cases z⟩)
theorem ItB.to(p:ItB t h i l k)(q:∀o,h.get? i=some o->g.get? i=some o):ItB t g i l k:=by
 cases t <;> (obtain⟨o,e,d⟩:=p;exact⟨o,q o e,d⟩)
theorem vZy:(itO t l).isFreed =false:=by cases t <;> rfl
theorem zXw{s:aJ}(p:IsB t s.heap l xs)(a:Q (.ref s.heap.objs.size) {s with heap:=s.heap.push (itO t l)}):aH (model prog w) A (pyIter (.ref l)) Q E s:=by
 cases t
 ·exact wpAny_pyIter_list p a
 ·exact wpAny_pyIter_tuple p a
noncomputable abbrev bB(t t' :Bool)(h:Heap)(l m:aZ):Heap:=(h.push (itO t l)).push (itO t' m)
noncomputable abbrev bC(t t' :Bool)(h:Heap)(l m:aZ):Heap:=(bB t t' h l m).push {cls:=.type "tuple",data:=.seq #[.ref h.objs.size,.ref (h.push (itO t l)).objs.size]}
noncomputable abbrev bD(t t' :Bool)(h:Heap)(l m:aZ):Heap:=(bC t t' h l m).push {cls:=.type "tuple",data:=.seq #[.none,.none]}
noncomputable abbrev bE(t t' :Bool)(h:Heap)(l m:aZ):Heap:=(bD t t' h l m).push {cls:=.type "zip",data:=.fields #[.none,.bool false,.bool false,.ref (bB t t' h l m).objs.size,.ref (bC t t' h l m).objs.size]}
theorem zKj(t t' :Bool)(l m:aZ)(xs ys:Array Value):
  Meets (Builtin.«zip.__new__» ⟨[.type "zip",.ref l,.ref m],[]⟩) (fun _ R s=>IsB t s.heap l xs/\IsB t' s.heap m ys/\R (.ok (.ret (.ref (bD t t' s.heap l m).objs.size))) {s with heap:=bE t t' s.heap l m}):=
 .of_wp fun a w A R s h=>by
  obtain⟨b,g,d,c,e⟩:=s;obtain⟨i,j,h⟩:=h;have f:=sub_zip;have k:IsB t (Shared.heap ⟨b,g,d,c,e⟩) l xs:=i;have n:IsB t' (Shared.heap ⟨b.push (itO t l),g,d,c,e⟩) m ys:=IsB.push j;wp_walk using zXw k,zXw n;exact⟨_,rfl,h⟩
theorem jVp{s:aJ}(n:IsB t s.heap l xs)(p:IsB t' s.heap m ys)(h:∀g,IsZip g (s.heap.objs.size+4) (s.heap.objs.size+2) (s.heap.objs.size+3) .none ->IsPair g (s.heap.objs.size+2) (.ref s.heap.objs.size) (.ref (s.heap.objs.size+1))->
   IsPair g (s.heap.objs.size+3) .none .none ->ItB t g s.heap.objs.size l 0->ItB t' g (s.heap.objs.size+1) m 0->(∀c o,s.heap.get? c=some o->g.get? c=some o)->Q (.ref (s.heap.objs.size+4)) {s with heap:=g}):
  aH (model prog w) A (call (.type "zip") [.ref l,.ref m]) Q E s:=by
 refine callType_new PySem.F.called_zip (by decide) (PySem.F.typeCall_zip_2 _ _) (PySem.F.newCall_zip_2 _ _) (fun obj=>PySem.F.args_object_init_3 obj _ _) PySem.F.entry_zip_new (zKj t t' l m xs ys) ⟨n,p,?_⟩;have a:(s.heap.push (itO t l)).objs.size=s.heap.objs.size+1:=cM ..;have b:(bB t t' s.heap l m).objs.size=s.heap.objs.size+2:=by rw[cM,a]
 have d:(bC t t' s.heap l m).objs.size=s.heap.objs.size+3:=by rw[cM,b]
 have f:(bD t t' s.heap l m).objs.size=s.heap.objs.size+4:=by rw[cM,d]
 have up:∀{h:Heap} {o u:Obj} {c:aZ},h.get? c=some u->(h.push o).get? c=some u:=aY _;have e:(bE t t' s.heap l m).get? (bD t t' s.heap l m).objs.size=some _:=aS _ rfl;have i:(bE t t' s.heap l m).get? (bC t t' s.heap l m).objs.size=some _:=up (aS _ rfl);have j:(bE t t' s.heap l m).get? (bB t t' s.heap l m).objs.size=some _:=up (up (aS _ rfl));have k:(bE t t' s.heap l m).get? (s.heap.push (itO t l)).objs.size=some _:=up (up (up (aS _ vZy)));have r:(bE t t' s.heap l m).get? s.heap.objs.size=some _:=up (up (up (up (aS _ vZy))));show _/\_;rw[b,d,f]at e;rw[a,b]at j;rw[d]at i;rw[a]at k;rw[f];exact⟨⟨_,e,rfl⟩,h _ e j i (.new r) (.new k) fun c o q=>up (up (up (up (up q))))⟩
end
section
variable{X:Cx}{pins:List (aZ×Obj)}{σ:St}{H:Hp}{s:aJ}{t:Bool}{a:aZ}{xs ys:List V}
theorem Inv.sqB(I:Inv X pins σ H s)(h:SqB t X.K H a xs):∃b:List Value,Vals xs b/\IsB t s.heap a b.toArray:=by
 cases t
 ·obtain⟨b,r,p,_⟩:=I.list h;exact⟨b,r,p.isList⟩
 ·obtain⟨b,r,p,_⟩:=I.tuple h;exact⟨b,r,p⟩
theorem Inv.sqB_inj(I:Inv X pins σ H s)(h:SqB t X.K H a xs)(h' :SqB t X.K H a ys):xs=ys:=by
 cases t
 ·exact I.list_inj h h'
 ·exact I.tuple_inj h h'
end
noncomputable def ItzB(t t' :Bool)(K:aQ)(a b:aZ):It:=
 ⟨fun i H=>∃c d x y,SqB t K H a c/\SqB t' K H b d/\c[i]?=some x/\d[i]?=some y,
  fun i H v e =>∃p,v=.ref p/\H p=none/\∀c d x y,SqB t K H a c->SqB t' K H b d->c[i]?=some x->d[i]?=some y->e =upd H p (.tup [x,y]),
  fun i H=>∃c d,SqB t K H a c/\SqB t' K H b d/\(c.length<=i\/d.length<=i)⟩
noncomputable def StB(t t' :Bool)(a b z TI TO c i2:aZ)(i:Nat)(h:Heap):Prop:=IsZip h z TI TO .none /\IsPair h TI (.ref c) (.ref i2)/\(∃x y,IsPair h TO x y)/\ItB t h c a i/\ItB t' h i2 b i
theorem StB.obj{t:Bool}{a b z TI TO d i2 c:aZ}{i:Nat}{h:Heap}(st:StB t t' a b z TI TO d i2 i h)(j:c∈ [z,TI,TO,d,i2]):∃o,h.get? c=some o/\∀v,o.data≠ .cell v:=by
 obtain⟨k,e,⟨x,y,f⟩,l,m⟩:=st;have g :c=z\/c=TI\/c=TO\/c=d\/c=i2:=by simpa using j
 rcases g with rfl|rfl|rfl|rfl|rfl
 ·exact⟨_,k,fun v q=>by cases q⟩
 ·exact⟨_,e,fun v q=>by cases q⟩
 ·exact⟨_,f,fun v q=>by cases q⟩
 ·exact l.obj
 ·exact m.obj
theorem jQe{P:bZ}{K:aQ}{t:Bool}(a b z TI TO r i2:aZ)(D:ZipApart z TI TO r i2 a b):
  Turn P w K (.Tuple elts kk pos) (ItzB t t' K a b) [z,TI,TO,r,i2] z (StB t t' a b z TI TO r i2) where
 mem:=by simp
 obj:=fun i h st c d=>st.obj d
 keep:=fun i h Y st k=>by
  obtain⟨A,f,⟨x,y,g⟩,B,C⟩:=st;exact⟨k z (by simp) _ A,k TI (by simp) _ f,⟨x,y,k TO (by simp) _ g⟩,B.to fun o e=>k r (by simp) o e,C.to fun o e=>k i2 (by simp) o e⟩
 item:=by
  intro X M N O d i F s σ H E I hf st hg;subst M N O;obtain⟨xs,ys,x,y,l,m,Z,hy⟩:=hg;obtain⟨n,Q,R⟩:=I.sqB l;obtain⟨j,p,S⟩:=I.sqB m;obtain⟨u,hu,ru⟩:=Q.get Z;obtain⟨v,hv,T⟩:=p.get hy;have U :=st;obtain⟨A,f,⟨ta,tb,g⟩,B,C⟩:=st;refine vYj (vW4 t D.l1i1 n.toArray) (vW4 t' D.l2i2 j.toArray) D A f g ⟨B,R⟩ ⟨C,S⟩ (x:=u) (y:=v) (by simpa using hu) (by simpa using hv) fun Y a1 a2 a3 a4 a5 L=>?_
  refine⟨_,rfl,wpAny_letOwnedTupleGo_zip a1 fun V G sb=>?_⟩;have nz:s.heap.objs.size≠z:=Nat.ne_of_gt (aC A);have W:∀c o,c∉ [z,TI,TO,r,i2]->s.heap.get? c=some o->V.get? c=some o:=fun c o d e=>by
   simp only[aA,List.not_mem_nil,or_false,not_or]at d;exact sb.extBut c o d.1 (L c o d.1 d.2.2.1 d.2.2.2.1 d.2.2.2.2 e)
  refine⟨.ref s.heap.objs.size,upd H s.heap.objs.size (.tup [x,y]),I.turnedLaid (t' :=s.toks) W hf (aB _) ⟨zQl,[u,v],.cons ru (.cons T .nil),⟨_,sb.extBut _ _ nz a5,rfl,_,rfl⟩⟩,rfl,
   ⟨_,rfl,I.hok.fresh (aB _),fun xs' ys' x' y' e1 e2 e3 e4=>?_⟩,⟨G,sb.extBut _ _ D.TIz (L _ _ D.TIz D.TITO D.TIi1 D.TIi2 f),⟨_,_,sb.extBut _ _ D.TOz a2⟩,a3.1.to fun o e=>sb.extBut _ _ D.i1z e,a4.1.to fun o e=>sb.extBut _ _ D.i2z e⟩,fun c d=>?_⟩
  ·rw [I.sqB_inj e1 l,Z] at e3;rw[I.sqB_inj e2 m,hy]at e4;cases e3;cases e4;rfl
  ·obtain⟨o,e,_⟩:=U.obj d;rw[qF (bJ (aC e))];exact(hf c d).1
 done:=by
  intro X M N O d i F s σ H E I hf st hg;subst M N O;obtain⟨xs,ys,l,m,J⟩:=hg;obtain⟨n,Q,R⟩:=I.sqB l;obtain⟨j,p,S⟩:=I.sqB m;obtain⟨A,f,⟨ta,tb,g⟩,B,C⟩:=st;have l1:=Q.length;have l2:=p.length;refine zVe (I.ok.hd d) (vW4 t D.l1i1 n.toArray) (vW4 t' D.l2i2 j.toArray) D A f g ⟨B,R⟩ ⟨C,S⟩ ?_ fun Y L=>⟨rfl,I.turnedAll (t' :=s.toks) (ch:=[z,TI,TO,r,i2]) (fun c o d e=>?_) hf⟩
  ·rcases J with q | q
   ·exact .inl (by simp;omega)
   ·exact .inr (by simp;omega)
  ·simp only [aA,List.not_mem_nil,or_false,not_or] at d;exact L c o d.1 d.2.2.1 d.2.2.2.1 d.2.2.2.2 e
 self:=fun _ _ _ _ _ st h=>wpAny_pyIter_zip st.1 h
noncomputable def jVa(K:aQ)(e:TA):TI:=fun σ H R=>e σ H fun f c=>∃a b t d g h,f=[.ref a,.ref b]/\SqB t K c a g/\SqB d K c b h/\R (ItzB t d K a b) c
theorem zJ0{X:Cx}{e:Pos}{e1 e2:Expr}{o:TA}{p:Pos}(y:Gl X "zip")(z:X.mg "zip"=none)(A:PA X [e1,e2] o)(hs:aX [e1,e2] X.env=[(false,eval e1 X.env),(false,eval e2 X.env)])(f:aX [e2] X.env=[(false,eval e2 X.env)]):PI X (.Tuple elts kk e) (.Call (.Name "zip" p) [e1,e2] [] pos) (jVa X.K o):=by
 intro g s σ H R I h;refine Call_ (qJg I y z Boot.«zip» (cN (thn (A pos g s σ H _ I h) fun M d ⟨N,B,i,C,D⟩=>?_) (by rw[hs,f]) (by rw[f];rfl)));obtain⟨a,b,t,t',O,P,rfl,E,F,q⟩:=D;cases C with
 | cons r rr=>
   cases rr with
   | cons r' rr=>
     cases rr;cases r;cases r';obtain⟨G,Q,u⟩:=i.sqB E;obtain⟨v,J,w⟩:=i.sqB F;refine jVp u w fun S x k l m n L=>?_
     refine wpAny_pyIter_zip x ?_
     refine⟨d.heap.objs.size+4,[d.heap.objs.size+4,d.heap.objs.size+2,d.heap.objs.size+3,d.heap.objs.size,d.heap.objs.size+1],_,_,B,rfl,i.kept (t' :=d.toks) L,jQe a b _ _ _ _ _ (zipApart_new u.lt w.lt),⟨x,k,⟨_,_,l⟩,m,n⟩,fun c T=>?_,q⟩;have j :d.heap.objs.size<=c:=by
      grind
     exact i.fpOk j (i.hok.fresh j)
end L2
namespace DX
open PySem L2 PyProof.Rows
section
variable{K:aQ}{c:Nat->aZ}{F G:Hp}{a b:aZ}{t t' :Bool}{xs ys:List V}{ds es:List D}
theorem qVb(e:Same F G)(h:SqB t K F a xs):SqB t K G a xs:=by
 cases t
 ·exact jE e h
 ·exact e.tup h
theorem zZe(h1:SqB t K F a xs)(h2:SqB t' K F b ys)(k1:DsAt K c F xs ds)(k2:DsAt K c F ys es):ItD K c F (ItzB t t' K a b) (zipD ds es):=by
 intro i H T f hb;have g1:=qVb vY (qVb f h1);have g:=qVb vY (qVb f h2);refine⟨fun z k=>?_,fun l=>⟨xs,ys,g1,g,by rw[yW,←k1.len,←k2.len]at l;omega⟩⟩;obtain⟨d,e,m,n,rfl⟩:=zipD_get k;obtain⟨v,h,o⟩:=k1.get m;obtain⟨u,j,q⟩:=k2.get n;refine⟨⟨xs,ys,v,u,g1,g,h,j⟩,fun x w y=>?_⟩;obtain⟨p,rfl,r,s⟩:=y;rw[s xs ys v u g1 g h j];exact vZs r hb (o.same f) (q.same f)
noncomputable def sqOf:Bool->D->Option (List D)
 |true=>qW3
 |false=>qQ8
theorem vXc{u:V}{d:D}(h:DAt K c F u d)(e:sqOf t d=some ds):∃p vs,u=.ref p/\SqB t K F p vs/\DsAt K c F vs ds:=by
 cases t
 ·exact qYx h e
 ·exact zVi h e
theorem zX3{a:List D}{r:List D}(e:zpA a=some r):∃x y t t' ds es,a=[x,y]/\sqOf t x=some ds/\sqOf t' y=some es/\r=zipD ds es:=by
 have k:∀{t t'} {x y:D},((sqOf t x).bind fun ds=>(sqOf t' y).bind fun es=>some (zipD ds es))=some r->∃b c t t' ds es,[x,y]=[b,c]/\sqOf t b =some ds/\sqOf t' c =some es/\r=zipD ds es:=fun {t t' x y} h=>by
  obtain⟨ds,d,h⟩:=bnd h;obtain⟨es,f,h⟩:=bnd h;cases h;exact⟨x,y,t,t',ds,es,rfl,d,f,rfl⟩
 match a,e with
 | [x,y],e=>
   unfold zpA at e;split at e
   ·rename_i h;cases e;exact k (t:=false) (t' :=false) h
   ·split at e
    ·rename_i h;cases e;exact k (t:=true) (t' :=true) h
    ·exact k (t:=true) (t' :=false) e
 |[],e=>cases e
 |[_],e=>cases e
 |_::_::_::_,e=>cases e
end
theorem vXy{X:Cx}{c:Nat->aZ}{E:XK}{e1 e2:Expr}{j:List SV}{p f d:Pos}{e:List Expr}{n:Nat}(o:Gl X "zip")(s:X.mg "zip"=none)(z:VsD X c E [e1,e2] j)(hs:aX [e1,e2] X.env=[(false,eval e1 X.env),(false,eval e2 X.env)]:=by rfl)(i:aX [e2] X.env=[(false,eval e2 X.env)]:=by rfl):
  ID' X c E (.Tuple e n d) (.Call (.Name "zip" p) [e1,e2] [] f) (iL zpA j):=by
 refine⟨PI.imp (zJ0 o s z.h hs i) fun σ H R=>?_⟩;rintro⟨env,B,W,A,w⟩;refine qJe A (qY.mp w) fun r C O D F g=>?_
 obtain⟨ds,e1,G⟩:=qC C;have k:=g.at_;obtain⟨x,y,t,I,ds,P,e2,J,K,rfl⟩:=zX3 e1;rw[e2]at k;obtain⟨u,v,rfl,a,b⟩:=ds2 k;obtain⟨q,Q,rfl,l,c2⟩:=vXc a J;obtain⟨L,M,rfl,m,N⟩:=vXc b K;exact⟨q,L,t,I,_,_,rfl,qVb vY l,qVb vY m,G _ D F g.st g.cf (zZe l m c2 N)⟩
end DX
namespace X24
open PySem L2 DX FP PyProof.Rows
theorem qXp:FnScope ["self","row"] ["self","row"] (qU qQl):=scA
theorem qXo:FnScope ["self","steps","draws","slots"] ["self","steps","draws","slots"] (qU qQk):=scA
theorem qXf:FnScope ["term","kind"] ["term"] (qU qJh):=scA
theorem qZ8:FnScope ["row","term","names","helpers","kind","part"] ["row","term","names","helpers"] (qU qV0):=scA
theorem xD:FnScope ["program","names","helpers","number","row","kind"] ["program"] (qU qQ3):=scA
theorem qKo:FnScope ["program"] ["program"] (qU qV1):=scA
theorem vWc:FnScope ["term"] ["term"] (qU qWs):=scA
theorem qZ7:FnScope ["term","parts","kind"] ["term","parts"] (qU qVx):=scA
theorem qXn:FnScope ["self"] ["self"] (qU qQj):=scA
theorem qZt:FnScope ["self"] ["self"] (qU wB):=scA
theorem qJm:FnScope ["self"] ["self"] (qU xH):=scA
theorem qJn:FnScope ["self","draw"] ["self","draw"] (qU xI):=scA
theorem vN:FnScope ["self","term","names","helper","own_names","binds","name","part","inner","whole","slot"] ["self","term","names"] (qU xQ):=scA
theorem wU:FnScope ["self","term","names","kind","parts","part"] ["self","term","names"] (qU wT):=scA
theorem qQo:FnScope ["self","name","term","inner"] ["self","name","term"] (qU xG):=scA
theorem wS:FnScope ["self","row","kind","turn","inner"] ["self","row"] (qU xF):=scA
theorem vQd:FnScope ["program","opener","row"] ["program"] (qU qYp):=scA
theorem qKk:FnScope ["_law_script","_law_k"] ["_law_script","_law_k"] (qU qQ2):=scA
theorem qY8:FnScope ["_law_cell","_law_k","_law_some"] ["_law_cell","_law_k"] (qU qWr):=scA
theorem zO:FnScope ["_law_cell","_law_letters","_law_many","_law_at","_law_names_here","_law_k","_law_name","_law_j","_law_step"] ["_law_cell"] (qU qZp):=scA
theorem vWb:FnScope ["_law_cell"] ["_law_cell"] (qU qWq):=scA
theorem vJb:FnScope ["_law_name","_law_many","_law_part"] ["_law_name","_law_many","_law_part"] (qU qJl):=scA
theorem xW:FnScope ["_law_names_here","_law_sizes","_law_rows","_law_k","_law_term_here","_law_params"] ["_law_names_here","_law_sizes"] (qU qJk):=scA
theorem qZo:FnScope ["_law_cell","_law_names_here","_law_known","_law_sizes","_law_part","_law_which"] ["_law_cell","_law_names_here","_law_known","_law_sizes"] (qU qJi):=scA
theorem wV:FnScope ["_law_script","_law_names_here","_law_sizes","_law_rows","_law_known","_law_cell","_law_term_here","_law_way","_law_name"] ["_law_script","_law_names_here","_law_sizes"] (qU qJj):=scA
theorem qQz:FnScope ["_law_rows","_law_at","_law_cell","_law_names_here","_law_above","_law_below"] ["_law_rows","_law_at","_law_cell","_law_names_here"] (qU qVz):=scA
theorem wL:FnScope ["_law_cell","_law_names_here","_law_sizes","_law_bad","_law_part","_law_which","_law_terms"] ["_law_cell","_law_names_here","_law_sizes","_law_bad"] (qU qVy):=scA
theorem qV5:FnScope ["_law_cell","_law_names_here","_law_sizes","_law_untold_here","_law_many"] ["_law_cell","_law_names_here","_law_sizes","_law_untold_here"] (qU qQi):=scA
theorem zB:FnScope ["_law_rows","_law_at","_law_cell","_law_names_here","_law_sizes","_law_row","_law_out","_law_untold_here","_law_name","_law_bad"] ["_law_rows","_law_at","_law_cell","_law_names_here","_law_sizes"] (qU qQ0):=scA
theorem qQh:FnScope ["_law_rows","_law_bad","e"] ["_law_rows"] (qU qQ1):=scA
theorem yP:FnScope ["_law_script","_law_base","_law_names_here","_law_sizes","_law_good_here","_law_rows","_law_due","_law_k","_law_at","_law_handed"] ["_law_script"] (qU zQb):=scA
set_option genInjectivity false
set_option genSizeOf false
structure Fs(K:aQ)(mg:Str->Option Value)(c:Nat->aZ) where
 b0:aZ
 c0:bQ
 d0:MethAt K "__init__" "NoText.__init__" qZr ["self","row"] b0 c0
 e0:aZ
 f0:bQ
 g0:MethAt K "__init__" "NoName.__init__" qQl ["self","row"] e0 f0
 h0:aZ
 i0:bQ
 j0:MethAt K "__init__" "Opened.__init__" qQk ["self","steps","draws","slots"] h0 i0
 k0:aZ
 l0:bQ
 m0:FnAt K mg "parts_of" qJh ["term"] k0 l0
 n0:aZ
 o0:bQ
 p0:FnAt K mg "check_term" qV0 ["row","term","names","helpers"] n0 o0
 q0:aZ
 r0:bQ
 s0:FnAt K mg "check_names" qQ3 ["program"] q0 r0
 t0:aZ
 u0:bQ
 v0:FnAt K mg "check_defs" qV1 ["program"] t0 u0
 w0:aZ
 x0:bQ
 y0:FnAt K mg "draw_of" qWs ["term"] w0 x0
 z0:aZ
 A0:bQ
 B0:FnAt K mg "with_parts" qVx ["term","parts"] z0 A0
 C0:aZ
 D0:bQ
 E0:MethAt K "__init__" "Opener.__init__" qQj ["self"] C0 D0
 F0:aZ
 G0:bQ
 H0:MethAt K "count_term" "Opener.count_term" wB ["self"] F0 G0
 I0:aZ
 J0:bQ
 K0:MethAt K "new_slot" "Opener.new_slot" xH ["self"] I0 J0
 L0:aZ
 M0:bQ
 N0:MethAt K "new_draw" "Opener.new_draw" xI ["self","draw"] L0 M0
 O0:aZ
 P0:bQ
 Q0:MethAt K "open_call" "Opener.open_call" xQ ["self","term","names"] O0 P0
 R0:aZ
 S0:bQ
 T0:MethAt K "open_term" "Opener.open_term" wT ["self","term","names"] R0 S0
 U0:aZ
 V0:bQ
 W0:MethAt K "open_let" "Opener.open_let" xG ["self","name","term"] U0 V0
 X0:aZ
 Y0:bQ
 Z0:MethAt K "open_row" "Opener.open_row" xF ["self","row"] X0 Y0
 a1:aZ
 b1:bQ
 c1:FnAt K mg "opened" qYp ["program"] a1 b1
 d1:aZ
 e1:bQ
 f1:FnAt K mg "_law_cell_at" qQ2 ["_law_script","_law_k"] d1 e1
 g1:aZ
 h1:bQ
 i1:FnAt K mg "_law_mix" qWr ["_law_cell","_law_k"] g1 h1
 j1:aZ
 k1:bQ
 l1:FnAt K mg "_law_names" qZp ["_law_cell"] j1 k1
 m1:aZ
 n1:bQ
 p1:FnAt K mg "_law_num" qWq ["_law_cell"] m1 n1
 q1:aZ
 r1:bQ
 s1:FnAt K mg "_law_call" qJl ["_law_name","_law_many","_law_part"] q1 r1
 t1:aZ
 u1:bQ
 v1:FnAt K mg "_law_defs" qJk ["_law_names_here","_law_sizes"] t1 u1
 w1:aZ
 x1:bQ
 y1:FnAt K mg "_law_term" qJi ["_law_cell","_law_names_here","_law_known","_law_sizes"] w1 x1
 z1:aZ
 A1:bQ
 B1:FnAt K mg "_law_good" qJj ["_law_script","_law_names_here","_law_sizes"] z1 A1
 C1:aZ
 D1:bQ
 E1:FnAt K mg "_law_untold" qVz ["_law_rows","_law_at","_law_cell","_law_names_here"] C1 D1
 F1:aZ
 G1:bQ
 H1:FnAt K mg "_law_within" qVy ["_law_cell","_law_names_here","_law_sizes","_law_bad"] F1 G1
 I1:aZ
 J1:bQ
 K1:FnAt K mg "_law_bad_term" qQi ["_law_cell","_law_names_here","_law_sizes","_law_untold_here"] I1 J1
 L1:aZ
 M1:bQ
 N1:FnAt K mg "_law_spoiled" qQ0 ["_law_rows","_law_at","_law_cell","_law_names_here","_law_sizes"] L1 M1
 O1:aZ
 P1:bQ
 Q1:FnAt K mg "_law_refused" qQ1 ["_law_rows"] O1 P1
 R1:aZ
 S1:bQ
 T1:FnAt K mg "law" zQb ["_law_script"] R1 S1
 U1:IsoK K (c 1)
 V1:Cls K (c 1)
 W1:Cls K (c 2)
 X1:Mk K (c 1) h0
 Y1:Mk K (c 2) C0
 Z1:IniCls K (c 24) e0
 a2:bU K (.ref (c 24)) "row"=some none
 b2:IniCls K (c 23) b0
 c2:bU K (.ref (c 23)) "row"=some none
 d2:mg "FlipError"=some (.ref (c 20))
 e2:mg "Never"=some (.ref (c 22))
 f2:mg "NoName"=some (.ref (c 24))
 g2:mg "NoNumber"=some (.ref (c 27))
 h2:mg "NoOrder"=some (.ref (c 26))
 i2:mg "NoRow"=some (.ref (c 28))
 j2:mg "NoShare"=some (.ref (c 21))
 k2:mg "NoText"=some (.ref (c 23))
 l2:mg "Opened"=some (.ref (c 1))
 m2:mg "Opener"=some (.ref (c 2))
 n2:mg "TooMuch"=some (.ref (c 25))
 p2:Meth K (c 2) "count_term" F0
 q2:Meth K (c 2) "new_draw" L0
 r2:Meth K (c 2) "new_slot" I0
 s2:Meth K (c 2) "open_call" O0
 t2:Meth K (c 2) "open_let" U0
 u2:Meth K (c 2) "open_row" X0
 v2:Meth K (c 2) "open_term" R0
 w2:ExcCls K mg "TooMuch" (c 25)
 x2:∀C b,(C,b)∈([(24,false),(25,false)]:List (Nat×Bool))->ExcKit K (c C)/\bV K (.ref (c C)) (.ref (c 22))=some b
 y2:∀C b,(C,b)∈([(24,true),(25,false)]:List (Nat×Bool))->ExcKit K (c C)/\bV K (.ref (c C)) (.ref (c 24))=some b
 z2:∀C b,(C,b)∈([(24,false),(25,false)]:List (Nat×Bool))->ExcKit K (c C)/\bV K (.ref (c C)) (.ref (c 27))=some b
 A2:∀C b,(C,b)∈([(24,false),(25,false)]:List (Nat×Bool))->ExcKit K (c C)/\bV K (.ref (c C)) (.ref (c 26))=some b
 B2:∀C b,(C,b)∈([(24,false),(25,false)]:List (Nat×Bool))->ExcKit K (c C)/\bV K (.ref (c C)) (.ref (c 28))=some b
 C2:∀C b,(C,b)∈([(24,false),(25,false)]:List (Nat×Bool))->ExcKit K (c C)/\bV K (.ref (c C)) (.ref (c 21))=some b
 D2:∀C b,(C,b)∈([(24,false),(25,false)]:List (Nat×Bool))->ExcKit K (c C)/\bV K (.ref (c C)) (.ref (c 23))=some b
 E2:∀C b,(C,b)∈([(24,false),(25,true)]:List (Nat×Bool))->ExcKit K (c C)/\bV K (.ref (c C)) (.ref (c 25))=some b
 F2:∀C b,(C,b)∈([(24,true),(25,true)]:List (Nat×Bool))->ExcKit K (c C)/\bV K (.ref (c C)) (.type "ValueError")=some b
 G2:∀C,([24,25]:List Nat).contains C=true->PySem.W.exmOne K (.ref (c C)) (.ref (c 20))=some true
 H2:∀C∈([24]:List Nat),ExcKit K (c C)/\PySem.W.hasDictIn K (c C)=true/\bU K (.ref (c C)) "row"=some none
 I2:xN K c [1] "draws"
 J2:xN K c [1] "slots"
 K2:xN K c [1] "steps"
 M2:xN K c [2] "draws"
 N2:xN K c [2] "helpers"
 O2:xN K c [2] "names"
 P2:xN K c [2] "slots"
 Q2:xN K c [2] "steps"
 R2:xN K c [2] "terms"
 S2:mg "ValueError"=none
 T2:mg "bool"=none
 U2:mg "enumerate"=none
 V2:mg "int"=none
 W2:mg "isinstance"=none
 X2:mg "len"=none
 Y2:mg "list"=none
 Z2:mg "range"=none
 a3:mg "reversed"=none
 b3:mg "sum"=none
 c3:mg "tuple"=none
 d3:mg "zip"=none
 e3:Tok
 f3:mg "MOST_DEFS"=some (.int 3 e3)
 g3:Tok
 h3:mg "MOST_DRAWS"=some (.int 60 g3)
 i3:Tok
 j3:mg "MOST_SIZE"=some (.int 600 i3)
section
variable{P:bZ}{w:bP}{K:aQ}{c:Nat->aZ}{mg:Str->Option Value}{base:Heap}(S:Fs K mg c)
set_option maxHeartbeats 4000000
theorem xE:FnOk P w K mg base (CXd P w) 1 S.e0 S.f0 ["self","row"] (vWz (c 24) "row"):=iniD S.g0.F qXp S.a2 (fun _ _ _ _ _ _=>zJq S.Z1 (pv 0) (pv 1) rfl) rfl
theorem qKm:FnOk P w K mg base (CXd P w) 1 S.h0 S.i0 ["self","steps","draws","slots"] (spD K c 4 qQn):=fnD S.j0.F qXo fun _ _ _ _ _ _ a=>(qV (qVl S.K2 (nA 0) (qZb rfl S.Y2 (nA 1)))
   (qV (qVl S.I2 (nA 0) (qZw rfl (Nc:=["draw"]) (cs:=[]) (qYk rfl (by decide +kernel) (by decide +kernel) (by decide +kernel)) (qVo (OD.val (nA 2))) (fun _ _ _ _=>gA) (fun _ _ _ _=>qZu) (fun _ _ _ _=>(ev_e (qZb rfl S.Y2 (nA 0))))))
   (qJ (qVl S.J2 (nA 0) (OD.ow (nA 3))))))
theorem qKg:FnOk P w K mg base (CXd P w) 1 S.k0 S.l0 ["term"] (spD K c 1 vE):=fnD S.m0.F qXf fun _ _ _ _ _ _ a=>(qV (sA qXf.nd (OD.ow (xA 0 a qQ)))
   (qV (vW (vL (nA 1) qX) (qJ (qO (jV (vA (xA 0 a qQ) (vA (xA 0 a qQ) (vA (xA 0 a qQ) qK)))))) qH)
   (qV (vW (t_in a (nA 1) (od_v (qG (vA qX (vA qX qK))))) (qJ (qO (jV (vA (xA 0 a qQ) (vA (xA 0 a qQ) qK))))) qH)
   (qV (vW (t_in a (nA 1) (od_v (qG (vA qX (vA qX qK))))) (qJ (qO (jV (vA (xA 0 a qQ) qK)))) qH)
   (qV (vW (vL (nA 1) qX) (qJ (qO (qZw rfl (Nc:=["name","part"]) (cs:=[]) (qYk rfl (by decide +kernel) (by decide +kernel) (by decide +kernel)) (qVo (OD.val (xA 0 a qQ))) (fun _ _ _ _=>(qYh rfl (wH gA (wH gA qJu)))) (fun _ _ _ _=>qZu) (fun _ _ _ _=>(OD.val (nA 1)))))) qH)
   (qV (vW (vL (nA 1) qX) (qJ (qO (qZb rfl S.Y2 (xA 0 a qQ)))) qH)
   (qJ (qO (jV qK)))))))))
theorem qV2:∀h:Nat,FnOk P w K mg base (CXd P w) (1 * h+3) S.n0 S.o0 ["row","term","names","helpers"] (spD K c 4 (vV h))
 | 0=>fnNo
 | h + 1=>by
   have d:=qV2 h
   exact FnOk.lv (by omega) (fnD (k:=1 * h+3) S.p0.F qZ8 fun _ _ _ _ _ _ a=>(qV (sA qZ8.nd (OD.ow (xA 1 a qQ)))
    (qV (vW (td_w (qVi (vL (nA 4) qX) (yE (qXs a (xA 1 a qQ) (nA 2))))) (qJ (rA S.Z1 S.g0 (xE S) a S.f2 (OD.val (nA 0)))) qH)
    (qV (vW (td_w (qVi (vL (nA 4) qX) (yE (vK7 (od_v (zW3 (qJq a) (nA 3) (xA 1 a qQ) ⟨rfl,rfl,rfl,rfl⟩)) (yS rfl S.X2 (xA 1 a qQ)))))) (qJ (rA S.Z1 S.g0 (xE S) a S.f2 (OD.val (nA 0)))) qH)
    (qJ (yK bN rfl (qVo (ev_e (cA S.m0 (qKg S) a (oA (nA 1) qE)))) gA (qJ (zY (vVn d (a.mono (by omega)) rfl S.p0.m S.p0.F.kp S.p0.b wD (oA (nA 0) (oA (nA 5) (oA (nA 2) (oA (nA 3) qE)))))))))))))
theorem qKt:FnOk P w K mg base (CXd P w) 35 S.q0 S.r0 ["program"] (spD K c 1 jM):=fnD S.s0.F xD fun _ _ _ _ _ _ a=>(qV (sA xD.nd qJx)
   (qV (sA xD.nd qJx)
   (qJ (yK bN rfl (zWq rfl S.U2 (vA (nA 0) qK)) (qYh rfl (wH gA (wH gA qJu))) (qV (sA xD.nd (OD.ow (xA 4 a qQ)))
   (qJ (vW (vL (nA 5) qX) (qV (vW (t_in a (xA 4 a qQ) (nA 2)) (qJ (rA S.Z1 S.g0 (xE S) a S.f2 (OD.val (nA 3)))) qH)
   (qV (zY (cA S.p0 (qV2 S 30) a (oA (nA 3) (oA (xA 4 a qQ) (oA (xA 4 a qQ) (vK (qW7 (nA 2)) qE))))))
   (qJ (qYe (qJq a) (nA 2) (xA 4 a qQ) (OD.ow (yS rfl S.X2 (xA 4 a qQ))))))) (qV (vW (td_w (qVi (vL (nA 5) qX) (yE (qXs a (xA 4 a qQ) (nA 1))))) (qJ (rA S.Z1 S.g0 (xE S) a S.f2 (OD.val (nA 3)))) qH)
   (qV (zY (cA S.p0 (qV2 S 30) a (oA (nA 3) (oA (xA 4 a (qZ5 qQ)) (vK (qW7 (nA 1)) (vK (qW7 (nA 2)) qE))))))
   (qJ (vW (vL (nA 5) qX) (qJ (qYe (qJq a) (nA 1) (xA 4 a qQ) (OD.ow zXr))) qH)))))))))))
theorem vV0:FnOk P w K mg base (CXd P w) 1 S.t0 S.u0 ["program"] (spD K c 1 yI):=fnD S.v0.F qKo fun _ _ _ _ _ _ a=>(qJ (vW (t_gt (yS rfl S.X2 (od_e (qZw rfl (Nc:=["row"]) (cs:=[]) (qYk rfl (by decide +kernel) (by decide +kernel) (by decide +kernel)) (qVo (OD.val (nA 0))) (fun _ _ _ _=>gA) (fun _ _ _ _=>(vVc (vL (xA 0 a qQ) qX))) (fun _ _ _ _=>(OD.val (nA 0)))))) (od_c (wO (v:=.int 3) rfl S.f3 ⟨_,rfl⟩) (fun _=>.int _))) (qJ (qYo S.w2 rfl rfl (OD.val qX) vVb)) qH))
theorem vKv:FnOk P w K mg base (CXd P w) 1 S.w0 S.x0 ["term"] (spD K c 1 qZ3):=fnD S.y0.F vWc fun _ _ _ _ _ _ a=>(qV (vW (vL (xA 0 a qQ) qX) (qJ (qO (jV (vB (qG (vA qQ (vA (qZ4 (xA 0 a qQ) (xA 0 a qQ)) qK))) (vB (qG (vA qQ (vA (xA 0 a qQ) qK))) qK))))) qH)
   (qJ (qO (qZb rfl S.Y2 (xA 0 a qQ)))))
theorem vVy:FnOk P w K mg base (CXd P w) 1 S.z0 S.A0 ["term","parts"] (spD K c 2 zU):=fnD S.B0.F qZ7 fun _ _ _ _ _ _ a=>(qV (sA qZ7.nd (OD.ow (xA 0 a qQ)))
   (qV (vW (vL (nA 2) qX) (qJ (qO (ed_v (qG (vA qX (vA (xA 1 a qQ) (vA (xA 1 a qQ) (vA (xA 1 a qQ) qK)))))))) qH)
   (qV (vW (vL (nA 2) qX) (qJ (qO (ed_v (qG (vA qX (vA (xA 0 a qQ) (vA (xA 1 a qQ) (vA (xA 1 a qQ) qK)))))))) qH)
   (qV (vW (vL (nA 2) qX) (qJ (qO (ed_v (qG (vA qX (vB (qJr rfl S.c3 (od_e (qZw rfl (Nc:=["field","part"]) (cs:=[]) (qYk rfl (by decide +kernel) (by decide +kernel) (by decide +kernel)) (vXy rfl S.d3 (vA (xA 0 a qQ) (vA (nA 1) qK))) (fun _ _ _ _=>(qYh rfl (wH gA (wH gA qJu)))) (fun _ _ _ _=>qZu) (fun _ _ _ _=>(qG (vA (xA 0 a qQ) (vA (nA 1) qK))))))) qK)))))) qH)
   (qJ (qO (ed_v (qG (vA (nA 2) (vA (xA 1 a qQ) (vA (xA 0 a qQ) qK)))))))))))
theorem qKl:FnOk P w K mg base (CXd P w) 1 S.C0 S.D0 ["self"] (spD K c 1 qQm):=fnD S.E0.F qXn fun _ _ _ _ _ _ a=>(qV (qVl S.N2 (nA 0) qJx)
   (qV (qVl S.O2 (nA 0) qJx)
   (qV (qVl S.Q2 (nA 0) (jV qK))
   (qV (qVl S.M2 (nA 0) (jV qK))
   (qV (qVl S.P2 (nA 0) (OD.ow qQ))
   (qJ (qVl S.R2 (nA 0) (OD.ow qQ))))))))
theorem yC:FnOk P w K mg base (CXd P w) 1 S.F0 S.G0 ["self"] (spD K c 1 z9):=fnD S.H0.F qZt fun _ _ _ _ _ _ a=>(qV (zQp S.R2 (nA 0) (OD.val qQ) zQz (zQr _))
   (qJ (vW (t_gt (jO S.R2 (nA 0)) (od_c (wO (v:=.int 600) rfl S.j3 ⟨_,rfl⟩) (fun _=>.int _))) (qJ (qYo S.w2 rfl rfl (OD.val qX) vVb)) qH)))
theorem xL:FnOk P w K mg base (CXd P w) 1 S.I0 S.J0 ["self"] (spD K c 1 zJ):=fnD S.K0.F qJm fun _ _ _ _ _ _ a=>(qV (zQp S.P2 (nA 0) (OD.val qQ) zQz (zQr _))
   (qJ (qO (OD.ow (qZ4 (jO S.P2 (nA 0)) qQ)))))
theorem qWf:FnOk P w K mg base (CXd P w) 1 S.L0 S.M0 ["self","draw"] (spD K c 2 xM):=fnD S.N0.F qJn fun _ _ _ _ _ _ a=>(qV (zY (jF (jO S.M2 (nA 0)) (OD.ow (nA 1))))
   (qV (vW (t_gt (yS rfl S.X2 (jO S.M2 (nA 0))) (od_c (wO (v:=.int 60) rfl S.h3 ⟨_,rfl⟩) (fun _=>.int _))) (qJ (qYo S.w2 rfl rfl (OD.val qX) vVb)) qH)
   (qJ (qO (OD.ow (qZ4 (yS rfl S.X2 (jO S.M2 (nA 0))) qQ))))))
theorem qJo{R:Fn}{k:Nat}(G:FnOk P w K mg base (CXd P w) k S.R0 S.S0 ["self","term","names"] (spD K c 3 R)):FnOk P w K mg base (CXd P w) (k+2) S.O0 S.P0 ["self","term","names"] (spD K c 3 (xV R)):=fnD (k:=k+1) S.Q0.F vN fun _ _ _ _ _ _ a=>(qV (sA vN.nd (OD.ow (o_ix a (jO S.N2 (nA 0)) (xA 1 a qQ))))
   (qV (sA vN.nd qJx)
   (qV (sA vN.nd (jV qK))
   (qV (yK bN rfl (vXy rfl S.d3 (vA (xA 3 a qQ) (vA (xA 1 a qQ) qK))) (qYh rfl (wH gA (wH gA qJu))) (qV (zY (m0A (yU (pv 0)) S.W1 S.p2 S.H0 (yC S) a))
   (qV (sA vN.nd (mA (yU (pv 0)) S.W1 S.v2 S.T0 G a (oA (nA 7) (oA (nA 2) qE))))
   (qV (qYe (qJq a) (nA 4) (nA 6) (m0A (yU (pv 0)) S.W1 S.r2 S.K0 (xL S) a))
   (qJ (zY (jF (nA 5) (ed_v (qG (vA (xA 4 a (nA 6)) (vA (nA 8) qK)))))))))))
   (qV (sA vN.nd (mA (yU (pv 0)) S.W1 S.v2 S.T0 G a (oA (xA 3 a qQ) (oA (nA 4) qE))))
   (qV (yK bN rfl (zK0 rfl S.a3 (vA (nA 5) qK)) (qYh rfl (wH gA (wH gA qJu))) (qJ (sA vN.nd (ed_v (qG (vA qX (vA (nA 10) (vA (nA 8) (vA (nA 9) qK)))))))))
   (qJ (qO (qK7 (pv 9))))))))))
theorem jD:∀h:Nat,FnOk P w K mg base (CXd P w) (3 * h+3) S.R0 S.S0 ["self","term","names"] (spD K c 3 (F_Opener_open_term h))
 | 0=>fnNo
 | h + 1=>by
   have d:=jD h
   exact FnOk.lv (by omega) (fnD (k:=3 * h+5) S.T0.F wU fun _ _ _ _ _ _ a=>(qV (sA wU.nd (OD.ow (xA 1 a qQ)))
    (qV (vW (vL (nA 3) qX) (qJ (qO (mA (yU (pv 0)) S.W1 S.s2 S.Q0 (qJo S d) a (oA (nA 1) (oA (nA 2) qE))))) qH)
    (qV (zY (m0A (yU (pv 0)) S.W1 S.p2 S.H0 (yC S) a))
    (qV (vW (vL (nA 3) qX) (qJ (qO (qK7 (pv 1)))) qH)
    (qV (vW (vL (nA 3) qX) (qJ (qO (ed_v (qG (vA qX (vA (xA 2 a (xA 1 a qQ)) qK)))))) qH)
    (qV (vW (t_in a (nA 3) (od_v (qG (vA qX (vA qX qK))))) (qJ (qO (ed_v (qG (vA qX (vB (ev_e (mA (yU (pv 0)) S.W1 S.q2 S.N0 (qWf S) a (vK (od_v (ev_e (cA S.y0 (vKv S) a (oA (nA 1) qE)))) qE))) qK)))))) qH)
    (qV (sA wU.nd (jV qK))
    (qV (yK bN rfl (qVo (ev_e (cA S.m0 (qKg S) a (oA (nA 1) qE)))) gA (qJ (zY (jF (nA 4) (vX7 (yU (pv 0)) S.W1 S.v2 d (a.mono (by omega)) S.T0.b wD (oA (nA 5) (oA (nA 2) qE)))))))
    (qJ (qO (cA S.B0 (vVy S) a (oA (nA 1) (vK (qW7 (nA 4)) qE))))))))))))))
theorem qQv:FnOk P w K mg base (CXd P w) 94 S.U0 S.V0 ["self","name","term"] (spD K c 3 j6):=fnD S.W0.F qQo fun _ _ _ _ _ _ a=>(qV (sA qQo.nd (qY2 (yU (pv 0)) S.W1 S.v2 (jD S 30) (a.mono (by decide)) S.T0.b wD (oA (nA 2) (vK (qW7 (jO S.O2 (nA 0))) qE))))
   (qV (qYe (qJq a) (jO S.O2 (nA 0)) (nA 1) (m0A (yU (pv 0)) S.W1 S.r2 S.K0 (xL S) a))
   (qJ (zY (jF (jO S.Q2 (nA 0)) (ed_v (qG (vA (o_ix a (jO S.O2 (nA 0)) (nA 1)) (vA (nA 3) qK)))))))))
theorem qWe:FnOk P w K mg base (CXd P w) 95 S.X0 S.Y0 ["self","row"] (spD K c 2 j5):=fnD S.Z0.F wS fun _ _ _ _ _ _ a=>(qV (sA wS.nd (OD.ow (xA 1 a qQ)))
   (qJ (vW (vL (nA 2) qX) (qJ (qYe (qJq a) (jO S.N2 (nA 0)) (xA 1 a qQ) (OD.ow (nA 1)))) (qJ (vW (vL (nA 2) qX) (qJ (zY (mA (yU (pv 0)) S.W1 S.t2 S.W0 (qQv S) a (oA (xA 1 a qQ) (oA (xA 1 a qQ) qE))))) (qJ (vW (vL (nA 2) qX) (qJ (yK bN rfl (xJ rfl S.Z2 (vA (xA 1 a qQ) qK)) gA (qJ (zY (mA (yU (pv 0)) S.W1 S.t2 S.W0 (qQv S) a (oA (xA 1 a qQ) (oA (xA 1 a qQ) qE))))))) (qJ (vW (vL (nA 2) qX) (qJ (zY (jF (jO S.Q2 (nA 0)) (ed_v (qG (vA (qZ5 qQ) (vB (ev_e (qY2 (yU (pv 0)) S.W1 S.v2 (jD S 30) (a.mono (by decide)) S.T0.b wD (oA (xA 1 a qQ) (vK (qW7 (jO S.O2 (nA 0))) qE)))) qK))))))) (qV (sA wS.nd (qY2 (yU (pv 0)) S.W1 S.v2 (jD S 30) (a.mono (by decide)) S.T0.b wD (oA (xA 1 a qQ) (vK (qW7 (jO S.O2 (nA 0))) qE))))
   (qJ (zY (jF (jO S.Q2 (nA 0)) (ed_v (qG (vB (ev_e (m0A (yU (pv 0)) S.W1 S.r2 S.K0 (xL S) a)) (vA (nA 4) qK)))))))))))))))))
theorem vZ6:FnOk P w K mg base (CXd P w) 97 S.a1 S.b1 ["program"] (spD K c 1 wQ):=fnD S.c1.F vQd fun _ _ _ _ _ _ a=>(qV (zY (cA S.s0 (qKt S) a (oA (nA 0) qE)))
   (qV (zY (cA S.v0 (vV0 S) a (oA (nA 0) qE)))
   (qV (sA vQd.nd (zZw S.Y1 (qKl S) (a.mono (by decide)) rfl S.m2 S.E0.b wD))
   (qV (yK bN rfl (qVo (OD.val (nA 0))) gA (qJ (zY (mA (yU (pv 1)) S.W1 S.u2 S.Z0 (qWe S) a (oA (nA 2) qE)))))
   (qJ (qO (zW4 S.X1 (qKm S) (a.mono (by decide)) rfl S.l2 S.j0.b wD (oA (jO S.Q2 (nA 1)) (oA (jO S.M2 (nA 1)) (oA (jO S.P2 (nA 1)) qE))))))))))
theorem qJa:FnOk P w K mg base (CXd P w) 1 S.d1 S.e1 ["_law_script","_law_k"] (spD K c 2 F_law_cell_at):=fnD S.f1.F qKk fun _ _ _ _ _ _ a=>(qV (vW (t_lt (nA 1) (yS rfl S.X2 (nA 0))) (qJ (qO (OD.ow (xA 0 a (nA 1))))) qH)
   (qJ (qO (OD.ow qQ))))
theorem zC:FnOk P w K mg base (CXd P w) 1 S.g1 S.h1 ["_law_cell","_law_k"] (spD K c 2 qD):=fnD S.i1.F qY8 fun _ _ _ _ _ _ a=>(qV (sA qY8.nd (OD.ow (qQp (qQp (vH (nA 0) qQ) (qX7 qQ (nA 1))) qQ)))
   (qJ (qO (OD.ow (vH (qX7 (vH (qX7 (nA 2) (nA 2)) qQ) (qQp (nA 1) qQ)) qQ)))))
theorem vJl:FnOk P w K mg base (CXd P w) 1 S.j1 S.k1 ["_law_cell"] (spD K c 1 yX):=fnD S.l1.F zO fun _ _ _ _ _ _ a=>(qV (sA zO.nd (OD.ow qX))
   (qV (sA zO.nd (OD.ow (qQp qQ (vH (nA 0) qQ))))
   (qV (sA zO.nd (OD.ow (vH (xZ (nA 0) qQ) (nA 2))))
   (qV (sA zO.nd (jV qK))
   (qV (yK bN rfl (xJ rfl S.Z2 (vA qQ qK)) gA (qV (sA zO.nd (OD.ow qX))
   (qV (yK bN rfl (xJ rfl S.Z2 (vA (nA 2) qK)) gA (qV (sA zO.nd (OD.ow (qQp (qX7 (nA 7) (nA 7)) (qX7 (qX7 (jQ4 rfl S.V2 (jQ5 (nA 7) (nA 3))) (nA 5)) qQ))))
   (qJ (sA zO.nd (OD.ow (vQ3 (nA 6) (xA 1 a (vH (qQp (xZ (nA 0) qQ) (nA 8)) qQ))))))))
   (qJ (zY (jF (nA 4) (OD.ow (nA 6))))))))
   (qJ (qO (qK7 (pv 4)))))))))
theorem qW0:FnOk P w K mg base (CXd P w) 1 S.m1 S.n1 ["_law_cell"] (spD K c 1 yO):=fnD S.p1.F vWb fun _ _ _ _ _ _ a=>(qJ (qO (ed_v (qG (vA qX (vA (vH (qX7 (nA 0) qQ) qQ) qK))))))
theorem xT:FnOk P w K mg base (CXd P w) 1 S.q1 S.r1 ["_law_name","_law_many","_law_part"] (spD K c 3 zP):=fnD S.s1.F vJb fun _ _ _ _ _ _ a=>(qJ (qO (ed_v (qG (vA qX (vA (nA 0) (vB (qJr rfl S.c3 (od_e (qZw rfl (Nc:=["_law_k","_law_part"]) (cs:=[(1,2)]) (vW5 (cl:=[("_law_part",_)]) [(1,2)] [(".0",.local),("_law_k",.local),("_law_part",.cell)] ["_law_part"] rfl rfl rfl rfl (by decide +kernel) (by decide +kernel) ⟨rfl,trivial⟩ (by decide +kernel) ⟨⟨_,rfl,rfl,rfl,rfl⟩,trivial⟩) (xJ rfl S.Z2 (vA (nA 1) qK)) (fun _ _ _ _=>gA) (fun _ _ _ _=>qZu) (fun _ _ _ _=>(OD.val (nA 1)))))) qK)))))))
theorem vWu:FnOk P w K mg base (CXd P w) 2 S.t1 S.u1 ["_law_names_here","_law_sizes"] (spD K c 2 qQg):=fnD S.v1.F xW fun _ _ _ _ _ _ a=>(qV (sA xW.nd (jV qK))
   (qV (yK bN rfl (xJ rfl S.Z2 (vA qQ qK)) gA (qV (sA xW.nd (ed_v (qG (vA qX (vA (qQp (nA 3) qQ) (vA qQ qK))))))
   (qV (vW (t_gt (xA 1 a (nA 3)) qQ) (qJ (sA xW.nd (ed_v (qG (vA qX (vA qX (vB (qG (vA qX (vA (xA 0 a (qZ4 qQ (nA 3))) qK))) (vA (nA 4) qK)))))))) qH)
   (qV (vW (t_gt (nA 3) qQ) (qJ (sA xW.nd (ed_v (qG (vA qX (vA (nA 4) (vB (ev_e (cA S.s1 (xT S) a (oA (xA 0 a (qZ4 (nA 3) qQ)) (oA (xA 1 a (qZ4 (nA 3) qQ)) (vK (od_v (qG (vA qX (vA (nA 3) qK)))) qE))))) (vA (nA 4) qK)))))))) qH)
   (qV (sA xW.nd (jV (vA (xA 0 a (qZ4 qQ (nA 3))) (vA (xA 0 a (vH (qZ4 qQ (nA 3)) qQ)) (vA (xA 0 a (nA 3)) qK)))))
   (qJ (zY (jF (nA 2) (ed_v (qG (vA qX (vA (xA 0 a (nA 3)) (vB (qJr rfl S.c3 (od_e (qVf (nA 5) yG (yF (OD.val (xA 1 a (nA 3))))))) (vA (nA 4) qK))))))))))))))
   (qJ (qO (qK7 (pv 2))))))
theorem vWs:FnOk P w K mg base (CXd P w) 2 S.w1 S.x1 ["_law_cell","_law_names_here","_law_known","_law_sizes"] (spD K c 4 wR):=fnD S.y1.F qZo fun _ _ _ _ _ _ a=>(qV (sA qZo.nd (ed_v (qG (vA qX (vA (xA 2 a (vH (od_e (cA S.i1 (zC S) a (oA (nA 0) (oA qQ qE)))) (yS rfl S.X2 (nA 2)))) qK)))))
   (qV (sA qZo.nd (OD.ow (vH (od_e (cA S.i1 (zC S) a (oA (nA 0) (oA qQ qE)))) qQ)))
   (qV (vW (vL (vH (nA 0) qQ) qQ) (qJ (qO (qK7 (pv 4)))) qH)
   (qV (vW (vL (vH (nA 0) qQ) qQ) (qJ (qO (ed_v (qG (vA qX (vA qX (vA (nA 4) (vB (ev_e (cA S.p1 (qW0 S) a (vK (od_v (ev_e (cA S.i1 (zC S) a (oA (nA 0) (oA qQ qE))))) qE))) qK)))))))) qH)
   (qV (vW (vL (vH (nA 0) qQ) qQ) (qJ (qO (ed_v (qG (vA qX (vB (qG (vA qX (vB (qG (vB (qG (vA qX (vA (nA 4) qK))) (vB (qG (vA qX (vB (ev_e (cA S.p1 (qW0 S) a (oA (nA 0) qE))) qK))) qK))) qK))) (vA qX qK))))))) qH)
   (qJ (qO (cA S.s1 (xT S) a (oA (xA 1 a (nA 5)) (oA (xA 3 a (nA 5)) (oA (nA 4) qE)))))))))))
theorem vWt:FnOk P w K mg base (CXd P w) 3 S.z1 S.A1 ["_law_script","_law_names_here","_law_sizes"] (spD K c 3 qQf):=fnD S.B1.F wV fun _ _ _ _ _ _ a=>(qV (sA wV.nd (vQ7 (od_e (jV (vB (qG (vA qX (vA (xA 1 a qQ) (vB (qG (vA qX (vA qQ qK))) qK)))) qK))) (od_e (cA S.v1 (vWu S) a (oA (nA 1) (oA (nA 2) qE))))))
   (qV (sA wV.nd (jV (vA (xA 1 a qQ) qK)))
   (qV (yK bN rfl (qVo (ev_e (qVf (nA 0) yG (yF (OD.val qQ))))) gA (qV (sA wV.nd (ed_v (qG (vA qX (vA (xA 4 a (vH (od_e (cA S.i1 (zC S) a (oA (nA 5) (oA qQ qE)))) (yS rfl S.X2 (nA 4)))) qK)))))
   (qV (vW (t_lt (yS rfl S.X2 (nA 3)) qQ) (qJ (sA wV.nd (cA S.y1 (vWs S) a (vK (od_v (ev_e (cA S.i1 (zC S) a (oA (nA 5) (oA qQ qE))))) (oA (nA 1) (vK (qW7 (nA 4)) (oA (nA 2) qE))))))) qH)
   (qV (sA wV.nd (OD.ow (vH (nA 5) qQ)))
   (qJ (vW (vL (nA 7) qQ) (qJ (zY (jF (nA 3) (ed_v (qG (vA qX (vA (nA 6) qK))))))) (qJ (vW (vL (nA 7) qQ) (qJ (zY (jF (nA 3) (ed_v (qG (vA qX (vA (vH (xZ (nA 5) qQ) qQ) (vA (xA 4 a (vH (xZ (nA 5) qQ) (yS rfl S.X2 (nA 4)))) (vA (nA 6) qK))))))))) (qV (sA wV.nd (OD.ow (xA 1 a (qQp qQ (vH (xZ (nA 5) qQ) qQ)))))
   (qV (zY (jF (nA 3) (ed_v (qG (vA qX (vA (nA 8) (vB (ev_e (cA S.p1 (qW0 S) a (vK (od_v (ev_e (cA S.i1 (zC S) a (oA (nA 5) (oA qQ qE))))) qE))) qK)))))))
   (qJ (vW (qXs a (nA 8) (nA 4)) (qJ (zY (jF (nA 4) (OD.ow (nA 8))))) qH))))))))))))
   (qJ (qO (vQ7 (nA 3) (od_e (jV (vB (qG (vA qX (vB (qG (vA qX (vA (xA 4 a (qZ5 qQ)) qK))) qK))) qK)))))))))
theorem vVz:FnOk P w K mg base (CXd P w) 1 S.C1 S.D1 ["_law_rows","_law_at","_law_cell","_law_names_here"] (spD K c 4 wY):=fnD S.E1.F qQz fun _ _ _ _ _ _ a=>(qV (vQz qQz.nd rfl (Or.inr rfl) (qZw rfl (Nc:=["_law_row"]) (cs:=[]) (qYk rfl (by decide +kernel) (by decide +kernel) (by decide +kernel)) (qVo (ev_e (qVf (nA 0) yG (yF (OD.val (nA 1)))))) (fun _ _ _ _=>gA) (fun _ _ _ _=>(vVc (vL (xA 0 a qQ) qX))) (fun _ _ _ _=>(OD.val (xA 0 a qQ)))))
   (qV (vVg rfl qQz.nd rfl (Or.inl rfl) (Nc:=["_law_row","_law_above"]) (cs:=[(1,4)]) (vW5 (cl:=[("_law_above",_)]) [(1,4)] [(".0",.local),("_law_row",.local),("_law_above",.cell)] ["_law_above"] rfl rfl rfl rfl (by decide +kernel) (by decide +kernel) ⟨rfl,trivial⟩ (by decide +kernel) ⟨⟨_,rfl,rfl,rfl,rfl⟩,trivial⟩) (qVo (ev_e (qVf (nA 0) (yF (OD.val (nA 1))) yG))) (fun _ _ _ _=>gA) (fun _ _ _ _=>(vVc (td_w (qVi (vL (xA 0 a qQ) qX) (yE (qXs a (xA 0 a qQ) (nA 1))))))) (fun _ _ _ _=>(OD.val (xA 0 a qQ))))
   (qV (vW (td_w (qVi (t_gt (yS rfl S.X2 (nA 5)) qQ) (yE (t_gt (vH (nA 2) qQ) qQ)))) (qJ (qO (OD.ow (xA 5 a (vH (xZ (nA 2) qQ) (yS rfl S.X2 (nA 5))))))) qH)
   (qV (vW (vL (vH (nA 2) qQ) qQ) (qJ (qO (OD.ow (xA 3 a qQ)))) qH)
   (qV (vW (vL (yS rfl S.X2 (xA 3 a qQ)) qQ) (qJ (qO (OD.ow (vQ3 (od_v (vQq (xA 3 a qQ) yG (yF (OD.val qQ)))) qX)))) qH)
   (qJ (qO (OD.ow (vQ3 (xA 3 a qQ) qX)))))))))
theorem yH:FnOk P w K mg base (CXd P w) 1 S.F1 S.G1 ["_law_cell","_law_names_here","_law_sizes","_law_bad"] (spD K c 4 zV):=fnD S.H1.F wL fun _ _ _ _ _ _ a=>(qV (vQz wL.nd rfl (Or.inr rfl) (ed_v (qG (vA qX (vA (vH (nA 0) qQ) qK)))))
   (qV (sA wL.nd (OD.ow (vH (xZ (nA 0) qQ) qQ)))
   (qV (vW (td_w (qVi (vL (vH (nA 0) qQ) qQ) (yE (t_gt (xA 2 a (nA 5)) qQ)))) (qV (vVg rfl wL.nd rfl (Or.inl rfl) (Nc:=["_law_k","_law_part"]) (cs:=[(1,4)]) (vW5 (cl:=[("_law_part",_)]) [(1,4)] [(".0",.local),("_law_k",.local),("_law_part",.cell)] ["_law_part"] rfl rfl rfl rfl (by decide +kernel) (by decide +kernel) ⟨rfl,trivial⟩ (by decide +kernel) ⟨⟨_,rfl,rfl,rfl,rfl⟩,trivial⟩) (xJ rfl S.Z2 (vA (xA 2 a (nA 5)) qK)) (fun _ _ _ _=>gA) (fun _ _ _ _=>qZu) (fun _ _ _ _=>(OD.val (nA 1))))
   (qV (yQ (nA 6) (vH (xZ (nA 0) qQ) (xA 2 a (nA 5))) (OD.ow (nA 3)))
   (qJ (qO (ed_v (qG (vA qX (vA (xA 1 a (nA 5)) (vB (qJr rfl S.c3 (nA 6)) qK))))))))) qH)
   (qV (vW (t_lt (vH (nA 0) qQ) qQ) (qJ (qO (ed_v (qG (vA qX (vA qX (vA (nA 4) (vA (nA 3) qK)))))))) qH)
   (qV (vW (vL (vH (nA 0) qQ) qQ) (qJ (qO (ed_v (qG (vA qX (vA qX (vA (nA 3) (vA (nA 4) qK)))))))) qH)
   (qV (vW (t_lt (vH (nA 0) qQ) qQ) (qV (sA wL.nd (jV (vA (nA 4) (vA (nA 4) (vA (nA 4) qK)))))
   (qV (yQ (nA 6) (qZ4 (vH (nA 0) qQ) qQ) (OD.ow (nA 3)))
   (qJ (qO (ed_v (qG (vA qX (vA (xA 6 a qQ) (vA (xA 6 a qQ) (vA (xA 6 a qQ) qK)))))))))) qH)
   (qV (vW (vL (vH (nA 0) qQ) qQ) (qJ (qO (ed_v (qG (vA qX (vB (qG (vB (qG (vA qX (vA (nA 4) qK))) (vB (qG (vA qX (vA (nA 3) qK))) qK))) qK)))))) qH)
   (qV (vW (vL (vH (nA 0) qQ) qQ) (qJ (qO (ed_v (qG (vA qX (vA (nA 3) (vA qX qK))))))) qH)
   (qJ (qO (ed_v (qG (vA qX (vA (nA 3) (vA qQ qK)))))))))))))))
theorem qZs:FnOk P w K mg base (CXd P w) 2 S.I1 S.J1 ["_law_cell","_law_names_here","_law_sizes","_law_untold_here"] (spD K c 4 jW):=fnD S.K1.F qV5 fun _ _ _ _ _ _ a=>(qV (vW (vL (vH (xZ (nA 0) qQ) qQ) qQ) (qJ (qO (ed_v (qG (vA qX (vA (nA 3) qK)))))) qH)
   (qV (vW (vL (vH (xZ (nA 0) qQ) qQ) qQ) (qJ (qO (cA S.s1 (xT S) a (oA (vQ3 qX (od_v (vQq (xA 1 a qQ) (yF (OD.val qQ)) yG))) (oA (xA 2 a qQ) (vK (od_v (qG (vA qX (vA qQ qK)))) qE)))))) qH)
   (qV (sA qV5.nd (OD.ow (xA 2 a (vH (xZ (nA 0) qQ) qQ))))
   (qV (vW (td_w (qX6 (vL (nA 4) qQ) (qWg (td_w (qVi (t_lt (nA 4) qQ) (yE (vL (vH (xZ (nA 0) qQ) qQ) qQ))))))) (qJ (qO (cA S.s1 (xT S) a (oA (xA 1 a (vH (xZ (nA 0) qQ) qQ)) (oA (qQp (nA 4) qQ) (vK (od_v (qG (vA qX (vA qQ qK)))) qE)))))) qH)
   (qJ (qO (cA S.s1 (xT S) a (oA (xA 1 a (vH (xZ (nA 0) qQ) qQ)) (oA (qZ4 (nA 4) qQ) (vK (od_v (qG (vA qX (vA qQ qK)))) qE))))))))))
theorem qKr:FnOk P w K mg base (CXd P w) 3 S.L1 S.M1 ["_law_rows","_law_at","_law_cell","_law_names_here","_law_sizes"] (spD K c 5 wM):=fnD S.N1.F zB fun _ _ _ _ _ _ a=>(qV (sA zB.nd (OD.ow (xA 0 a (nA 1))))
   (qV (sA zB.nd (qZb rfl S.Y2 (nA 0)))
   (qV (sA zB.nd (cA S.E1 (vVz S) a (oA (nA 0) (oA (nA 1) (oA (nA 2) (oA (nA 3) qE))))))
   (qV (vW (vL (xA 5 a qQ) qX) (qJ (vW (td_w (qVi (vL (vH (nA 2) qQ) qQ) (yE (vK7 (xA 5 a qQ) (xA 3 a qQ))))) (qJ (yQ (nA 6) (nA 1) (ed_v (qG (vA qX (vA (xA 3 a qQ) (vA (xA 5 a qQ) (vA (xA 5 a qQ) qK)))))))) (qJ (vW (vL (vH (nA 2) qQ) qQ) (qJ (yQ (nA 6) (nA 1) (ed_v (qG (vA qX (vA (xA 5 a qQ) (vA (xA 5 a qQ) (vB (ev_e (cA S.s1 (xT S) a (oA (xA 5 a qQ) (oA (yS rfl S.X2 (xA 5 a qQ)) (vK (od_v (qG (vA qX (vA qQ qK)))) qE))))) qK)))))))) (qV (sA zB.nd (OD.ow (xA 3 a qQ)))
   (qV (vW (t_in a (nA 8) (xA 5 a qQ)) (qJ (sA zB.nd (OD.ow qX))) qH)
   (qV (yQ (nA 6) (nA 1) (ed_v (qG (vA qX (vA (xA 5 a qQ) (vA (xA 5 a qQ) (vB (ev_e (cA S.H1 (yH S) a (oA (xZ (nA 2) qQ) (oA (nA 3) (vK (od_v (ev_e (jV (vA qQ (vA qQ (vA qQ qK)))))) (vK (od_v (qG (vA qX (vA (nA 8) qK)))) qE)))))) qK)))))))
   (qJ (vW (vL (xA 5 a qQ) (xA 3 a qQ)) (qJ (yQ (nA 6) (nA 1) (ed_v (qG (vA qX (vA (xA 5 a qQ) (vA (xA 5 a qQ) (vB (ev_e (cA S.H1 (yH S) a (oA (xZ (nA 2) qQ) (oA (nA 3) (vK (od_v (ev_e (vQ7 (od_e (qVf (nA 4) yG (yF (OD.val qQ)))) (od_e (jV (vA qQ qK)))))) (vK (od_v (qG (vA qX (vA (nA 8) qK)))) qE)))))) qK)))))))) qH))))))))) (qJ (vW (td_w (qVi (vL (xA 5 a qQ) qX) (yE (vL (vH (nA 2) qQ) qQ)))) (qJ (yQ (nA 6) (nA 1) (ed_v (qG (vA qX (vA (vH (xZ (nA 2) qQ) qQ) (vA (xA 3 a qQ) (vA (xA 5 a qQ) qK)))))))) (qJ (vW (vL (xA 5 a qQ) qX) (qV (sA zB.nd (cA S.K1 (qZs S) a (oA (xZ (nA 2) qQ) (oA (nA 3) (oA (nA 4) (oA (nA 7) qE))))))
   (qJ (yQ (nA 6) (nA 1) (ed_v (qG (vA qX (vA (vH (xZ (nA 2) qQ) qQ) (vA (xA 5 a qQ) (vB (ev_e (cA S.H1 (yH S) a (vK (od_v (ev_e (cA S.i1 (zC S) a (oA (nA 2) (oA qQ qE))))) (oA (nA 3) (oA (nA 4) (oA (nA 9) qE)))))) qK))))))))) (qV (sA zB.nd (cA S.K1 (qZs S) a (oA (xZ (nA 2) qQ) (oA (nA 3) (oA (nA 4) (oA (nA 7) qE))))))
   (qJ (yQ (nA 6) (nA 1) (ed_v (qJr rfl S.c3 (od_e (vQ7 (od_e (qZb rfl S.Y2 (od_v (vKp (nA 5) yG (yF (OD.val (qZ5 qQ))))))) (od_e (jV (vB (ev_e (cA S.H1 (yH S) a (vK (od_v (ev_e (cA S.i1 (zC S) a (oA (nA 2) (oA qQ qE))))) (oA (nA 3) (oA (nA 4) (oA (nA 9) qE)))))) qK)))))))))))))))
   (qJ (qO (qK7 (pv 6))))))))
theorem qKs:FnOk P w K mg base (CXd P w) 98 S.O1 S.P1 ["_law_rows"] (spD K c 1 zF):=fnD S.Q1.F qQh fun _ _ _ _ _ _ a=>(qV (zJe (hd:=fun C=> [24,25].contains C) (vZ6 S) (a.mono (by decide)) rfl S.c1.m S.c1.F.kp S.c1.b (oA (nA 0) qE) rfl S.d2 qQh.nd rfl rfl S.G2 (fun d=>(zVt PassesOwn.never (ev_e (jV (vA (qVm (tb:=[(24,false),(25,false)]) (.inr ⟨_,rfl⟩) rfl S.x2 rfl S.W2 Boot.«isinstance» (wO rfl S.e2 rfl) (nA 2)) (vA (qVm (tb:=[(24,false),(25,false)]) (.inr ⟨_,rfl⟩) rfl S.z2 rfl S.W2 Boot.«isinstance» (wO rfl S.g2 rfl) (nA 2)) (vA (qVm (tb:=[(24,false),(25,false)]) (.inr ⟨_,rfl⟩) rfl S.A2 rfl S.W2 Boot.«isinstance» (wO rfl S.h2 rfl) (nA 2)) (vA (qVm (tb:=[(24,false),(25,false)]) (.inr ⟨_,rfl⟩) rfl S.B2 rfl S.W2 Boot.«isinstance» (wO rfl S.i2 rfl) (nA 2)) qK)))))) qQh.nd rfl (.inl rfl) (.inl rfl) (qJ (qO (OD.ow (qZ5 qQ))))
   (qV (vW (td_w (qX6 (qJc (qVm (tb:=[(24,false),(25,false)]) (.inr ⟨_,rfl⟩) rfl S.C2 rfl S.W2 Boot.«isinstance» (wO rfl S.j2 rfl) (nA 2))) (qX6 (qJc (qVm (tb:=[(24,false),(25,false)]) (.inr ⟨_,rfl⟩) rfl S.D2 rfl S.W2 Boot.«isinstance» (wO rfl S.k2 rfl) (nA 2))) (qWg (qJc (qVm (tb:=[(24,false),(25,true)]) (.inr ⟨_,rfl⟩) rfl S.E2 rfl S.W2 Boot.«isinstance» (wO rfl S.n2 rfl) (nA 2))))))) (qJ (qO (OD.ow (qZ5 qQ)))) qH)
   (qV (vW (td_w (qX6 (vJp (qJc (qVm (tb:=[(24,true),(25,false)]) (.inr ⟨_,rfl⟩) rfl S.y2 rfl S.W2 Boot.«isinstance» (wO rfl S.f2 rfl) (nA 2)))) (qWg (vJp (qJc (qVm (tb:=[(24,true),(25,true)]) (.inl ⟨_,rfl⟩) rfl S.F2 rfl S.W2 Boot.«isinstance» (vXp rfl S.S2 Boot.«ValueError» (v:=.ty "ValueError") rfl (by decide) (by decide)) (nA 2))))))) (qJ (qO (OD.ow (qZ5 qQ)))) qH)
   (qV (vW (td_w (qX6 (qJc (zQu (n:="bool") (by decide) rfl S.W2 Boot.«isinstance» rfl S.T2 Boot.«bool» (zQe (Cs:=[24]) S.H2 (nA 2)))) (qWg (vJp (qJc (zQu (n:="int") (by decide) rfl S.W2 Boot.«isinstance» rfl S.V2 Boot.«int» (zQe (Cs:=[24]) S.H2 (nA 2)))))))) (qJ (qO (OD.ow (qZ5 qQ)))) qH)
   (qJ (qO (OD.ow (zQe (Cs:=[24]) S.H2 (nA 2)))))))))))
   (qJ (qO (OD.ow (qZ5 qQ)))))
theorem jVn:FnOk P w K mg base (CXd P w) 99 S.R1 S.S1 ["_law_script"] (spD K c 1 zQi):=fnD S.T1.F yP fun _ _ _ _ _ _ a=>(qV (vQz yP.nd rfl (Or.inr rfl) (OD.ow (jQ3 rfl rfl S.b3 (od_e (qVf (nA 0) yG (yF (OD.val qQ)))))))
   (qV (sA yP.nd (cA S.l1 (vJl S) a (vK (od_v (ev_e (cA S.i1 (zC S) a (oA (nA 1) (oA qQ qE))))) qE)))
   (qV (vVg rfl yP.nd rfl (Or.inl rfl) (Nc:=["_law_k","_law_base"]) (cs:=[(1,1)]) (vW5 (cl:=[("_law_base",_)]) [(1,1)] [(".0",.local),("_law_k",.local),("_law_mix",.globalImplicit),("_law_base",.cell)] ["_law_base"] rfl rfl rfl rfl (by decide +kernel) (by decide +kernel) ⟨rfl,trivial⟩ (by decide +kernel) ⟨⟨_,rfl,rfl,rfl,rfl⟩,trivial⟩) (xJ rfl S.Z2 (vA qQ qK)) (fun _ _ _ _=>gA) (fun _ _ _ _=>qZu) (fun _ _ _ _=>(OD.val (vH (od_e (vVn (zC S) (a.mono (by decide)) rfl S.i1.m S.i1.F.kp S.i1.b zY8 (oA (nA 1) (oA (qQp qQ (nA 0)) qE)))) qQ))))
   (qV (sA yP.nd (cA S.B1 (vWt S) a (oA (nA 0) (oA (nA 2) (oA (nA 3) qE)))))
   (qV (sA yP.nd (qZb rfl S.Y2 (nA 4)))
   (qV (sA yP.nd (OD.ow (qZ5 qQ)))
   (qV (yK bN rfl (xJ rfl S.Z2 (vA (vH (od_e (cA S.i1 (zC S) a (oA (nA 1) (oA qQ qE)))) qQ) qK)) gA (qV (sA yP.nd (OD.ow (vH (od_e (cA S.i1 (zC S) a (vK (od_v (ev_e (cA S.f1 (qJa S) a (oA (nA 0) (oA (nA 7) qE))))) (oA (qQp qQ (nA 7)) qE)))) (yS rfl S.X2 (nA 5)))))
   (qV (vW (vL (vH (od_e (cA S.i1 (zC S) a (oA (nA 1) (oA (qQp qQ (nA 7)) qE)))) qQ) qQ) (qJ (sA yP.nd (OD.ow (vH (nA 8) qQ)))) qH)
   (qV (sA yP.nd (cA S.N1 (qKr S) a (oA (nA 5) (oA (nA 8) (vK (od_v (ev_e (cA S.i1 (zC S) a (vK (od_v (ev_e (cA S.f1 (qJa S) a (oA (nA 0) (oA (qQp qQ (nA 7)) qE))))) (oA (qQp qQ (nA 7)) qE))))) (oA (nA 2) (oA (nA 3) qE)))))))
   (qJ (vW (td_w (qX6 (t_lt (nA 6) qQ) (qWg (t_lt (nA 8) (nA 6))))) (qJ (sA yP.nd (OD.ow (nA 8)))) qH))))))
   (qV (sA yP.nd (qZb rfl S.Y2 (nA 5)))
   (qV (vW (td_w (qX6 (vK7 (od_e (cA S.Q1 (qKs S) a (oA (nA 9) qE))) (nA 6)) (qWg (jQf a (nA 9) (nA 5))))) (qJ (qO (OD.ow zXr))) qH)
   (qJ (qO (OD.ow (zKg S.V1 S.U1 S.W2 S.l2 (od_e (cA S.c1 (vZ6 S) a (oA (nA 4) qE))))))))))))))))
end
def cm:Nat->aZ:=fun n=>match n with | 1=>152 | 2=>258 | 20=>24 | 21=>37 | 22=>49 | 23=>68 | 24=>87 | 25=>99 | 26=>111 | 27=>123 | 28=>135|_=>0
end X24
open PySem PySem.W PyProof.Rows L2 DX
set_option maxHeartbeats 0 in
theorem PySem.Challenge.cw_flipwright_k24_names_refused_holds : PySem.Challenge.rw_flipwright_k24_names_refused.Holds := by
 w_on;o_law;refine holds_open (q:=X24.vw) (loose:=X24.pg.boundNames) (Xt:=fun s=>xlAt X24.vw [] s && recOk (RowW.records (OpenRow.toRowW PySem.Challenge.rw_flipwright_k24_names_refused.row)) s) (XP:=XL X24.vw []) (Yf:=Hook.obs (kHook X24.KF X24.KA X24.KAs)) (Ya:=Hook.val (kHook X24.KF X24.KA X24.KAs)) (YP:=Hook.says (kHook X24.KF X24.KA X24.KAs)) (N:=6802) ?hl (Hook.of _) (Hook.keeps _) (fun s e=>xl_of s (Bool.and_eq_true_iff.mp e).1) XL.keeps (by rfl) (by rfl) (by rfl) (fun s e=>recFacts_of (Bool.and_eq_true_iff.mp e).2) (by rfl) (by first|assumption|decide +kernel) (by decide +kernel) ⟨rfl,rfl,rfl,rfl,rfl,by decide +kernel⟩ ?hw ?hc
 (case hw=>w_witness2);(case hl=>exact TH.left (k0:=12) rfl (by rfl) (fun _=>rfl) X24.zWt X24.zK2 X24.zWs X24.zZn X24.zK1 (by rfl));k_fill;refine DX.jQd (l:=PySem.Challenge.rw_flipwright_k24_names_refused) (k:=99) (x:="_law_script") rfl rfl ⟨rfl,by decide,by decide,rfl⟩ (fun w h Y=>PySem.W.kIn_of Y) X24.zV9 ?F
 case F=>
  intro w f g h b G c;let S:X24.Fs (X24.KF w.params) f X24.cm:=by
   constructor
   iterate 2 all_goals try first
    |exact faM b G (by k_is) (by k_is) (by k_is) (by k_is)
    |exact faM b G (by k_is) (by k_is) (by k_is) (by k_is) (fun _ _ _ _ _ _ a hl=>match a,hl with|[_,_,_,_,_],_=>rfl)
    |exact PySem.W.mg_of b G (by k_is)
    |exact PySem.W.mg_none_of b G (by k_is)
    |exact⟨by k_is,by k_is,by k_is⟩
    |exact⟨by k_is,by k_is,by k_is,by k_is⟩
    |k_is
    |exact qZ0 (by k_is) (by k_is) (by k_is) (fun _ _ _ _ _ _ a hl=>match a,hl with|[_],_=>rfl)
    |exact qZ0 (by k_is) (by k_is) (by k_is) (fun _ _ _ _ _ _ a hl=>match a,hl with|[_,_],_=>rfl)
    |exact qZ0 (by k_is) (by k_is) (by k_is) (fun _ _ _ _ _ _ a hl=>match a,hl with|[_,_,_],_=>rfl)
    |exact qZ0 (by k_is) (by k_is) (by k_is) (fun _ _ _ _ _ _ a hl=>match a,hl with|[_,_,_,_],_=>rfl)
    |exact⟨PySem.W.mg_of b G (by k_is),by k_exc⟩
    |exact(by unfold L2.xR;k_is)
    |exact⟨DX.zKz (by kernel_rfl),by k_is,by k_is,by k_is,by k_is⟩
    |exact vZ3 ⟨⟨by k_is,by k_is,by k_is,by k_is,by k_is⟩,by kit_is⟩ (vZ3 ⟨⟨by k_is,by k_is,by k_is,by k_is,by k_is⟩,by kit_is⟩ zWx)
    |exact vZ4 (by kts_exm) (vZ4 (by kts_exm) zW0)
    |exact zZr ⟨⟨by k_is,by k_is,by k_is,by k_is,by k_is⟩,by k_is,by k_is⟩ zWy
    |exact vZ1 (C:=1) ⟨by k_is,by k_is,by k_is,by k_is⟩ (by unfold L2.xR;k_is) vX4
    |exact vZ1 (C:=2) ⟨by k_is,by k_is,by k_is,by k_is⟩ (by unfold L2.xR;k_is) vX4
  have e:g=S.R1:=by have e:=c.symm.trans S.T1.m;cases e;rfl
  rw[e];exact⟨X24.cm,S.S1,rfl,fun s u=>.of_eq rfl,fun d _ _=>X24.jVn S⟩
