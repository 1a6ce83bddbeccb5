import PyProof.Rows.All
import Wide.All
import OpenK.AllK
import Wide.FinOn
import KE.KStateDown
import Lean
import HandS.ForMost
import HandS.Exc
import HandS.ExcInit
import HandS.ExcField
import HandS.ExcIs
import HandS.IsInst
import HandS.TupAny
import HandS.Style
import HandS.WordsExc
import HandS.Defaults
import HandS.Head0
import HandS.Head1
import HandS.Head2
import HandS.HeadEnd
import HandS.HeadHook1
import HandS.HeadHook2
import HandS.HeadHook3
import HandS.HeadHook4
import KE.KExcIs
import HandS.Codes
import PySem.Challenge.RW_tilesregrow_k00_errors
set_option Elab.async false
set_option linter.all false
set_option maxRecDepth 100000
set_option maxHeartbeats 0
namespace Tr
open PySem PySem.Spec PyProof.Rows L2

/-! ### what the head must say of an own error's class -/
def xcB (K : PySem.W.Frag) (C : Addr) : Bool := match K.lookup C with
  | some ⟨.type "type", _, .cls cd, sl⟩ => (match cd.mro, sl.toList with
    | .ref C' :: bm, [_, _, _, _, some (.builtin n), _] => C' == C && (n == "ValueError.__new__" && (!cd.hasDel && (cd.hasDict && PySem.HandSPX.refsVE bm)))
    | _, _ => false)
  | _ => false
theorem xcB_ok {K : PySem.W.Frag} {C : Addr} (q : xcB K C = true) :
    ∃ nm qn N bs bm sn sub ab col dd k0 k1 k2 k3 k5, K.lookup C = some (excClassObj nm qn C N bs bm true sn sub ab col dd k0 k1 k2 k3 k5 "ValueError.__new__") ∧ PySem.HandSPX.refsVE bm = true := by
  unfold xcB at q
  split at q
  · rename_i dd cd sl ho
    split at q
    · rename_i C1 bm k0 k1 k2 k3 n k5 hm hs
      obtain ⟨q1, q⟩ := Bool.and_eq_true_iff.mp q
      obtain ⟨q2, q⟩ := Bool.and_eq_true_iff.mp q
      obtain ⟨q3, q⟩ := Bool.and_eq_true_iff.mp q
      obtain ⟨q4, q5⟩ := Bool.and_eq_true_iff.mp q
      have e1 : C1 = C := beq_iff_eq.mp q1
      have e2 : n = "ValueError.__new__" := beq_iff_eq.mp q2
      subst e1 e2
      obtain ⟨nm, bs, mro, ns, qn, hd, sn, sub, ab, col, del⟩ := cd
      dsimp only at hm q3 q4
      obtain ⟨l⟩ := sl
      dsimp only at hs
      subst hm hs q4
      have e3 : del = false := by
        cases del with
        | false => rfl
        | true => cases q3
      subst e3
      exact ⟨nm, qn, ns, bs, bm, sn, sub, ab, col, dd, k0, k1, k2, k3, k5, ho, q5⟩
    · cases q
  · cases q
/-- a class of errors of one's own: how it is made, how its fields are stored and read, how isinstance asks its instances -/
structure Xc (K : PySem.W.Frag) (C : Addr) : Prop where
  o : OexC K C
  f : XfC K C
  i : ExcC K C
def xcAll (K : PySem.W.Frag) (C : Addr) : Bool :=
  xcB K C && (xfB K C && (decide (PySem.W.findIn K (.ref C) "__setattr__" = some (some (.builtin "object.__setattr__"))) && (decide (PySem.W.typeIn K (.ref C) = some (.type "type")) && (PySem.W.keepIn K (.ref C) &&
    (decide (PySem.W.findIn K (.ref C) "__class__" = some (some (.builtin "object.__class__"))) && (decide (PySem.W.specialIn K (.builtin "object.__class__") "__get__" = some (some (.builtin "getset_descriptor.__get__"))) &&
      (decide (PySem.W.takesIn K (.builtin "object.__class__") = some true) && decide (PySem.W.mroIn K C (.type "object") = some true))))))))
theorem xcAll_ok {K : PySem.W.Frag} {C : Addr} (h : xcAll K C = true) : Xc K C := by
  obtain ⟨h1, h⟩ := Bool.and_eq_true_iff.mp h
  obtain ⟨h2, h⟩ := Bool.and_eq_true_iff.mp h
  obtain ⟨h3, h⟩ := Bool.and_eq_true_iff.mp h
  obtain ⟨h4, h⟩ := Bool.and_eq_true_iff.mp h
  obtain ⟨h5, h⟩ := Bool.and_eq_true_iff.mp h
  obtain ⟨h6, h⟩ := Bool.and_eq_true_iff.mp h
  obtain ⟨h7, h⟩ := Bool.and_eq_true_iff.mp h
  obtain ⟨h8, h9⟩ := Bool.and_eq_true_iff.mp h
  have F := xfB_ok h2
  exact ⟨⟨xcB_ok h1, of_decide_eq_true h3, F.exC, of_decide_eq_true h4, h5⟩, F, ⟨F.ga, F.gg, F.exC, F.hdC, of_decide_eq_true h6, of_decide_eq_true h7, of_decide_eq_true h8, of_decide_eq_true h9⟩⟩
/-- isinstance among these classes: each is just itself -/
def kitB1 (K : PySem.W.Frag) (Cs : List Addr) : Bool := Cs.all fun c => Cs.all fun d => decide (PySem.W.kitOne K (.ref c) (.ref d) = some (c == d))
def kitUp (K : PySem.W.Frag) (Cs : List Addr) (t : PySem.Value) : Bool := Cs.all fun c => decide (PySem.W.kitOne K (.ref c) t = some true)
end Tr
namespace K0
open PySem PySem.Spec PyProof.Rows L2
def top (i : Nat) : Stmt := PySem.Challenge.pw_tilesregrow_k00_errors.main.body.getD i (.Pass ⟨0, 0, 0, 0⟩)
abbrev sPen : Stmt := top 17
abbrev sDraw : Stmt := top 18
abbrev sPick : Stmt := top 19
abbrev sBig : Stmt := top 20
abbrev sOne : Stmt := top 21
abbrev sMore : Stmt := top 22
abbrev sKinds : Stmt := top 23
abbrev sLaw : Stmt := top 24
def mkD (x : Str) (st : Stmt) : He.DefD := ⟨(x, none), x, x, defArgs st, defBody st, defScope st, [], []⟩
def mkI (x : Str) (q : Str) (i : Nat) : He.DefD := ⟨(x, some "__init__"), "__init__", q, defArgs (inClass (top i) 0), defBody (inClass (top i) 0), defScope (inClass (top i) 0), [], []⟩
/-- the fourteen classes, by the law's kinds -/
def names : List Str := ["BadName", "BadTile", "NoName", "TakenName", "BadPlace", "NotThere", "Taken", "BadText", "BadNumber", "Loose", "TooMany", "NotKept", "NothingToUndo", "NothingToRedo"]
def fn : List He.DefD := [mkD "_law_pen" sPen, mkD "_law_draw" sDraw, mkD "_law_pick" sPick, mkD "_law_big" sBig, mkD "_law_one" sOne, mkD "_law_more" sMore, mkD "_law_kinds" sKinds, mkD "law" sLaw,
  mkI "BadName" "BadName.__init__" 4, mkI "BadTile" "BadTile.__init__" 5, mkI "NoName" "NoName.__init__" 7, mkI "TakenName" "TakenName.__init__" 8, mkI "BadPlace" "BadPlace.__init__" 6, mkI "NotThere" "NotThere.__init__" 9, mkI "Taken" "Taken.__init__" 10,
  mkI "BadText" "BadText.__init__" 2, mkI "BadNumber" "BadNumber.__init__" 3, mkI "Loose" "Loose.__init__" 11, mkI "TooMany" "TooMany.__init__" 12, mkI "NotKept" "NotKept.__init__" 13, mkI "NothingToUndo" "NothingToUndo.__init__" 14, mkI "NothingToRedo" "NothingToRedo.__init__" 15]
def fa : List He.Fa := [.free "len", .free "int", .free "list", .free "range", .free "str", .free "repr", .free "isinstance", .free "ValueError",
  .glo "_law_pen", .glo "_law_draw", .glo "_law_pick", .glo "_law_big", .glo "_law_one", .glo "_law_more", .glo "_law_kinds", .glo "law", .glo "TileError"] ++ names.map .glo ++ names.map fun x => .meth x "__init__"
def flds : List Str := ["name", "tile", "place", "line", "column", "what", "number", "bonds", "many", "limit", "promise", "witness"]
def cs (K : PySem.W.Frag) : List Addr := names.map (He.ga K)
def ex (K : PySem.W.Frag) : Bool := (cs K).all (Tr.xcAll K) && (Tr.kitB1 K (cs K) && (Tr.kitUp K (cs K) (.ref (He.ga K "TileError")) && (Tr.kitUp K (cs K) (.type "ValueError") &&
  ((cs K).all fun c => flds.all fun f => decide (PySem.W.findIn K (.ref c) f = some none)) && decide ((cs K).Nodup))))
abbrev R : PySem.W.OpenRow := PySem.W.OpenLaw.row PySem.Challenge.rw_tilesregrow_k00_errors
abbrev hk : PySem.W.Hook := He.hookX 5 fa fn [] [] ex
def ob (s : PySem.W.SharedT) : He.AlX := He.obsX 5 fa fn [] [] ex (HandSHeadRun.getT s)
theorem ob_eq (s : PySem.W.SharedT) : ob s = hk.obs s.abs := He.obsX_eq (HandSHeadRun.getT_eq s)
def loose : List Str := ["TileError", "BadText", "BadNumber", "BadName", "BadTile", "BadPlace", "NoName", "TakenName", "NotThere", "Taken", "Loose", "TooMany", "NotKept", "NothingToUndo", "NothingToRedo", "_law_pen", "_law_draw", "_law_pick", "_law_big", "_law_one", "_law_more", "_law_kinds"]
theorem run (w : World) : HandSHeadRun.RunEq R (PySem.W.view R.prog [24]) hk ob 4000 loose w := by
  intro os
  kernel_rfl
end K0

set_option Elab.async false
set_option linter.all false
set_option maxRecDepth 100000
set_option maxHeartbeats 4000000
namespace Tr
open PySem PySem.Spec PyProof.Rows L2

/-! ### an own error as a value: made by its __init__, kept, its fields read -/
/-- x(e, ..): what __init__ must bear at the new error, which stays tracked -/
def tXmk (C : Addr) (sp : Sp) (ta : TA) : TE := fun σ H Q => ta σ H fun vs H1 =>
  vs.length ≤ 1000 ∧ ∀ a, H1 a = none → sp (.ref a :: vs) (upd H1 a (exo a C none)) (fun v H2 => v = .non ∧ Q (.ref a) H2) E0
section
variable {Y : Cx} {nm : Str} {C fI : Addr} {k : Nat} {fd : FuncData} {ps : List Str} {sp : Sp} {pins : List (Addr × Obj)} {σ : L2.St} {H : Hp}
/-- the class is called with values -/
theorem xmk_run {s : Shared} {us : List PySem.Value} {vs : List V} {Q : VK} (T : OexC Y.K C) (hi : PySem.W.findIn Y.K (.ref C) "__init__" = some (some (.ref fI))) (ht : PySem.W.typeIn Y.K (.ref fI) = some (.type "function"))
    (FF : FnOk Y.prog Y.w Y.K Y.mg Y.base CX0 k fI fd ps sp) (room : Room (k + 1) Y.A) (bs : Binds Y.K fd ps []) (I : L2.Inv Y pins σ H s) (rel : Vals vs us) (small : vs.length ≤ 1000)
    (want : ∀ a, H a = none → sp (.ref a :: vs) (upd H a (exo a C none)) (fun v H2 => v = .non ∧ Q (.ref a) H2) E0) :
    wpAny (model Y.prog Y.w) Y.A (call (.ref C) us) (EP Y pins σ Q) Y.xe s := by
  obtain ⟨n1, n2, n3, n4, bm, n5, n6, n7, n8, n9, l0, l1, l2, l3, l5, look, chain⟩ := T.cls
  obtain ⟨h0, gs, dr, tk, os⟩ := s
  have le1 : h0.objs.size ≤ h0.objs.size + 1 := Nat.le_succ _
  have new1 : H (h0.objs.size + 1) = none := I.hok.fresh le1
  have sp1 := want (h0.objs.size + 1) new1
  have keep2 : ∀ b o, h0.get? b = some o → ((h0.push (PySem.W.kdv_tup us)).push (PySem.HandSPX.excO C h0.objs.size)).get? b = some o :=
    fun b o e => Heap.get?_push_of_some _ (Heap.get?_push_of_some _ e)
  have at2 : ((h0.push (PySem.W.kdv_tup us)).push (PySem.HandSPX.excO C h0.objs.size)).get? (h0.objs.size + 1) = some (PySem.HandSPX.excO C h0.objs.size) := by heap_get
  have J : L2.Inv Y pins σ (upd H (h0.objs.size + 1) (exo (h0.objs.size + 1) C none))
      ⟨(h0.push (PySem.W.kdv_tup us)).push (PySem.HandSPX.excO C h0.objs.size), gs, dr, tk, os⟩ :=
    I.laid (t' := tk) (a := h0.objs.size + 1) (o := exo (h0.objs.size + 1) C none)
      (h' := (h0.push (PySem.W.kdv_tup us)).push (PySem.HandSPX.excO C h0.objs.size)) keep2 le1 (exo_ok at2)
  have relS : Vals (V.ref (h0.objs.size + 1) :: vs) (PySem.Value.ref (h0.objs.size + 1) :: us) := .cons rfl rel
  have lenS : (PySem.Value.ref (h0.objs.size + 1) :: us ++ []).length = ps.length := by
    rw [List.append_nil, ← relS.length]
    exact FF.len _ _ _ _ sp1
  have few : us.length ≤ sizeLine := by
    have e := Paired.length rel
    rw [sizeLine_eq]
    omega
  have bound : BindsTo ⟨(h0.push (PySem.W.kdv_tup us)).push (PySem.HandSPX.excO C h0.objs.size), gs, dr, tk, os⟩ fd ⟨PySem.Value.ref (h0.objs.size + 1) :: us, []⟩ (ps.zip (PySem.Value.ref (h0.objs.size + 1) :: us)) := by
    have b := bs _ (PySem.Value.ref (h0.objs.size + 1) :: us) J.kIn lenS
    rw [List.append_nil] at b
    exact b
  refine wpAny_call (PySem.HandSPX.call_own F.excBase_ValueError (fun Z => PySem.HandSPX.refsVE_contains Z bm chain) (I.kIn _ _ look)
    (PySem.W.looks_findIn I.kIn hi) (fun self => PySem.W.bind_fn I.kIn self ht) few
    (codeAny_mono (FF.run _ Y.stack _ _ _ _ _ _ E0 (room.make C us []) (J.env0.make C us []) bound relS sp1) fun r s' hq => ?_))
  match r, hq with
  | .ok (.ret u), hq =>
    obtain ⟨v, H', K1, rv, ev, q⟩ := J.after hq
    subst ev
    exact ⟨rv, ⟨V.ref (h0.objs.size + 1), H', K1, rfl, q⟩⟩
  | .ok .next, hq => exact hq.elim
  | .ok .brk, hq => exact hq.elim
  | .ok .cont, hq => exact hq.elim
  | .error _, hq => exact hq.elim
theorem pe_xmk {e : PySem.Expr} {es : List PySem.Expr} {ta : TA} {p pos : Pos} (T : OexC Y.K C) (hi : PySem.W.findIn Y.K (.ref C) "__init__" = some (some (.ref fI))) (ht : PySem.W.typeIn Y.K (.ref fI) = some (.type "function"))
    (FF : FnOk Y.prog Y.w Y.K Y.mg Y.base CX0 k fI fd ps sp) (room : Room (k + 1) Y.A) (bs : Binds Y.K fd ps []) (hm : Y.mg nm = some (.ref C)) (ha : PA Y (e :: es) ta) (hg : Gl Y nm := by rfl)
    (nodebug : (nm == ("__debug__" : Str)) = false := by decide) (stars : starEach (e :: es) Y.env = (false, eval e Y.env) :: starEach es Y.env := by rfl)
    (plain : (backTo pos (starEach es Y.env)).any (·.1) = false := by rfl) : PE Y (.Call (.Name nm p) (e :: es) [] pos) (tXmk C sp ta) := by
  refine ⟨fun pins s σ H Q I h => wpAny_Call_Name_kw (ld_glob I hg hm ?_ nodebug)⟩
  refine PySem.W.callWith_K (h₀ := Y.base) I.ok.mod.kin T.kC (thn (ha.run pos pins s σ H _ I h) ?_) stars plain
  rintro us s1 ⟨vs, H1, I1, rel, small, want⟩
  exact ⟨I1.kIn, xmk_run T hi ht FF room bs I1 rel small want⟩
theorem pe_xmk0 {p pos : Pos} (T : OexC Y.K C) (hi : PySem.W.findIn Y.K (.ref C) "__init__" = some (some (.ref fI))) (ht : PySem.W.typeIn Y.K (.ref fI) = some (.type "function"))
    (FF : FnOk Y.prog Y.w Y.K Y.mg Y.base CX0 k fI fd ps sp) (room : Room (k + 1) Y.A) (bs : Binds Y.K fd ps []) (hm : Y.mg nm = some (.ref C)) (hg : Gl Y nm := by rfl)
    (nodebug : (nm == ("__debug__" : Str)) = false := by decide) : PE Y (.Call (.Name nm p) [] [] pos) (tXmk C sp tNil) := by
  refine ⟨fun pins s σ H Q I h => wpAny_Call_Name_kw (ld_glob I hg hm ?_ nodebug)⟩
  exact PySem.W.callWith_K0 I.kIn T.kC (xmk_run (us := []) (vs := []) T hi ht FF room bs I .nil h.1 h.2)

/-- e.f of such an error -/
def tXget (K : PySem.W.Frag) (te : TE) (f : Str) : TE := fun σ H Q => te σ H fun x H1 => ∃ (a C d : Addr) (fs : List (Str × V)) (v : V),
  x = .ref a ∧ H1 a = some (exo a C (some d)) ∧ H1 d = some (exd d fs) ∧ XfC K C ∧ PySem.W.findIn K (.ref C) f = some none ∧ fs.lookup f = some v ∧ Q v H1
theorem xo_inst {h : Heap} {a C d t1 : Addr} {od : Obj} (e : h.get? a = some ({ cls := .ref C, dict := some d, data := .fields #[.ref t1, .none, .none, .none, .bool false, .none] } : Obj)) (hd : h.get? d = some od) :
    PySem.W.InstAt h a { cls := .ref C, dict := some d, data := .fields #[.ref t1, .none, .none, .none, .bool false, .none] } C (some od) := ⟨e, rfl, rfl, hd⟩
theorem pe_xget {e : PySem.Expr} {te : TE} {f : Str} {pos : Pos} (he : PE Y e te) (base : attributeBase e f Y.env (eval e Y.env) = eval e Y.env := by rfl) : PE Y (.Attribute e f pos) (tXget Y.K te f) := by
  refine ⟨fun pins s σ H Q I h => attr_of base (thn (he.run pins s σ H _ I h) ?_)⟩
  rintro u s1 ⟨x, H1, I1, rx, a, C, d, fs, v, rfl, ea, ed, T, hno, hl, q⟩
  obtain rfl : u = PySem.Value.ref a := rx
  obtain ⟨t1, oa⟩ := exo_at I1.hok ea
  obtain ⟨mA, hns, rel⟩ := exd_at I1.hok ed
  obtain ⟨od, ho, look⟩ := lookIn_ns hns
  have some_f : RelO (some v) (mA f) := by
    have z := rel f
    rw [hl] at z
    exact z
  obtain ⟨u2, hu, ru⟩ := RelO.some_of some_f
  have own : PySem.W.lookIn f od = some (some u2) := by rw [look, hu]
  exact PySem.HandSPX.exc_get I1.kIn (xo_inst oa ho) T.ga T.gg T.exC (PySem.W.findObj_own T.hdC hno rfl own) (handed_of ru) ⟨v, H1, I1.tok _, ru, q⟩
end

/-! ### repr of data -/
/-- the shown text of a value that is data -/
def rShow (K : PySem.W.Frag) : List V → Hp → VK → Prop := fun xs H Q => ∃ (a : Addr) (d : PyData), xs = [.ref a] ∧ Dp K H (.ref a) d ∧ d.showable = true ∧ d.hasDict = false ∧ d.depth ≤ 60 ∧ d.shown.length ≤ sizeLine ∧ Q (.str d.shown) H
theorem call_show {Y : Cx} (free : Y.A.guards = some []) (hu : Y.A.units + 64 < cLine) : CallR Y (.builtin "repr") (rShow Y.K) := by
  intro pins s σ H xs us Q I rel h
  obtain ⟨a, d, rfl, hd, hs, nd, deep, short, q⟩ := h
  obtain ⟨u, rfl, ru⟩ := vals1 rel
  obtain rfl : u = PySem.Value.ref a := ru
  obtain ⟨as, rd⟩ := Dp.reads I d (.ref a) (.ref a) hd rfl
  refine repr_of_reads' rd hs (PyData.noDict_hsm nd) free (by omega) (fun _ _ e => e) (fun h' t' tk keep => ?_) short
  exact ⟨.str d.shown, H, I.kept (t' := tk) keep, ⟨_, rfl⟩, q⟩
end Tr

set_option Elab.async false
set_option linter.all false
set_option maxRecDepth 100000
set_option maxHeartbeats 4000000
namespace Tr
open PySem PySem.Spec PyProof.Rows L2
/-! ### isinstance of an own error that is held as a value -/
/-- an own error at a: its class C, its dict (none as yet, or one with these fields) -/
def XoAt (H : Hp) (a C : Addr) (fs : Option (List (Str × V))) : Prop := match fs with
  | none => H a = some (exo a C none)
  | some l => ∃ d, H a = some (exo a C (some d)) ∧ H d = some (exd d l)
theorem xo_some {Y : Cx} {pins : List (Addr × Obj)} {σ : L2.St} {H : Hp} {s : Shared} {a C : Addr} {fs : Option (List (Str × V))} (I : L2.Inv Y pins σ H s) (h : XoAt H a C fs) : ∃ ox od, PySem.W.InstAt s.heap a ox C od := by
  cases fs with
  | none =>
    obtain ⟨t, e⟩ := exo_at I.hok (show H a = some (exo a C none) from h)
    exact ⟨_, none, e, rfl, rfl, trivial⟩
  | some l =>
    obtain ⟨d, ea, ed⟩ := h
    obtain ⟨t, oa⟩ := exo_at I.hok ea
    obtain ⟨mA, hns, _⟩ := exd_at I.hok ed
    obtain ⟨od, ho, _⟩ := lookIn_ns hns
    exact ⟨_, some od, xo_inst oa ho⟩
def rIsX (K : PySem.W.Frag) : List V → Hp → VK → Prop := fun xs H Q => ∃ (a C : Addr) (fs : Option (List (Str × V))) (c : V) (cv : PySem.Value) (b : Bool),
  xs = [.ref a, c] ∧ XoAt H a C fs ∧ ClsV c cv ∧ Xc K C ∧ PySem.W.kitOne K (.ref C) cv = some b ∧ Q (.bl b) H
theorem call_isX {Y : Cx} : CallR Y (.builtin "isinstance") (rIsX Y.K) := by
  intro pins s σ H xs us Q I rel h
  obtain ⟨a, C, fs, c, cv, b, rfl, hx, hc, T, e, q⟩ := h
  obtain ⟨u, u2, rfl, ru, rc⟩ := vals2 rel
  obtain rfl : u = PySem.Value.ref a := ru
  obtain rfl := hc.eq rc
  obtain ⟨ox, od, J⟩ := xo_some I hx
  have isC : (PySem.W.clsIn Y.K C).isSome = true := by
    obtain ⟨cd, e, _⟩ := PySem.W.any_some T.f.hdC
    rw [e]
    rfl
  have Z := PySem.W.kitx_exc (x := a) (ox := ox) (od := od) isC T.f.ga T.f.gg T.f.exC T.i.ha T.i.hn T.i.ht T.i.hm
  exact PySem.W.kia_one Z I.kIn J e (fun z => nomatch z) fun tk => ⟨.bl b, H, I.tok tk, rfl, q⟩
end Tr

set_option Elab.async false
set_option linter.all false
set_option maxRecDepth 100000
set_option maxHeartbeats 4000000
namespace Tr
open PySem PySem.Spec PyProof.Rows L2
/-! ### a def that runs where nothing is being shown: repr may be asked in it -/
structure GOk (P : Program) (w : World) (K : PySem.W.Frag) (mg : Str → Option PySem.Value) (base : Heap) (k : Nat) (f : Addr) (fd : FuncData) (ps : List Str) (sp : Sp) : Prop where
  len : ∀ vs H Q, sp vs H Q E0 → vs.length = ps.length
  run : ∀ (A : Around) (outer : List Env) (s : Shared) (H : Hp) (args : Args) (us : List PySem.Value) (vs : List V) (Q : VK), Room k A → A.guards = some [] → Env0 P w K mg base A outer s H →
    BindsTo s fd args (ps.zip us) → Vals vs us → sp vs H Q E0 → codeAny (model P w) A (.call (.ref f) args) (CR CX0 outer P w H s Q E0) s
section
variable {P : Program} {w : World} {K : PySem.W.Frag} {mg : Str → Option PySem.Value} {base : Heap} {x qual : Str} {params : Arguments} {body : List PySem.Stmt} {scope : Scope} {f : Addr} {fd : FuncData}
theorem GOk.of {N ps : List Str} {k : Nat} {sp : Sp} {dvs : List V} {kws : List (Str × V)} (D : FunD K x qual params body scope dvs kws f fd) (S : FnScope N ps scope) (len : ∀ vs H Q, sp vs H Q E0 → vs.length = ps.length)
    (walk : ∀ (cdv : PySem.Value) (A : Around) (outer : List Env) (s : Shared) (H : Hp) (vs : List V) (Q : VK), Room k (A.deeper (envOfC qual scope s.heap.objs.size f cdv)) → A.guards = some [] → sp vs H Q E0 →
      ∃ t, PSs (cxOf CX0 P w K mg base N qual scope f cdv A outer s H E0).nox body t ∧ t { nx := fun _ H' => Q .non H', rt := Q } (start N vs) H) : GOk P w K mg base (k + 1) f fd ps sp := by
  obtain ⟨oc, od, dV, kV, doc, pm, an, cdv, ct, osl, rfl, found, isCode, _, _⟩ := D.ex
  refine ⟨len, fun A outer s H args us vs Q room free e0 bound rel h => ?_⟩
  have inK : K.In s.heap := e0.mod.kin.keeps fun b o e => (e0.bs b o e).1
  have roomy : s.heap.NoLimit := e0.mod.nolimit.keeps fun b o e => (e0.bs b o e).1
  have kinds : ∀ y ∈ ps.zip us, scope.names.lookup y.1 = some .local ∨ (scope.names.lookup y.1 = some .cell ∧ ((cellsFrom (s.heap.objs.size + 1) scope.names []).lookup y.1).isSome = true) := by
    rintro ⟨n, v⟩ hy
    exact (S.par n (List.of_mem_zip hy).1).imp id fun c => ⟨c, PySem.W.cellsFrom_some _ _ _ (.inl c)⟩
  refine codeAny_call_function room.depth (inK _ _ found) rfl S.co S.gen rfl (PySem.W.codeRec_of inK isCode) (bound _ _ _ _ (wpAny_newFunctionEnv_cells S.kind kinds ?_))
  rintro env1 rfl s1 into
  refine ⟨roomy.keeps into.toInCall.keep, codeAny_func ?_⟩
  obtain ⟨t, term, reads⟩ := walk cdv A outer s H vs Q (room.deeper _) free h
  have I1 := inv_start (CX := CX0) (P := P) (w := w) (K := K) (mg := mg) (base := base) (qual := qual) (f := f) (cd := cdv) (E := E0) S room.hd e0 (len _ _ _ h) rel into
  refine wpAny_mono (term.nox.run [] s1 (start N vs) H _ I1 reads) (fun fl s' z => ?_) fun _ _ z => z
  have done : ∀ {v : V} {u : PySem.Value} {H' : Hp} {σ' : L2.St}, L2.Inv (cxOf CX0 P w K mg base N qual scope f cdv A outer s H E0) [] σ' H' s' → RelV v u → Q v H' → CE outer P w H s Q u s' :=
    fun {v u H' σ'} J r q => ⟨v, H', J.os, J.bare, J.base, J.hok, r, q⟩
  match fl, z with
  | .ret _, ⟨v, _, H', J, r, q⟩ => exact done J r q
  | .next, ⟨_, H', J, q⟩ => exact done (v := V.non) J rfl q
  | .brk, ⟨_, _, _, q⟩ => exact q.elim
  | .cont, ⟨_, _, _, q⟩ => exact q.elim
end
/-! ### the end: such a def is the law -/
section
variable {P : Program} {w : World} {K : PySem.W.Frag} {mg mb : Str → Option PySem.Value} {k : Nat} {fa a : Addr} {fd : FuncData} {x : Str} {sp : Sp} {s₁ : Shared} {vs : List PySem.Value} {ns : List Int}
theorem law_run (KX : K.In s₁.heap) (gl : s₁.heap.Ns mainGlobals mg) (bl : s₁.heap.Ns builtinsNs mb) (blb : ∀ x : Str, x ≠ "__name__" → mb x = bootBuiltins x) (lim : s₁.heap.NoLimit) (noGens : s₁.gens = #[])
    (script : s₁.heap.get? a = some { cls := .type "list", data := .seq vs.toArray }) (theInts : IntsAre vs ns) (few : ns.length ≤ sizeLine) (room : Room k callerA)
    (FF : ∀ base : Heap, K.In base → base.Ns mainGlobals mg → GOk P w K mg base k fa fd [x] sp) (bound : ∀ (s : Shared) (u : PySem.Value), BindsTo s fd ⟨[u], []⟩ [(x, u)])
    (asks : ∀ H : Hp, SqL K H a (ns.map V.int) → sp [.ref a] H (fun v _ => v = .bl true) E0) :
    codeAny (model P w) callerA (.call (.ref fa) ⟨[.ref a], []⟩) (fun r s' => r = .ok (.ret (.bool true)) ∧ OldK s₁.heap s'.heap ∧ s'.os = s₁.os ∧ AllBare s'.gens) s₁ := by
  have rel : Vals (ns.map V.int) vs := vals_ints theInts
  have sized : vs.length = ns.length := theInts.length
  -- the script is tracked, locked, unless it is an object of the written part
  have main : ∀ H : Hp, (∀ b o, H b = some o → b = a ∧ K.lookup a = none ∧ o = .frz { cls := .type "list", data := .seq vs.toArray } (.lst (ns.map V.int))) → SqL K H a (ns.map V.int) →
      codeAny (model P w) callerA (.call (.ref fa) ⟨[.ref a], []⟩) (fun r s' => r = .ok (.ret (.bool true)) ∧ OldK s₁.heap s'.heap ∧ s'.os = s₁.os ∧ AllBare s'.gens) s₁ := by
    intro H only sq
    have hok : HOk P w H s₁.heap := by
      intro b o e
      obtain ⟨rfl, _, rfl⟩ := only b o e
      exact ⟨script, by rw [List.length_map]; exact few, vs, _, rel, script⟩
    have off : ∀ {b : Addr}, (∀ o, H b ≠ some o) → H b = none := fun {b} z => by
      match e : H b with
      | none => rfl
      | some o => exact absurd e (z o)
    have notDict : ∀ {b : Addr} {o : Obj} {es : Array DictEntry} {n : Nat}, s₁.heap.get? b = some o → o.data = .dict es n → H b = none := fun {b o es n} e d => off fun u q => by
      obtain ⟨rfl, _, _⟩ := only b u q
      rw [script] at e
      obtain rfl := Option.some.inj e
      cases d
    have names : ∀ {b : Addr} {m : Str → Option PySem.Value}, s₁.heap.Ns b m → (hidT s₁.heap H).Ns b m := by
      rintro b m ⟨o, es, n, e, d, r⟩
      exact ⟨o, es, n, hidT_get e (notDict e d), d, r⟩
    have inK : K.In (hidT s₁.heap H) := fun b o e => hidT_get (KX b o e) (off fun u q => by
      obtain ⟨rfl, none_, _⟩ := only b u q
      rw [none_] at e
      cases e)
    obtain ⟨mc, lim1, lim2⟩ := lim
    have mod : Mod K mg (hidT s₁.heap H) := ⟨inK, names gl, ⟨mb, names bl, blb⟩, ⟨mc, names lim1, lim2⟩⟩
    have e0 : Env0 P w K mg (hidT s₁.heap H) callerA [] s₁ H :=
      ⟨rfl, mod, fun _ _ e => of_hidT e, Nat.le_of_eq (hidT_size _ _), trivial, fun _ z => (nomatch z), hok, .of_eq noGens⟩
    refine codeAny_mono ((FF _ inK (names gl)).run callerA [] s₁ H ⟨[.ref a], []⟩ [.ref a] [.ref a] _ room rfl e0 (bound s₁ _) (.cons rfl .nil) (asks H sq)) ?_
    intro r s' z
    match r, z with
    | .ok (.ret u), ⟨v, H', os, bare, un, hok', ru, q⟩ =>
      obtain rfl : v = .bl true := q
      obtain rfl : u = PySem.Value.bool true := ru
      refine ⟨rfl, OldK.of_keep fun b o e => ?_, os, bare⟩
      match eb : H b with
      | none => exact un.keep b o e eb (fun z => nomatch z) (fun z => nomatch z)
      | some u =>
        obtain ⟨rfl, _, rfl⟩ := only b u eb
        obtain ⟨there, _⟩ := hok' _ _ (un.frzs b _ _ eb)
        rw [script] at e
        obtain rfl := Option.some.inj e
        exact there
    | .ok .next, z => exact z.elim
    | .ok .brk, z => exact z.elim
    | .ok .cont, z => exact z.elim
    | .error _, z => exact z.elim
  match ek : K.lookup a with
  | some o =>
    have same := KX a o ek
    rw [script] at same
    obtain rfl := Option.some.inj same
    exact main (fun _ => none) (fun _ _ z => nomatch z) (.inr ⟨_, vs.toArray, _, ek, rfl, rfl, rfl, by rw [List.size_toArray, sized]; exact few, by simpa using rel⟩)
  | none =>
    refine main (fun b => if b = a then some (.frz { cls := .type "list", data := .seq vs.toArray } (.lst (ns.map V.int))) else none) (fun b o z => ?_) (.inl (.inr ⟨_, if_pos rfl⟩))
    by_cases hb : b = a
    · exact ⟨hb, ek, (Option.some.inj ((if_pos hb).symm.trans z)).symm⟩
    · exact nomatch (if_neg hb).symm.trans z
end
/-- for the goal that head_any leaves -/
theorem law_walk {l : PySem.W.OpenLaw} {n k : Nat} {q : Program} {loose : List Str} {XP : (Str → Option PySem.Value) → Heap → Prop} {YP : World → Heap → Prop} {d : DefRec} {x : Str}
    (most : l.most = some n) (small : n ≤ sizeLine) (plain : d.params.defaults = []) (room : Room k callerA)
    (told : ∀ (w : World) (mg : Str → Option PySem.Value) (fa : Addr) (h : Heap), YP w h → h.Ns mainGlobals mg → mg d.name = some (.ref fa) →
      ∃ (K : PySem.W.Frag) (fd : FuncData) (sp : Sp), K.In h ∧ (∀ (s : Shared) (u : PySem.Value), BindsTo s fd ⟨[u], []⟩ [(x, u)]) ∧
        (∀ (H : Hp) (a : Addr) (ns : List Int), ns.length ≤ n → SqL K H a (ns.map V.int) → sp [.ref a] H (fun v _ => v = .bl true) E0) ∧
        ∀ base : Heap, K.In base → base.Ns mainGlobals mg → GOk l.prog w K mg base k fa fd [x] sp) :
    PySem.W.WalkO q loose XP YP l.row.toRowW d [] (fun f vs => PySem.call f vs) := by
  refine Att.attach_call most plain ?_
  intro w s₀ s₁ mg mb fa o pm cd doc a vs ns G Y ho hd hcd hmg script theInts few noGens
  obtain ⟨K, fd, sp, KX, bound, asks, FF⟩ := told w mg fa _ Y G.T.g hmg
  exact law_run KX G.T.g G.T.b G.T.builtins G.T.nolimit noGens script theInts (Nat.le_trans few small) room FF bound fun H z => asks H a ns few z
end Tr

set_option Elab.async false
set_option linter.all false
set_option maxRecDepth 100000
set_option maxHeartbeats 4000000
namespace Pen
open PySem PySem.Spec PyProof.Rows L2
/-! ### the pen: a dict of five names -/
def penK (l : Addr) (at_ dg ct fo : Int) : List (Key × V) := [(Sum.inr "cells", .ref l), (Sum.inr "at", .int at_), (Sum.inr "digits", .int dg), (Sum.inr "count", .int ct), (Sum.inr "fold", .int fo)]
section
variable {H : Hp} {p l : Addr} {a d c f z : Int}
theorem get_ {k : Str} {v : V} (e : valV (penK l a d c f) (Sum.inr k) = some v) (h : H p = some (.dK (penK l a d c f))) : DGet H p (.str k) (some v) := by
  have g := DGet.k (k := Sum.inr k) h
  rw [e] at g
  exact g
theorem put_ {k : Str} {v : V} {kvs : List (Key × V)} (e : putK (penK l a d c f) (Sum.inr k) v = kvs) (h : H p = some (.dK (penK l a d c f))) : DPut H p (.str k) v (upd H p (.dK kvs)) := by
  have g := DPut.k (k := Sum.inr k) (v := v) h (small1000 (by show 5 ≤ 1000; decide))
  rw [e] at g
  exact g
theorem gCells (h : H p = some (.dK (penK l a d c f))) : DGet H p (.str "cells") (some (.ref l)) := get_ (by kernel_rfl) h
theorem gAt (h : H p = some (.dK (penK l a d c f))) : DGet H p (.str "at") (some (.int a)) := get_ (by kernel_rfl) h
theorem gDigits (h : H p = some (.dK (penK l a d c f))) : DGet H p (.str "digits") (some (.int d)) := get_ (by kernel_rfl) h
theorem gCount (h : H p = some (.dK (penK l a d c f))) : DGet H p (.str "count") (some (.int c)) := get_ (by kernel_rfl) h
theorem gFold (h : H p = some (.dK (penK l a d c f))) : DGet H p (.str "fold") (some (.int f)) := get_ (by kernel_rfl) h
theorem pAt (h : H p = some (.dK (penK l a d c f))) : DPut H p (.str "at") (.int z) (upd H p (.dK (penK l z d c f))) := put_ (by kernel_rfl) h
theorem pDigits (h : H p = some (.dK (penK l a d c f))) : DPut H p (.str "digits") (.int z) (upd H p (.dK (penK l a z c f))) := put_ (by kernel_rfl) h
theorem pCount (h : H p = some (.dK (penK l a d c f))) : DPut H p (.str "count") (.int z) (upd H p (.dK (penK l a d z f))) := put_ (by kernel_rfl) h
theorem pFold (h : H p = some (.dK (penK l a d c f))) : DPut H p (.str "fold") (.int z) (upd H p (.dK (penK l a d c z))) := put_ (by kernel_rfl) h
end
/-- the pen at p with these fields -/
structure PenV (H : Hp) (p l : Addr) (cells : List Int) (a d c f : Int) : Prop where
  di : H p = some (.dK (penK l a d c f))
  li : H l = some (.lst (cells.map V.int))
  a0 : 0 ≤ a
  d0 : 0 ≤ d
  c0 : 0 ≤ c
  f0 : 0 ≤ f
  f1 : f < 2147483648
/-- a pen at p that was asked at most n times -/
def PenAt (H : Hp) (p : Addr) (n : Nat) : Prop := ∃ l cells a d c f, PenV H p l cells a d c f ∧ c ≤ n
/-- all that was tracked but p is as it was -/
def But (p : Addr) (H H' : Hp) : Prop := ∀ b o, H b = some o → b ≠ p → H' b = some o
theorem But.refl {p : Addr} {H : Hp} : But p H H := fun _ _ e _ => e
theorem But.trans {p : Addr} {H H1 H2 : Hp} (x : But p H H1) (y : But p H1 H2) : But p H H2 := fun b o e n => y b o (x b o e n) n
theorem But.upd {p : Addr} {H H1 : Hp} {o : HO} (x : But p H H1) : But p H (L2.upd H1 p o) := fun b u e n => by rw [upd_ne n]; exact x b u e n
theorem But.same {p : Addr} {H H1 : Hp} (x : Same H H1) : But p H H1 := fun b o e _ => x b o e
theorem PenV.keep {H H' : Hp} {p l : Addr} {cells : List Int} {a d c f : Int} (P : PenV H p l cells a d c f) (s : Same H H') : PenV H' p l cells a d c f := ⟨s _ _ P.di, s _ _ P.li, P.a0, P.d0, P.c0, P.f0, P.f1⟩
theorem PenAt.keep {H H' : Hp} {p : Addr} {n : Nat} (P : PenAt H p n) (s : Same H H') : PenAt H' p n := by
  obtain ⟨l, cells, a, d, c, f, P, h⟩ := P
  exact ⟨l, cells, a, d, c, f, P.keep s, h⟩
theorem PenAt.mono {H : Hp} {p : Addr} {n m : Nat} (P : PenAt H p n) (h : n ≤ m) : PenAt H p m := by
  obtain ⟨l, cells, a, d, c, f, P, h1⟩ := P
  exact ⟨l, cells, a, d, c, f, P, by omega⟩
theorem PenAt.is {H : Hp} {p : Addr} {n : Nat} (P : PenAt H p n) : ∃ kvs, H p = some (.dK kvs) := by
  obtain ⟨l, cells, a, d, c, f, P, _⟩ := P
  exact ⟨_, P.di⟩
/-- the pen with another dict -/
theorem PenV.set {H : Hp} {p l : Addr} {cells : List Int} {a d c f a' d' c' f' : Int} (P : PenV H p l cells a d c f) (a0 : 0 ≤ a') (d0 : 0 ≤ d') (c0 : 0 ≤ c') (f0 : 0 ≤ f') (f1 : f' < 2147483648) :
    PenV (upd H p (.dK (penK l a' d' c' f'))) p l cells a' d' c' f' :=
  ⟨upd_same, by rw [upd_ne (ne_of P.li P.di (by intro z; cases z))]; exact P.li, a0, d0, c0, f0, f1⟩
/-! ### promises -/
def spPen (K : PySem.W.Frag) : Sp := fun vs H Q _ => ∃ (a : Addr) (ns : List Int), vs = [.ref a] ∧ SqL K H a (ns.map V.int) ∧ ns.length ≤ 63 ∧ ∀ p H', PenAt H' p 0 → Same H H' → H p = none → Q (.ref p) H'
def spDraw : Sp := fun vs H Q _ => ∃ (p : Addr) (n : Nat) (m : Int), vs = [.ref p, .int m] ∧ PenAt H p n ∧ n ≤ 1000000 ∧ 1 ≤ m ∧ m < 1073741824 ∧
  ∀ r H', 0 ≤ r → r < m → PenAt H' p (n + 1) → But p H H' → Q (.int r) H'
def spPick (K : PySem.W.Frag) : Sp := fun vs H Q _ => ∃ (p s : Addr) (n : Nat) (xs : List V), vs = [.ref p, .ref s] ∧ PenAt H p n ∧ n ≤ 1000000 ∧ SqL K H s xs ∧ xs ≠ [] ∧ xs.length < 1073741824 ∧ s ≠ p ∧
  ∀ (i : Nat) v H', xs[i]? = some v → PenAt H' p (n + 1) → But p H H' → Q v H'
end Pen
namespace K0
open PySem PySem.Spec PyProof.Rows L2 Pen
/-! ### what the top's names hold -/
structure Txt (mg : Str → Option PySem.Value) : Prop where
  len : mg "len" = none
  int : mg "int" = none
  list : mg "list" = none
  range : mg "range" = none
  str : mg "str" = none
  repr : mg "repr" = none
  isi : mg "isinstance" = none
  ve : mg "ValueError" = none
abbrev FnP (K : PySem.W.Frag) (x : Str) (st : PySem.Stmt) (f : Addr) (fd : FuncData) : Prop := FunD K x x (defArgs st) (defBody st) (defScope st) [] [] f fd
section
variable {P : Program} {w : World} {K : PySem.W.Frag} {mg : Str → Option PySem.Value} {base : Heap} {f : Addr} {fd : FuncData}
theorem scPen : FnScope ["_law_script", "_law_fold", "_law_cell"] ["_law_script"] (defScope sPen) := ⟨rfl, rfl, rfl, by decide +kernel, rfl, by decide +kernel, by decide +kernel⟩
theorem ok_pen (F : FnP K "_law_pen" sPen f fd) (T : Txt mg) : FnOk P w K mg base CX0 1 f fd ["_law_script"] (spPen K) := by
  refine F.ok scPen (fun vs H Q E h => ?_) (fun cdv A outer s H vs Q E hr h => ?_)
  · obtain ⟨a, ns, rfl, _⟩ := h
    rfl
  · obtain ⟨a, ns, rfl, hS, hl, k⟩ := h
    have nd := scPen.nd
    suffices z : ∃ t, PSs (cxOf CX0 P w K mg base ["_law_script", "_law_fold", "_law_cell"] "_law_pen" (defScope sPen) f cdv A outer s H E).nox (defBody sPen) t ∧ t { nx := fun _ H' => Q .non H', rt := Q } (start ["_law_script", "_law_fold", "_law_cell"] [.ref a]) H by
      obtain ⟨t, h1, h2⟩ := z
      exact ⟨t, h1.nox, h2⟩
    refine ⟨_, pss_cons (ps_set (i := 1) nd rfl (.inl rfl) pe_int)
      (pss_cons (ps_for PassesOwn.never rfl (pi_list (pv 0)) (pg_name (i := 2) nd rfl (.inl rfl))
        (pss_one (ps_set (i := 1) nd rfl (.inl rfl) (pe_op op_mod (pe_callTy call_int1 (by rfl) T.int (by decide +kernel) (pa_cons (pe_op op_add (pe_op op_mul (pv 1) pe_int) (pv 2)) pa_nil)) pe_int))))
      (pss_one (ps_ret (pe_disp (pps_cons pe_str (pe_callTy call_list_of (by rfl) T.list (by decide +kernel) (pa_cons (pv 0) pa_nil)) (pps_cons pe_str pe_int (pps_cons pe_str pe_int (pps_cons pe_str pe_int (pps_cons pe_str (pv 1) pps_nil)))))
        rfl rfl (by intro z; cases z) (by decide))))), ?_⟩
    refine ⟨_, rfl, a, rfl, ⟨_, hS⟩, for_list (K := K) (a := a) (xs := ns.map V.int) (fun i σ H2 => ∃ (fo : Int) (v : Option V), σ = [some (.ref a), some (.int fo), v] ∧ H2 = H ∧ 0 ≤ fo ∧ fo < 1000000007)
      ⟨0, none, rfl, rfl, by decide, by decide⟩ (fun i σ H2 _ ⟨_, _, _, e, _⟩ => by rw [e]; exact hS) ?_ ?_⟩
    · rintro i y σ H2 hi ⟨fo, v, rfl, rfl, f0, f1⟩
      obtain ⟨z, _, rfl⟩ : ∃ z, ns[i]? = some z ∧ V.int z = y := by
        rw [List.getElem?_map] at hi
        exact Option.map_eq_some_iff.mp hi
      refine ⟨_, rfl, _, _, rfl, rfl, .inr ⟨by decide, by decide⟩, _, rfl, _, _, rfl, rfl, .inl ⟨_, rfl, _, _, rfl, rfl, (by show (0 : Int) < 1000000007; decide), ?_⟩⟩
      exact ⟨(fo * 41 + z) % 1000000007, _, rfl, rfl, Int.emod_nonneg _ (by decide), Int.emod_lt_of_pos _ (by decide)⟩
    · rintro σ H2 ⟨fo, v, rfl, rfl, f0, f1⟩
      intro p hp
      refine ⟨_, rfl, a, _, rfl, .inl (Same.seq (fun b o e => by rw [upd_ne (ne_of_none e hp)]; exact e) hS), fun l hl => ?_⟩
      have nlp : p ≠ l := ne_of_none (upd_same (H := H2) (a := p)) hl
      have hl2 : H2 l = none := by rw [← hl, upd_ne nlp.symm]
      refine ⟨_, rfl, ?_⟩
      refine ⟨(by rw [upd_ne nlp]; exact upd_same), penK l 0 0 0 fo, rfl, (by show 5 ≤ 15; decide), ?_⟩
      have e0 : mergeK [] (penK l 0 0 0 fo) = penK l 0 0 0 fo := by kernel_rfl
      rw [e0]
      refine k p _ ⟨l, ns, 0, 0, 0, fo, ⟨upd_same, by rw [upd_ne nlp.symm, upd_same], by decide, by decide, by decide, f0, by omega⟩, by decide⟩ (fun b o e => ?_) hp
      rw [upd_ne (ne_of_none e hp), upd_ne (ne_of_none e hl2), upd_ne (ne_of_none e hp)]
      exact e
end
end K0

set_option Elab.async false
set_option linter.all false
set_option maxRecDepth 100000
set_option maxHeartbeats 4000000
namespace K0
open PySem PySem.Spec PyProof.Rows L2 Pen
section
variable {P : Program} {w : World} {K : PySem.W.Frag} {mg : Str → Option PySem.Value} {base : Heap} {f : Addr} {fd : FuncData}
abbrev nDraw : List Str := ["_law_pen_here", "_law_many", "_law_cell", "_law_digit", "_law_blend"]
theorem scDraw : FnScope nDraw ["_law_pen_here", "_law_many"] (defScope sDraw) := ⟨rfl, rfl, rfl, by decide +kernel, rfl, by decide +kernel, by decide +kernel⟩
theorem ok_draw (F : FnP K "_law_draw" sDraw f fd) (T : Txt mg) : FnOk P w K mg base CX0 1 f fd ["_law_pen_here", "_law_many"] spDraw := by
  refine F.ok scDraw (fun vs H Q E h => ?_) (fun cdv A outer s H vs Q E hr h => ?_)
  · obtain ⟨a, ns, _, rfl, _⟩ := h
    rfl
  · obtain ⟨p, n, m, rfl, ⟨l, cells, at_, dg, ct, fo, PV, cn⟩, hn, m1, m2, k⟩ := h
    have nd := scDraw.nd
    have hu := hu_of hr
    suffices z : ∃ t, PSs (cxOf CX0 P w K mg base nDraw "_law_draw" (defScope sDraw) f cdv A outer s H E).nox (defBody sDraw) t ∧ t { nx := fun _ H' => Q .non H', rt := Q } (start nDraw [.ref p, .int m]) H by
      obtain ⟨t, h1, h2⟩ := z
      exact ⟨t, h1.nox, h2⟩
    refine ⟨_, pss_cons (ps_dput hu (pv 0) pe_str (pe_op op_add (pe_dget hu (pv 0) pe_str (fun _ _ => rfl)) pe_int) rfl)
      (C8.pss_cut (ps_if (PW.pt (pw_and (pt_cmpR op_eq (pe_dget hu (pv 0) pe_str (fun _ _ => rfl)) pe_int (nomark _))
          (pw_and1 (pt_cmpR op_lt (pe_dget hu (pv 0) pe_str (fun _ _ => rfl)) (pe_callB call_len_seq (by rfl) T.len PySem.boot_len (pa_cons (pe_dget hu (pv 0) pe_str (fun _ _ => rfl)) pa_nil)) (nomark _)))))
        (pss_cons (ps_set (i := 2) nd rfl (.inl rfl) (pe_ix ix_list (pe_dget hu (pv 0) pe_str (fun _ _ => rfl)) (pe_dget hu (pv 0) pe_str (fun _ _ => rfl)) (fun _ _ => rfl)))
        (pss_cons (ps_dput hu (pv 0) pe_str (pe_op op_add (pe_dget hu (pv 0) pe_str (fun _ _ => rfl)) pe_int) rfl)
        (pss_one (ps_if (pt_cmpR op_ge (pv 2) (pe_op op_pow pe_int pe_int) (nomark _))
          (pss_one (ps_dput hu (pv 0) pe_str (pe_op op_sub (pv 2) (pe_op op_pow pe_int pe_int)) rfl))
          (pss_one (ps_dput hu (pv 0) pe_str (pe_op op_mod (pe_callTy call_int1 (by rfl) T.int (by decide +kernel) (pa_cons (pe_op op_add (pe_op op_mul (pe_dget hu (pv 0) pe_str (fun _ _ => rfl)) pe_int) (pv 2)) pa_nil)) pe_int) rfl))))))
        pss_nil)
      (pss_cons (ps_if (pt_cmpR op_gt (pe_dget hu (pv 0) pe_str (fun _ _ => rfl)) pe_int (nomark _))
        (pss_cons (ps_set (i := 3) nd rfl (.inl rfl) (pe_op op_mod (pe_callTy call_int1 (by rfl) T.int (by decide +kernel) (pa_cons (pe_dget hu (pv 0) pe_str (fun _ _ => rfl)) pa_nil)) (pv 1)))
        (pss_cons (ps_dput hu (pv 0) pe_str (pe_op op_fdiv (pe_dget hu (pv 0) pe_str (fun _ _ => rfl)) (pv 1)) rfl)
        (pss_one (ps_ret (pv 3)))))
        pss_nil)
      (pss_cons (ps_set (i := 4) nd rfl (.inl rfl) (pe_op op_add (pe_op op_add (pe_dget hu (pv 0) pe_str (fun _ _ => rfl)) (pe_op op_mul (pe_dget hu (pv 0) pe_str (fun _ _ => rfl)) pe_int)) pe_int))
      (pss_one (ps_ret (pe_op op_mod (pe_op op_fdiv (pe_callTy call_int1 (by rfl) T.int (by decide +kernel) (pa_cons (pe_op op_mod (pe_op op_pow (pv 4) pe_int) pe_int) pa_nil)) pe_int) (pv 1))))))), ?_⟩
    -- count
    refine ⟨_, rfl, p, _, rfl, gCount PV.di, _, _, rfl, rfl, _, rfl, p, _, rfl, pCount PV.di, ?_⟩
    have P1 := PV.set (c' := ct + 1) PV.a0 PV.d0 (by have := PV.c0; omega) PV.f0 PV.f1
    -- behind the draw of a cell
    refine ⟨fun σ H2 => ∃ (v : Option V) (a d f : Int), σ = [some (.ref p), some (.int m), v, none, none] ∧ PenV H2 p l cells a d (ct + 1) f ∧ But p H H2, ?_, ?_⟩
    · refine ⟨_, rfl, p, _, rfl, gDigits P1.di, rfl, _, rfl, ?_⟩
      by_cases hd : dg = 0
      · subst hd
        refine iteT ⟨_, rfl, p, _, rfl, gAt P1.di, _, rfl, p, _, rfl, gCells P1.di, l, _, rfl, .inl (.of P1.li), _, _, rfl, rfl, _, rfl, ?_⟩
        by_cases hlt : at_ < ((cells.map V.int).length : Int)
        · rw [decide_eq_true hlt]
          refine iteT ?_
          have a0 := PV.a0
          have hlt2 : at_.toNat < cells.length := by
            rw [List.length_map] at hlt
            omega
          obtain ⟨z, item⟩ : ∃ z, L2.atI (cells.map V.int) at_ = some (.int z) := by
            obtain ⟨i, rfl⟩ : ∃ i : Nat, at_ = (i : Int) := ⟨at_.toNat, by omega⟩
            exact ⟨cells[i]'hlt2, atI_nat (by rw [List.getElem?_map, List.getElem?_eq_getElem (show i < cells.length from hlt2)] <;> rfl)⟩
          refine ⟨_, rfl, p, _, rfl, gCells P1.di, _, rfl, p, _, rfl, gAt P1.di, l, _, _, _, rfl, rfl, .of P1.li, item, ?_⟩
          refine ⟨_, rfl, p, _, rfl, gAt P1.di, _, _, rfl, rfl, _, rfl, p, _, rfl, pAt P1.di, ?_⟩
          have P2 := P1.set (a' := at_ + 1) (by omega) P1.d0 P1.c0 P1.f0 P1.f1
          refine ⟨_, rfl, _, _, rfl, rfl, ⟨by decide, by decide, by decide⟩, _, _, rfl, rfl, _, rfl, ?_⟩
          refine ite2 (fun hbig => ?_) (fun _ => ?_)
          · refine ⟨_, rfl, _, _, rfl, rfl, ⟨by decide, by decide, by decide⟩, _, _, rfl, rfl, _, rfl, p, _, rfl, pDigits P2.di, ?_⟩
            have big := of_decide_eq_true hbig
            exact ⟨_, _, _, _, rfl, P2.set P2.a0 (by omega) P2.c0 P2.f0 P2.f1, But.refl.upd.upd.upd⟩
          · refine ⟨_, rfl, p, _, rfl, gFold P2.di, _, _, rfl, rfl, .inr ⟨by decide, by decide⟩, _, rfl, _, _, rfl, rfl, .inl ⟨_, rfl, _, _, rfl, rfl, (by show (0 : Int) < 2147483587; decide), _, rfl, p, _, rfl, pFold P2.di, ?_⟩⟩
            exact ⟨_, _, _, _, rfl, P2.set P2.a0 P2.d0 P2.c0 (Int.emod_nonneg _ (by decide)) (by have := Int.emod_lt_of_pos (fo * 69069 + z) (show (0 : Int) < 2147483587 by decide); omega), But.refl.upd.upd.upd⟩
        · rw [decide_eq_false hlt]
          exact iteF ⟨_, _, _, _, rfl, P1, But.refl.upd⟩
      · have e : decide (V.int dg = V.int 0) = false := decide_eq_false (fun z => hd (by injection z))
        rw [e]
        exact iteF ⟨_, _, _, _, rfl, P1, But.refl.upd⟩
    · rintro σ H2 ⟨v, a, d, f, rfl, P2, b2⟩
      refine ⟨_, rfl, p, _, rfl, gDigits P2.di, _, _, rfl, rfl, _, rfl, ?_⟩
      refine ite2 (fun hpos => ?_) (fun _ => ?_)
      · have pos := of_decide_eq_true hpos
        refine ⟨_, rfl, p, _, rfl, gDigits P2.di, .inl ⟨_, rfl, _, rfl, _, _, rfl, rfl, (by omega), ?_⟩⟩
        refine ⟨_, rfl, p, _, rfl, gDigits P2.di, _, rfl, _, _, rfl, rfl, ⟨by omega, m2⟩, _, rfl, p, _, rfl, pDigits P2.di, ?_⟩
        refine ⟨_, rfl, ?_⟩
        refine k _ _ (Int.emod_nonneg _ (by omega)) (Int.emod_lt_of_pos _ (by omega)) ⟨l, cells, _, _, _, _, P2.set P2.a0 (Int.ediv_nonneg P2.d0 (by omega)) P2.c0 P2.f0 P2.f1, by omega⟩ b2.upd
      · have c0 := P2.c0
        have f0 := P2.f0
        have f1 := P2.f1
        refine ⟨_, rfl, p, _, rfl, gFold P2.di, _, rfl, p, _, rfl, gCount P2.di, _, _, rfl, rfl, .inr ⟨by decide, by decide⟩, _, _, rfl, rfl, _, _, rfl, rfl, ?_⟩
        refine ⟨_, rfl, _, _, rfl, rfl, ⟨by decide, by decide, by omega⟩, _, _, rfl, rfl, (by show (0 : Int) < 2305843009213693951; decide), .inl ⟨_, rfl, _, _, rfl, rfl, ⟨by decide, by decide⟩, _, rfl, _, _, rfl, rfl, (by omega), ?_⟩⟩
        exact k _ _ (Int.emod_nonneg _ (by omega)) (Int.emod_lt_of_pos _ (by omega)) ⟨l, cells, _, _, _, _, P2, by omega⟩ b2
end
end K0

set_option Elab.async false
set_option linter.all false
set_option maxRecDepth 100000
set_option maxHeartbeats 4000000
namespace Pen
open PySem PySem.Spec PyProof.Rows L2
theorem But.seq {K : PySem.W.Frag} {p a : Addr} {H H' : Hp} {xs : List V} (s : But p H H') (n : a ≠ p) (h : SqL K H a xs) : SqL K H' a xs := by
  rcases h with (h | ⟨o, h⟩) | h
  · exact .inl (.inl (s _ _ h n))
  · exact .inl (.inr ⟨o, s _ _ h n⟩)
  · exact .inr h
theorem But.seqT {K : PySem.W.Frag} {p a : Addr} {H H' : Hp} {xs : List V} (s : But p H H') (n : a ≠ p) (h : SqT K H a xs) : SqT K H' a xs := by
  rcases h with (h | ⟨o, h⟩) | h
  · exact .inl (.inl (s _ _ h n))
  · exact .inl (.inr ⟨o, s _ _ h n⟩)
  · exact .inr h
/-! ### digits -/
theorem dv_lt : ∀ (cs : List Nat) (a : Nat), NumText.AllDigits cs → cs.foldl (fun acc c => acc * 10 + (c - 48)) a < (a + 1) * 10 ^ cs.length
  | [], a, _ => by
    show a < (a + 1) * 10 ^ 0
    omega
  | c :: cs, a, h => by
    have h0 := h.head
    have z := dv_lt cs (a * 10 + (c - 48)) h.tail
    show cs.foldl (fun acc c => acc * 10 + (c - 48)) (a * 10 + (c - 48)) < (a + 1) * 10 ^ (cs.length + 1)
    have e : (a + 1) * 10 ^ (cs.length + 1) = (a * 10 + 10) * 10 ^ cs.length := by
      rw [Nat.pow_succ, Nat.mul_comm (10 ^ cs.length) 10, ← Nat.mul_assoc]
      have : (a + 1) * 10 = a * 10 + 10 := by omega
      rw [this]
    rw [e]
    refine Nat.lt_of_lt_of_le z (Nat.mul_le_mul_right _ ?_)
    omega
/-- the last fg figures of a number, read back -/
theorem cut_num (n fg : Nat) (h1 : 1 ≤ fg) (short : (TL.numL n).length ≤ 640) :
    ∃ z : Nat, PySem.intText? (cutS (Str.ofString (toString (n : Int))) (some (-(fg : Int))) none) = some (z : Int) ∧ z < 10 ^ fg ∧ (cutS (Str.ofString (toString (n : Int))) (some (-(fg : Int))) none).length ≤ 640 := by
  have hd : (Str.ofString (toString (n : Int))).cps.toList = TL.numL n := TL.tl_num n
  have hlen : (Str.ofString (toString (n : Int))).length = (TL.numL n).length := by
    show (Str.ofString (toString (n : Int))).cps.size = _
    rw [← Array.length_toList, hd]
  have hne : 0 < (TL.numL n).length := List.length_pos_iff.mpr (TL.numL_ne n)
  have shape : cutS (Str.ofString (toString (n : Int))) (some (-(fg : Int))) none = SX.S ((TL.numL n).drop ((TL.numL n).length - fg)) := by
    unfold cutS
    rw [hd, hlen]
    have e1 : HT.sIx (TL.numL n).length 0 (some (-(fg : Int))) = (TL.numL n).length - fg := by
      show (if (-(fg : Int)) < 0 then ((-(fg : Int)) + ((TL.numL n).length : Int)).toNat else _) = _
      rw [if_pos (by omega)]
      omega
    have e2 : HT.sIx (TL.numL n).length (TL.numL n).length none = (TL.numL n).length := rfl
    rw [e1, e2, List.take_of_length_le (by rw [List.length_drop]; omega)]
  have dl : ((TL.numL n).drop ((TL.numL n).length - fg)).length ≤ fg := by rw [List.length_drop]; omega
  have dg : NumText.AllDigits ((TL.numL n).drop ((TL.numL n).length - fg)) := fun c hc => TL.numL_digits n c (List.mem_of_mem_drop hc)
  rw [shape]
  refine ⟨NumText.digitsVal ((TL.numL n).drop ((TL.numL n).length - fg)), SX.int_S ?_ ?_ ?_, ?_, ?_⟩
  · refine List.all_eq_true.mpr fun c hc => ?_
    obtain ⟨a, b⟩ := dg c hc
    rw [decide_eq_true a, decide_eq_true b] <;> rfl
  · intro e
    have := congrArg List.length e
    rw [List.length_drop] at this
    simp at this
    omega
  · rw [List.length_drop]
    omega
  · have z := dv_lt _ 0 dg
    refine Nat.lt_of_lt_of_le z ?_
    rw [Nat.zero_add, Nat.one_mul]
    exact Nat.pow_le_pow_right (by decide) dl
  · rw [SX.S_len, List.length_drop]
    omega
/-- _law_big: a number of at most fg figures -/
def spBig : Sp := fun vs H Q _ => ∃ (p : Addr) (n fg : Nat), vs = [.ref p, .int fg] ∧ PenAt H p n ∧ n ≤ 900000 ∧ 1 ≤ fg ∧ fg ≤ 500 ∧
  ∀ (z : Nat) H', z < 10 ^ fg → PenAt H' p (n + 1 + (fg + 3)) → But p H H' → Q (.int z) H'
end Pen
namespace K0
open PySem PySem.Spec PyProof.Rows L2 Pen
section
variable {P : Program} {w : World} {K : PySem.W.Frag} {mg : Str → Option PySem.Value} {base : Heap} {f fD fP : Addr} {fd fdD fdP : FuncData}
theorem scPick : FnScope ["_law_pen_here", "_law_some"] ["_law_pen_here", "_law_some"] (defScope sPick) := ⟨rfl, rfl, rfl, by decide +kernel, rfl, by decide +kernel, by decide +kernel⟩
theorem ok_pick (F : FnP K "_law_pick" sPick f fd) (T : Txt mg) (FD : FnP K "_law_draw" sDraw fD fdD) (gD : mg "_law_draw" = some (.ref fD)) : FnOk P w K mg base CX0 2 f fd ["_law_pen_here", "_law_some"] (spPick K) := by
  have GD : FnOk P w K mg base CX0 1 fD fdD ["_law_pen_here", "_law_many"] spDraw := ok_draw FD T
  have bD : Binds K fdD ["_law_pen_here", "_law_many"] [] := FD.bindsN fun _ _ _ _ _ _ us hl => match us, hl with | [_, _], _ => rfl
  refine F.ok scPick (fun vs H Q E h => ?_) (fun cdv A outer s H vs Q E hr h => ?_)
  · obtain ⟨_, _, _, _, rfl, _⟩ := h
    rfl
  · obtain ⟨p, a, n, xs, rfl, PA, hn, hS, ne, many, nap, k⟩ := h
    suffices z : ∃ t, PSs (cxOf CX0 P w K mg base ["_law_pen_here", "_law_some"] "_law_pick" (defScope sPick) f cdv A outer s H E).nox (defBody sPick) t ∧ t { nx := fun _ H' => Q .non H', rt := Q } (start ["_law_pen_here", "_law_some"] [.ref p, .ref a]) H by
      obtain ⟨t, h1, h2⟩ := z
      exact ⟨t, h1.nox, h2⟩
    refine ⟨_, pss_one (ps_ret (pe_ix ix_list (pv 1) (pe_call GD hr (by rfl) gD FD.kp bD .nil pass0 (pa_cons (pv 0) (pa_cons (pe_callB call_len_seq (by rfl) T.len PySem.boot_len (pa_cons (pv 1) pa_nil)) pa_nil))) (fun _ _ => rfl))), ?_⟩
    have pos : 0 < xs.length := List.length_pos_iff.mpr ne
    refine ⟨_, rfl, _, rfl, _, rfl, a, xs, rfl, .inl hS, p, n, _, rfl, PA, hn, by omega, by omega, fun r H' r0 r1 PA' but => ?_⟩
    obtain ⟨i, rfl⟩ : ∃ i : Nat, r = (i : Int) := ⟨r.toNat, by omega⟩
    have hi : i < xs.length := by omega
    exact ⟨a, xs, _, _, rfl, rfl, but.seq nap hS, atI_nat (List.getElem?_eq_getElem hi), k i _ H' (List.getElem?_eq_getElem hi) PA' but⟩
abbrev nBig : List Str := ["_law_pen_here", "_law_figures", "_law_total", "_law_k"]
theorem scBig : FnScope nBig ["_law_pen_here", "_law_figures"] (defScope sBig) := ⟨rfl, rfl, rfl, by decide +kernel, rfl, by decide +kernel, by decide +kernel⟩
theorem ok_big (F : FnP K "_law_big" sBig f fd) (T : Txt mg) (FD : FnP K "_law_draw" sDraw fD fdD) (gD : mg "_law_draw" = some (.ref fD)) (FP : FnP K "_law_pick" sPick fP fdP) (gP : mg "_law_pick" = some (.ref fP)) :
    FnOk P w K mg base CX0 3 f fd ["_law_pen_here", "_law_figures"] spBig := by
  have GD : FnOk P w K mg base CX0 1 fD fdD ["_law_pen_here", "_law_many"] spDraw := ok_draw FD T
  have bD : Binds K fdD ["_law_pen_here", "_law_many"] [] := FD.bindsN fun _ _ _ _ _ _ us hl => match us, hl with | [_, _], _ => rfl
  have GP : FnOk P w K mg base CX0 2 fP fdP ["_law_pen_here", "_law_some"] (spPick K) := ok_pick FP T FD gD
  have bP : Binds K fdP ["_law_pen_here", "_law_some"] [] := FP.bindsN fun _ _ _ _ _ _ us hl => match us, hl with | [_, _], _ => rfl
  refine F.ok scBig (fun vs H Q E h => ?_) (fun cdv A outer s H vs Q E hr h => ?_)
  · obtain ⟨_, _, _, rfl, _⟩ := h
    rfl
  · obtain ⟨p, n, fg, rfl, PA, hn, fg1, fg2, k⟩ := h
    have nd := scBig.nd
    have hr1 : Room 1 _ := hr.mono (by decide)
    suffices z : ∃ t, PSs (cxOf CX0 P w K mg base nBig "_law_big" (defScope sBig) f cdv A outer s H E).nox (defBody sBig) t ∧ t { nx := fun _ H' => Q .non H', rt := Q } (start nBig [.ref p, .int fg]) H by
      obtain ⟨t, h1, h2⟩ := z
      exact ⟨t, h1.nox, h2⟩
    refine ⟨_, pss_cons (ps_set (i := 2) nd rfl (.inl rfl) pe_int)
      (pss_cons (ps_for PassesOwn.never rfl (pi_range1 (by rfl) T.range (pa_cons (pe_call GP hr (by rfl) gP FP.kp bP .nil pass0 (pa_cons (pv 0) (pa_cons (pe_lst (pa_cons pe_int (pa_cons pe_int (pa_cons pe_int (pa_cons pe_int (pa_cons pe_int
          (pa_cons (pe_op op_fdiv (pe_op op_add (pv 1) pe_int) pe_int) pa_nil))))))) pa_nil))) pa_nil)) (pg_name (i := 3) nd rfl (.inl rfl))
        (pss_one (ps_set (i := 2) nd rfl (.inl rfl) (pe_op op_add (pe_op op_mul (pv 2) pe_int) (pe_call GD hr1 (by rfl) gD FD.kp bD .nil pass0 (pa_cons (pv 0) (pa_cons pe_int pa_nil)))))))
      (pss_one (ps_ret (pe_callTy call_int_str (by rfl) T.int (by decide +kernel) (pa_cons (pe_slice sl_str (pe_callTy call_str_int (by rfl) T.str (by decide +kernel) (pa_cons (pv 2) pa_nil)) (po_some (pe_un un_neg (pv 1))) po_none) pa_nil))))), ?_⟩
    obtain ⟨kv0, isD⟩ := PA.is
    refine ⟨_, rfl, _, rfl, _, _, rfl, rfl, _, _, rfl, rfl, ⟨by decide, by decide⟩, (by show 6 ≤ sizeLine; decide), fun l hl => ?_⟩
    have nlp : l ≠ p := (ne_of_none isD hl).symm
    have s0 : Same H (upd H l (.lst [.int 1, .int 1, .int 1, .int 2, .int 3, .int ((fg + 2) / 3)])) := fun b o e => by rw [upd_ne (ne_of_none e hl)]; exact e
    refine ⟨p, l, n, _, rfl, PA.keep s0, by omega, .of upd_same, (by intro z; cases z), (by show 6 < 1073741824; decide), nlp, fun i v H1 hv PA1 b1 => ?_⟩
    obtain ⟨j, rfl, j1⟩ : ∃ j : Nat, v = .int j ∧ j ≤ fg + 2 ∧ j ≤ 167 := by
      have hm := List.mem_of_getElem? hv
      simp only [List.mem_cons, List.not_mem_nil, or_false] at hm
      rcases hm with h | h | h | h | h | h
      · exact ⟨1, h, by omega⟩
      · exact ⟨1, h, by omega⟩
      · exact ⟨1, h, by omega⟩
      · exact ⟨2, h, by omega⟩
      · exact ⟨3, h, by omega⟩
      · exact ⟨(fg + 2) / 3, by rw [h]; congr 1, by omega⟩
    refine ⟨_, rfl, by omega, by omega, for_range (lo := 0) (n := (j : Int).toNat) (fun i σ H2 => ∃ (tot : Nat) (v : Option V), σ = [some (.ref p), some (.int fg), some (.int tot), v] ∧ tot < 1000 ^ i ∧ PenAt H2 p (n + 1 + i) ∧ But p H H2)
      ⟨0, none, rfl, by decide, PA1, (But.same s0).trans b1⟩ ?_ ?_⟩
    · rintro i σ H2 hi ⟨tot, v, rfl, ht, PA2, b2⟩
      refine ⟨_, rfl, _, _, rfl, rfl, .inr ⟨by decide, by decide⟩, _, rfl, p, n + 1 + i, 1000, rfl, PA2, by omega, by decide, by decide, fun r H3 r0 r1 PA3 b3 => ?_⟩
      refine ⟨_, _, rfl, rfl, ?_⟩
      refine ⟨tot * 1000 + r.toNat, some (.int (0 + (i : Nat))), ?_, ?_, PA3, b2.trans b3⟩
      · have e : ((tot * 1000 + r.toNat : Nat) : Int) = (tot : Int) * 1000 + r := by omega
        rw [e]
        rfl
      · rw [Nat.pow_succ]
        omega
    · rintro σ H2 ⟨tot, v, rfl, ht, PA2, b2⟩
      have jn : (j : Int).toNat = j := Int.toNat_natCast j
      rw [jn] at ht PA2
      have ht2 : tot < 10 ^ 501 := by
        refine Nat.lt_of_lt_of_le ht ?_
        have e : (1000 : Nat) ^ j = 10 ^ (3 * j) := by rw [Nat.pow_mul]
        rw [e]
        exact Nat.pow_le_pow_right (by decide) (by omega)
      have hlog : (tot : Int).natAbs.log2 < 1920 := by
        rw [Int.natAbs_natCast]
        by_cases h0 : tot = 0
        · rw [h0]
          decide
        · exact (Nat.log2_lt h0).mpr (Nat.lt_of_lt_of_le ht2 (by decide +kernel))
      have hlen : (TL.numL tot).length ≤ 501 := TL.numL_len (by decide) ht2
      obtain ⟨z, hz, hz2, hz3⟩ := cut_num tot fg fg1 (by omega)
      refine ⟨_, rfl, tot, rfl, hlog, _, rfl, _, rfl, _, rfl, _, rfl, ?_, _, _, rfl, hz, hz3, k z H2 hz2 (PA2.mono (by omega)) b2⟩
      show (Str.ofString (toString (tot : Int))).cps.size ≤ sizeLine
      rw [← Array.length_toList, show (Str.ofString (toString (tot : Int))).cps.toList = TL.numL tot from TL.tl_num tot, sizeLine_eq]
      omega
end
end K0

set_option Elab.async false
set_option linter.all false
set_option maxRecDepth 100000
set_option maxHeartbeats 4000000
namespace Tr
open PySem PySem.Spec PyProof.Rows L2 Pen
/-! ### what __init__ of an own error bears: each parameter stored under its name -/
def spI (C : Addr) (fs : List Str) : Sp := fun vs H Q _ => ∃ (a : Addr) (ws : List V), vs = .ref a :: ws ∧ ws.length = fs.length ∧ H a = some (exo a C none) ∧
  ∀ H', XoAt H' a C (if fs.isEmpty then none else some (fs.zip ws).reverse) → But a H H' → Q .non H'
theorem spI_len {C : Addr} {fs : List Str} {vs : List V} {H : Hp} {Q : VK} {E : XK} (h : spI C fs vs H Q E) : vs.length = (("self" : Str) :: fs).length := by
  obtain ⟨a, ws, rfl, hl, _⟩ := h
  exact congrArg Nat.succ hl
theorem XoAt.keep {H H' : Hp} {a C : Addr} {fs : Option (List (Str × V))} (x : XoAt H a C fs) (s : Same H H') : XoAt H' a C fs := by
  cases fs with
  | none => exact s _ _ x
  | some l =>
    obtain ⟨d, e1, e2⟩ := x
    exact ⟨d, s _ _ e1, s _ _ e2⟩
theorem same_new {H H1 : Hp} {a : Addr} {o : HO} (n : H a = none) (b : But a (upd H a o) H1) : Same H H1 := fun c u e => by
  have ne := ne_of_none e n
  exact b c u (by rw [upd_ne ne]; exact e) ne
/-- the first field -/
theorem xo_first {H : Hp} {a C d : Addr} {f : Str} {v : V} (hd : H d = none) (hne : d ≠ a) : XoAt (upd (upd H d (exd d [(f, v)])) a (exo a C (some d))) a C (some [(f, v)]) :=
  ⟨d, upd_same, by rw [upd_ne hne, upd_same]⟩
theorem but_first {H : Hp} {a C d : Addr} {f : Str} {v : V} (hd : H d = none) : But a H (upd (upd H d (exd d [(f, v)])) a (exo a C (some d))) := fun b o e n => by
  rw [upd_ne n, upd_ne (ne_of_none e hd)]
  exact e
/-- a class of errors, all that a body asks -/
structure Er (P : Program) (w : World) (K : PySem.W.Frag) (mg : Str → Option PySem.Value) (base : Heap) (x : Str) (C : Addr) (fs : List Str) : Prop where
  t : Xc K C
  no : ∀ f ∈ fs, PySem.W.findIn K (.ref C) f = some none
  mgx : mg x = some (.ref C)
  ini : ∃ fI fd, PySem.W.findIn K (.ref C) "__init__" = some (some (.ref fI)) ∧ PySem.W.typeIn K (.ref fI) = some (.type "function") ∧ FnOk P w K mg base CX0 1 fI fd ("self" :: fs) (spI C fs) ∧ L2.Binds K fd ("self" :: fs) []
end Tr
namespace K0
open PySem PySem.Spec PyProof.Rows L2 Pen Tr
abbrev FnI (K : PySem.W.Frag) (q : Str) (i : Nat) (f : Addr) (fd : FuncData) : Prop := FunD K "__init__" q (defArgs (inClass (top i) 0)) (defBody (inClass (top i) 0)) (defScope (inClass (top i) 0)) [] [] f fd
section
variable {P : Program} {w : World} {K : PySem.W.Frag} {mg : Str → Option PySem.Value} {base : Heap} {f C : Addr} {fd : FuncData}

theorem sc_BadName : FnScope ["self", "name"] ["self", "name"] (defScope (inClass (top 4) 0)) := ⟨rfl, rfl, rfl, by decide +kernel, rfl, by decide +kernel, by decide +kernel⟩
theorem ok_BadName (F : FnI K "BadName.__init__" 4 f fd) (T : Xc K C) (no : ∀ y ∈ (["name"] : List Str), PySem.W.findIn K (.ref C) y = some none) : FnOk P w K mg base CX0 1 f fd ["self", "name"] (spI C ["name"]) := by
  refine F.ok sc_BadName (fun vs H Q E h => spI_len h) (fun cdv A outer s H vs Q E hr h => ?_)
  obtain ⟨a, ws, rfl, hl, ha, k⟩ := h
  obtain ⟨v0, rfl⟩ : ∃ v0, ws = [v0] := by
    match ws, hl with
    | [v0], _ => exact ⟨v0, rfl⟩
  suffices z : ∃ t, PSs (cxOf CX0 P w K mg base ["self", "name"] "BadName.__init__" (defScope (inClass (top 4) 0)) f cdv A outer s H E).nox (defBody (inClass (top 4) 0)) t ∧ t { nx := fun _ H' => Q .non H', rt := Q } (start ["self", "name"] [.ref a, v0]) H by
    obtain ⟨t, h1, h2⟩ := z
    exact ⟨t, h1.nox, h2⟩
  refine ⟨_, pss_one (ps_ost (pv 0) (pv 1)), ?_⟩
  refine ⟨_, rfl, _, rfl, a, C, rfl, T.o, no _ (by simp), .inl ⟨ha, fun d hd hne => ?_⟩⟩
  have X1 := xo_first (C := C) (f := "name") (v := v0) hd hne
  have B1 := but_first (a := a) (C := C) (f := "name") (v := v0) hd
  exact k _ X1 B1
theorem sc_BadTile : FnScope ["self", "tile"] ["self", "tile"] (defScope (inClass (top 5) 0)) := ⟨rfl, rfl, rfl, by decide +kernel, rfl, by decide +kernel, by decide +kernel⟩
theorem ok_BadTile (F : FnI K "BadTile.__init__" 5 f fd) (T : Xc K C) (no : ∀ y ∈ (["tile"] : List Str), PySem.W.findIn K (.ref C) y = some none) : FnOk P w K mg base CX0 1 f fd ["self", "tile"] (spI C ["tile"]) := by
  refine F.ok sc_BadTile (fun vs H Q E h => spI_len h) (fun cdv A outer s H vs Q E hr h => ?_)
  obtain ⟨a, ws, rfl, hl, ha, k⟩ := h
  obtain ⟨v0, rfl⟩ : ∃ v0, ws = [v0] := by
    match ws, hl with
    | [v0], _ => exact ⟨v0, rfl⟩
  suffices z : ∃ t, PSs (cxOf CX0 P w K mg base ["self", "tile"] "BadTile.__init__" (defScope (inClass (top 5) 0)) f cdv A outer s H E).nox (defBody (inClass (top 5) 0)) t ∧ t { nx := fun _ H' => Q .non H', rt := Q } (start ["self", "tile"] [.ref a, v0]) H by
    obtain ⟨t, h1, h2⟩ := z
    exact ⟨t, h1.nox, h2⟩
  refine ⟨_, pss_one (ps_ost (pv 0) (pv 1)), ?_⟩
  refine ⟨_, rfl, _, rfl, a, C, rfl, T.o, no _ (by simp), .inl ⟨ha, fun d hd hne => ?_⟩⟩
  have X1 := xo_first (C := C) (f := "tile") (v := v0) hd hne
  have B1 := but_first (a := a) (C := C) (f := "tile") (v := v0) hd
  exact k _ X1 B1
theorem sc_NoName : FnScope ["self", "name"] ["self", "name"] (defScope (inClass (top 7) 0)) := ⟨rfl, rfl, rfl, by decide +kernel, rfl, by decide +kernel, by decide +kernel⟩
theorem ok_NoName (F : FnI K "NoName.__init__" 7 f fd) (T : Xc K C) (no : ∀ y ∈ (["name"] : List Str), PySem.W.findIn K (.ref C) y = some none) : FnOk P w K mg base CX0 1 f fd ["self", "name"] (spI C ["name"]) := by
  refine F.ok sc_NoName (fun vs H Q E h => spI_len h) (fun cdv A outer s H vs Q E hr h => ?_)
  obtain ⟨a, ws, rfl, hl, ha, k⟩ := h
  obtain ⟨v0, rfl⟩ : ∃ v0, ws = [v0] := by
    match ws, hl with
    | [v0], _ => exact ⟨v0, rfl⟩
  suffices z : ∃ t, PSs (cxOf CX0 P w K mg base ["self", "name"] "NoName.__init__" (defScope (inClass (top 7) 0)) f cdv A outer s H E).nox (defBody (inClass (top 7) 0)) t ∧ t { nx := fun _ H' => Q .non H', rt := Q } (start ["self", "name"] [.ref a, v0]) H by
    obtain ⟨t, h1, h2⟩ := z
    exact ⟨t, h1.nox, h2⟩
  refine ⟨_, pss_one (ps_ost (pv 0) (pv 1)), ?_⟩
  refine ⟨_, rfl, _, rfl, a, C, rfl, T.o, no _ (by simp), .inl ⟨ha, fun d hd hne => ?_⟩⟩
  have X1 := xo_first (C := C) (f := "name") (v := v0) hd hne
  have B1 := but_first (a := a) (C := C) (f := "name") (v := v0) hd
  exact k _ X1 B1
theorem sc_TakenName : FnScope ["self", "name"] ["self", "name"] (defScope (inClass (top 8) 0)) := ⟨rfl, rfl, rfl, by decide +kernel, rfl, by decide +kernel, by decide +kernel⟩
theorem ok_TakenName (F : FnI K "TakenName.__init__" 8 f fd) (T : Xc K C) (no : ∀ y ∈ (["name"] : List Str), PySem.W.findIn K (.ref C) y = some none) : FnOk P w K mg base CX0 1 f fd ["self", "name"] (spI C ["name"]) := by
  refine F.ok sc_TakenName (fun vs H Q E h => spI_len h) (fun cdv A outer s H vs Q E hr h => ?_)
  obtain ⟨a, ws, rfl, hl, ha, k⟩ := h
  obtain ⟨v0, rfl⟩ : ∃ v0, ws = [v0] := by
    match ws, hl with
    | [v0], _ => exact ⟨v0, rfl⟩
  suffices z : ∃ t, PSs (cxOf CX0 P w K mg base ["self", "name"] "TakenName.__init__" (defScope (inClass (top 8) 0)) f cdv A outer s H E).nox (defBody (inClass (top 8) 0)) t ∧ t { nx := fun _ H' => Q .non H', rt := Q } (start ["self", "name"] [.ref a, v0]) H by
    obtain ⟨t, h1, h2⟩ := z
    exact ⟨t, h1.nox, h2⟩
  refine ⟨_, pss_one (ps_ost (pv 0) (pv 1)), ?_⟩
  refine ⟨_, rfl, _, rfl, a, C, rfl, T.o, no _ (by simp), .inl ⟨ha, fun d hd hne => ?_⟩⟩
  have X1 := xo_first (C := C) (f := "name") (v := v0) hd hne
  have B1 := but_first (a := a) (C := C) (f := "name") (v := v0) hd
  exact k _ X1 B1
theorem sc_BadPlace : FnScope ["self", "place"] ["self", "place"] (defScope (inClass (top 6) 0)) := ⟨rfl, rfl, rfl, by decide +kernel, rfl, by decide +kernel, by decide +kernel⟩
theorem ok_BadPlace (F : FnI K "BadPlace.__init__" 6 f fd) (T : Xc K C) (no : ∀ y ∈ (["place"] : List Str), PySem.W.findIn K (.ref C) y = some none) : FnOk P w K mg base CX0 1 f fd ["self", "place"] (spI C ["place"]) := by
  refine F.ok sc_BadPlace (fun vs H Q E h => spI_len h) (fun cdv A outer s H vs Q E hr h => ?_)
  obtain ⟨a, ws, rfl, hl, ha, k⟩ := h
  obtain ⟨v0, rfl⟩ : ∃ v0, ws = [v0] := by
    match ws, hl with
    | [v0], _ => exact ⟨v0, rfl⟩
  suffices z : ∃ t, PSs (cxOf CX0 P w K mg base ["self", "place"] "BadPlace.__init__" (defScope (inClass (top 6) 0)) f cdv A outer s H E).nox (defBody (inClass (top 6) 0)) t ∧ t { nx := fun _ H' => Q .non H', rt := Q } (start ["self", "place"] [.ref a, v0]) H by
    obtain ⟨t, h1, h2⟩ := z
    exact ⟨t, h1.nox, h2⟩
  refine ⟨_, pss_one (ps_ost (pv 0) (pv 1)), ?_⟩
  refine ⟨_, rfl, _, rfl, a, C, rfl, T.o, no _ (by simp), .inl ⟨ha, fun d hd hne => ?_⟩⟩
  have X1 := xo_first (C := C) (f := "place") (v := v0) hd hne
  have B1 := but_first (a := a) (C := C) (f := "place") (v := v0) hd
  exact k _ X1 B1
theorem sc_NotThere : FnScope ["self", "place"] ["self", "place"] (defScope (inClass (top 9) 0)) := ⟨rfl, rfl, rfl, by decide +kernel, rfl, by decide +kernel, by decide +kernel⟩
theorem ok_NotThere (F : FnI K "NotThere.__init__" 9 f fd) (T : Xc K C) (no : ∀ y ∈ (["place"] : List Str), PySem.W.findIn K (.ref C) y = some none) : FnOk P w K mg base CX0 1 f fd ["self", "place"] (spI C ["place"]) := by
  refine F.ok sc_NotThere (fun vs H Q E h => spI_len h) (fun cdv A outer s H vs Q E hr h => ?_)
  obtain ⟨a, ws, rfl, hl, ha, k⟩ := h
  obtain ⟨v0, rfl⟩ : ∃ v0, ws = [v0] := by
    match ws, hl with
    | [v0], _ => exact ⟨v0, rfl⟩
  suffices z : ∃ t, PSs (cxOf CX0 P w K mg base ["self", "place"] "NotThere.__init__" (defScope (inClass (top 9) 0)) f cdv A outer s H E).nox (defBody (inClass (top 9) 0)) t ∧ t { nx := fun _ H' => Q .non H', rt := Q } (start ["self", "place"] [.ref a, v0]) H by
    obtain ⟨t, h1, h2⟩ := z
    exact ⟨t, h1.nox, h2⟩
  refine ⟨_, pss_one (ps_ost (pv 0) (pv 1)), ?_⟩
  refine ⟨_, rfl, _, rfl, a, C, rfl, T.o, no _ (by simp), .inl ⟨ha, fun d hd hne => ?_⟩⟩
  have X1 := xo_first (C := C) (f := "place") (v := v0) hd hne
  have B1 := but_first (a := a) (C := C) (f := "place") (v := v0) hd
  exact k _ X1 B1
theorem sc_Taken : FnScope ["self", "place"] ["self", "place"] (defScope (inClass (top 10) 0)) := ⟨rfl, rfl, rfl, by decide +kernel, rfl, by decide +kernel, by decide +kernel⟩
theorem ok_Taken (F : FnI K "Taken.__init__" 10 f fd) (T : Xc K C) (no : ∀ y ∈ (["place"] : List Str), PySem.W.findIn K (.ref C) y = some none) : FnOk P w K mg base CX0 1 f fd ["self", "place"] (spI C ["place"]) := by
  refine F.ok sc_Taken (fun vs H Q E h => spI_len h) (fun cdv A outer s H vs Q E hr h => ?_)
  obtain ⟨a, ws, rfl, hl, ha, k⟩ := h
  obtain ⟨v0, rfl⟩ : ∃ v0, ws = [v0] := by
    match ws, hl with
    | [v0], _ => exact ⟨v0, rfl⟩
  suffices z : ∃ t, PSs (cxOf CX0 P w K mg base ["self", "place"] "Taken.__init__" (defScope (inClass (top 10) 0)) f cdv A outer s H E).nox (defBody (inClass (top 10) 0)) t ∧ t { nx := fun _ H' => Q .non H', rt := Q } (start ["self", "place"] [.ref a, v0]) H by
    obtain ⟨t, h1, h2⟩ := z
    exact ⟨t, h1.nox, h2⟩
  refine ⟨_, pss_one (ps_ost (pv 0) (pv 1)), ?_⟩
  refine ⟨_, rfl, _, rfl, a, C, rfl, T.o, no _ (by simp), .inl ⟨ha, fun d hd hne => ?_⟩⟩
  have X1 := xo_first (C := C) (f := "place") (v := v0) hd hne
  have B1 := but_first (a := a) (C := C) (f := "place") (v := v0) hd
  exact k _ X1 B1
theorem sc_BadText : FnScope ["self", "line", "column"] ["self", "line", "column"] (defScope (inClass (top 2) 0)) := ⟨rfl, rfl, rfl, by decide +kernel, rfl, by decide +kernel, by decide +kernel⟩
theorem ok_BadText (F : FnI K "BadText.__init__" 2 f fd) (T : Xc K C) (no : ∀ y ∈ (["line", "column"] : List Str), PySem.W.findIn K (.ref C) y = some none) : FnOk P w K mg base CX0 1 f fd ["self", "line", "column"] (spI C ["line", "column"]) := by
  refine F.ok sc_BadText (fun vs H Q E h => spI_len h) (fun cdv A outer s H vs Q E hr h => ?_)
  obtain ⟨a, ws, rfl, hl, ha, k⟩ := h
  obtain ⟨v0, v1, rfl⟩ : ∃ v0 v1, ws = [v0, v1] := by
    match ws, hl with
    | [v0, v1], _ => exact ⟨v0, v1, rfl⟩
  suffices z : ∃ t, PSs (cxOf CX0 P w K mg base ["self", "line", "column"] "BadText.__init__" (defScope (inClass (top 2) 0)) f cdv A outer s H E).nox (defBody (inClass (top 2) 0)) t ∧ t { nx := fun _ H' => Q .non H', rt := Q } (start ["self", "line", "column"] [.ref a, v0, v1]) H by
    obtain ⟨t, h1, h2⟩ := z
    exact ⟨t, h1.nox, h2⟩
  refine ⟨_, pss_cons (ps_ost (pv 0) (pv 1)) (pss_one (ps_ost (pv 0) (pv 2))), ?_⟩
  refine ⟨_, rfl, _, rfl, a, C, rfl, T.o, no _ (by simp), .inl ⟨ha, fun d hd hne => ?_⟩⟩
  have X1 := xo_first (C := C) (f := "line") (v := v0) hd hne
  have B1 := but_first (a := a) (C := C) (f := "line") (v := v0) hd
  have e0 := X1
  obtain ⟨_, _, _⟩ := e0
  refine ⟨_, rfl, _, rfl, a, C, rfl, T.o, no _ (by simp), .inr ⟨d, _, (by exact upd_same), (by rw [upd_ne hne, upd_same]), (by show 1 ≤ 900; decide), ?_⟩⟩
  refine k _ ⟨d, (by rw [upd_ne hne.symm]; exact upd_same), by exact upd_same⟩ (fun b o e nb => ?_)
  rw [upd_ne (ne_of_none e hd)]
  exact B1 b o e nb
theorem sc_BadNumber : FnScope ["self", "what", "number"] ["self", "what", "number"] (defScope (inClass (top 3) 0)) := ⟨rfl, rfl, rfl, by decide +kernel, rfl, by decide +kernel, by decide +kernel⟩
theorem ok_BadNumber (F : FnI K "BadNumber.__init__" 3 f fd) (T : Xc K C) (no : ∀ y ∈ (["what", "number"] : List Str), PySem.W.findIn K (.ref C) y = some none) : FnOk P w K mg base CX0 1 f fd ["self", "what", "number"] (spI C ["what", "number"]) := by
  refine F.ok sc_BadNumber (fun vs H Q E h => spI_len h) (fun cdv A outer s H vs Q E hr h => ?_)
  obtain ⟨a, ws, rfl, hl, ha, k⟩ := h
  obtain ⟨v0, v1, rfl⟩ : ∃ v0 v1, ws = [v0, v1] := by
    match ws, hl with
    | [v0, v1], _ => exact ⟨v0, v1, rfl⟩
  suffices z : ∃ t, PSs (cxOf CX0 P w K mg base ["self", "what", "number"] "BadNumber.__init__" (defScope (inClass (top 3) 0)) f cdv A outer s H E).nox (defBody (inClass (top 3) 0)) t ∧ t { nx := fun _ H' => Q .non H', rt := Q } (start ["self", "what", "number"] [.ref a, v0, v1]) H by
    obtain ⟨t, h1, h2⟩ := z
    exact ⟨t, h1.nox, h2⟩
  refine ⟨_, pss_cons (ps_ost (pv 0) (pv 1)) (pss_one (ps_ost (pv 0) (pv 2))), ?_⟩
  refine ⟨_, rfl, _, rfl, a, C, rfl, T.o, no _ (by simp), .inl ⟨ha, fun d hd hne => ?_⟩⟩
  have X1 := xo_first (C := C) (f := "what") (v := v0) hd hne
  have B1 := but_first (a := a) (C := C) (f := "what") (v := v0) hd
  have e0 := X1
  obtain ⟨_, _, _⟩ := e0
  refine ⟨_, rfl, _, rfl, a, C, rfl, T.o, no _ (by simp), .inr ⟨d, _, (by exact upd_same), (by rw [upd_ne hne, upd_same]), (by show 1 ≤ 900; decide), ?_⟩⟩
  refine k _ ⟨d, (by rw [upd_ne hne.symm]; exact upd_same), by exact upd_same⟩ (fun b o e nb => ?_)
  rw [upd_ne (ne_of_none e hd)]
  exact B1 b o e nb
theorem sc_Loose : FnScope ["self", "place", "bonds"] ["self", "place", "bonds"] (defScope (inClass (top 11) 0)) := ⟨rfl, rfl, rfl, by decide +kernel, rfl, by decide +kernel, by decide +kernel⟩
theorem ok_Loose (F : FnI K "Loose.__init__" 11 f fd) (T : Xc K C) (no : ∀ y ∈ (["place", "bonds"] : List Str), PySem.W.findIn K (.ref C) y = some none) : FnOk P w K mg base CX0 1 f fd ["self", "place", "bonds"] (spI C ["place", "bonds"]) := by
  refine F.ok sc_Loose (fun vs H Q E h => spI_len h) (fun cdv A outer s H vs Q E hr h => ?_)
  obtain ⟨a, ws, rfl, hl, ha, k⟩ := h
  obtain ⟨v0, v1, rfl⟩ : ∃ v0 v1, ws = [v0, v1] := by
    match ws, hl with
    | [v0, v1], _ => exact ⟨v0, v1, rfl⟩
  suffices z : ∃ t, PSs (cxOf CX0 P w K mg base ["self", "place", "bonds"] "Loose.__init__" (defScope (inClass (top 11) 0)) f cdv A outer s H E).nox (defBody (inClass (top 11) 0)) t ∧ t { nx := fun _ H' => Q .non H', rt := Q } (start ["self", "place", "bonds"] [.ref a, v0, v1]) H by
    obtain ⟨t, h1, h2⟩ := z
    exact ⟨t, h1.nox, h2⟩
  refine ⟨_, pss_cons (ps_ost (pv 0) (pv 1)) (pss_one (ps_ost (pv 0) (pv 2))), ?_⟩
  refine ⟨_, rfl, _, rfl, a, C, rfl, T.o, no _ (by simp), .inl ⟨ha, fun d hd hne => ?_⟩⟩
  have X1 := xo_first (C := C) (f := "place") (v := v0) hd hne
  have B1 := but_first (a := a) (C := C) (f := "place") (v := v0) hd
  have e0 := X1
  obtain ⟨_, _, _⟩ := e0
  refine ⟨_, rfl, _, rfl, a, C, rfl, T.o, no _ (by simp), .inr ⟨d, _, (by exact upd_same), (by rw [upd_ne hne, upd_same]), (by show 1 ≤ 900; decide), ?_⟩⟩
  refine k _ ⟨d, (by rw [upd_ne hne.symm]; exact upd_same), by exact upd_same⟩ (fun b o e nb => ?_)
  rw [upd_ne (ne_of_none e hd)]
  exact B1 b o e nb
theorem sc_TooMany : FnScope ["self", "what", "many", "limit"] ["self", "what", "many", "limit"] (defScope (inClass (top 12) 0)) := ⟨rfl, rfl, rfl, by decide +kernel, rfl, by decide +kernel, by decide +kernel⟩
theorem ok_TooMany (F : FnI K "TooMany.__init__" 12 f fd) (T : Xc K C) (no : ∀ y ∈ (["what", "many", "limit"] : List Str), PySem.W.findIn K (.ref C) y = some none) : FnOk P w K mg base CX0 1 f fd ["self", "what", "many", "limit"] (spI C ["what", "many", "limit"]) := by
  refine F.ok sc_TooMany (fun vs H Q E h => spI_len h) (fun cdv A outer s H vs Q E hr h => ?_)
  obtain ⟨a, ws, rfl, hl, ha, k⟩ := h
  obtain ⟨v0, v1, v2, rfl⟩ : ∃ v0 v1 v2, ws = [v0, v1, v2] := by
    match ws, hl with
    | [v0, v1, v2], _ => exact ⟨v0, v1, v2, rfl⟩
  suffices z : ∃ t, PSs (cxOf CX0 P w K mg base ["self", "what", "many", "limit"] "TooMany.__init__" (defScope (inClass (top 12) 0)) f cdv A outer s H E).nox (defBody (inClass (top 12) 0)) t ∧ t { nx := fun _ H' => Q .non H', rt := Q } (start ["self", "what", "many", "limit"] [.ref a, v0, v1, v2]) H by
    obtain ⟨t, h1, h2⟩ := z
    exact ⟨t, h1.nox, h2⟩
  refine ⟨_, pss_cons (ps_ost (pv 0) (pv 1)) (pss_cons (ps_ost (pv 0) (pv 2)) (pss_one (ps_ost (pv 0) (pv 3)))), ?_⟩
  refine ⟨_, rfl, _, rfl, a, C, rfl, T.o, no _ (by simp), .inl ⟨ha, fun d hd hne => ?_⟩⟩
  have X1 := xo_first (C := C) (f := "what") (v := v0) hd hne
  have B1 := but_first (a := a) (C := C) (f := "what") (v := v0) hd
  have e0 := X1
  obtain ⟨_, _, _⟩ := e0
  refine ⟨_, rfl, _, rfl, a, C, rfl, T.o, no _ (by simp), .inr ⟨d, _, (by exact upd_same), (by rw [upd_ne hne, upd_same]), (by show 1 ≤ 900; decide), ?_⟩⟩
  refine ⟨_, rfl, _, rfl, a, C, rfl, T.o, no _ (by simp), .inr ⟨d, _, (by rw [upd_ne hne.symm]; exact upd_same), (by exact upd_same), (by show 2 ≤ 900; decide), ?_⟩⟩
  refine k _ ⟨d, (by rw [upd_ne hne.symm]; rw [upd_ne hne.symm]; exact upd_same), by exact upd_same⟩ (fun b o e nb => ?_)
  rw [upd_ne (ne_of_none e hd), upd_ne (ne_of_none e hd)]
  exact B1 b o e nb
theorem sc_NotKept : FnScope ["self", "promise", "witness"] ["self", "promise", "witness"] (defScope (inClass (top 13) 0)) := ⟨rfl, rfl, rfl, by decide +kernel, rfl, by decide +kernel, by decide +kernel⟩
theorem ok_NotKept (F : FnI K "NotKept.__init__" 13 f fd) (T : Xc K C) (no : ∀ y ∈ (["promise", "witness"] : List Str), PySem.W.findIn K (.ref C) y = some none) : FnOk P w K mg base CX0 1 f fd ["self", "promise", "witness"] (spI C ["promise", "witness"]) := by
  refine F.ok sc_NotKept (fun vs H Q E h => spI_len h) (fun cdv A outer s H vs Q E hr h => ?_)
  obtain ⟨a, ws, rfl, hl, ha, k⟩ := h
  obtain ⟨v0, v1, rfl⟩ : ∃ v0 v1, ws = [v0, v1] := by
    match ws, hl with
    | [v0, v1], _ => exact ⟨v0, v1, rfl⟩
  suffices z : ∃ t, PSs (cxOf CX0 P w K mg base ["self", "promise", "witness"] "NotKept.__init__" (defScope (inClass (top 13) 0)) f cdv A outer s H E).nox (defBody (inClass (top 13) 0)) t ∧ t { nx := fun _ H' => Q .non H', rt := Q } (start ["self", "promise", "witness"] [.ref a, v0, v1]) H by
    obtain ⟨t, h1, h2⟩ := z
    exact ⟨t, h1.nox, h2⟩
  refine ⟨_, pss_cons (ps_ost (pv 0) (pv 1)) (pss_one (ps_ost (pv 0) (pv 2))), ?_⟩
  refine ⟨_, rfl, _, rfl, a, C, rfl, T.o, no _ (by simp), .inl ⟨ha, fun d hd hne => ?_⟩⟩
  have X1 := xo_first (C := C) (f := "promise") (v := v0) hd hne
  have B1 := but_first (a := a) (C := C) (f := "promise") (v := v0) hd
  have e0 := X1
  obtain ⟨_, _, _⟩ := e0
  refine ⟨_, rfl, _, rfl, a, C, rfl, T.o, no _ (by simp), .inr ⟨d, _, (by exact upd_same), (by rw [upd_ne hne, upd_same]), (by show 1 ≤ 900; decide), ?_⟩⟩
  refine k _ ⟨d, (by rw [upd_ne hne.symm]; exact upd_same), by exact upd_same⟩ (fun b o e nb => ?_)
  rw [upd_ne (ne_of_none e hd)]
  exact B1 b o e nb
theorem sc_NothingToUndo : FnScope ["self"] ["self"] (defScope (inClass (top 14) 0)) := ⟨rfl, rfl, rfl, by decide +kernel, rfl, by decide +kernel, by decide +kernel⟩
theorem ok_NothingToUndo (F : FnI K "NothingToUndo.__init__" 14 f fd) (T : Xc K C) (no : ∀ y ∈ ([] : List Str), PySem.W.findIn K (.ref C) y = some none) : FnOk P w K mg base CX0 1 f fd ["self"] (spI C []) := by
  refine F.ok sc_NothingToUndo (fun vs H Q E h => spI_len h) (fun cdv A outer s H vs Q E hr h => ?_)
  obtain ⟨a, ws, rfl, hl, ha, k⟩ := h
  obtain rfl : ws = [] := List.length_eq_zero_iff.mp hl
  suffices z : ∃ t, PSs (cxOf CX0 P w K mg base ["self"] "NothingToUndo.__init__" (defScope (inClass (top 14) 0)) f cdv A outer s H E).nox (defBody (inClass (top 14) 0)) t ∧ t { nx := fun _ H' => Q .non H', rt := Q } (start ["self"] [.ref a]) H by
    obtain ⟨t, h1, h2⟩ := z
    exact ⟨t, h1.nox, h2⟩
  exact ⟨_, pss_one ps_pass, k H ha fun _ _ e _ => e⟩
theorem sc_NothingToRedo : FnScope ["self"] ["self"] (defScope (inClass (top 15) 0)) := ⟨rfl, rfl, rfl, by decide +kernel, rfl, by decide +kernel, by decide +kernel⟩
theorem ok_NothingToRedo (F : FnI K "NothingToRedo.__init__" 15 f fd) (T : Xc K C) (no : ∀ y ∈ ([] : List Str), PySem.W.findIn K (.ref C) y = some none) : FnOk P w K mg base CX0 1 f fd ["self"] (spI C []) := by
  refine F.ok sc_NothingToRedo (fun vs H Q E h => spI_len h) (fun cdv A outer s H vs Q E hr h => ?_)
  obtain ⟨a, ws, rfl, hl, ha, k⟩ := h
  obtain rfl : ws = [] := List.length_eq_zero_iff.mp hl
  suffices z : ∃ t, PSs (cxOf CX0 P w K mg base ["self"] "NothingToRedo.__init__" (defScope (inClass (top 15) 0)) f cdv A outer s H E).nox (defBody (inClass (top 15) 0)) t ∧ t { nx := fun _ H' => Q .non H', rt := Q } (start ["self"] [.ref a]) H by
    obtain ⟨t, h1, h2⟩ := z
    exact ⟨t, h1.nox, h2⟩
  exact ⟨_, pss_one ps_pass, k H ha fun _ _ e _ => e⟩
end
end K0

set_option Elab.async false
set_option linter.all false
set_option maxRecDepth 100000
set_option maxHeartbeats 8000000
namespace Tr
open PySem PySem.Spec PyProof.Rows L2 Pen
theorem same_upd {H : Hp} {a : Addr} {o : HO} (n : H a = none) : Same H (upd H a o) := fun b u e => by rw [upd_ne (ne_of_none e n)]; exact e
section
variable {C : Addr} {f1 f2 f3 : Str} {σ : L2.St} {H : Hp} {Q : VK} {v1 v2 v3 : V}
theorem xmk0 (h : ∀ e H', H e = none → XoAt H' e C none → Same H H' → Q (.ref e) H') : tXmk C (spI C []) tNil σ H Q :=
  ⟨by decide, fun e he => ⟨e, [], rfl, rfl, upd_same, fun H' X b => ⟨rfl, h e H' he X (same_new he b)⟩⟩⟩
theorem xmk1 (s1 : σ[1]? = some (some v1)) (h : ∀ e H', H e = none → XoAt H' e C (some [(f1, v1)]) → Same H H' → Q (.ref e) H') : tXmk C (spI C [f1]) (tCons (tVar 1) tNil) σ H Q :=
  ⟨v1, s1, (by show 1 ≤ 1000; decide), fun e he => ⟨e, [v1], rfl, rfl, upd_same, fun H' X b => ⟨rfl, h e H' he X (same_new he b)⟩⟩⟩
theorem xmk2 (s1 : σ[1]? = some (some v1)) (s2 : σ[2]? = some (some v2)) (h : ∀ e H', H e = none → XoAt H' e C (some [(f2, v2), (f1, v1)]) → Same H H' → Q (.ref e) H') :
    tXmk C (spI C [f1, f2]) (tCons (tVar 1) (tCons (tVar 2) tNil)) σ H Q :=
  ⟨v1, s1, v2, s2, (by show 2 ≤ 1000; decide), fun e he => ⟨e, [v1, v2], rfl, rfl, upd_same, fun H' X b => ⟨rfl, h e H' he X (same_new he b)⟩⟩⟩
theorem xmk3 (s1 : σ[1]? = some (some v1)) (s2 : σ[2]? = some (some v2)) (s3 : σ[3]? = some (some v3)) (h : ∀ e H', H e = none → XoAt H' e C (some [(f3, v3), (f2, v2), (f1, v1)]) → Same H H' → Q (.ref e) H') :
    tXmk C (spI C [f1, f2, f3]) (tCons (tVar 1) (tCons (tVar 2) (tCons (tVar 3) tNil))) σ H Q :=
  ⟨v1, s1, v2, s2, v3, s3, (by show 3 ≤ 1000; decide), fun e he => ⟨e, [v1, v2, v3], rfl, rfl, upd_same, fun H' X b => ⟨rfl, h e H' he X (same_new he b)⟩⟩⟩
theorem rd_set {te : TE} {i : Nat} {u : TS} {D : Ends} (h : te σ H fun x H1 => u D (σ.set i (some x)) H1) : tSeq (tAsg te (gName i)) u D σ H := h
theorem rd_ret {te : TE} {D : Ends} (h : te σ H D.rt) : tRet te D σ H := h
theorem rd_op {r : R2} {ta tb : TE} (h : ta σ H fun x H1 => tb σ H1 fun y H2 => r x y H2 Q) : tOp r ta tb σ H Q := h
theorem rd_lst {ta : TA} (h : ta σ H fun xs H1 => xs.length ≤ sizeLine ∧ ∀ p, H1 p = none → Q (.ref p) (upd H1 p (.lst xs))) : tLst ta σ H Q := h
theorem rd_tup {ta : TA} (h : ta σ H fun xs H1 => xs.length ≤ sizeLine ∧ ∀ p, H1 p = none → Q (.ref p) (upd H1 p (.tup xs))) : tTup ta σ H Q := h
theorem rd_cons {te : TE} {tr : TA} {QA : List V → Hp → Prop} (h : te σ H fun x H1 => tr σ H1 fun xs H2 => QA (x :: xs) H2) : tCons te tr σ H QA := h
/-- e.f of such an error, read -/
theorem xget {P : Program} {w : World} {K : PySem.W.Frag} {mg : Str → Option PySem.Value} {base : Heap} {x f : Str} {fs : List Str} {l : List (Str × V)} {i : Nat} {e : Addr} {v : V} (E : Er P w K mg base x C fs) (X : XoAt H e C (some l)) (s : σ[i]? = some (some (.ref e))) (hf : f ∈ fs) (hl : l.lookup f = some v)
    (h : Q v H) : tXget K (tVar i) f σ H Q := by
  obtain ⟨d, ea, ed⟩ := X
  exact ⟨_, s, e, C, d, l, v, rfl, ea, ed, E.t.f, E.no f hf, hl, h⟩
end
end Tr
namespace K0
open PySem PySem.Spec PyProof.Rows L2 Pen Tr
def nf (k : Nat) : Nat := if k < 7 then 1 else if k = 10 then 3 else if k < 12 then 2 else 0
/-- _law_one, _law_more: the error of this kind and its fields, from k on -/
def spOne (Cs : List Addr) (least : Nat) : Sp := fun vs H Q _ => ∃ (k : Nat) (a b c : V), vs = [.int k, a, b, c] ∧ least ≤ k ∧ k < 14 ∧
  ∀ p q e C fs H', Cs[k]? = some C → H' p = some (.tup [.ref e, .ref q]) → H' q = some (.tup ([a, b, c].take (nf k))) → XoAt H' e C fs → Same H H' → Q (.ref p) H'
section
variable {P : Program} {w : World} {K : PySem.W.Frag} {mg : Str → Option PySem.Value} {base : Heap} {f fM : Addr} {fd fdM : FuncData} {C0 C1 C2 C3 C4 C5 C6 C7 C8 C9 C10 C11 C12 C13 : Addr}
abbrev nOne : List Str := ["_law_kind", "_law_a", "_law_b", "_law_c", "_law_e"]
abbrev pOne : List Str := ["_law_kind", "_law_a", "_law_b", "_law_c"]
theorem lk1 {f : Str} {v : V} : List.lookup f [(f, v)] = some v := by simp [List.lookup]
theorem lk2a {f g : Str} {v u : V} (h : (f == g) = false) : List.lookup f [(g, u), (f, v)] = some v := by simp [List.lookup, h]
theorem lk2b {f g : Str} {v u : V} : List.lookup g [(g, u), (f, v)] = some u := by simp [List.lookup]
theorem lkh {f : Str} {v : V} {r : List (Str × V)} : List.lookup f ((f, v) :: r) = some v := by simp [List.lookup]
theorem lk3 {f g : Str} {v u : V} {r : List (Str × V)} (h : (f == g) = false) (e : List.lookup f r = some v) : List.lookup f ((g, u) :: r) = some v := by simp [List.lookup, h, e]

theorem scMore : FnScope nOne pOne (defScope sMore) := ⟨rfl, rfl, rfl, by decide +kernel, rfl, by decide +kernel, by decide +kernel⟩
theorem ok_more (F : FnP K "_law_more" sMore f fd) (E7 : Er P w K mg base "BadText" C7 ["line", "column"]) (E8 : Er P w K mg base "BadNumber" C8 ["what", "number"]) (E9 : Er P w K mg base "Loose" C9 ["place", "bonds"]) (E10 : Er P w K mg base "TooMany" C10 ["what", "many", "limit"]) (E11 : Er P w K mg base "NotKept" C11 ["promise", "witness"]) (E12 : Er P w K mg base "NothingToUndo" C12 []) (E13 : Er P w K mg base "NothingToRedo" C13 []) : FnOk P w K mg base CX0 3 f fd pOne (spOne [C0, C1, C2, C3, C4, C5, C6, C7, C8, C9, C10, C11, C12, C13] 7) := by
  refine F.ok scMore (fun vs H Q E h => ?_) (fun cdv A outer s H vs Q E hr h => ?_)
  · obtain ⟨_, _, _, _, rfl, _⟩ := h
    rfl
  · obtain ⟨k, a, b, c, rfl, k7, k14, want⟩ := h
    have nd := scMore.nd
    obtain ⟨i7, d7, a7, t7, G7, b7⟩ := E7.ini
    obtain ⟨i8, d8, a8, t8, G8, b8⟩ := E8.ini
    obtain ⟨i9, d9, a9, t9, G9, b9⟩ := E9.ini
    obtain ⟨i10, d10, a10, t10, G10, b10⟩ := E10.ini
    obtain ⟨i11, d11, a11, t11, G11, b11⟩ := E11.ini
    obtain ⟨i12, d12, a12, t12, G12, b12⟩ := E12.ini
    obtain ⟨i13, d13, a13, t13, G13, b13⟩ := E13.ini
    suffices z : ∃ t, PSs (cxOf CX0 P w K mg base nOne "_law_more" (defScope sMore) f cdv A outer s H E).nox (defBody sMore) t ∧ t { nx := fun _ H' => Q .non H', rt := Q } (start nOne [.int k, a, b, c]) H by
      obtain ⟨t, h1, h2⟩ := z
      exact ⟨t, h1.nox, h2⟩
    refine ⟨_, pss_cons (ps_if (pt_cmpR op_eq (pv 0) pe_int (nomark _)) (pss_cons (ps_set (i := 4) nd rfl (.inl rfl) (pe_xmk E7.t.o a7 t7 G7 hr b7 E7.mgx (pa_cons (pv 1) (pa_cons (pv 2) pa_nil)))) (pss_one (ps_ret (pe_tup (pa_cons (pv 4) (pa_cons (pe_tup (pa_cons (pe_xget (pv 4)) (pa_cons (pe_xget (pv 4)) pa_nil))) pa_nil)))))) pss_nil)
      (pss_cons (ps_if (pt_cmpR op_eq (pv 0) pe_int (nomark _)) (pss_cons (ps_set (i := 4) nd rfl (.inl rfl) (pe_xmk E8.t.o a8 t8 G8 hr b8 E8.mgx (pa_cons (pv 1) (pa_cons (pv 2) pa_nil)))) (pss_one (ps_ret (pe_tup (pa_cons (pv 4) (pa_cons (pe_tup (pa_cons (pe_xget (pv 4)) (pa_cons (pe_xget (pv 4)) pa_nil))) pa_nil)))))) pss_nil)
      (pss_cons (ps_if (pt_cmpR op_eq (pv 0) pe_int (nomark _)) (pss_cons (ps_set (i := 4) nd rfl (.inl rfl) (pe_xmk E9.t.o a9 t9 G9 hr b9 E9.mgx (pa_cons (pv 1) (pa_cons (pv 2) pa_nil)))) (pss_one (ps_ret (pe_tup (pa_cons (pv 4) (pa_cons (pe_tup (pa_cons (pe_xget (pv 4)) (pa_cons (pe_xget (pv 4)) pa_nil))) pa_nil)))))) pss_nil)
      (pss_cons (ps_if (pt_cmpR op_eq (pv 0) pe_int (nomark _)) (pss_cons (ps_set (i := 4) nd rfl (.inl rfl) (pe_xmk E10.t.o a10 t10 G10 hr b10 E10.mgx (pa_cons (pv 1) (pa_cons (pv 2) (pa_cons (pv 3) pa_nil))))) (pss_one (ps_ret (pe_tup (pa_cons (pv 4) (pa_cons (pe_tup (pa_cons (pe_xget (pv 4)) (pa_cons (pe_xget (pv 4)) (pa_cons (pe_xget (pv 4)) pa_nil)))) pa_nil)))))) pss_nil)
      (pss_cons (ps_if (pt_cmpR op_eq (pv 0) pe_int (nomark _)) (pss_cons (ps_set (i := 4) nd rfl (.inl rfl) (pe_xmk E11.t.o a11 t11 G11 hr b11 E11.mgx (pa_cons (pv 1) (pa_cons (pv 2) pa_nil)))) (pss_one (ps_ret (pe_tup (pa_cons (pv 4) (pa_cons (pe_tup (pa_cons (pe_xget (pv 4)) (pa_cons (pe_xget (pv 4)) pa_nil))) pa_nil)))))) pss_nil)
      (pss_one (ps_ret (pe_tup (pa_cons (pe_ifExp (pt_cmpR op_eq (pv 0) pe_int (nomark _)) (pe_xmk0 E12.t.o a12 t12 G12 hr b12 E12.mgx) (pe_xmk0 E13.t.o a13 t13 G13 hr b13 E13.mgx)) (pa_cons (pe_tup pa_nil) pa_nil))))))))), ?_⟩
    refine ⟨_, rfl, rfl, _, rfl, ?_⟩
    by_cases h7 : k = 7
    · subst h7
      refine iteT (rd_set (xmk2 rfl rfl fun e H1 he X s1 => ?_))
      refine rd_ret (rd_tup (rd_cons ⟨_, rfl, rd_cons (rd_tup ?_)⟩))
      refine rd_cons (xget (f := "line") E7 X rfl (by simp) (lk2a (by decide)) ?_)
      refine rd_cons (xget (f := "column") E7 X rfl (by simp) lk2b ?_)
      refine ⟨(by show 2 ≤ sizeLine; decide), fun q hq => ⟨(by show 2 ≤ sizeLine; decide), fun p hp => ?_⟩⟩
      have npq : q ≠ p := ne_of_none upd_same hp
      have s2 := (same_upd (o := .tup [a, b]) hq).trans (same_upd (o := .tup [.ref e, .ref q]) hp)
      exact want p q e _ _ _ rfl upd_same (by rw [upd_ne npq]; exact upd_same) (X.keep s2) (s1.trans s2)
    have e7 : decide (V.int (k : Int) = V.int 7) = false := decide_eq_false (fun z => h7 (by injection z with z; omega))
    rw [e7]
    refine iteF ?_
    refine ⟨_, rfl, rfl, _, rfl, ?_⟩
    by_cases h8 : k = 8
    · subst h8
      refine iteT (rd_set (xmk2 rfl rfl fun e H1 he X s1 => ?_))
      refine rd_ret (rd_tup (rd_cons ⟨_, rfl, rd_cons (rd_tup ?_)⟩))
      refine rd_cons (xget (f := "what") E8 X rfl (by simp) (lk2a (by decide)) ?_)
      refine rd_cons (xget (f := "number") E8 X rfl (by simp) lk2b ?_)
      refine ⟨(by show 2 ≤ sizeLine; decide), fun q hq => ⟨(by show 2 ≤ sizeLine; decide), fun p hp => ?_⟩⟩
      have npq : q ≠ p := ne_of_none upd_same hp
      have s2 := (same_upd (o := .tup [a, b]) hq).trans (same_upd (o := .tup [.ref e, .ref q]) hp)
      exact want p q e _ _ _ rfl upd_same (by rw [upd_ne npq]; exact upd_same) (X.keep s2) (s1.trans s2)
    have e8 : decide (V.int (k : Int) = V.int 8) = false := decide_eq_false (fun z => h8 (by injection z with z; omega))
    rw [e8]
    refine iteF ?_
    refine ⟨_, rfl, rfl, _, rfl, ?_⟩
    by_cases h9 : k = 9
    · subst h9
      refine iteT (rd_set (xmk2 rfl rfl fun e H1 he X s1 => ?_))
      refine rd_ret (rd_tup (rd_cons ⟨_, rfl, rd_cons (rd_tup ?_)⟩))
      refine rd_cons (xget (f := "place") E9 X rfl (by simp) (lk2a (by decide)) ?_)
      refine rd_cons (xget (f := "bonds") E9 X rfl (by simp) lk2b ?_)
      refine ⟨(by show 2 ≤ sizeLine; decide), fun q hq => ⟨(by show 2 ≤ sizeLine; decide), fun p hp => ?_⟩⟩
      have npq : q ≠ p := ne_of_none upd_same hp
      have s2 := (same_upd (o := .tup [a, b]) hq).trans (same_upd (o := .tup [.ref e, .ref q]) hp)
      exact want p q e _ _ _ rfl upd_same (by rw [upd_ne npq]; exact upd_same) (X.keep s2) (s1.trans s2)
    have e9 : decide (V.int (k : Int) = V.int 9) = false := decide_eq_false (fun z => h9 (by injection z with z; omega))
    rw [e9]
    refine iteF ?_
    refine ⟨_, rfl, rfl, _, rfl, ?_⟩
    by_cases h10 : k = 10
    · subst h10
      refine iteT (rd_set (xmk3 rfl rfl rfl fun e H1 he X s1 => ?_))
      refine rd_ret (rd_tup (rd_cons ⟨_, rfl, rd_cons (rd_tup ?_)⟩))
      refine rd_cons (xget (f := "what") E10 X rfl (by simp) (lk3 (by decide) (lk3 (by decide) lk1)) ?_)
      refine rd_cons (xget (f := "many") E10 X rfl (by simp) (lk3 (by decide) lk2b) ?_)
      refine rd_cons (xget (f := "limit") E10 X rfl (by simp) lkh ?_)
      refine ⟨(by show 3 ≤ sizeLine; decide), fun q hq => ⟨(by show 2 ≤ sizeLine; decide), fun p hp => ?_⟩⟩
      have npq : q ≠ p := ne_of_none upd_same hp
      have s2 := (same_upd (o := .tup [a, b, c]) hq).trans (same_upd (o := .tup [.ref e, .ref q]) hp)
      exact want p q e _ _ _ rfl upd_same (by rw [upd_ne npq]; exact upd_same) (X.keep s2) (s1.trans s2)
    have e10 : decide (V.int (k : Int) = V.int 10) = false := decide_eq_false (fun z => h10 (by injection z with z; omega))
    rw [e10]
    refine iteF ?_
    refine ⟨_, rfl, rfl, _, rfl, ?_⟩
    by_cases h11 : k = 11
    · subst h11
      refine iteT (rd_set (xmk2 rfl rfl fun e H1 he X s1 => ?_))
      refine rd_ret (rd_tup (rd_cons ⟨_, rfl, rd_cons (rd_tup ?_)⟩))
      refine rd_cons (xget (f := "promise") E11 X rfl (by simp) (lk2a (by decide)) ?_)
      refine rd_cons (xget (f := "witness") E11 X rfl (by simp) lk2b ?_)
      refine ⟨(by show 2 ≤ sizeLine; decide), fun q hq => ⟨(by show 2 ≤ sizeLine; decide), fun p hp => ?_⟩⟩
      have npq : q ≠ p := ne_of_none upd_same hp
      have s2 := (same_upd (o := .tup [a, b]) hq).trans (same_upd (o := .tup [.ref e, .ref q]) hp)
      exact want p q e _ _ _ rfl upd_same (by rw [upd_ne npq]; exact upd_same) (X.keep s2) (s1.trans s2)
    have e11 : decide (V.int (k : Int) = V.int 11) = false := decide_eq_false (fun z => h11 (by injection z with z; omega))
    rw [e11]
    refine iteF ?_
    refine ⟨_, rfl, rfl, _, rfl, ?_⟩
    by_cases h12 : k = 12
    · subst h12
      refine iteT (xmk0 fun e H1 he X s1 => ?_)
      refine ⟨(by show 0 ≤ sizeLine; decide), fun q hq => ⟨(by show 2 ≤ sizeLine; decide), fun p hp => ?_⟩⟩
      have npq : q ≠ p := ne_of_none upd_same hp
      have s2 := (same_upd (o := .tup []) hq).trans (same_upd (o := .tup [.ref e, .ref q]) hp)
      exact want p q e _ _ _ rfl upd_same (by rw [upd_ne npq]; exact upd_same) (X.keep s2) (s1.trans s2)
    · have h13 : k = 13 := by omega
      subst h13
      refine iteF (xmk0 fun e H1 he X s1 => ?_)
      refine ⟨(by show 0 ≤ sizeLine; decide), fun q hq => ⟨(by show 2 ≤ sizeLine; decide), fun p hp => ?_⟩⟩
      have npq : q ≠ p := ne_of_none upd_same hp
      have s2 := (same_upd (o := .tup []) hq).trans (same_upd (o := .tup [.ref e, .ref q]) hp)
      exact want p q e _ _ _ rfl upd_same (by rw [upd_ne npq]; exact upd_same) (X.keep s2) (s1.trans s2)
theorem scOne : FnScope nOne pOne (defScope sOne) := ⟨rfl, rfl, rfl, by decide +kernel, rfl, by decide +kernel, by decide +kernel⟩
theorem ok_one (F : FnP K "_law_one" sOne f fd) (E0 : Er P w K mg base "BadName" C0 ["name"]) (E1 : Er P w K mg base "BadTile" C1 ["tile"]) (E2 : Er P w K mg base "NoName" C2 ["name"]) (E3 : Er P w K mg base "TakenName" C3 ["name"]) (E4 : Er P w K mg base "BadPlace" C4 ["place"]) (E5 : Er P w K mg base "NotThere" C5 ["place"]) (E6 : Er P w K mg base "Taken" C6 ["place"]) (FM : FnP K "_law_more" sMore fM fdM) (gM : mg "_law_more" = some (.ref fM)) (GM : FnOk P w K mg base CX0 3 fM fdM pOne (spOne [C0, C1, C2, C3, C4, C5, C6, C7, C8, C9, C10, C11, C12, C13] 7)) : FnOk P w K mg base CX0 4 f fd pOne (spOne [C0, C1, C2, C3, C4, C5, C6, C7, C8, C9, C10, C11, C12, C13] 0) := by
  have bM : L2.Binds K fdM pOne [] := FM.bindsN fun _ _ _ _ _ _ us hl => match us, hl with | [_, _, _, _], _ => rfl
  refine F.ok scOne (fun vs H Q E h => ?_) (fun cdv A outer s H vs Q E hr h => ?_)
  · obtain ⟨_, _, _, _, rfl, _⟩ := h
    rfl
  · obtain ⟨k, a, b, c, rfl, _, k14, want⟩ := h
    have nd := scOne.nd
    have hr2 : Room 2 _ := hr.mono (by decide)
    obtain ⟨i0, d0, a0, t0, G0, b0⟩ := E0.ini
    obtain ⟨i1, d1, a1, t1, G1, b1⟩ := E1.ini
    obtain ⟨i2, d2, a2, t2, G2, b2⟩ := E2.ini
    obtain ⟨i3, d3, a3, t3, G3, b3⟩ := E3.ini
    obtain ⟨i4, d4, a4, t4, G4, b4⟩ := E4.ini
    obtain ⟨i5, d5, a5, t5, G5, b5⟩ := E5.ini
    obtain ⟨i6, d6, a6, t6, G6, b6⟩ := E6.ini
    suffices z : ∃ t, PSs (cxOf CX0 P w K mg base nOne "_law_one" (defScope sOne) f cdv A outer s H E).nox (defBody sOne) t ∧ t { nx := fun _ H' => Q .non H', rt := Q } (start nOne [.int k, a, b, c]) H by
      obtain ⟨t, h1, h2⟩ := z
      exact ⟨t, h1.nox, h2⟩
    refine ⟨_, pss_cons (ps_if (pt_cmpR op_lt (pv 0) pe_int (nomark _)) (pss_cons (ps_set (i := 4) nd rfl (.inl rfl) (pe_ix ix_list (pe_lst (pa_cons (pe_xmk E0.t.o a0 t0 G0 hr2 b0 E0.mgx (pa_cons (pv 1) pa_nil)) (pa_cons (pe_xmk E1.t.o a1 t1 G1 hr2 b1 E1.mgx (pa_cons (pv 1) pa_nil)) (pa_cons (pe_xmk E2.t.o a2 t2 G2 hr2 b2 E2.mgx (pa_cons (pv 1) pa_nil)) (pa_cons (pe_xmk E3.t.o a3 t3 G3 hr2 b3 E3.mgx (pa_cons (pv 1) pa_nil)) pa_nil))))) (pv 0) (fun _ _ => rfl)))
        (pss_one (ps_ret (pe_tup (pa_cons (pv 4) (pa_cons (pe_tup (pa_cons (pe_ifExp (pt_cmpR op_eq (pv 0) pe_int (nomark _)) (pe_xget (pv 4)) (pe_xget (pv 4))) pa_nil)) pa_nil)))))) pss_nil)
      (pss_cons (ps_if (pt_cmpR op_lt (pv 0) pe_int (nomark _)) (pss_cons (ps_set (i := 4) nd rfl (.inl rfl) (pe_ix ix_list (pe_lst (pa_cons (pe_xmk E4.t.o a4 t4 G4 hr2 b4 E4.mgx (pa_cons (pv 1) pa_nil)) (pa_cons (pe_xmk E5.t.o a5 t5 G5 hr2 b5 E5.mgx (pa_cons (pv 1) pa_nil)) (pa_cons (pe_xmk E6.t.o a6 t6 G6 hr2 b6 E6.mgx (pa_cons (pv 1) pa_nil)) pa_nil)))) (pe_op op_sub (pv 0) pe_int) (fun _ _ => rfl)))
        (pss_one (ps_ret (pe_tup (pa_cons (pv 4) (pa_cons (pe_tup (pa_cons (pe_xget (pv 4)) pa_nil)) pa_nil)))))) pss_nil)
      (pss_one (ps_ret (pe_call GM hr (by rfl) gM FM.kp bM .nil pass0 (pa_cons (pv 0) (pa_cons (pv 1) (pa_cons (pv 2) (pa_cons (pv 3) pa_nil)))))))), ?_⟩
    refine ⟨_, rfl, _, _, rfl, rfl, _, rfl, ?_⟩
    refine ite2 (fun hk => ?_) (fun hk => ?_)
    · have lt := of_decide_eq_true hk
      refine rd_set (rd_op (rd_lst ?_))
      refine rd_cons (xmk1 rfl fun e0 H0 n0 X0 s0 => ?_)
      refine rd_cons (xmk1 rfl fun e1 H1 n1 X1 s1 => ?_)
      refine rd_cons (xmk1 rfl fun e2 H2 n2 X2 s2 => ?_)
      refine rd_cons (xmk1 rfl fun e3 H3 n3 X3 s3 => ?_)
      have Y0 := X0.keep (((s1).trans s2).trans s3)
      have Y1 := X1.keep ((s2).trans s3)
      have Y2 := X2.keep (s3)
      have Y3 := X3
      have sAll := (((s0).trans s1).trans s2).trans s3
      refine ⟨(by show 4 ≤ sizeLine; decide), fun l hl => ?_⟩
      have sl := same_upd (o := .lst [.ref e0, .ref e1, .ref e2, .ref e3]) hl
      obtain ⟨x, e, C, g, E, i1, i2, X, hg⟩ : ∃ (x : Str) (e C : Addr) (g : Str), Er P w K mg base x C [g] ∧ ([.ref e0, .ref e1, .ref e2, .ref e3] : List V)[k]? = some (.ref e) ∧ ([C0, C1, C2, C3, C4, C5, C6, C7, C8, C9, C10, C11, C12, C13] : List Addr)[k]? = some C ∧ XoAt H3 e C (some [(g, a)]) ∧ ((k = 1 ∧ g = "tile") ∨ (k ≠ 1 ∧ g = "name")) := by
        obtain rfl | rfl | rfl | rfl : k = 0 ∨ k = 1 ∨ k = 2 ∨ k = 3 := by omega
        · exact ⟨_, e0, C0, _, E0, rfl, rfl, Y0, by exact .inr ⟨by decide, rfl⟩⟩
        · exact ⟨_, e1, C1, _, E1, rfl, rfl, Y1, by exact .inl ⟨rfl, rfl⟩⟩
        · exact ⟨_, e2, C2, _, E2, rfl, rfl, Y2, by exact .inr ⟨by decide, rfl⟩⟩
        · exact ⟨_, e3, C3, _, E3, rfl, rfl, Y3, by exact .inr ⟨by decide, rfl⟩⟩
      refine ⟨_, rfl, l, _, _, _, rfl, rfl, .of upd_same, atI_nat i1, ?_⟩
      have X5 := X.keep sl
      have fin : ∀ q p, (upd H3 l (.lst [.ref e0, .ref e1, .ref e2, .ref e3])) q = none → (upd (upd H3 l (.lst [.ref e0, .ref e1, .ref e2, .ref e3])) q (.tup [a])) p = none → Q (.ref p) (upd (upd (upd H3 l (.lst [.ref e0, .ref e1, .ref e2, .ref e3])) q (.tup [a])) p (.tup [.ref e, .ref q])) := fun q p hq hp => by
        have npq : q ≠ p := ne_of_none upd_same hp
        have s2 := (same_upd (o := .tup [a]) hq).trans (same_upd (o := .tup [.ref e, .ref q]) hp)
        refine want p q e C _ _ i2 upd_same ?_ (X5.keep s2) ((sAll.trans sl).trans s2)
        rw [upd_ne npq, upd_same, show nf k = 1 from if_pos (by omega)]
        rfl
      refine rd_ret (rd_tup (rd_cons ⟨_, rfl, rd_cons (rd_tup (rd_cons ⟨_, rfl, rfl, _, rfl, ?_⟩))⟩))
      rcases hg with ⟨h1, rfl⟩ | ⟨h1, rfl⟩
      · have t : decide (V.int (k : Int) = V.int 1) = true := decide_eq_true (by rw [h1] <;> rfl)
        rw [t]
        exact iteT (xget (f := "tile") E X5 rfl (by simp) lk1 ⟨(by show 1 ≤ sizeLine; decide), fun q hq => ⟨(by show 2 ≤ sizeLine; decide), fun p hp => fin q p hq hp⟩⟩)
      · have t : decide (V.int (k : Int) = V.int 1) = false := decide_eq_false (fun z => h1 (by injection z with z; omega))
        rw [t]
        exact iteF (xget (f := "name") E X5 rfl (by simp) lk1 ⟨(by show 1 ≤ sizeLine; decide), fun q hq => ⟨(by show 2 ≤ sizeLine; decide), fun p hp => fin q p hq hp⟩⟩)
    have k4 : 4 ≤ k := by
      have z := hk
      rw [decide_eq_true_iff] at z
      omega
    refine ⟨_, rfl, _, _, rfl, rfl, _, rfl, ?_⟩
    refine ite2 (fun hk => ?_) (fun hk => ?_)
    · have lt := of_decide_eq_true hk
      refine rd_set (rd_op (rd_lst ?_))
      refine rd_cons (xmk1 rfl fun e0 H0 n0 X0 s0 => ?_)
      refine rd_cons (xmk1 rfl fun e1 H1 n1 X1 s1 => ?_)
      refine rd_cons (xmk1 rfl fun e2 H2 n2 X2 s2 => ?_)
      have Y0 := X0.keep ((s1).trans s2)
      have Y1 := X1.keep (s2)
      have Y2 := X2
      have sAll := ((s0).trans s1).trans s2
      refine ⟨(by show 3 ≤ sizeLine; decide), fun l hl => ?_⟩
      have sl := same_upd (o := .lst [.ref e0, .ref e1, .ref e2]) hl
      obtain ⟨j, rfl⟩ : ∃ j, k = j + 4 := ⟨k - 4, by omega⟩
      obtain ⟨x, e, C, E, i1, i2, X⟩ : ∃ (x : Str) (e C : Addr), Er P w K mg base x C ["place"] ∧ ([.ref e0, .ref e1, .ref e2] : List V)[j]? = some (.ref e) ∧ ([C0, C1, C2, C3, C4, C5, C6, C7, C8, C9, C10, C11, C12, C13] : List Addr)[j + 4]? = some C ∧ XoAt H2 e C (some [("place", a)]) := by
        obtain rfl | rfl | rfl : j = 0 ∨ j = 1 ∨ j = 2 := by omega
        · exact ⟨_, e0, C4, E4, rfl, rfl, Y0⟩
        · exact ⟨_, e1, C5, E5, rfl, rfl, Y1⟩
        · exact ⟨_, e2, C6, E6, rfl, rfl, Y2⟩
      have ej : ((j + 4 : Nat) : Int) - 4 = (j : Int) := by omega
      refine ⟨_, rfl, _, _, rfl, rfl, l, _, _, _, rfl, rfl, .of upd_same, (by rw [ej]; exact atI_nat i1), ?_⟩
      have X5 := X.keep sl
      refine rd_ret (rd_tup (rd_cons ⟨_, rfl, rd_cons (rd_tup (rd_cons (xget (f := "place") E X5 rfl (by simp) lk1 ⟨(by show 1 ≤ sizeLine; decide), fun q hq => ⟨(by show 2 ≤ sizeLine; decide), fun p hp => ?_⟩⟩)))⟩))
      have npq : q ≠ p := ne_of_none upd_same hp
      have s2 := (same_upd (o := .tup [a]) hq).trans (same_upd (o := .tup [.ref e, .ref q]) hp)
      refine want p q e C _ _ i2 upd_same ?_ (X5.keep s2) ((sAll.trans sl).trans s2)
      rw [upd_ne npq, upd_same, show nf (j + 4) = 1 from if_pos (by omega)]
      rfl
    have k7 : 7 ≤ k := by
      have z := hk
      rw [decide_eq_true_iff] at z
      omega
    exact ⟨_, rfl, _, rfl, _, rfl, _, rfl, k, a, b, c, rfl, k7, k14, want⟩
end
end K0

set_option Elab.async false
set_option linter.all false
set_option maxRecDepth 100000
set_option maxHeartbeats 8000000
namespace Tr
open PySem PySem.Spec PyProof.Rows L2 Pen
/-! ### data that is shown shortly -/
structure Small (d : PyData) : Prop where
  sh : d.showable = true
  nd : d.hasDict = false
  dp : d.depth ≤ 10
  ln : d.shown.length ≤ 1000
theorem tupText_le (ts : List Str) : (tupleText ts).length ≤ piled ts + 3 := by
  unfold tupleText
  rw [strLen_append, strLen_append]
  have e1 : ((("(" : String) : Str)).length = 1 := rfl
  have e3 : (((if ts.length == 1 then ",)" else ")" : String) : Str)).length ≤ 2 := by split <;> decide
  by_cases h : ts = []
  · subst h
    show 1 + 0 + _ ≤ _
    omega
  · have z := join_length_add ts h
    omega
theorem all_small : ∀ {ds : List PyData}, (∀ d ∈ ds, Small d) → PyData.showableAll ds = true ∧ PyData.hasDictAll ds = false ∧ PyData.depthAll ds ≤ 10 ∧ piled (PyData.shownAll ds) ≤ 1002 * ds.length
  | [], _ => ⟨by simp [PyData.showableAll], by simp [PyData.hasDictAll], by simp [PyData.depthAll], by simp [PyData.shownAll, piled]⟩
  | d :: ds, h => by
    obtain ⟨h1, h2, h3, h4⟩ := all_small (ds := ds) fun e he => h e (List.mem_cons_of_mem _ he)
    have s := h d List.mem_cons_self
    refine ⟨by simp [PyData.showableAll, s.sh, h1], by simp [PyData.hasDictAll, s.nd, h2], ?_, ?_⟩
    · simp only [PyData.depthAll]
      have := s.dp
      omega
    · simp only [PyData.shownAll, piled_cons, List.length_cons]
      have := s.ln
      omega
theorem tup_shown {ds : List PyData} (h : ∀ d ∈ ds, Small d) (n : ds.length ≤ 3) : (PyData.tuple ds).showable = true ∧ (PyData.tuple ds).hasDict = false ∧ (PyData.tuple ds).depth ≤ 60 ∧ (PyData.tuple ds).shown.length ≤ sizeLine := by
  obtain ⟨h1, h2, h3, h4⟩ := all_small h
  refine ⟨by simp only [PyData.showable, h1], by simp only [PyData.hasDict, h2], by simp only [PyData.depth]; omega, ?_⟩
  simp only [PyData.shown]
  have := tupText_le (PyData.shownAll ds)
  rw [sizeLine_eq]
  omega
theorem dpAll_take {K : PySem.W.Frag} {H : Hp} : ∀ (n : Nat) {vs : List V} {ds : List PyData}, DpAll K H vs ds → DpAll K H (vs.take n) (ds.take n)
  | 0, _, _, _ => .nil
  | _ + 1, _, _, .nil => .nil
  | n + 1, _, _, .cons a b => .cons a (dpAll_take n b)
/-! ### isinstance among the fourteen -/
structure Kit (K : PySem.W.Frag) (Cs : List Addr) : Prop where
  one : ∀ C ∈ Cs, Xc K C
  at_ : ∀ (i j : Nat) (C D : Addr), Cs[i]? = some C → Cs[j]? = some D → PySem.W.kitOne K (.ref C) (.ref D) = some (i == j)
theorem isx {K : PySem.W.Frag} {Cs : List Addr} (kit : Kit K Cs) {H : Hp} {Q : VK} {e C D : Addr} {fs : Option (List (Str × V))} {k j : Nat} {σ : L2.St} (hs : σ[0]? = some (some (.ref e))) (hC : Cs[k]? = some C) (hD : Cs[j]? = some D) (X : XoAt H e C fs) (h : Q (.bl (k == j)) H) :
    tCB (rIsX K) (tCons (tVar 0) (tCons (tC (.ref D)) tNil)) σ H Q :=
  ⟨_, hs, e, C, fs, .ref D, .ref D, k == j, rfl, X, .own D, kit.one C (List.mem_of_getElem? hC), kit.at_ k j C D hC hD, h⟩
end Tr
namespace K0
open PySem PySem.Spec PyProof.Rows L2 Pen Tr
/-- _law_kinds: of which of the fourteen an error is -/
def spKinds (Cs : List Addr) : Sp := fun vs H Q _ => ∃ (k : Nat) (e C : Addr) (fs : Option (List (Str × V))), vs = [.ref e] ∧ Cs[k]? = some C ∧ XoAt H e C fs ∧
  ∀ p H', H' p = some (.lst ((List.range 14).map fun j => V.bl (k == j))) → Same H H' → Q (.ref p) H'
section
variable {P : Program} {w : World} {K : PySem.W.Frag} {mg : Str → Option PySem.Value} {base : Heap} {f : Addr} {fd : FuncData} {C0 C1 C2 C3 C4 C5 C6 C7 C8 C9 C10 C11 C12 C13 : Addr}
theorem scKinds : FnScope ["_law_e", "_law_found"] ["_law_e"] (defScope sKinds) := ⟨rfl, rfl, rfl, by decide +kernel, rfl, by decide +kernel, by decide +kernel⟩
theorem ok_kinds (F : FnP K "_law_kinds" sKinds f fd) (T : Txt mg) (kit : Kit K [C0, C1, C2, C3, C4, C5, C6, C7, C8, C9, C10, C11, C12, C13])
    (m0 : mg "BadName" = some (.ref C0)) (m1 : mg "BadTile" = some (.ref C1)) (m2 : mg "NoName" = some (.ref C2)) (m3 : mg "TakenName" = some (.ref C3)) (m4 : mg "BadPlace" = some (.ref C4)) (m5 : mg "NotThere" = some (.ref C5)) (m6 : mg "Taken" = some (.ref C6))
    (m7 : mg "BadText" = some (.ref C7)) (m8 : mg "BadNumber" = some (.ref C8)) (m9 : mg "Loose" = some (.ref C9)) (m10 : mg "TooMany" = some (.ref C10)) (m11 : mg "NotKept" = some (.ref C11)) (m12 : mg "NothingToUndo" = some (.ref C12)) (m13 : mg "NothingToRedo" = some (.ref C13)) :
    FnOk P w K mg base CX0 1 f fd ["_law_e"] (spKinds [C0, C1, C2, C3, C4, C5, C6, C7, C8, C9, C10, C11, C12, C13]) := by
  refine F.ok scKinds (fun vs H Q E h => ?_) (fun cdv A outer s H vs Q E hr h => ?_)
  · obtain ⟨_, _, _, _, rfl, _⟩ := h
    rfl
  · obtain ⟨k, e, C, fs, rfl, hC, X, want⟩ := h
    have nd := scKinds.nd
    suffices z : ∃ t, PSs (cxOf CX0 P w K mg base ["_law_e", "_law_found"] "_law_kinds" (defScope sKinds) f cdv A outer s H E).nox (defBody sKinds) t ∧ t { nx := fun _ H' => Q .non H', rt := Q } (start ["_law_e", "_law_found"] [.ref e]) H by
      obtain ⟨t, h1, h2⟩ := z
      exact ⟨t, h1.nox, h2⟩
    refine ⟨_, pss_cons (ps_set (i := 1) nd rfl (.inl rfl) (pe_lst (pa_cons (pe_callB call_isX (by rfl) T.isi (by decide +kernel) (pa_cons (pv 0) (pa_cons (pe_glob (v := .ref C0) rfl m0 rfl) pa_nil))) (pa_cons (pe_callB call_isX (by rfl) T.isi (by decide +kernel) (pa_cons (pv 0) (pa_cons (pe_glob (v := .ref C1) rfl m1 rfl) pa_nil)))
        (pa_cons (pe_callB call_isX (by rfl) T.isi (by decide +kernel) (pa_cons (pv 0) (pa_cons (pe_glob (v := .ref C2) rfl m2 rfl) pa_nil))) (pa_cons (pe_callB call_isX (by rfl) T.isi (by decide +kernel) (pa_cons (pv 0) (pa_cons (pe_glob (v := .ref C3) rfl m3 rfl) pa_nil))) pa_nil))))))
      (pss_cons (ps_set (i := 1) nd rfl (.inl rfl) (pe_op op_cat (pv 1) (pe_lst (pa_cons (pe_callB call_isX (by rfl) T.isi (by decide +kernel) (pa_cons (pv 0) (pa_cons (pe_glob (v := .ref C4) rfl m4 rfl) pa_nil))) (pa_cons (pe_callB call_isX (by rfl) T.isi (by decide +kernel) (pa_cons (pv 0) (pa_cons (pe_glob (v := .ref C5) rfl m5 rfl) pa_nil)))
        (pa_cons (pe_callB call_isX (by rfl) T.isi (by decide +kernel) (pa_cons (pv 0) (pa_cons (pe_glob (v := .ref C6) rfl m6 rfl) pa_nil))) (pa_cons (pe_callB call_isX (by rfl) T.isi (by decide +kernel) (pa_cons (pv 0) (pa_cons (pe_glob (v := .ref C7) rfl m7 rfl) pa_nil))) pa_nil)))))))
      (pss_cons (ps_set (i := 1) nd rfl (.inl rfl) (pe_op op_cat (pv 1) (pe_lst (pa_cons (pe_callB call_isX (by rfl) T.isi (by decide +kernel) (pa_cons (pv 0) (pa_cons (pe_glob (v := .ref C8) rfl m8 rfl) pa_nil))) (pa_cons (pe_callB call_isX (by rfl) T.isi (by decide +kernel) (pa_cons (pv 0) (pa_cons (pe_glob (v := .ref C9) rfl m9 rfl) pa_nil)))
        (pa_cons (pe_callB call_isX (by rfl) T.isi (by decide +kernel) (pa_cons (pv 0) (pa_cons (pe_glob (v := .ref C10) rfl m10 rfl) pa_nil))) (pa_cons (pe_callB call_isX (by rfl) T.isi (by decide +kernel) (pa_cons (pv 0) (pa_cons (pe_glob (v := .ref C11) rfl m11 rfl) pa_nil))) pa_nil)))))))
      (pss_one (ps_ret (pe_op op_cat (pv 1) (pe_lst (pa_cons (pe_callB call_isX (by rfl) T.isi (by decide +kernel) (pa_cons (pv 0) (pa_cons (pe_glob (v := .ref C12) rfl m12 rfl) pa_nil))) (pa_cons (pe_callB call_isX (by rfl) T.isi (by decide +kernel) (pa_cons (pv 0) (pa_cons (pe_glob (v := .ref C13) rfl m13 rfl) pa_nil))) pa_nil)))))))), ?_⟩
    refine rd_set (rd_lst (rd_cons (isx (j := 0) kit rfl hC rfl X (rd_cons (isx (j := 1) kit rfl hC rfl X (rd_cons (isx (j := 2) kit rfl hC rfl X (rd_cons (isx (j := 3) kit rfl hC rfl X ⟨(by show 4 ≤ sizeLine; decide), fun l1 n1 => ?_⟩)))))))))
    have s1 := same_upd (o := .lst [.bl (k == 0), .bl (k == 1), .bl (k == 2), .bl (k == 3)]) n1
    have X1 := X.keep s1
    refine rd_set (rd_op ⟨_, rfl, rd_lst (rd_cons (isx (j := 4) kit rfl hC rfl X1 (rd_cons (isx (j := 5) kit rfl hC rfl X1 (rd_cons (isx (j := 6) kit rfl hC rfl X1 (rd_cons (isx (j := 7) kit rfl hC rfl X1 ⟨(by show 4 ≤ sizeLine; decide), fun l2 n2 => ?_⟩))))))))⟩)
    have s2 := same_upd (o := .lst [.bl (k == 4), .bl (k == 5), .bl (k == 6), .bl (k == 7)]) n2
    refine ⟨_, _, _, _, rfl, rfl, s2 _ _ upd_same, upd_same, (by show 8 ≤ sizeLine; decide), fun l3 n3 => ?_⟩
    have s3 := same_upd (o := .lst [.bl (k == 0), .bl (k == 1), .bl (k == 2), .bl (k == 3), .bl (k == 4), .bl (k == 5), .bl (k == 6), .bl (k == 7)]) n3
    have X3 := (X1.keep s2).keep s3
    refine rd_set (rd_op ⟨_, rfl, rd_lst (rd_cons (isx (j := 8) kit rfl hC rfl X3 (rd_cons (isx (j := 9) kit rfl hC rfl X3 (rd_cons (isx (j := 10) kit rfl hC rfl X3 (rd_cons (isx (j := 11) kit rfl hC rfl X3 ⟨(by show 4 ≤ sizeLine; decide), fun l4 n4 => ?_⟩))))))))⟩)
    have s4 := same_upd (o := .lst [.bl (k == 8), .bl (k == 9), .bl (k == 10), .bl (k == 11)]) n4
    refine ⟨_, _, _, _, rfl, rfl, s4 _ _ upd_same, upd_same, (by show 12 ≤ sizeLine; decide), fun l5 n5 => ?_⟩
    have s5 := same_upd (o := .lst [.bl (k == 0), .bl (k == 1), .bl (k == 2), .bl (k == 3), .bl (k == 4), .bl (k == 5), .bl (k == 6), .bl (k == 7), .bl (k == 8), .bl (k == 9), .bl (k == 10), .bl (k == 11)]) n5
    have X5 := (X3.keep s4).keep s5
    refine rd_ret (rd_op ⟨_, rfl, rd_lst (rd_cons (isx (j := 12) kit rfl hC rfl X5 (rd_cons (isx (j := 13) kit rfl hC rfl X5 ⟨(by show 2 ≤ sizeLine; decide), fun l6 n6 => ?_⟩))))⟩)
    have s6 := same_upd (o := .lst [.bl (k == 12), .bl (k == 13)]) n6
    refine ⟨_, _, _, _, rfl, rfl, s6 _ _ upd_same, upd_same, (by show 14 ≤ sizeLine; decide), fun l7 n7 => ?_⟩
    exact want l7 _ upd_same ((((((s1.trans s2).trans s3).trans s4).trans s5).trans s6).trans (same_upd n7))
end
end K0

set_option Elab.async false
set_option linter.all false
set_option maxRecDepth 100000
set_option maxHeartbeats 8000000
namespace K0
open PySem PySem.Spec PyProof.Rows L2 Pen Tr
theorem rd_consC {v : V} {tr : TA} {σ : L2.St} {H : Hp} {QA : List V → Hp → Prop} (h : tr σ H fun xs H2 => QA (v :: xs) H2) : tCons (tC v) tr σ H QA := h
/-! ### the menu of a turn -/
structure MenuAt (H : Hp) (p t1 l3 t2 t0 t00 : Addr) : Prop where
  a1 : H t1 = some (.tup [.int 1, .int 2])
  a2 : H l3 = some (.lst [.int 3])
  a3 : H t2 = some (.tup [.str "b", .str "c"])
  a4 : H t0 = some (.tup [.int 0, .int 0])
  a5 : H t00 = some (.tup [.ref t0])
  dk : ∃ kvs, H p = some (.dK kvs)
section
variable {H H' : Hp} {p t1 l3 t2 t0 t00 : Addr}
theorem MenuAt.same (m : MenuAt H p t1 l3 t2 t0 t00) (s : Same H H') : MenuAt H' p t1 l3 t2 t0 t00 := by
  obtain ⟨kvs, e⟩ := m.dk
  exact ⟨s _ _ m.a1, s _ _ m.a2, s _ _ m.a3, s _ _ m.a4, s _ _ m.a5, kvs, s _ _ e⟩
theorem MenuAt.but (m : MenuAt H p t1 l3 t2 t0 t00) (s : But p H H') {n : Nat} (P : PenAt H' p n) : MenuAt H' p t1 l3 t2 t0 t00 := by
  obtain ⟨kvs, e⟩ := m.dk
  exact ⟨s _ _ m.a1 (ne_of m.a1 e (by intro z; cases z)), s _ _ m.a2 (ne_of m.a2 e (by intro z; cases z)), s _ _ m.a3 (ne_of m.a3 e (by intro z; cases z)), s _ _ m.a4 (ne_of m.a4 e (by intro z; cases z)),
    s _ _ m.a5 (ne_of m.a5 e (by intro z; cases z)), P.is⟩
end
def menuL (z r : Int) (t1 l3 t2 t00 : Addr) : List V := [.non, .bl true, .int z, .str "", .str "log", .ref t1, .ref l3, .int (-1 - r), .ref t2, .ref t00]
theorem small_closed {d : PyData} (h : (d.showable && (!d.hasDict && (decide (d.depth ≤ 10) && decide (d.shown.length ≤ 1000)))) = true) : Small d := by
  obtain ⟨h1, h⟩ := Bool.and_eq_true_iff.mp h
  obtain ⟨h2, h⟩ := Bool.and_eq_true_iff.mp h
  obtain ⟨h3, h4⟩ := Bool.and_eq_true_iff.mp h
  refine ⟨h1, ?_, of_decide_eq_true h3, of_decide_eq_true h4⟩
  cases e : d.hasDict with
  | false => rfl
  | true =>
    rw [e] at h2
    cases h2
theorem small_int {z : Nat} (h : z < 10 ^ 40) : Small (.int (z : Int)) := by
  have hlog : (z : Int).natAbs.log2 < 1920 := by
    rw [Int.natAbs_natCast]
    by_cases h0 : z = 0
    · rw [h0]
      decide
    · exact (Nat.log2_lt h0).mpr (Nat.lt_of_lt_of_le h (by decide +kernel))
  refine ⟨by simp only [PyData.showable]; exact decide_eq_true hlog, by simp only [PyData.hasDict], by simp only [PyData.depth]; omega, ?_⟩
  simp only [PyData.shown]
  have e : (Str.ofString (toString (z : Int))).length ≤ 40 := PyProof.Rows.toString_length_le (by omega) (by decide) (by
    have q : ((10 : Int) ^ 40) = ((10 ^ 40 : Nat) : Int) := by decide
    rw [q]
    omega)
  omega
theorem menu_data (K : PySem.W.Frag) {p t1 l3 t2 t0 t00 : Addr} {z : Nat} {r : Int} (hz : z < 10 ^ 40) (r0 : 0 ≤ r) (r1 : r < 9) {i : Nat} {v : V} (h : (menuL z r t1 l3 t2 t00)[i]? = some v) :
    ∃ d, Small d ∧ ∀ H, MenuAt H p t1 l3 t2 t0 t00 → Dp K H v d := by
  have hm := List.mem_of_getElem? h
  unfold menuL at hm
  simp only [List.mem_cons, List.not_mem_nil, or_false] at hm
  rcases hm with h | h | h | h | h | h | h | h | h | h
  · exact ⟨.none, small_closed (by decide +kernel), fun _ m => by rw [h]; exact .non⟩
  · exact ⟨.bool true, small_closed (by decide +kernel), fun _ m => by rw [h]; exact .bl _⟩
  · exact ⟨.int z, small_int hz, fun _ m => by rw [h]; exact .int _⟩
  · exact ⟨.str "", small_closed (by decide +kernel), fun _ m => by rw [h]; exact .str _⟩
  · exact ⟨.str "log", small_closed (by decide +kernel), fun _ m => by rw [h]; exact .str _⟩
  · exact ⟨.tuple [.int 1, .int 2], small_closed (by decide +kernel), fun _ m => by rw [h]; exact .tup (.of m.a1) (.cons (.int _) (.cons (.int _) .nil))⟩
  · exact ⟨.list [.int 3], small_closed (by decide +kernel), fun _ m => by rw [h]; exact .lst (.of m.a2) (.cons (.int _) .nil)⟩
  · refine ⟨.int (-1 - r), ?_, fun _ m => by rw [h]; exact .int _⟩
    obtain rfl | rfl | rfl | rfl | rfl | rfl | rfl | rfl | rfl : r = 0 ∨ r = 1 ∨ r = 2 ∨ r = 3 ∨ r = 4 ∨ r = 5 ∨ r = 6 ∨ r = 7 ∨ r = 8 := by omega
    all_goals exact small_closed (by decide +kernel)
  · exact ⟨.tuple [.str "b", .str "c"], small_closed (by decide +kernel), fun _ m => by rw [h]; exact .tup (.of m.a3) (.cons (.str _) (.cons (.str _) .nil))⟩
  · exact ⟨.tuple [.tuple [.int 0, .int 0]], small_closed (by decide +kernel), fun _ m => by rw [h]; exact .tup (.of m.a5) (.cons (.tup (.of m.a4) (.cons (.int _) (.cons (.int _) .nil))) .nil)⟩
theorem nf_le (k : Nat) : nf k ≤ 3 := by
  unfold nf
  split
  · decide
  · split
    · decide
    · split <;> decide
theorem cut_take (a b c : V) (n : Nat) (h : n ≤ 3) : cutV [a, b, c] none (some (([a, b, c].take n).length : Int)) = [a, b, c].take n := by
  obtain rfl | rfl | rfl | rfl : n = 0 ∨ n = 1 ∨ n = 2 ∨ n = 3 := by omega
  all_goals rfl
theorem whole_take (a b c : V) (n : Nat) (h : n ≤ 3) (hw : HT.sIx [a, b, c].length 0 none = 0 ∧ HT.sIx [a, b, c].length [a, b, c].length (some (([a, b, c].take n).length : Int)) = [a, b, c].length) : [a, b, c] = [a, b, c].take n := by
  obtain rfl | rfl | rfl | rfl : n = 0 ∨ n = 1 ∨ n = 2 ∨ n = 3 := by omega
  · exact absurd (show HT.sIx 3 3 (some 0) = 3 from hw.2) (by decide)
  · exact absurd (show HT.sIx 3 3 (some 1) = 3 from hw.2) (by decide)
  · exact absurd (show HT.sIx 3 3 (some 2) = 3 from hw.2) (by decide)
  · rfl
/-! ### lists of truth values -/
theorem dp_bools {K : PySem.W.Frag} {H : Hp} : ∀ l : List Bool, DpAll K H (l.map V.bl) (l.map PyData.bool)
  | [] => .nil
  | b :: l => .cons (.bl b) (dp_bools l)
theorem bools_lay : ∀ l : List Bool, PyData.canLayAll0 (l.map PyData.bool) = true ∧ PyData.depthAll (l.map PyData.bool) = 0
  | [] => ⟨by simp [PyData.canLayAll0], by simp [PyData.depthAll]⟩
  | b :: l => by
    obtain ⟨h1, h2⟩ := bools_lay l
    exact ⟨by simp [PyData.canLayAll0, PyData.canLay0, h1], by simp [PyData.depthAll, PyData.depth, h2]⟩
theorem bools_shaped (l : List Bool) : SeqAt.shaped (.list (l.map PyData.bool)) = true := by
  obtain ⟨h1, h2⟩ := bools_lay l
  unfold SeqAt.shaped
  simp only [PyData.canLay0, h1, PyData.depth, h2]
  decide
theorem bools_eqv (l : List Bool) : PyData.eqv (.list (l.map PyData.bool)) (.list (l.map PyData.bool)) = true := SeqAt.eqv_refl _ (SeqAt.canLay_of_shaped (bools_shaped l))
theorem kinds_eq (k : Nat) (n : Nat) : (List.range n).map (fun m => V.bl (decide (V.int ((m : Nat) : Int) = V.int (k : Int)))) = ((List.range n).map fun m => k == m).map V.bl := by
  rw [List.map_map]
  refine List.map_congr_left fun m _ => ?_
  refine congrArg V.bl ?_
  show decide (V.int ((m : Nat) : Int) = V.int (k : Int)) = (k == m)
  by_cases h : k = m
  · subst h
    simp
  · have e1 : (k == m) = false := by simpa using h
    rw [e1]
    exact decide_eq_false (fun z => h (by injection z with z; omega))
/-! ### the law -/
def spLaw (K : PySem.W.Frag) : Sp := fun vs H Q _ => ∃ (a : Addr) (ns : List Int), vs = [.ref a] ∧ SqL K H a (ns.map V.int) ∧ ns.length ≤ 63 ∧ ∀ H', Q (.bl true) H'
abbrev nLaw : List Str := ["_law_script", "_law_pen_here", "_law_kind", "_law_menu", "_law_a", "_law_b", "_law_c", "_law_e", "_law_fields", "_law_k"]
section
variable {P : Program} {w : World} {K : PySem.W.Frag} {mg : Str → Option PySem.Value} {base : Heap} {f fPen fDraw fPick fBig fOne fKinds CT : Addr} {fd fdPen fdDraw fdPick fdBig fdOne fdKinds : FuncData} {Cs : List Addr}
theorem scLaw : FnScope nLaw ["_law_script"] (defScope sLaw) := ⟨rfl, rfl, rfl, by decide +kernel, rfl, by decide +kernel, by decide +kernel⟩
theorem ok_law (F : FnP K "law" sLaw f fd) (T : Txt mg) (kit : Kit K Cs) (mT : mg "TileError" = some (.ref CT)) (upT : ∀ C ∈ Cs, PySem.W.kitOne K (.ref C) (.ref CT) = some true) (upV : ∀ C ∈ Cs, PySem.W.kitOne K (.ref C) (.type "ValueError") = some true)
    (FPen : FnP K "_law_pen" sPen fPen fdPen) (gPen : mg "_law_pen" = some (.ref fPen)) (FDraw : FnP K "_law_draw" sDraw fDraw fdDraw) (gDraw : mg "_law_draw" = some (.ref fDraw)) (FPick : FnP K "_law_pick" sPick fPick fdPick) (gPick : mg "_law_pick" = some (.ref fPick))
    (FBig : FnP K "_law_big" sBig fBig fdBig) (gBig : mg "_law_big" = some (.ref fBig)) (FOne : FnP K "_law_one" sOne fOne fdOne) (gOne : mg "_law_one" = some (.ref fOne)) (GOne : FnOk P w K mg base CX0 4 fOne fdOne pOne (spOne Cs 0))
    (FKinds : FnP K "_law_kinds" sKinds fKinds fdKinds) (gKinds : mg "_law_kinds" = some (.ref fKinds)) (GKinds : FnOk P w K mg base CX0 1 fKinds fdKinds ["_law_e"] (spKinds Cs)) : GOk P w K mg base 5 f fd ["_law_script"] (spLaw K) := by
  have GPen : FnOk P w K mg base CX0 1 fPen fdPen ["_law_script"] (spPen K) := ok_pen FPen T
  have bPen : L2.Binds K fdPen ["_law_script"] [] := FPen.bindsN fun _ _ _ _ _ _ us hl => match us, hl with | [_], _ => rfl
  have GDraw : FnOk P w K mg base CX0 1 fDraw fdDraw ["_law_pen_here", "_law_many"] spDraw := ok_draw FDraw T
  have bDraw : L2.Binds K fdDraw ["_law_pen_here", "_law_many"] [] := FDraw.bindsN fun _ _ _ _ _ _ us hl => match us, hl with | [_, _], _ => rfl
  have GPick : FnOk P w K mg base CX0 2 fPick fdPick ["_law_pen_here", "_law_some"] (spPick K) := ok_pick FPick T FDraw gDraw
  have bPick : L2.Binds K fdPick ["_law_pen_here", "_law_some"] [] := FPick.bindsN fun _ _ _ _ _ _ us hl => match us, hl with | [_, _], _ => rfl
  have GBig : FnOk P w K mg base CX0 3 fBig fdBig ["_law_pen_here", "_law_figures"] spBig := ok_big FBig T FDraw gDraw FPick gPick
  have bBig : L2.Binds K fdBig ["_law_pen_here", "_law_figures"] [] := FBig.bindsN fun _ _ _ _ _ _ us hl => match us, hl with | [_, _], _ => rfl
  have bOne : L2.Binds K fdOne pOne [] := FOne.bindsN fun _ _ _ _ _ _ us hl => match us, hl with | [_, _, _, _], _ => rfl
  have bKinds : L2.Binds K fdKinds ["_law_e"] [] := FKinds.bindsN fun _ _ _ _ _ _ us hl => match us, hl with | [_], _ => rfl
  refine GOk.of F scLaw (fun vs H Q h => ?_) (fun cdv A outer s H vs Q hr free h => ?_)
  · obtain ⟨a, ns, rfl, _⟩ := h
    rfl
  · obtain ⟨a, ns, rfl, hS, hlen, want⟩ := h
    have nd := scLaw.nd
    have hr1 : Room 1 _ := hr.mono (show 1 ≤ 4 by decide)
    have hr2 : Room 2 _ := hr.mono (show 2 ≤ 4 by decide)
    have hr3 : Room 3 _ := hr.mono (show 3 ≤ 4 by decide)
    refine ⟨_, pss_cons (ps_set (i := 1) nd rfl (.inl rfl) (pe_call GPen hr1 (by rfl) gPen FPen.kp bPen .nil pass0 (pa_cons (pv 0) pa_nil)))
      (pss_cons (ps_for PassesOwn.never rfl (pi_range1 (by rfl) T.range (pa_cons pe_int pa_nil)) (pg_name (i := 2) nd rfl (.inr rfl))
        (pss_cons (ps_set (i := 3) nd rfl (.inl rfl) (pe_lst (pa_cons pe_non (pa_cons pe_bl (pa_cons (pe_call GBig hr3 (by rfl) gBig FBig.kp bBig .nil pass0 (pa_cons (pv 1) (pa_cons pe_int pa_nil))) (pa_cons pe_str (pa_cons pe_str
            (pa_cons (pe_tup (pa_cons pe_int (pa_cons pe_int pa_nil))) (pa_cons (pe_lst (pa_cons pe_int pa_nil)) (pa_cons (pe_op op_sub (pe_un un_neg pe_int) (pe_call GDraw hr1 (by rfl) gDraw FDraw.kp bDraw .nil pass0 (pa_cons (pv 1) (pa_cons pe_int pa_nil))))
              (pa_cons (pe_tup (pa_cons pe_str (pa_cons pe_str pa_nil))) (pa_cons (pe_tup (pa_cons (pe_tup (pa_cons pe_int (pa_cons pe_int pa_nil))) pa_nil)) pa_nil))))))))))))
        (pss_cons (ps_par3 (i := 4) (j := 5) (l := 6) rfl nd rfl rfl rfl (by decide) (by decide) (by decide) rfl rfl rfl
            (pa_cons (pe_call GPick hr2 (by rfl) gPick FPick.kp bPick .nil pass0 (pa_cons (pv 1) (pa_cons (pv 3) pa_nil))) (pa_cons (pe_call GPick hr2 (by rfl) gPick FPick.kp bPick .nil pass0 (pa_cons (pv 1) (pa_cons (pv 3) pa_nil)))
              (pa_cons (pe_call GPick hr2 (by rfl) gPick FPick.kp bPick .nil pass0 (pa_cons (pv 1) (pa_cons (pv 3) pa_nil))) pa_nil))) (by rfl))
        (pss_cons (ps_asg (pe_call GOne hr (by rfl) gOne FOne.kp bOne .nil pass0 (pa_cons (pv 2) (pa_cons (pv 4) (pa_cons (pv 5) (pa_cons (pv 6) pa_nil)))))
            (pg_tup (by rfl) (pgs_cons (pg_name (i := 7) nd rfl (.inl rfl)) (pgs_cons (pg_name (i := 8) nd rfl (.inl rfl)) pgs_nil))))
        (C8.pss_cut (ps_if (pt_cmpR op_ne (pe_callB (call_show free hr.units) (by rfl) T.repr (by decide +kernel) (pa_cons (pv 8) pa_nil))
            (pe_callB (call_show free hr.units) (by rfl) T.repr (by decide +kernel) (pa_cons (pe_slice sl_tupA (pe_tup (pa_cons (pv 4) (pa_cons (pv 5) (pa_cons (pv 6) pa_nil)))) po_none
              (po_some (pe_callB call_len_seq (by rfl) T.len PySem.boot_len (pa_cons (pv 8) pa_nil)))) pa_nil)) (nomark _)) (pss_one (ps_ret pe_bl)) pss_nil)
        (pss_cons (ps_if (PW.pt (pw_or (pt_not (pt_val (pe_callB call_isX (by rfl) T.isi (by decide +kernel) (pa_cons (pv 7) (pa_cons (pe_glob (v := .ref CT) rfl mT rfl) pa_nil)))))
            (pw_or1 (pt_not (pt_val (pe_callB call_isX (by rfl) T.isi (by decide +kernel) (pa_cons (pv 7) (pa_cons (pe_bltn (v := .ty "ValueError") (u := .type "ValueError") (by rfl) T.ve (by decide +kernel) rfl) pa_nil)))))))) (pss_one (ps_ret pe_bl)) pss_nil)
        (pss_one (ps_if (pt_cmpR (op_neD hr.units) (pe_call GKinds hr1 (by rfl) gKinds FKinds.kp bKinds .nil pass0 (pa_cons (pv 7) pa_nil))
            (pe_lc (own := [("_law_k", 9)]) (g := gName 9) (tt := tYes) rfl nd (pi_range1 (by rfl) T.range (pa_cons pe_int pa_nil)) (blkOk_by (N := nLaw) (sc := defScope sLaw) (by decide +kernel))
              (fun _ _ _ _ _ => pg_name (i := 9) nd rfl (.inl rfl)) (fun _ _ _ _ _ => pts_nil) (fun _ _ _ _ _ => pe_cmpR op_eq (pv 9) (pv 2) (nomark _))) (nomark _)) (pss_one (ps_ret pe_bl)) pss_nil))))))))
      (pss_one (ps_ret pe_bl))), ?_⟩
    -- the pen
    refine ⟨_, rfl, a, ns, rfl, hS, hlen, fun p H0 PA0 s0 hp0 => ?_⟩
    -- for each of the fourteen kinds
    refine ⟨14, rfl, by decide, by decide, for_range (lo := 0) (n := 14) (fun i σ H2 => ∃ (x2 x3 x4 x5 x6 x7 x8 : Option V), σ = [some (.ref a), some (.ref p), x2, x3, x4, x5, x6, x7, x8, none] ∧ PenAt H2 p (60 * i))
      ⟨none, none, none, none, none, none, none, rfl, PA0⟩ ?_ ?_⟩
    · rintro i σ H2 hi ⟨x2, x3, x4, x5, x6, x7, x8, rfl, PA2⟩
      rw [Int.zero_add]
      -- the menu
      refine rd_set (rd_lst (rd_consC (rd_consC (rd_cons ?_))))
      refine ⟨_, rfl, p, 60 * i, 40, rfl, PA2, by omega, by decide, by decide, fun z Ha hz PAa ba => ?_⟩
      obtain ⟨kva, da⟩ := PAa.is
      refine rd_consC (rd_consC (rd_cons (rd_tup ⟨(by show 2 ≤ sizeLine; decide), fun t1 n1 => rd_cons (rd_lst ⟨(by show 1 ≤ sizeLine; decide), fun l3 n3 => rd_cons ?_⟩)⟩)))
      have sb := same_upd (o := .tup [.int 1, .int 2]) n1
      have sc := same_upd (o := .lst [.int 3]) n3
      have PAc := (PAa.keep sb).keep sc
      refine ⟨1, rfl, _, rfl, p, 60 * i + 1 + (40 + 3), 9, rfl, PAc, by omega, by decide, by decide, fun r Hd r0 r1 PAd bd => ?_⟩
      obtain ⟨kvd, dd⟩ := PAd.is
      refine ⟨_, _, rfl, rfl, ?_⟩
      refine rd_cons (rd_tup ⟨(by show 2 ≤ sizeLine; decide), fun t2 n2 => rd_cons (rd_tup (rd_cons (rd_tup ⟨(by show 2 ≤ sizeLine; decide), fun t0 n0 => ⟨(by show 1 ≤ sizeLine; decide), fun t00 n00 => ⟨(by show 10 ≤ sizeLine; decide), fun m nm => ?_⟩⟩⟩)))⟩)
      have se := same_upd (o := .tup [.str "b", .str "c"]) n2
      have sf := same_upd (o := .tup [.int 0, .int 0]) n0
      have sg := same_upd (o := .tup [.ref t0]) n00
      have sm := same_upd (o := .lst (menuL z r t1 l3 t2 t00)) nm
      have np1 : t1 ≠ p := (ne_of_none da n1).symm
      have np3 : l3 ≠ p := (ne_of_none (sb _ _ da) n3).symm
      have M : MenuAt _ p t1 l3 t2 t0 t00 :=
        ⟨(((se.trans sf).trans sg).trans sm) _ _ (bd _ _ (sc _ _ upd_same) np1), (((se.trans sf).trans sg).trans sm) _ _ (bd _ _ upd_same np3), ((sf.trans sg).trans sm) _ _ upd_same, (sg.trans sm) _ _ upd_same, sm _ _ upd_same,
          kvd, (((se.trans sf).trans sg).trans sm) _ _ dd⟩
      have PAm := PAd.keep (((se.trans sf).trans sg).trans sm)
      have npm : m ≠ p := (ne_of_none (((se.trans sf).trans sg) _ _ dd) nm).symm
      have nonil : menuL z r t1 l3 t2 t00 ≠ [] := by intro z; cases z
      -- three picks
      refine ⟨_, rfl, _, rfl, p, m, _, menuL z r t1 l3 t2 t00, rfl, PAm, by omega, .of upd_same, nonil, (by show 10 < 1073741824; decide), npm, fun i1 va H3 hv1 PA3 b3 => ?_⟩
      have L3 : SqL K H3 m (menuL z r t1 l3 t2 t00) := b3.seq npm (.of upd_same)
      refine ⟨_, rfl, _, rfl, p, m, _, menuL z r t1 l3 t2 t00, rfl, PA3, by omega, L3, nonil, (by show 10 < 1073741824; decide), npm, fun i2 vb H4 hv2 PA4 b4 => ?_⟩
      refine ⟨_, rfl, _, rfl, p, m, _, menuL z r t1 l3 t2 t00, rfl, PA4, by omega, b4.seq npm L3, nonil, (by show 10 < 1073741824; decide), npm, fun i3 vc H5 hv3 PA5 b5 => ?_⟩
      have M5 := ((M.but b3 PA3).but b4 PA4).but b5 PA5
      refine ⟨va, vb, vc, rfl, ?_⟩
      -- the error and its fields
      refine ⟨_, rfl, _, rfl, _, rfl, _, rfl, i, va, vb, vc, rfl, Nat.zero_le _, hi, fun q1 q2 e C fs H6 hC h1 h2 X s6 => ?_⟩
      refine ⟨q1, _, rfl, .of h1, rfl, _, _, rfl, _, _, rfl, rfl, ?_⟩
      have M6 := M5.same s6
      have PA6 := PA5.keep s6
      obtain ⟨da', sa, pa⟩ := menu_data K (p := p) (t0 := t0) hz r0 r1 hv1
      obtain ⟨db', sb', pb⟩ := menu_data K (p := p) (t0 := t0) hz r0 r1 hv2
      obtain ⟨dc', sc', pc⟩ := menu_data K (p := p) (t0 := t0) hz r0 r1 hv3
      have small3 : ∀ d ∈ ([da', db', dc'] : List PyData).take (nf i), Small d := fun d hd => by
        have hm := List.mem_of_mem_take hd
        simp only [List.mem_cons, List.not_mem_nil, or_false] at hm
        rcases hm with rfl | rfl | rfl
        · exact sa
        · exact sb'
        · exact sc'
      have few3 : (([da', db', dc'] : List PyData).take (nf i)).length ≤ 3 := by
        rw [List.length_take]
        exact Nat.min_le_right _ _
      obtain ⟨u1, u2, u3, u4⟩ := tup_shown small3 few3
      have dpt : ∀ H' q, MenuAt H' p t1 l3 t2 t0 t00 → SqT K H' q (([va, vb, vc] : List V).take (nf i)) → Dp K H' (.ref q) (.tuple (([da', db', dc'] : List PyData).take (nf i))) :=
        fun H' q M' h => .tup h (dpAll_take (nf i) (.cons (pa H' M') (.cons (pb H' M') (.cons (pc H' M') .nil))))
      -- the two texts
      refine ⟨fun σ' H' => σ' = [some (.ref a), some (.ref p), some (.int i), some (.ref m), some va, some vb, some vc, some (.ref e), some (.ref q2), none] ∧ PenAt H' p (60 * (i + 1)) ∧ XoAt H' e C fs, ?_, ?_⟩
      · refine ⟨_, rfl, q2, _, rfl, dpt H6 q2 M6 (.of h2), u1, u2, u3, u4, ?_⟩
        refine rd_cons ⟨_, rfl, _, rfl, _, rfl, (by show 3 ≤ sizeLine; decide), fun t nt => ?_⟩
        have st := same_upd (o := .tup [va, vb, vc]) nt
        have M7 := M6.same st
        refine ⟨_, rfl, q2, _, rfl, .inr (.of (st _ _ h2)), _, rfl, t, _, rfl, .of upd_same, fun whole => ?_, fun _ q nq => ?_⟩
        · have e1 := whole_take va vb vc (nf i) (nf_le i) whole
          have h7 : SqT K (upd H6 t (.tup [va, vb, vc])) t (([va, vb, vc] : List V).take (nf i)) := by
            rw [← e1]
            exact .of upd_same
          refine ⟨t, _, rfl, dpt _ t M7 h7, u1, u2, u3, u4, rfl, _, rfl, iteNS rfl ⟨rfl, (PA6.keep st).mono (by omega), X.keep st⟩⟩
        · rw [cut_take va vb vc (nf i) (nf_le i)]
          have sq := same_upd (o := .tup (([va, vb, vc] : List V).take (nf i))) nq
          refine ⟨q, _, rfl, dpt _ q (M7.same sq) (.of upd_same), u1, u2, u3, u4, rfl, _, rfl, iteNS rfl ⟨rfl, ((PA6.keep st).keep sq).mono (by omega), (X.keep st).keep sq⟩⟩
      · rintro σ' H7 ⟨rfl, PA7, X7⟩
        have mem := List.mem_of_getElem? hC
        -- a TileError, a ValueError
        refine ⟨_, rfl, e, C, fs, .ref CT, .ref CT, true, rfl, X7, .own CT, kit.one C mem, upT C mem, true, rfl, iteF ?_⟩
        refine ⟨_, rfl, e, C, fs, .ty "ValueError", .type "ValueError", true, rfl, X7, .ty _, kit.one C mem, upV C mem, true, rfl, iteF ?_⟩
        -- of no other kind
        refine ⟨_, rfl, i, e, C, fs, rfl, hC, X7, fun lk H8 hlk s8 => ?_⟩
        have PA8 := PA7.keep s8
        refine ⟨14, rfl, by decide, by decide, fun D hD => lc_range (lo := 0) (n := 14) (fun j H' => H' D = some (.lst ((List.range j).map fun m => V.bl (decide (V.int ((m : Nat) : Int) = V.int (i : Int))))) ∧ Same H8 H') ⟨upd_same, same_upd hD⟩ ?_ ?_⟩
        · rintro j H9 hj ⟨hD9, s9⟩
          rw [Int.zero_add]
          refine ⟨rfl, ?_⟩
          refine ⟨_, rfl, _, rfl, rfl, _, hD9, (by rw [List.length_map, List.length_range]; exact small1000 (by omega)), ?_, fun b o z => ?_⟩
          · rw [upd_same, List.range_succ, List.map_append]
            rfl
          · rw [upd_ne (ne_of_none z hD)]
            exact s9 b o z
        · rintro H9 ⟨hD9, s9⟩
          rw [kinds_eq i 14] at hD9
          have hk9 : H9 lk = some (.lst (((List.range 14).map fun j => i == j).map V.bl)) := by
            have z := s9 _ _ hlk
            rw [List.map_map]
            exact z
          refine ⟨_, _, .lst (.of hk9) (dp_bools _), .lst (.of hD9) (dp_bools _), bools_shaped _, bools_shaped _, ?_⟩
          rw [bools_eqv]
          exact ⟨_, rfl, iteF ⟨_, _, _, _, _, _, _, rfl, PA8.keep s9⟩⟩
    · rintro σ H2 ⟨x2, x3, x4, x5, x6, x7, x8, rfl, PA2⟩
      exact want H2
end
end K0

set_option Elab.async false
set_option linter.all false
set_option maxRecDepth 100000
set_option maxHeartbeats 0
namespace K0
open PySem PySem.Spec PyProof.Rows L2 Pen Tr
section
variable {P : Program} {w : World} {K : PySem.W.Frag} {h : Heap} {mg : Str → Option PySem.Value} {base : Heap} {f : Addr}
theorem ex_xc (q : ex K = true) : ∀ C ∈ cs K, Xc K C := fun C hC => xcAll_ok (List.all_eq_true.mp (Bool.and_eq_true_iff.mp q).1 C hC)
theorem ex_kit (q : ex K = true) : Kit K (cs K) := by
  refine ⟨ex_xc q, fun i j C D hC hD => ?_⟩
  have q2 := (Bool.and_eq_true_iff.mp q).2
  have k1 := (Bool.and_eq_true_iff.mp q2).1
  have q3 := (Bool.and_eq_true_iff.mp q2).2
  have q4 := (Bool.and_eq_true_iff.mp q3).2
  have nd : (cs K).Nodup := of_decide_eq_true (Bool.and_eq_true_iff.mp q4).2
  have z := of_decide_eq_true (List.all_eq_true.mp (List.all_eq_true.mp k1 C (List.mem_of_getElem? hC)) D (List.mem_of_getElem? hD))
  rw [z]
  refine congrArg some ?_
  by_cases e : i = j
  · subst e
    rw [hC] at hD
    cases hD
    simp
  · have ne : C ≠ D := fun q => e (by
      subst q
      have hi : i < (cs K).length := (List.getElem?_eq_some_iff.mp hC).1
      exact (List.getElem?_inj hi nd).mp (hC.trans hD.symm))
    have e1 : (i == j) = false := by simpa using e
    rw [e1]
    exact beq_eq_false_iff_ne.mpr ne
theorem ex_upT (q : ex K = true) : ∀ C ∈ cs K, PySem.W.kitOne K (.ref C) (.ref (He.ga K "TileError")) = some true := fun C hC =>
  of_decide_eq_true (List.all_eq_true.mp (Bool.and_eq_true_iff.mp (Bool.and_eq_true_iff.mp (Bool.and_eq_true_iff.mp q).2).2).1 C hC)
theorem ex_upV (q : ex K = true) : ∀ C ∈ cs K, PySem.W.kitOne K (.ref C) (.type "ValueError") = some true := fun C hC =>
  of_decide_eq_true (List.all_eq_true.mp (Bool.and_eq_true_iff.mp (Bool.and_eq_true_iff.mp (Bool.and_eq_true_iff.mp (Bool.and_eq_true_iff.mp (Bool.and_eq_true_iff.mp q).2).2).2).1).1 C hC)
theorem ex_no (q : ex K = true) : ∀ C ∈ cs K, ∀ y ∈ flds, PySem.W.findIn K (.ref C) y = some none := fun C hC y hy =>
  of_decide_eq_true (List.all_eq_true.mp (List.all_eq_true.mp (Bool.and_eq_true_iff.mp (Bool.and_eq_true_iff.mp (Bool.and_eq_true_iff.mp (Bool.and_eq_true_iff.mp (Bool.and_eq_true_iff.mp q).2).2).2).1).2 C hC) y hy)
theorem er_of {x : Str} {fs : List Str} {fd : FuncData} (hx : x ∈ names) (hf : ∀ y ∈ fs, y ∈ flds) (q : ex K = true) (m : mg x = some (.ref (He.ga K x))) (M : Meth K (He.ga K x) "__init__" (He.ma K (He.ga K x) "__init__"))
    (G : FnOk P w K mg base CX0 1 (He.ma K (He.ga K x) "__init__") fd ("self" :: fs) (spI (He.ga K x) fs)) (b : L2.Binds K fd ("self" :: fs) []) : Er P w K mg base x (He.ga K x) fs := by
  have hC : He.ga K x ∈ cs K := List.mem_map.mpr ⟨x, hx, rfl⟩
  exact ⟨ex_xc q _ hC, fun y hy => ex_no q _ hC y (hf y hy), m, ⟨_, fd, M.at_, beq_iff_eq.mp M.fn, G, b⟩⟩

theorem facts (X : K.In h) (N : h.Ns mainGlobals mg) (hfa : mg ("law" : Str) = some (.ref f)) (c : He.SaysX fa fn [] [] ex w h K) :
    ∃ fd : FuncData, (∀ (s : Shared) (v : PySem.Value), BindsTo s fd ⟨[v], []⟩ [("_law_script", v)]) ∧ ∀ base : Heap, K.In base → base.Ns mainGlobals mg → GOk P w K mg base 5 f fd ["_law_script"] (spLaw K) := by
  have q : ex K = true := c.more
  have d := c.t.d
  have T : Txt mg := ⟨He.free_ok X N (d.fact 0 (f := .free "len") rfl), He.free_ok X N (d.fact 1 (f := .free "int") rfl), He.free_ok X N (d.fact 2 (f := .free "list") rfl), He.free_ok X N (d.fact 3 (f := .free "range") rfl), He.free_ok X N (d.fact 4 (f := .free "str") rfl), He.free_ok X N (d.fact 5 (f := .free "repr") rfl), He.free_ok X N (d.fact 6 (f := .free "isinstance") rfl), He.free_ok X N (d.fact 7 (f := .free "ValueError") rfl)⟩
  have g0 := He.glo_ok X N (d.fact 8 (f := .glo "_law_pen") rfl)
  obtain ⟨fd0, F0⟩ := d.def_ 0 rfl
  have g1 := He.glo_ok X N (d.fact 9 (f := .glo "_law_draw") rfl)
  obtain ⟨fd1, F1⟩ := d.def_ 1 rfl
  have g2 := He.glo_ok X N (d.fact 10 (f := .glo "_law_pick") rfl)
  obtain ⟨fd2, F2⟩ := d.def_ 2 rfl
  have g3 := He.glo_ok X N (d.fact 11 (f := .glo "_law_big") rfl)
  obtain ⟨fd3, F3⟩ := d.def_ 3 rfl
  have g4 := He.glo_ok X N (d.fact 12 (f := .glo "_law_one") rfl)
  obtain ⟨fd4, F4⟩ := d.def_ 4 rfl
  have g5 := He.glo_ok X N (d.fact 13 (f := .glo "_law_more") rfl)
  obtain ⟨fd5, F5⟩ := d.def_ 5 rfl
  have g6 := He.glo_ok X N (d.fact 14 (f := .glo "_law_kinds") rfl)
  obtain ⟨fd6, F6⟩ := d.def_ 6 rfl
  have g7 := He.glo_ok X N (d.fact 15 (f := .glo "law") rfl)
  obtain ⟨fd7, F7⟩ := d.def_ 7 rfl
  have gT := He.glo_ok X N (d.fact 16 (f := .glo "TileError") rfl)
  have m0 := He.glo_ok X N (d.fact 17 (f := .glo "BadName") rfl)
  have M0 := He.meth_ok (d.fact 31 (f := .meth "BadName" "__init__") rfl)
  obtain ⟨di0, D0⟩ := d.def_ 8 rfl
  have m1 := He.glo_ok X N (d.fact 18 (f := .glo "BadTile") rfl)
  have M1 := He.meth_ok (d.fact 32 (f := .meth "BadTile" "__init__") rfl)
  obtain ⟨di1, D1⟩ := d.def_ 9 rfl
  have m2 := He.glo_ok X N (d.fact 19 (f := .glo "NoName") rfl)
  have M2 := He.meth_ok (d.fact 33 (f := .meth "NoName" "__init__") rfl)
  obtain ⟨di2, D2⟩ := d.def_ 10 rfl
  have m3 := He.glo_ok X N (d.fact 20 (f := .glo "TakenName") rfl)
  have M3 := He.meth_ok (d.fact 34 (f := .meth "TakenName" "__init__") rfl)
  obtain ⟨di3, D3⟩ := d.def_ 11 rfl
  have m4 := He.glo_ok X N (d.fact 21 (f := .glo "BadPlace") rfl)
  have M4 := He.meth_ok (d.fact 35 (f := .meth "BadPlace" "__init__") rfl)
  obtain ⟨di4, D4⟩ := d.def_ 12 rfl
  have m5 := He.glo_ok X N (d.fact 22 (f := .glo "NotThere") rfl)
  have M5 := He.meth_ok (d.fact 36 (f := .meth "NotThere" "__init__") rfl)
  obtain ⟨di5, D5⟩ := d.def_ 13 rfl
  have m6 := He.glo_ok X N (d.fact 23 (f := .glo "Taken") rfl)
  have M6 := He.meth_ok (d.fact 37 (f := .meth "Taken" "__init__") rfl)
  obtain ⟨di6, D6⟩ := d.def_ 14 rfl
  have m7 := He.glo_ok X N (d.fact 24 (f := .glo "BadText") rfl)
  have M7 := He.meth_ok (d.fact 38 (f := .meth "BadText" "__init__") rfl)
  obtain ⟨di7, D7⟩ := d.def_ 15 rfl
  have m8 := He.glo_ok X N (d.fact 25 (f := .glo "BadNumber") rfl)
  have M8 := He.meth_ok (d.fact 39 (f := .meth "BadNumber" "__init__") rfl)
  obtain ⟨di8, D8⟩ := d.def_ 16 rfl
  have m9 := He.glo_ok X N (d.fact 26 (f := .glo "Loose") rfl)
  have M9 := He.meth_ok (d.fact 40 (f := .meth "Loose" "__init__") rfl)
  obtain ⟨di9, D9⟩ := d.def_ 17 rfl
  have m10 := He.glo_ok X N (d.fact 27 (f := .glo "TooMany") rfl)
  have M10 := He.meth_ok (d.fact 41 (f := .meth "TooMany" "__init__") rfl)
  obtain ⟨di10, D10⟩ := d.def_ 18 rfl
  have m11 := He.glo_ok X N (d.fact 28 (f := .glo "NotKept") rfl)
  have M11 := He.meth_ok (d.fact 42 (f := .meth "NotKept" "__init__") rfl)
  obtain ⟨di11, D11⟩ := d.def_ 19 rfl
  have m12 := He.glo_ok X N (d.fact 29 (f := .glo "NothingToUndo") rfl)
  have M12 := He.meth_ok (d.fact 43 (f := .meth "NothingToUndo" "__init__") rfl)
  obtain ⟨di12, D12⟩ := d.def_ 20 rfl
  have m13 := He.glo_ok X N (d.fact 30 (f := .glo "NothingToRedo") rfl)
  have M13 := He.meth_ok (d.fact 44 (f := .meth "NothingToRedo" "__init__") rfl)
  obtain ⟨di13, D13⟩ := d.def_ 21 rfl
  have e := hfa.symm.trans g7
  cases e
  refine ⟨fd7, fun s v => FunD.bindsA (ps := ["_law_script"]) F7 (fun _ _ _ _ _ _ us hl => match us, hl with | [_], _ => rfl) s [v] rfl, fun base _ _ => ?_⟩
  have E0 : Er P w K mg base "BadName" (He.ga K "BadName") ["name"] := er_of (by simp [names]) (by simp [flds]) q m0 M0 (ok_BadName D0 (ex_xc q _ (List.mem_map.mpr ⟨"BadName", by simp [names], rfl⟩)) (fun y hy => ex_no q _ (List.mem_map.mpr ⟨"BadName", by simp [names], rfl⟩) y (by revert hy; revert y; simp [flds])))
    (FunD.bindsN D0 fun _ _ _ _ _ _ us hl => match us, hl with | [_, _], _ => rfl)
  have E1 : Er P w K mg base "BadTile" (He.ga K "BadTile") ["tile"] := er_of (by simp [names]) (by simp [flds]) q m1 M1 (ok_BadTile D1 (ex_xc q _ (List.mem_map.mpr ⟨"BadTile", by simp [names], rfl⟩)) (fun y hy => ex_no q _ (List.mem_map.mpr ⟨"BadTile", by simp [names], rfl⟩) y (by revert hy; revert y; simp [flds])))
    (FunD.bindsN D1 fun _ _ _ _ _ _ us hl => match us, hl with | [_, _], _ => rfl)
  have E2 : Er P w K mg base "NoName" (He.ga K "NoName") ["name"] := er_of (by simp [names]) (by simp [flds]) q m2 M2 (ok_NoName D2 (ex_xc q _ (List.mem_map.mpr ⟨"NoName", by simp [names], rfl⟩)) (fun y hy => ex_no q _ (List.mem_map.mpr ⟨"NoName", by simp [names], rfl⟩) y (by revert hy; revert y; simp [flds])))
    (FunD.bindsN D2 fun _ _ _ _ _ _ us hl => match us, hl with | [_, _], _ => rfl)
  have E3 : Er P w K mg base "TakenName" (He.ga K "TakenName") ["name"] := er_of (by simp [names]) (by simp [flds]) q m3 M3 (ok_TakenName D3 (ex_xc q _ (List.mem_map.mpr ⟨"TakenName", by simp [names], rfl⟩)) (fun y hy => ex_no q _ (List.mem_map.mpr ⟨"TakenName", by simp [names], rfl⟩) y (by revert hy; revert y; simp [flds])))
    (FunD.bindsN D3 fun _ _ _ _ _ _ us hl => match us, hl with | [_, _], _ => rfl)
  have E4 : Er P w K mg base "BadPlace" (He.ga K "BadPlace") ["place"] := er_of (by simp [names]) (by simp [flds]) q m4 M4 (ok_BadPlace D4 (ex_xc q _ (List.mem_map.mpr ⟨"BadPlace", by simp [names], rfl⟩)) (fun y hy => ex_no q _ (List.mem_map.mpr ⟨"BadPlace", by simp [names], rfl⟩) y (by revert hy; revert y; simp [flds])))
    (FunD.bindsN D4 fun _ _ _ _ _ _ us hl => match us, hl with | [_, _], _ => rfl)
  have E5 : Er P w K mg base "NotThere" (He.ga K "NotThere") ["place"] := er_of (by simp [names]) (by simp [flds]) q m5 M5 (ok_NotThere D5 (ex_xc q _ (List.mem_map.mpr ⟨"NotThere", by simp [names], rfl⟩)) (fun y hy => ex_no q _ (List.mem_map.mpr ⟨"NotThere", by simp [names], rfl⟩) y (by revert hy; revert y; simp [flds])))
    (FunD.bindsN D5 fun _ _ _ _ _ _ us hl => match us, hl with | [_, _], _ => rfl)
  have E6 : Er P w K mg base "Taken" (He.ga K "Taken") ["place"] := er_of (by simp [names]) (by simp [flds]) q m6 M6 (ok_Taken D6 (ex_xc q _ (List.mem_map.mpr ⟨"Taken", by simp [names], rfl⟩)) (fun y hy => ex_no q _ (List.mem_map.mpr ⟨"Taken", by simp [names], rfl⟩) y (by revert hy; revert y; simp [flds])))
    (FunD.bindsN D6 fun _ _ _ _ _ _ us hl => match us, hl with | [_, _], _ => rfl)
  have E7 : Er P w K mg base "BadText" (He.ga K "BadText") ["line", "column"] := er_of (by simp [names]) (by simp [flds]) q m7 M7 (ok_BadText D7 (ex_xc q _ (List.mem_map.mpr ⟨"BadText", by simp [names], rfl⟩)) (fun y hy => ex_no q _ (List.mem_map.mpr ⟨"BadText", by simp [names], rfl⟩) y (by revert hy; revert y; simp [flds])))
    (FunD.bindsN D7 fun _ _ _ _ _ _ us hl => match us, hl with | [_, _, _], _ => rfl)
  have E8 : Er P w K mg base "BadNumber" (He.ga K "BadNumber") ["what", "number"] := er_of (by simp [names]) (by simp [flds]) q m8 M8 (ok_BadNumber D8 (ex_xc q _ (List.mem_map.mpr ⟨"BadNumber", by simp [names], rfl⟩)) (fun y hy => ex_no q _ (List.mem_map.mpr ⟨"BadNumber", by simp [names], rfl⟩) y (by revert hy; revert y; simp [flds])))
    (FunD.bindsN D8 fun _ _ _ _ _ _ us hl => match us, hl with | [_, _, _], _ => rfl)
  have E9 : Er P w K mg base "Loose" (He.ga K "Loose") ["place", "bonds"] := er_of (by simp [names]) (by simp [flds]) q m9 M9 (ok_Loose D9 (ex_xc q _ (List.mem_map.mpr ⟨"Loose", by simp [names], rfl⟩)) (fun y hy => ex_no q _ (List.mem_map.mpr ⟨"Loose", by simp [names], rfl⟩) y (by revert hy; revert y; simp [flds])))
    (FunD.bindsN D9 fun _ _ _ _ _ _ us hl => match us, hl with | [_, _, _], _ => rfl)
  have E10 : Er P w K mg base "TooMany" (He.ga K "TooMany") ["what", "many", "limit"] := er_of (by simp [names]) (by simp [flds]) q m10 M10 (ok_TooMany D10 (ex_xc q _ (List.mem_map.mpr ⟨"TooMany", by simp [names], rfl⟩)) (fun y hy => ex_no q _ (List.mem_map.mpr ⟨"TooMany", by simp [names], rfl⟩) y (by revert hy; revert y; simp [flds])))
    (FunD.bindsN D10 fun _ _ _ _ _ _ us hl => match us, hl with | [_, _, _, _], _ => rfl)
  have E11 : Er P w K mg base "NotKept" (He.ga K "NotKept") ["promise", "witness"] := er_of (by simp [names]) (by simp [flds]) q m11 M11 (ok_NotKept D11 (ex_xc q _ (List.mem_map.mpr ⟨"NotKept", by simp [names], rfl⟩)) (fun y hy => ex_no q _ (List.mem_map.mpr ⟨"NotKept", by simp [names], rfl⟩) y (by revert hy; revert y; simp [flds])))
    (FunD.bindsN D11 fun _ _ _ _ _ _ us hl => match us, hl with | [_, _, _], _ => rfl)
  have E12 : Er P w K mg base "NothingToUndo" (He.ga K "NothingToUndo") [] := er_of (by simp [names]) (by simp [flds]) q m12 M12 (ok_NothingToUndo D12 (ex_xc q _ (List.mem_map.mpr ⟨"NothingToUndo", by simp [names], rfl⟩)) (fun y hy => ex_no q _ (List.mem_map.mpr ⟨"NothingToUndo", by simp [names], rfl⟩) y (by revert hy; revert y; simp [flds])))
    (FunD.bindsN D12 fun _ _ _ _ _ _ us hl => match us, hl with | [_], _ => rfl)
  have E13 : Er P w K mg base "NothingToRedo" (He.ga K "NothingToRedo") [] := er_of (by simp [names]) (by simp [flds]) q m13 M13 (ok_NothingToRedo D13 (ex_xc q _ (List.mem_map.mpr ⟨"NothingToRedo", by simp [names], rfl⟩)) (fun y hy => ex_no q _ (List.mem_map.mpr ⟨"NothingToRedo", by simp [names], rfl⟩) y (by revert hy; revert y; simp [flds])))
    (FunD.bindsN D13 fun _ _ _ _ _ _ us hl => match us, hl with | [_], _ => rfl)
  have GM : FnOk P w K mg base CX0 3 (He.ga K "_law_more") fd5 pOne (spOne (cs K) 7) := ok_more F5 E7 E8 E9 E10 E11 E12 E13
  have GO : FnOk P w K mg base CX0 4 (He.ga K "_law_one") fd4 pOne (spOne (cs K) 0) := ok_one F4 E0 E1 E2 E3 E4 E5 E6 F5 g5 GM
  have GK : FnOk P w K mg base CX0 1 (He.ga K "_law_kinds") fd6 ["_law_e"] (spKinds (cs K)) := ok_kinds F6 T (ex_kit q) m0 m1 m2 m3 m4 m5 m6 m7 m8 m9 m10 m11 m12 m13
  exact ok_law F7 T (ex_kit q) gT (ex_upT q) (ex_upV q) F0 g0 F1 g1 F2 g2 F3 g3 F4 g4 GO F6 g6 GK
end
end K0
open PySem PySem.W PySem.Calls PyProof.Rows
theorem PySem.Challenge.cw_tilesregrow_k00_errors_holds : PySem.Challenge.rw_tilesregrow_k00_errors.Holds := by
  w_on; o_law
  refine HandSHeadRun.head_any (r := OpenLaw.row PySem.Challenge.rw_tilesregrow_k00_errors) (q := view (OpenLaw.row PySem.Challenge.rw_tilesregrow_k00_errors).prog [24]) (H := K0.hk) (ob := K0.ob) (M := 4000) (loose := K0.loose) (d := HandSHeadRun.topDef (OpenLaw.row PySem.Challenge.rw_tilesregrow_k00_errors).prog 24) (kwd := []) K0.ob_eq
    (by kernel_rfl) (fun s => by kernel_rfl) K0.run (by kernel_rfl) (by kernel_rfl) (by kernel_rfl) (by rfl) (by first | assumption | decide +kernel) (by decide +kernel) ⟨rfl, rfl, rfl, rfl, rfl, by decide +kernel⟩ ?hw ?hc
  case hw => w_witness2
  case hc =>
    refine Tr.law_walk (l := PySem.Challenge.rw_tilesregrow_k00_errors) (n := 63) (k := 5) (x := "_law_script") rfl (by decide) (by kernel_rfl) ⟨rfl, by decide, by decide⟩ ?F
    intro w mg fa h Y G hmg0
    obtain ⟨K, KX, c⟩ := Y
    have hmg : mg ("law" : PySem.Str) = some (.ref fa) := by
      have e : (HandSHeadRun.topDef (OpenLaw.row PySem.Challenge.rw_tilesregrow_k00_errors).prog 24).name = ("law" : PySem.Str) := by kernel_rfl
      rw [← e]
      exact hmg0
    obtain ⟨fd, hb, hF⟩ := K0.facts (P := (PySem.Challenge.rw_tilesregrow_k00_errors).prog) (w := w) KX G hmg c
    exact ⟨K, fd, K0.spLaw K, KX, hb, fun H a ns hl hS => ⟨a, ns, rfl, hS, hl, fun _ => rfl⟩, hF⟩

