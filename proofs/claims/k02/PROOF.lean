import PyProof.Rows.All
import Wide.All
import OpenK.AllK
import Wide.FinOn
import KE.KRevSl
import HandS.ForMost
import HandS.ForExc
import HandS.StrMore
import HandS.Wide
import HandS.IsInst
import HandS.ExcInit
import HandS.ExcIs
import HandS.TryMany
import HandS.Style
import HandS.Codes
import KE.LtData
import PySem.Challenge.RW_runsback_k02_whole_roots_and_earlier_row
set_option Elab.async false
set_option linter.all false
set_option maxRecDepth 100000
set_option maxHeartbeats 8000000
/-! Further rules over the hand layer: swapcase, text[::-1], an exception made by C(), several except clauses with names, list(text). -/
namespace L2
open PySem PySem.Spec PyProof.Rows
theorem mt_swapcase {X : Cx} : MtR X "str.swapcase" (fun x xs H Q => ∃ a, x = .str a ∧ xs = [] ∧ a.length ≤ 5592405 ∧ Q (.str (Txt.swapcase a)) H) :=
  mt0 (C := fun a => a.length ≤ 5592405) (g := fun a => .str (Txt.swapcase a)) fun a _ s _ fits go => PyProof.Rows.SCL.swapcase fits fun _ => go _ (s.toks + 1) ⟨_, rfl⟩
/-! ### text[::-1] -/
def revS (z : Str) : Str := ⟨z.cps.toList.reverse.toArray⟩
def tRevS (te : TE) : TE := fun σ H Q => te σ H fun x H1 => ∃ z, x = .str z ∧ z.length ≤ sizeLine ∧ Q (.str (revS z)) H1
theorem rev_picked (z : Str) : ((Builtin.Str.strSliceIndices none none (-1) z.length).filterMap (z.cps[·]?)).toArray = (revS z).cps := by
  have e : Builtin.Str.strSliceIndices none none (-1) z.cps.size = sliceRange ((z.cps.size : Int) - 1) (-1) (-1) := rfl
  rw [show z.length = z.cps.size from rfl, e, PySem.W.krv_sliceRange, PySem.W.krv_range, List.filterMap_reverse, PySem.W.krv_all]; rfl
theorem pe_revS {X : Cx} {e : Expr} {te : TE} {k : Nat} {p1 p2 p3 pos : Pos} (he : PE X e te) : PE X (.Subscript e (.Slice none none (some (.UnaryOp .USub (.Constant (.int 1) k p1) p2)) p3) pos) (tRevS te) := by
  constructor
  intro pins s0 σ H Q I0 hw
  apply Subscript_
  refine thn (he.run pins s0 σ H _ I0 hw) ?_
  rintro v sA ⟨x, HA, IA, rA, z, rfl, fits, goal⟩
  obtain ⟨tok, rfl⟩ := rA
  apply wpAny_Slice
  rw [evalPart_none]
  apply wpAny_pure; apply wpAny_pure
  have last : PO X (some (.UnaryOp .USub (.Constant (.int 1) k p1) p2)) (tPart (tUn (rU fun i => .int (-i)) (tC (.int 1)))) := po_some (pe_un un_neg pe_int)
  refine thn (last.run pins sA σ HA (fun o HB => o = some (-1) ∧ HB = HA) IA ⟨1, rfl, -1, rfl, rfl, rfl⟩) ?_
  rintro vs sB ⟨o, HB, IB, part, rfl, rfl⟩
  obtain ⟨st, rfl, est⟩ := IsPart.raw part
  have IC : Inv X pins σ HB { sB with heap := sB.heap.push { cls := .type "slice", data := .fields #[.none, .none, partValue st] } } :=
    IB.kept (t' := sB.toks) fun _ _ there => Heap.get?_push_of_some _ there
  match st, est with
  | some (_, stok), rfl =>
    refine tail_any (ops := [.str z tok, .ref sB.heap.objs.size]) (typeIs_str _ _ _) F.slot_str_getitem.lookup ?_ (by with_unfolding_all rfl)
    refine wpAny_getItem_str_slice (l := none) (u := none) (st := some (-1, stok)) ⟨_, Heap.get?_push_size _ rfl, rfl, rfl⟩ rfl ?_
    show Made.post (if ((-1 : Int) == 1 && _) = true then Made.val (.str z tok) else Made.str ⟨((Builtin.Str.strSliceIndices none none (-1) z.length).filterMap (z.cps[·]?)).toArray⟩) _ _
    rw [if_neg (by simp), rev_picked]
    refine ⟨?_, .str _, HB, IC.tok _, ⟨_, rfl⟩, goal⟩
    have f2 : z.cps.size ≤ sizeLine := fits
    show z.cps.toList.reverse.toArray.size ≤ sizeLine
    simpa using f2
/-! ### C(), where __init__ does nothing: the new exception is let go with nothing stored -/
section
variable {X : Cx} {pins : List (Addr × Obj)} {σ : St} {H1 : Hp} {hp hp2 h2 : Heap} {a C : Addr}
/-- what stands at a is no part of what is tracked elsewhere -/
theorem exo_apart {c : Addr} {o : HO} (ho : o ≠ exo a C none) (e : upd H1 a (exo a C none) c = some o) : c ≠ a ∧ H1 c = some o := by
  by_cases z : c = a
  · rw [z, upd_same] at e; exact absurd (Option.some.inj e).symm ho
  · rw [upd_ne z] at e; exact ⟨z, e⟩
theorem hok_without {P : Program} {w : World} (hn : H1 a = none) (ok : HOk P w (upd H1 a (exo a C none)) h2) {G : Heap} (same : ∀ b, b ≠ a → G.get? b = h2.get? b) : HOk P w H1 G := by
  intro b o tracked
  have apart : b ≠ a := ne_of_none tracked hn
  have here : upd H1 a (exo a C none) b = some o := (upd_ne apart).trans tracked
  refine (ok b o here).stay ?_ ?_ ?_
  · rintro c v (rfl | owns) there
    · exact (same _ apart).trans there
    · exact (same c (exo_apart (fun z => exo_own z.symm) owns).1).trans there
  · exact fun c owns => (exo_apart (fun z => exo_own z.symm) owns).2
  · exact fun c xs tup => (exo_apart (fun z => exo_tup z.symm) tup).2
theorem un_without {fs : List Addr} (new : hp.objs.size ≤ a) (k : ∀ b o, hp.get? b = some o → hp2.get? b = some o) (un : Un fs [] (upd H1 a (exo a C none)) (upd H1 a (exo a C none)) hp2 h2) {G : Heap} (same : ∀ b, b ≠ a → G.get? b = h2.get? b) :
    Un fs [] H1 H1 hp G := by
  have far : ∀ b o, hp.get? b = some o → b ≠ a := fun b o there z => absurd (Heap.lt_size there) (by rw [z]; exact Nat.not_lt.mpr new)
  have free : ∀ b o, hp.get? b = some o → H1 b = none → upd H1 a (exo a C none) b = none := fun b o there z => (upd_ne (far b o there)).trans z
  refine ⟨fun b o there z f x => (same b (far b o there)).trans (un.keep b o (k b o there) (free b o there z) f x), fun b o there z f x => ?_, fun _ _ _ z _ => z, fun b o there x => ?_, fun _ _ z => z, fun _ _ _ z => z, fun _ _ z => ⟨#[], by rw [z]; simp⟩⟩
  · obtain ⟨sl, e⟩ := un.slot b o (k b o there) (free b o there z) f x
    exact ⟨sl, (same b (far b o there)).trans e⟩
  · obtain ⟨o', e⟩ := un.there b o (k b o there) x
    exact ⟨o', (same b (far b o there)).trans e⟩
theorem made_plain {Q : XK} {s1 : Shared} {g2 : Array GenState} {d2 : Drawn} {t2 : Nat} {os2 : OsState} (T : Raises X (.ref C)) (I1 : Inv X pins σ H1 s1) (new : s1.heap.objs.size ≤ a) (k : ∀ b o, s1.heap.get? b = some o → hp2.get? b = some o)
    (un : Un (frs X.stack) [] (upd H1 a (exo a C none)) (upd H1 a (exo a C none)) hp2 h2) (ok : HOk X.prog X.w (upd H1 a (exo a C none)) h2) (ho : os2 = s1.os) (hb : AllBare g2) (q : Q (.ref C) none H1) : MkP X pins σ Q (.ref a) ⟨h2, g2, d2, t2, os2⟩ := by
  obtain ⟨hp1, g1, d1, t1, os1⟩ := s1
  have hn : H1 a = none := I1.hok.fresh new
  obtain ⟨t0, obj⟩ := exo_at ok (e := a) (C := C) (d := none) upd_same
  obtain ⟨G, rest, gone⟩ := restrict h2 fun b => !decide (b = a)
  have same : ∀ b, b ≠ a → G.get? b = h2.get? b := fun b z => rest b (by simp [z])
  have away : G.get? a = none := gone a (by simp)
  have J : Inv X pins σ H1 ⟨G, g2, d2, t2, os2⟩ := I1.call' (ch := []) ho (un_without new k un same) (hok_without hn ok same) hb (fun _ z => absurd z (by simp))
  refine ⟨a, _, _, _, _, _, _, rfl, J, ?_, away, obj, ⟨rfl, rfl⟩, rfl, rfl, hn, rfl, hb, T, q⟩
  intro b o there
  have z : b ≠ a := fun z => by rw [z] at there; exact nomatch away.symm.trans there
  exact (same b z).symm.trans there
end
/-- __init__ that does nothing -/
def spPass : Sp := fun vs H Q _ => ∃ x : Addr, vs = [.ref x] ∧ Q .non H
theorem pmk_oexZ {X : Cx} {CX : CXT} {x : Str} {C fI : Addr} {k : Nat} {fd : FuncData} {ps : List Str} {p pos : Pos} (T : OexC X.K C) (iC : PySem.W.findIn X.K (.ref C) "__init__" = some (some (.ref fI))) (tI : PySem.W.typeIn X.K (.ref fI) = some (.type "function"))
    (F1 : FnOk X.prog X.w X.K X.mg X.base CX k fI fd ps spPass) (hr : Room (k + 1) X.A) (hb : Binds X.K fd ps []) (hx : Passes CX X (fun _ _ _ => False)) (hg : Gl X x) (hm : X.mg x = some (.ref C)) (hdb : (x == ("__debug__" : Str)) = false := by decide) :
    PMk X (.Call (.Name x p) [] [] pos) (fun _ H Q => Q (.ref C) none H) := by
  intro pins s σ H1 Q I1 goal
  obtain ⟨hp, g, dr, tk, os⟩ := s
  obtain ⟨nm, q, N, bs, bm, sn, sub, ab, col, dd, k0, k1, k2, k3, k5, hC, hbm⟩ := T.cls
  refine wpAny_Call_Name_kw (ld_glob I1 hg hm ?_ hdb)
  refine PySem.W.callWith_K0 I1.kIn T.kC ?_
  show wpAny _ _ (call (.ref C) []) _ _ _
  -- the new exception's place, and the heap with it
  generalize en : hp.objs.size + 1 = a
  have new : hp.objs.size ≤ a := by rw [← en]; exact Nat.le_succ _
  generalize eh : (hp.push (PySem.W.kdv_tup [])).push (PySem.HandSPX.excO C hp.objs.size) = hpA
  have kept : ∀ b o, hp.get? b = some o → hpA.get? b = some o := fun b o there => by rw [← eh]; exact Heap.get?_push_of_some _ (Heap.get?_push_of_some _ there)
  have there : hpA.get? a = some (PySem.HandSPX.excO C hp.objs.size) := by rw [← eh, ← en]; heap_get
  have I2 : Inv X pins σ (upd H1 a (exo a C none)) ⟨hpA, g, dr, tk, os⟩ := I1.laid (t' := tk) kept new (exo_ok there)
  have word : spPass [.ref a] (upd H1 a (exo a C none)) (fun v H2 => v = .non ∧ H2 = upd H1 a (exo a C none)) (fun _ _ _ => False) := ⟨_, rfl, rfl, rfl⟩
  have one : Vals [V.ref a] [Value.ref a] := .cons rfl .nil
  have hl : [Value.ref a].length = ps.length := one.length.symm.trans (F1.len _ _ _ _ word)
  have bind : BindsTo ⟨hpA, g, dr, tk, os⟩ fd ⟨[Value.ref a], []⟩ (ps.zip [Value.ref a]) := by simpa using hb ⟨hpA, g, dr, tk, os⟩ [Value.ref a] I2.kIn hl
  have run := F1.run _ X.stack _ _ ⟨[Value.ref a], []⟩ [Value.ref a] _ _ (fun _ _ _ => False) (hr.make C [] []) (I2.env0.make C [] []) bind one word
  subst eh
  subst en
  refine wpAny_call (PySem.HandSPX.call_own F.excBase_ValueError (fun Y => PySem.HandSPX.refsVE_contains Y bm hbm) (I1.kIn _ _ hC) (PySem.W.looks_findIn I1.kIn iC) (fun self => PySem.W.bind_fn I1.kIn self tI) (Nat.zero_le _) (codeAny_mono run fun r s' end_ => ?_))
  match r, end_ with
  | .error er, end_ => exact hx pins σ _ _ er s' I2 end_
  | .ok .next, end_ | .ok .brk, end_ | .ok .cont, end_ => exact end_.elim
  | .ok (.ret u), ⟨v, H2, os2, bare2, un2, ok2, rv, ev, eH⟩ =>
    subst ev
    subst eH
    exact ⟨rv, made_plain (raises_own T.exC T.tyC) I1 new kept un2 ok2 os2 bare2 goal⟩
theorem vals_by : ∀ (xs : List V) (us : List Value), xs.length = us.length → (∀ (j : Nat) (x : V) (v : Value), xs[j]? = some x → us[j]? = some v → RelV x v) → Vals xs us
  | [], [], _, _ => .nil
  | [], _ :: _, e, _ => by cases e
  | _ :: _, [], e, _ => by cases e
  | x :: xs, u :: us, e, h => .cons (h 0 x u rfl rfl) (vals_by xs us (by simpa using e) fun j y v h1 h2 => h (j + 1) y v h1 h2)
/-- list(a text): a text of one sign for each -/
theorem call_listS {X : Cx} (hc : X.calm = true) : CallR X (.type "list") (fun xs H Q => ∃ z : Str, xs = [.str z] ∧ z.length ≤ sizeLine ∧ ∀ p, H p = none → Q (.ref p) (upd H p (.lst (z.cps.toList.map fun c => V.str ⟨#[c]⟩)))) := by
  intro pins s σ H xs us Q I r word
  obtain ⟨z, rfl, hz, q⟩ := word; obtain ⟨u, rfl, t, rfl⟩ := vals1 r
  refine PySem.call_list_str (I.ok.hd hc) z t (fun h' tk acc' c' kp e it => ?_) hz
  have hsz : acc'.size = z.cps.size := it.1
  have hv : Vals (z.cps.toList.map fun c => V.str ⟨#[c]⟩) acc'.toList := by
    refine vals_by _ _ (by rw [List.length_map, Array.length_toList, Array.length_toList, hsz]) fun (j : Nat) x v h1 h2 => ?_
    obtain ⟨c, w2, hc2, rfl⟩ := it.2 j v (by simpa using h2)
    rw [List.getElem?_map, show z.cps.toList[j]? = some c by simpa using hc2] at h1
    cases h1
    exact ⟨w2, rfl⟩
  have e' : h'.get? s.heap.objs.size = some { cls := .type "list", dict := none, data := .seq acc'.toList.toArray c', slots := #[] } := e
  refine ⟨.ref s.heap.objs.size, _, I.laid (t' := tk) kp (Nat.le_refl _) (o := .lst (z.cps.toList.map fun c => V.str ⟨#[c]⟩)) ⟨?_, acc'.toList, c', hv, e'⟩, rfl, q _ (I.hok.fresh (Nat.le_refl _))⟩
  rw [List.length_map]
  exact hz

/-! ### several except clauses, with names or without -/
abbrev HdT := Value × Option Nat × (Addr → Value → Option Addr → TS)
def wManyA (K : PySem.W.Frag) (Wout : WX) (D : Ends) : List HdT → WX
  | [] => Wout
  | (c, none, ts) :: r => fun cls d σ H => ∃ b, PySem.W.exmOne K cls c = some b ∧ (b = true → ∀ a, H a = none → ts a cls d D σ H) ∧ (b = false → wManyA K Wout D r cls d σ H)
  | (c, some i, ts) :: r => fun cls d σ H => ∃ b, PySem.W.exmOne K cls c = some b ∧
      (b = true → ∀ a, H a = none → ts a cls d { nx := fun τ G => D.nx (τ.set i none) G, rt := D.rt, bk := fun τ G => D.bk (τ.set i none) G, ct := fun τ G => D.ct (τ.set i none) G } (σ.set i (some (.ref a))) H) ∧ (b = false → wManyA K Wout D r cls d σ H)
/-- an exception at a over the frame: the state it came from, the heap it stands in -/
structure Aloft (X : Cx) (pins : List (Addr × Obj)) (σ : St) (H : Hp) (old now : Shared) (B : Heap) (a : Addr) (cls : Value) (d : Option Addr) : Prop where
  inv : Inv X pins σ H old
  ground : ∀ b o, old.heap.get? b = some o → b ∉ frs X.stack → B.get? b = some o
  slots : old.heap.UpToSlots now.heap
  air : HandSPX.FlyingZ B (X.env :: X.outer) a (Zc cls d) now.heap
  free : H a = none
  sys : now.os = old.os
  gens : AllBare now.gens
section
variable {X : Cx} {pins : List (Addr × Obj)} {σ : St} {H : Hp} {old now : Shared} {B : Heap} {a : Addr} {cls : Value} {d : Option Addr}
theorem Aloft.at_ (x : Aloft X pins σ H old now B a cls d) : Inv X pins σ H now := x.inv.landed (s' := now) x.ground x.air.1 x.slots x.sys x.gens
theorem Aloft.further (x : Aloft X pins σ H old now B a cls d) {h : Heap} (up : now.heap.UpToSlots h) (fl : HandSPX.FlyingZ B (X.env :: X.outer) a (Zc cls d) h) : Aloft X pins σ H old { now with heap := h } B a cls d :=
  ⟨x.inv, x.ground, x.slots.trans up, fl, x.free, x.sys, x.gens⟩
/-- the clauses' own view: the exception is held -/
theorem Aloft.held (hf : X.env.frame = some X.env.locals) (hs : X.stack = X.env :: X.outer) (x : Aloft X pins σ H old now B a cls d) :
    ∃ oe, Zc cls d oe ∧ (∃ vs, oe.data = .fields vs) ∧ now.heap.get? a = some oe ∧ Inv (X.suite a ((a, oe) :: (X.pn ++ pins))) [] σ H now := by
  obtain ⟨oe, vs, at_, kind, data⟩ := x.air.there
  have noFrame : a ∉ frs (X.env :: X.outer) := fun m => by
    obtain ⟨_, o2, at2, other⟩ := x.air.2.2.1.mem m
    cases at_.symm.trans at2
    exact other _ data
  have nL : a ≠ X.env.locals := fun z => noFrame (List.mem_filterMap.mpr ⟨_, List.mem_cons_self, hf.trans (congrArg some z.symm)⟩)
  have nF : a ∉ X.fs := fun m => by
    obtain ⟨e, me, q⟩ := List.mem_filterMap.mp m
    exact noFrame (List.mem_filterMap.mpr ⟨e, List.mem_cons_of_mem _ me, q⟩)
  exact ⟨oe, kind, ⟨vs, data⟩, at_, x.at_.suite at_ data x.free nL nF⟩
end
/-- clauses, and what they wish of an exception -/
def PH (X : Cx) (hds : List ExceptHandler) (w : Ends → WX) : Prop := ∀ {pins : List (Addr × Obj)} {σ : St} {H : Hp} {old now : Shared} {B : Heap} {a : Addr} {cls : Value} {d : Option Addr} (D : Ends),
  Aloft X pins σ H old now B a cls d → w D cls d σ H → wpAny (model X.prog X.w) X.A (handleBy (.ref a) X.env hds) (SP X pins D) X.xe now
section
variable {X : Cx} {hds : List ExceptHandler} {Wout : WX} {l : List HdT} {x n : Str} {c : Value} {ts : Addr → Value → Option Addr → TS} {b₀ : Stmt} {suite : List Stmt} {np pos' : Pos}
theorem ph_nil (hf : X.env.frame = some X.env.locals) (hs : X.stack = X.env :: X.outer) (tk : Takes X Wout) : PH X [] (fun D => wManyA X.K Wout D []) := by
  intro pins σ H old now B a cls d D x wish
  apply wpAny_handleBy_nil
  obtain ⟨_, _, _, oe, vs, T, oT, ts', at_, kind, data, first, _⟩ := id x.air
  have out : wpAny (model X.prog X.w) X.A (setFlight (.ref a) X.env.frame) (fun _ s4 => wpAny (model X.prog X.w) X.A (throw (.ref a) : Sem Flow) (SP X pins D) X.xe s4) X.xe now := by
    rw [hf]
    refine HandSPX.setFlight_upZ x.air fun h held up => ?_
    refine wpAny_throw (tk _ _ ⟨a, B, old, pins, σ, H, cls, d, rfl, x.inv, x.ground, x.slots.trans up, .inr (.inr ?_), x.free, x.sys, x.gens, wish⟩)
    rw [hs]; exact held
  unfold PySem.passOn
  refine wpAny_bind (wpAny_field at_ data first ?_)
  have notNone : (Value.ref T == Value.none) ≠ true := by simp
  rw [if_neg notNone]
  first | exact wpAny_bind out | exact wpAny_bind (wpAny_pure (wpAny_bind out))
/-- the class of a clause is looked up -/
theorem load_cls {Y : Cx} {pins : List (Addr × Obj)} {σ : St} {H : Hp} {s : Shared} (J : Inv Y pins σ H s) (hc : Names Y x c) {Q E : Value → Shared → Prop} (q : Q c s) : wpAny (model Y.prog Y.w) Y.A (eval (.Name x np) Y.env) Q E s := by
  obtain ⟨glob, dbg, own | ⟨none_, boot, named⟩⟩ := hc
  · exact ld_glob J glob own q dbg
  · exact ld_blt J glob none_ boot q named dbg
theorem ph_cons (hf : X.env.frame = some X.env.locals) (hs : X.stack = X.env :: X.outer) (ok : X.Ok) (hc : Names X x c)
    (hsu : ∀ (a : Addr) (oe : Obj) (cls : Value) (d : Option Addr) (pn : List (Addr × Obj)), Zc cls d oe → (∃ vs, oe.data = .fields vs) → PSs (X.suite a ((a, oe) :: pn)) (b₀ :: suite) (ts a cls d))
    (rest : PH X hds fun D => wManyA X.K Wout D l) : PH X (.ExceptHandler (some (.Name x np)) none (b₀ :: suite) pos' :: hds) (fun D => wManyA X.K Wout D ((c, none, ts) :: l)) := by
  intro pins σ H old now B a cls d D y wish
  obtain ⟨b, said, yes, no⟩ := wish
  obtain ⟨oe, kind, data, at_, S⟩ := y.held hf hs
  have type : PySem.W.Looks (model X.prog X.w) now.heap (typeOf (.ref a)) cls := fun _ _ _ _ keep q => wpAny_typeOf_ref (keep _ _ at_) (kind.1.symm ▸ q)
  have answer := PySem.W.exm_one (M := model X.prog X.w) y.at_.kIn type said
  refine wpAny_handleBy_cons (codeAny_handlers_test (load_cls (Y := X.suite a ((a, oe) :: (X.pn ++ pins))) S hc (answer.here ?_))) (fun q => nomatch q)
  match b, yes, no with
  | false, _, no => exact rest D y (no rfl)
  | true, yes, _ =>
    refine codeAny_handlers_suite (HandSPX.lands_againZ y.air fun h fl up => ?_)
    obtain ⟨oe2, kind2, data2, _, S2⟩ := (y.further up fl).held hf hs
    refine wpAny_mono ((hsu a oe2 cls d (X.pn ++ pins) kind2 data2).run [] _ σ H _ S2 (yes rfl a y.free)) (fun f s6 end_ => ?_) (fun _ _ z => z.elim)
    match f, end_ with
    | .next, ⟨_, _, J, q⟩ | .brk, ⟨_, _, J, q⟩ | .cont, ⟨_, _, J, q⟩ => exact ⟨_, _, J.unsuite ok, q⟩
    | .ret _, ⟨_, _, _, J, r, q⟩ => exact ⟨_, _, _, J.unsuite ok, r, q⟩
theorem ph_consN {i : Nat} (hf : X.env.frame = some X.env.locals) (hs : X.stack = X.env :: X.outer) (ok : X.Ok) (hc : Names X x c) (hN : X.N.Nodup) (hi : X.N[i]? = some n) (hln : X.env.kindOf n = some .local)
    (hsu : ∀ (a : Addr) (oe : Obj) (cls : Value) (d : Option Addr) (pn : List (Addr × Obj)), Zc cls d oe → (∃ vs, oe.data = .fields vs) → PSs (X.suite a ((a, oe) :: pn)) (b₀ :: suite) (ts a cls d))
    (rest : PH X hds fun D => wManyA X.K Wout D l) : PH X (.ExceptHandler (some (.Name x np)) (some n) (b₀ :: suite) pos' :: hds) (fun D => wManyA X.K Wout D ((c, some i, ts) :: l)) := by
  intro pins σ H old now B a cls d D y wish
  obtain ⟨b, said, yes, no⟩ := wish
  obtain ⟨oe, kind, data, at_, S⟩ := y.held hf hs
  have type : PySem.W.Looks (model X.prog X.w) now.heap (typeOf (.ref a)) cls := fun _ _ _ _ keep q => wpAny_typeOf_ref (keep _ _ at_) (kind.1.symm ▸ q)
  have answer := PySem.W.exm_one (M := model X.prog X.w) y.at_.kIn type said
  refine wpAny_handleBy_cons (codeAny_handlers_test (load_cls (Y := X.suite a ((a, oe) :: (X.pn ++ pins))) S hc (answer.here ?_))) (fun q => nomatch q)
  match b, yes, no with
  | false, _, no => exact rest D y (no rfl)
  | true, yes, _ =>
    refine codeAny_handlers_suite_as (HandSPX.lands_againZ y.air fun h fl up => ?_)
    obtain ⟨oe2, kind2, data2, _, S2⟩ := (y.further up fl).held hf hs
    refine store_ok (X := X.suite a ((a, oe2) :: (X.pn ++ pins))) (v := .ref a) S2 hN hi (.inl hln) rfl (fun s5 S5 => ?_) (.inr hln)
    refine wpAny_mono ((hsu a oe2 cls d (X.pn ++ pins) kind2 data2).run [] s5 _ H _ S5 (yes rfl a y.free)) (fun f s6 end_ => ?_) (fun _ _ z => z.elim)
    match f, end_ with
    | .next, ⟨_, _, J, q⟩ | .brk, ⟨_, _, J, q⟩ | .cont, ⟨_, _, J, q⟩ => exact gone_ok (J.unsuite ok) hN hi hln fun _ J7 => ⟨_, _, J7, q⟩
    | .ret _, ⟨_, _, _, J, r, q⟩ => exact gone_ok (J.unsuite ok) hN hi hln fun _ J7 => ⟨_, _, _, J7, r, q⟩
end
/-- the clauses of a try, one by one -/
inductive HdsA (X : Cx) : List ExceptHandler → List HdT → Prop
  | nil : HdsA X [] []
  | cons {x : Str} {c : Value} {ts : Addr → Value → Option Addr → TS} {b₀ : Stmt} {suite : List Stmt} {np pos' : Pos} {hds : List ExceptHandler} {l : List HdT} (hc : Names X x c)
      (hsu : ∀ (a : Addr) (oe : Obj) (cls : Value) (d : Option Addr) (pn : List (Addr × Obj)), Zc cls d oe → (∃ vs, oe.data = .fields vs) → PSs (X.suite a ((a, oe) :: pn)) (b₀ :: suite) (ts a cls d)) (r : HdsA X hds l) : HdsA X (.ExceptHandler (some (.Name x np)) none (b₀ :: suite) pos' :: hds) ((c, none, ts) :: l)
  | consN {x n : Str} {i : Nat} {c : Value} {ts : Addr → Value → Option Addr → TS} {b₀ : Stmt} {suite : List Stmt} {np pos' : Pos} {hds : List ExceptHandler} {l : List HdT} (hc : Names X x c) (hN : X.N.Nodup) (hi : X.N[i]? = some n) (hln : X.env.kindOf n = some .local)
      (hsu : ∀ (a : Addr) (oe : Obj) (cls : Value) (d : Option Addr) (pn : List (Addr × Obj)), Zc cls d oe → (∃ vs, oe.data = .fields vs) → PSs (X.suite a ((a, oe) :: pn)) (b₀ :: suite) (ts a cls d)) (r : HdsA X hds l) : HdsA X (.ExceptHandler (some (.Name x np)) (some n) (b₀ :: suite) pos' :: hds) ((c, some i, ts) :: l)
theorem HdsA.ph {X : Cx} {hds : List ExceptHandler} {l : List HdT} {Wout : WX} (hf : X.env.frame = some X.env.locals) (hs : X.stack = X.env :: X.outer) (ok : X.Ok) (tk : Takes X Wout) (hh : HdsA X hds l) : PH X hds fun D => wManyA X.K Wout D l := by
  induction hh with
  | nil => exact ph_nil hf hs tk
  | cons hc hsu _ ih => exact ph_cons hf hs ok hc hsu ih
  | consN hc hN hi hln hsu _ ih => exact ph_consN hf hs ok hc hN hi hln hsu ih
theorem ps_try_manyA {X : Cx} {body : List Stmt} {h₀ : ExceptHandler} {hds : List ExceptHandler} {l : List HdT} {pos : Pos} {tb : WX → TS} {Wout : WX} (hs : X.stack = X.env :: X.outer) (hf : X.env.frame = some X.env.locals) (tk : Takes X Wout)
    (hb : ∀ (W : WX) (pn : List (Addr × Obj)) (xe : Value → Shared → Prop), Takes (X.tr pn xe) W → PassesOwn (model X.prog X.w) X.A X.env xe → PSs (X.tr pn xe) body (tb W)) (hh : HdsA X (h₀ :: hds) l) :
    PS X (.Try body (h₀ :: hds) [] [] pos) (fun D σ H => tb (wManyA X.K Wout D l) D σ H) := by
  constructor
  intro pins s σ H D I wish
  apply wpAny_Try_except
  have ok := I.ok
  have clauses : PH X (h₀ :: hds) fun D => wManyA X.K Wout D l := HdsA.ph hf hs ok tk hh
  -- what is done with what the body lets out
  let xe : Value → Shared → Prop := fun e s1 => wpAny (model X.prog X.w) X.A (noteFrame e X.env) (fun _ s2 => wpAny (model X.prog X.w) X.A (setFlight e none) (fun _ s3 => wpAny (model X.prog X.w) X.A (handleBy e X.env (h₀ :: hds)) (SP X pins D) X.xe s3) X.xe s2) X.xe s1
  have takes : Takes (X.tr (X.pn ++ pins) xe) (wManyA X.K Wout D l) := by
    rintro u s1 ⟨a, B, old, pins1, τ, G, cls, d, rfl, J, ground, up, sky, free, sys, gens, w⟩
    have sky2 : Sky B (X.env :: X.outer) a (Zc cls d) X.env.locals s1.heap := by rw [← hs]; exact sky
    refine Sky.land Zc.steady (by rw [ok.frames, hs]) hf sky2 fun h fl up2 => ?_
    exact clauses D ⟨J.ofTry ok, ground, up.trans up2, fl, free, sys, gens⟩ w
  refine wpAny_mono ((hb (wManyA X.K Wout D l) (X.pn ++ pins) xe takes PassesOwn.looking).run [] s σ H D (I.toTry _) wish) (fun f s1 end_ => ?_) (fun _ _ z => z)
  match f, end_ with
  | .next, ⟨τ, G, J, q⟩ => exact wpAny_execs_nil ⟨τ, G, J.ofTry ok, q⟩
  | .brk, ⟨τ, G, J, q⟩ | .cont, ⟨τ, G, J, q⟩ => exact ⟨τ, G, J.ofTry ok, q⟩
  | .ret _, ⟨v, τ, G, J, r, q⟩ => exact ⟨v, τ, G, J.ofTry ok, r, q⟩
end L2
/-! The rules with the written part by its own name. -/
namespace L2
open PySem PySem.Spec PyProof.Rows
section
variable {X : Cx} {K : PySem.W.Frag}
theorem ixL (e : X.K = K) : IxR X (rIxL K) := e ▸ ix_list
theorem ixT (e : X.K = K) : IxR X (rIxT K) := e ▸ ix_tup
theorem ixQ (e : X.K = K) : IxR X (rIx K) := e ▸ ix_seq
theorem slL (e : X.K = K) : SlR X (rSlL K) := e ▸ sl_list
theorem slT (e : X.K = K) : SlR X (rSlT K) := e ▸ sl_tup
theorem inQ (e : X.K = K) : OpR X (compareOp .In) (rIn K false) := e ▸ op_in_seq
theorem niQ (e : X.K = K) : OpR X (compareOp .NotIn) (rIn K true) := e ▸ op_notIn_seq
theorem catT (e : X.K = K) : OpR X (binaryOp .Add) (rCatT K) := e ▸ op_catT
theorem eqD (e : X.K = K) (hu : X.A.units + 64 < cLine) : OpR X (compareOp .Eq) (rEqD K) := e ▸ op_eqD hu
theorem neD (e : X.K = K) (hu : X.A.units + 64 < cLine) : OpR X (compareOp .NotEq) (rNeD K) := e ▸ op_neD hu
def rLen (K : PySem.W.Frag) : List V → Hp → VK → Prop := fun xs H Q => ∃ p ys, xs = [.ref p] ∧ (SqL K H p ys ∨ SqT K H p ys) ∧ Q (.int ys.length) H
theorem clen (e : X.K = K) : CallR X (.builtin "len") (rLen K) := e ▸ call_len_seq
def rLenText : List V → Hp → VK → Prop := fun vs H Q => ∃ z, vs = [.str z] ∧ z.length ≤ sizeLine ∧ Q (.int z.length) H
theorem clenS : CallR X (.builtin "len") rLenText := call_len_str
def rLst (K : PySem.W.Frag) : List V → Hp → VK → Prop := fun xs H Q => ∃ p ys, xs = [.ref p] ∧ (SqL K H p ys ∨ SqT K H p ys) ∧ ∀ l, H l = none → Q (.ref l) (upd H l (.lst ys))
theorem clist (e : X.K = K) : CallR X (.type "list") (rLst K) := e ▸ call_list_of
def rTupOf (K : PySem.W.Frag) : List V → Hp → VK → Prop := fun xs H Q => ∃ p ys, xs = [.ref p] ∧ ((SqL K H p ys ∧ ∀ l, H l = none → Q (.ref l) (upd H l (.tup ys))) ∨ (SqT K H p ys ∧ Q (.ref p) H))
theorem ctuple (e : X.K = K) : CallR X (.type "tuple") (rTupOf K) := e ▸ call_tuple_of
theorem cisi (e : X.K = K) : CallR X (.builtin "isinstance") (rIsi K) := e ▸ call_isi
theorem cisiT (e : X.K = K) : CallR X (.builtin "isinstance") (rIsiT K) := e ▸ call_isiT
theorem csum (e : X.K = K) (hc : X.calm = true) : CallR X (.builtin "sum") (rSum K) := e ▸ cr_sum hc
theorem cany (e : X.K = K) (hc : X.calm = true) : CallR X (.builtin "any") (rAny K) := e ▸ cr_any hc
theorem call_ (e : X.K = K) (hc : X.calm = true) : CallR X (.builtin "all") (rAll K) := e ▸ cr_all hc
theorem cmax (e : X.K = K) (hc : X.calm = true) : CallR X (.builtin "max") (rMax K) := e ▸ cr_max hc
theorem cmin (e : X.K = K) (hc : X.calm = true) : CallR X (.builtin "min") (rMin K) := e ▸ cr_min hc
def rJoin (K : PySem.W.Frag) : V → List V → Hp → VK → Prop := fun x xs H Q => ∃ a p, ∃ ys : List Str, x = .str a ∧ xs = [.ref p] ∧ (SqL K H p (ys.map V.str) ∨ SqT K H p (ys.map V.str)) ∧ (ys.map (·.length)).sum + ys.length * a.length ≤ 16777216 ∧ Q (.str (Txt.join a ys)) H
theorem mjoin (e : X.K = K) : MtR X "str.join" (rJoin K) := e ▸ mt_join
section
variable {T name id : String} {r : V → List V → Hp → VK → Prop} {o e : Expr} {es : List Expr} {to : TE} {t : TA} {apos cpos : Pos}
theorem pbm (q : X.K = K) (pa : PlainAttrs T) (slot : Slot T name id) (hty : typeOf (.builtin id) = pure (.type "method_descriptor")) (hm : MtR X id r) (ho : PE X o to) (ha : PA X (e :: es) t)
    (hbase : attributeBase o name X.env (eval o X.env) = eval o X.env := by rfl) (hfew : ((backTo cpos (starEach (e :: es) X.env)).all (fun x => !x.1) && (backToKw cpos (keywordEach [] X.env)).all (fun x => x.1.isSome) && decide ((e :: es).length + ([] : List Keyword).length + (if ([] : List Keyword).isEmpty then 0 else 1) < 30)) = true := by rfl)
    (hline : (apos.endLine == cpos.line) = true := by rfl) (hs :
    starEach (e :: es) X.env = (false, eval e X.env) :: starEach es X.env := by rfl) (hplain : (backTo cpos (starEach es X.env)).any (·.1) = false := by rfl) :
    PE X (.Call (.Attribute o name apos) (e :: es) [] cpos) (tBM K T r to t) := q ▸ pe_bm pa slot hty hm ho ha hbase hfew hline hs hplain
theorem pbm0 (q : X.K = K) (pa : PlainAttrs T) (slot : Slot T name id) (hty : typeOf (.builtin id) = pure (.type "method_descriptor")) (hm : MtR X id r) (ho : PE X o to)
    (hbase : attributeBase o name X.env (eval o X.env) = eval o X.env := by rfl) (hline : (apos.endLine == cpos.line) = true := by rfl) :
    PE X (.Call (.Attribute o name apos) [] [] cpos) (tBM0 K T r to) := q ▸ pe_bm0 pa slot hty hm ho hbase hline
end
def tTruth (K : PySem.W.Frag) (ta : TE) : TT := fun σ H Q => ta σ H fun x G => ∃ k, TruV K x G k ∧ Q k G
theorem ptru {a : Expr} {ta : TE} (e : X.K = K) (ha : PE X a ta) (he : ∀ whole, isTrue a X.env whole = (do let v ← whole; standAt a.pos; holding [v] (truthy v))) : PT X a (tTruth K ta) := e ▸ pt_truth ha he
theorem piL {tg l : Expr} {tl : TE} (e : X.K = K) (h : PE X l tl) (hs : ∀ x, foldedSetIterable l X.env x = pure x := by intro _; rfl) : PI X tg l (iList K tl) := e ▸ pi_list h
theorem piT {tg l : Expr} {tl : TE} (e : X.K = K) (h : PE X l tl) : PI X tg l (iTup K tl) := e ▸ pi_tup h
theorem pgT {es : List Expr} {k : Nat} {t : TGs} {n : Nat} {pos : Pos} (e : X.K = K) (hc : X.calm = true) (h : PGs X es t) (hn : (assignEach es X.env).length = n := by rfl)
    (hst : (assignEach es X.env).findIdx? (·.1) = none := by rfl) : PG X (.Tuple es k pos) (gTup K n t) := e ▸ pg_tup hc h hn hst
theorem prevL {e : Expr} {te : TE} {k : Nat} {p1 p2 p3 pos : Pos} (q : X.K = K) (he : PE X e te) : PE X (.Subscript e (.Slice none none (some (.UnaryOp .USub (.Constant (.int 1) k p1) p2)) p3) pos) (tRevL K te) := q ▸ pe_revL he
end
end L2
namespace L2
open PySem PySem.Spec PyProof.Rows
/-- isinstance(e, c), e what the suite holds, of the class at D and without a dict -/
def rIsX (K : PySem.W.Frag) (D a : Addr) (cls : Value) (d : Option Addr) : List V → Hp → VK → Prop := fun xs H Q => cls = .ref D ∧ d = none ∧ rIsE K D a xs H Q
theorem cisE {X : Cx} {K : PySem.W.Frag} {a D : Addr} {cls : Value} {d : Option Addr} {oe : Obj} {pn : List (Addr × Obj)} (q : X.K = K) (C : ExcC K D) (hz : Zc cls d oe) (hf : ∃ vs, oe.data = .fields vs) :
    CallR (X.suite a ((a, oe) :: pn)) (.builtin "isinstance") (rIsX K D a cls d) := by
  subst q
  rintro pins s σ H vs us Q I r ⟨rfl, rfl, word⟩
  exact call_isE C hz hf pins s σ H vs us Q I r word
end L2
/-! Rows as lists of codes: undoing, dropping neighbours, nets. -/
namespace RB
/-- the undoing of a letter (other signs stay) -/
def sw (c : Nat) : Nat := if 65 ≤ c ∧ c ≤ 90 then c + 32 else if 97 ≤ c ∧ c ≤ 122 then c - 32 else c
/-- a letter a to z or A to Z -/
def IsL (c : Nat) : Prop := (65 ≤ c ∧ c ≤ 90) ∨ (97 ≤ c ∧ c ≤ 122)
instance (c : Nat) : Decidable (IsL c) := by unfold IsL; infer_instance
theorem sw_sw {c : Nat} (h : IsL c) : sw (sw c) = c := by
  unfold IsL at h; unfold sw; split <;> split <;> (try split) <;> omega
theorem sw_L {c : Nat} (h : IsL c) : IsL (sw c) := by
  unfold IsL at *; unfold sw; split <;> (try split) <;> omega
theorem sw_ne {c : Nat} (h : IsL c) : sw c ≠ c := by
  unfold IsL at h; unfold sw; split <;> (try split) <;> omega
theorem sw_eq {a b : Nat} (ha : IsL a) (hb : IsL b) : a = sw b ↔ b = sw a :=
  ⟨fun e => by rw [e, sw_sw hb], fun e => by rw [e, sw_sw ha]⟩
/-- a row -/
def Ls (l : List Nat) : Prop := ∀ c ∈ l, IsL c
instance (l : List Nat) : Decidable (Ls l) := inferInstanceAs (Decidable (∀ c ∈ l, IsL c))
theorem Ls.nil : Ls [] := fun _ h => nomatch h
theorem Ls.app {a b : List Nat} (ha : Ls a) (hb : Ls b) : Ls (a ++ b) := fun c h => by
  rcases List.mem_append.mp h with z | z
  · exact ha c z
  · exact hb c z
theorem Ls.left {a b : List Nat} (h : Ls (a ++ b)) : Ls a := fun c hc => h c (List.mem_append_left _ hc)
theorem Ls.right {a b : List Nat} (h : Ls (a ++ b)) : Ls b := fun c hc => h c (List.mem_append_right _ hc)
theorem Ls.cons {x : Nat} {b : List Nat} (hx : IsL x) (hb : Ls b) : Ls (x :: b) := fun c h => by
  rcases List.mem_cons.mp h with h | h
  · rw [h]; exact hx
  · exact hb c h
theorem Ls.head {x : Nat} {b : List Nat} (h : Ls (x :: b)) : IsL x := h x List.mem_cons_self
theorem Ls.tail {x : Nat} {b : List Nat} (h : Ls (x :: b)) : Ls b := fun c hc => h c (List.mem_cons_of_mem _ hc)
theorem Ls.one {x : Nat} (hx : IsL x) : Ls [x] := Ls.cons hx Ls.nil
theorem Ls.rev {a : List Nat} (h : Ls a) : Ls a.reverse := fun c hc => h c (List.mem_reverse.mp hc)
theorem Ls.take {a : List Nat} (h : Ls a) (n : Nat) : Ls (a.take n) := fun c hc => h c (List.mem_of_mem_take hc)
theorem Ls.drop {a : List Nat} (h : Ls a) (n : Nat) : Ls (a.drop n) := fun c hc => h c (List.mem_of_mem_drop hc)
/-- the undoings of the letters, from the last to the first -/
def inv (l : List Nat) : List Nat := (l.map sw).reverse
theorem inv_len (l : List Nat) : (inv l).length = l.length := by unfold inv; rw [List.length_reverse, List.length_map]
theorem Ls.inv {a : List Nat} (h : Ls a) : Ls (inv a) := by
  intro c hc
  unfold RB.inv at hc
  rw [List.mem_reverse, List.mem_map] at hc
  obtain ⟨d, hd, e⟩ := hc
  rw [← e]; exact sw_L (h d hd)
theorem inv_inv {a : List Nat} (h : Ls a) : inv (inv a) = a := by
  unfold inv
  rw [List.map_reverse, List.reverse_reverse, List.map_map]
  conv => rhs; rw [← List.map_id a]
  exact List.map_congr_left fun c hc => sw_sw (h c hc)
theorem inv_app (a b : List Nat) : inv (a ++ b) = inv b ++ inv a := by
  unfold inv; rw [List.map_append, List.reverse_append]
theorem inv_cons (x : Nat) (b : List Nat) : inv (x :: b) = inv b ++ [sw x] := by
  unfold inv; rw [List.map_cons, List.reverse_cons]
/-- one letter more behind what is kept (the last one first) -/
def push (st : List Nat) (c : Nat) : List Nat := match st with
  | [] => [c]
  | t :: r => if t = sw c then r else c :: t :: r
/-- what is kept of a row, the last letter first -/
def kst (l : List Nat) : List Nat := l.foldl push []
/-- the net -/
def red (l : List Nat) : List Nat := (kst l).reverse
/-- no letter stands next to its undoing (whichever way it is read) -/
def NoPair : List Nat → Prop
  | x :: y :: r => y ≠ sw x ∧ NoPair (y :: r)
  | _ => True
theorem NoPair.tail {x : Nat} {r : List Nat} (h : NoPair (x :: r)) : NoPair r := by
  cases r with
  | nil => trivial
  | cons y r => exact h.2
theorem push_L {st : List Nat} {c : Nat} (h : Ls st) (hc : IsL c) : Ls (push st c) := by
  unfold push
  cases st with
  | nil => exact Ls.one hc
  | cons t r =>
    dsimp only
    split
    · exact h.tail
    · exact Ls.cons hc h
theorem push_np {st : List Nat} {c : Nat} (hL : Ls st) (hc : IsL c) (h : NoPair st) : NoPair (push st c) := by
  unfold push
  cases st with
  | nil => trivial
  | cons t r =>
    dsimp only
    split
    · exact h.tail
    · rename_i e
      exact ⟨e, h⟩
theorem foldl_L {l st : List Nat} (h : Ls st) (hl : Ls l) : Ls (l.foldl push st) := by
  induction l generalizing st with
  | nil => exact h
  | cons c l ih => exact ih (push_L h hl.head) hl.tail
theorem foldl_np {l st : List Nat} (h : Ls st) (hl : Ls l) (n : NoPair st) : NoPair (l.foldl push st) := by
  induction l generalizing st with
  | nil => exact n
  | cons c l ih => exact ih (push_L h hl.head) hl.tail (push_np h hl.head n)
theorem kst_L {l : List Nat} (h : Ls l) : Ls (kst l) := foldl_L Ls.nil h
theorem kst_np {l : List Nat} (h : Ls l) : NoPair (kst l) := foldl_np Ls.nil h trivial
theorem push_push {st : List Nat} {c : Nat} (hL : Ls st) (hc : IsL c) (h : NoPair st) : push (push st c) (sw c) = st := by
  cases st with
  | nil =>
    show push [c] (sw c) = []
    unfold push
    dsimp only
    rw [if_pos (sw_sw hc).symm]
  | cons t r =>
    by_cases e : t = sw c
    · have e1 : push (t :: r) c = r := if_pos e
      rw [e1]
      cases r with
      | nil =>
        show [sw c] = [t]
        rw [e]
      | cons u r =>
        have n1 : u ≠ sw t := h.1
        have n2 : ¬ u = sw (sw c) := by rw [← e]; exact n1
        show (if u = sw (sw c) then r else sw c :: u :: r) = t :: u :: r
        rw [if_neg n2, e]
    · have e1 : push (t :: r) c = c :: t :: r := if_neg e
      rw [e1]
      show (if c = sw (sw c) then t :: r else _) = t :: r
      rw [if_pos (sw_sw hc).symm]
theorem kst_app (a b : List Nat) : kst (a ++ b) = b.foldl push (kst a) := List.foldl_append
theorem kst_pair {u v : List Nat} {x : Nat} (hu : Ls u) (hx : IsL x) : kst (u ++ x :: sw x :: v) = kst (u ++ v) := by
  rw [kst_app, kst_app]
  show v.foldl push (push (push (kst u) x) (sw x)) = _
  rw [push_push (kst_L hu) hx (kst_np hu)]
theorem red_pair {u v : List Nat} {x : Nat} (hu : Ls u) (hx : IsL x) : red (u ++ x :: sw x :: v) = red (u ++ v) := by
  unfold red; rw [kst_pair hu hx]
theorem red_turn {m u v : List Nat} (hu : Ls u) (hm : Ls m) : red (u ++ m ++ inv m ++ v) = red (u ++ v) := by
  induction m generalizing u v with
  | nil => simp [inv]
  | cons x m ih =>
    have h1 := ih (u := u ++ [x]) (v := sw x :: v) (hu.app (Ls.one hm.head)) hm.tail
    have e : u ++ x :: m ++ inv (x :: m) ++ v = u ++ [x] ++ m ++ inv m ++ sw x :: v := by
      rw [inv_cons]; simp
    rw [e, h1]
    have e2 : u ++ [x] ++ sw x :: v = u ++ x :: sw x :: v := by simp
    rw [e2, red_pair hu hm.head]
theorem red_turn' {m u v : List Nat} (hu : Ls u) (hm : Ls m) : red (u ++ inv m ++ m ++ v) = red (u ++ v) := by
  have h := red_turn (m := inv m) (u := u) (v := v) hu hm.inv
  rw [inv_inv hm] at h
  exact h
theorem foldl_np_id : ∀ {l st : List Nat}, Ls l → Ls st → NoPair (l.reverse ++ st) → l.foldl push st = l.reverse ++ st
  | [], _, _, _, _ => rfl
  | c :: l, st, hl, hs, h => by
    have e : (c :: l).reverse ++ st = l.reverse ++ (c :: st) := by rw [List.reverse_cons]; simp
    rw [e] at h
    have hp : push st c = c :: st := by
      cases st with
      | nil => rfl
      | cons t r =>
        have : ∀ {a b : List Nat}, NoPair (a ++ b) → NoPair b := by
          intro a
          induction a with
          | nil => intro b z; exact z
          | cons y a ih => intro b z; exact ih z.tail
        have q := this h
        exact if_neg q.1
    show l.foldl push (push st c) = _
    rw [hp, foldl_np_id hl.tail (Ls.cons hl.head hs) h, e]
theorem NoPair.app_right : ∀ {a b : List Nat}, NoPair (a ++ b) → NoPair b
  | [], _, z => z
  | _ :: a, _, z => NoPair.app_right (a := a) z.tail
theorem NoPair.app_left : ∀ {a b : List Nat}, NoPair (a ++ b) → NoPair a
  | [], _, _ => trivial
  | [_], _, _ => trivial
  | x :: y :: a, b, z => ⟨z.1, NoPair.app_left (a := y :: a) (b := b) z.2⟩
/-- joined where the ends do not undo one another -/
theorem np_join : ∀ {a b : List Nat}, NoPair a → NoPair b → (∀ x y, a.getLast? = some x → b.head? = some y → y ≠ sw x) → NoPair (a ++ b)
  | [], _, _, hb, _ => hb
  | [x], [], _, _, _ => trivial
  | [x], y :: b, _, hb, h => ⟨h x y rfl rfl, hb⟩
  | x :: y :: a, b, ha, hb, h => ⟨ha.1, np_join (a := y :: a) ha.2 hb fun p q e1 e2 => h p q (by rw [List.getLast?_cons_cons]; exact e1) e2⟩
theorem np_rev : ∀ {l : List Nat}, Ls l → NoPair l → NoPair l.reverse
  | [], _, _ => trivial
  | [x], _, _ => trivial
  | x :: y :: l, hl, h => by
    rw [List.reverse_cons]
    refine np_join (np_rev hl.tail h.2) trivial fun p q e1 e2 => ?_
    rw [List.reverse_cons, List.getLast?_append, List.getLast?_singleton] at e1
    cases e1
    cases e2
    exact fun e => h.1 (by rw [e, sw_sw hl.tail.head])
theorem red_np {l : List Nat} (h : Ls l) : NoPair (red l) := np_rev (kst_L h) (kst_np h)
theorem red_L {l : List Nat} (h : Ls l) : Ls (red l) := (kst_L h).rev
/-- a row without neighbours that undo one another is its own net -/
theorem red_id {l : List Nat} (hl : Ls l) (h : NoPair l) : red l = l := by
  unfold red kst
  rw [foldl_np_id hl Ls.nil (by rw [List.append_nil]; exact np_rev hl h), List.append_nil, List.reverse_reverse]
theorem red_red {l : List Nat} (h : Ls l) : red (red l) = red l := red_id (red_L h) (red_np h)
theorem push_len (st : List Nat) (c : Nat) : (push st c).length ≤ st.length + 1 := by
  unfold push
  cases st with
  | nil => exact Nat.le_refl _
  | cons t r => dsimp only; split <;> simp <;> omega
theorem kst_len_aux : ∀ (l st : List Nat), (l.foldl push st).length ≤ st.length + l.length
  | [], st => Nat.le_refl _
  | c :: l, st => by
    have := kst_len_aux l (push st c)
    have := push_len st c
    show (l.foldl push (push st c)).length ≤ _
    rw [List.length_cons]; omega
theorem red_len (l : List Nat) : (red l).length ≤ l.length := by
  unfold red kst; rw [List.length_reverse]; have := kst_len_aux l []; simpa using this
/-- letters that stand next to their undoings, by place -/
theorem np_at : ∀ {l : List Nat} {i x y : Nat}, NoPair l → l[i]? = some x → l[i + 1]? = some y → y ≠ sw x
  | [], i, _, _, _, h, _ => by simp at h
  | [a], 0, _, _, _, _, h => by simp at h
  | [a], i + 1, _, _, _, h, _ => by simp at h
  | a :: b :: l, 0, x, y, n, h1, h2 => by
    cases h1; cases h2; exact n.1
  | a :: b :: l, i + 1, x, y, n, h1, h2 => np_at (l := b :: l) (i := i) n.2 h1 h2
theorem np_of_at : ∀ {l : List Nat}, (∀ i x y, l[i]? = some x → l[i + 1]? = some y → y ≠ sw x) → NoPair l
  | [], _ => trivial
  | [_], _ => trivial
  | a :: b :: l, h => ⟨h 0 a b rfl rfl, np_of_at (l := b :: l) fun i x y e1 e2 => h (i + 1) x y e1 e2⟩
/-- a pair that stands at i is taken out -/
theorem red_drop {l : List Nat} {i x : Nat} (hl : Ls l) (h1 : l[i]? = some x) (h2 : l[i + 1]? = some (sw x)) : red (l.take i ++ l.drop (i + 2)) = red l := by
  have hlen : i + 1 < l.length := by
    rcases Nat.lt_or_ge (i + 1) l.length with z | z
    · exact z
    · rw [List.getElem?_eq_none z] at h2; cases h2
  have e : l = l.take i ++ x :: sw x :: l.drop (i + 2) := by
    have a1 : l.drop i = x :: l.drop (i + 1) := by
      have : l[i]'(by omega) = x := by rw [List.getElem?_eq_getElem (by omega)] at h1; exact Option.some.inj h1
      rw [← this]; exact List.drop_eq_getElem_cons (by omega)
    have a2 : l.drop (i + 1) = sw x :: l.drop (i + 2) := by
      have : l[i + 1] = sw x := by rw [List.getElem?_eq_getElem hlen] at h2; exact Option.some.inj h2
      rw [← this]; exact List.drop_eq_getElem_cons hlen
    rw [← a2, ← a1, List.take_append_drop]
  have hx : IsL x := hl x (List.mem_of_getElem? h1)
  conv => rhs; rw [e]
  rw [red_pair (hl.take i) hx]
end RB
namespace RB
/-- a pair put in at a place -/
theorem red_put {l : List Nat} {i c : Nat} (hl : Ls l) (hc : IsL c) : red (l.take i ++ [c] ++ [sw c] ++ l.drop i) = red l := by
  have e : l.take i ++ [c] ++ [sw c] ++ l.drop i = l.take i ++ c :: sw c :: l.drop i := by simp
  rw [e, red_pair (hl.take i) hc, List.take_append_drop]
/-- the places where a letter stands ahead of its undoing -/
def pairsAt (l : List Nat) : List Nat := (List.range (l.length - 1)).filter fun i => decide (l[i + 1]? = (l[i]?).map sw)
theorem pairs_none {l : List Nat} (h : pairsAt l = []) : NoPair l := by
  refine np_of_at fun i x y h1 h2 e => ?_
  have hlen : i + 1 < l.length := by
    rcases Nat.lt_or_ge (i + 1) l.length with z | z
    · exact z
    · rw [List.getElem?_eq_none z] at h2; cases h2
  have : i ∈ pairsAt l := by
    unfold pairsAt
    rw [List.mem_filter]
    refine ⟨List.mem_range.mpr (by omega), decide_eq_true ?_⟩
    rw [h1, h2, e]; rfl
  rw [h] at this
  cases this
theorem pairs_some {l : List Nat} {i : Nat} (h : i ∈ pairsAt l) : i + 1 < l.length ∧ ∃ x, l[i]? = some x ∧ l[i + 1]? = some (sw x) := by
  unfold pairsAt at h
  rw [List.mem_filter] at h
  obtain ⟨h1, h2⟩ := h
  have h3 := List.mem_range.mp h1
  have h4 := of_decide_eq_true h2
  have hlen : i < l.length := by omega
  refine ⟨by omega, l[i], List.getElem?_eq_getElem hlen, ?_⟩
  rw [h4, List.getElem?_eq_getElem hlen]; rfl
theorem np_pairs {l : List Nat} (hl : Ls l) (h : NoPair l) : pairsAt l = [] := by
  cases e : pairsAt l with
  | nil => rfl
  | cons i r =>
    obtain ⟨_, x, h1, h2⟩ := pairs_some (l := l) (i := i) (by rw [e]; exact List.mem_cons_self)
    exact absurd rfl (np_at h h1 h2)
end RB
/-! Nets put together: what may stand for what. -/
namespace RB
/-- a may stand for b within any row -/
def Eqv (a b : List Nat) : Prop := ∀ u v, Ls u → red (u ++ a ++ v) = red (u ++ b ++ v)
theorem Eqv.refl (a : List Nat) : Eqv a a := fun _ _ _ => rfl
theorem Eqv.symm {a b : List Nat} (h : Eqv a b) : Eqv b a := fun u v hu => (h u v hu).symm
theorem Eqv.trans {a b c : List Nat} (h : Eqv a b) (k : Eqv b c) : Eqv a c := fun u v hu => (h u v hu).trans (k u v hu)
theorem Eqv.red {a b : List Nat} (h : Eqv a b) : RB.red a = RB.red b := by
  have := h [] [] Ls.nil
  simpa using this
theorem Eqv.app {a b c d : List Nat} (h : Eqv a b) (k : Eqv c d) (hb : Ls b) : Eqv (a ++ c) (b ++ d) := fun u v hu => by
  have e1 := h u (c ++ v) hu
  have e2 := k (u ++ b) v (hu.app hb)
  simp only [List.append_assoc] at *
  rw [e1, e2]
theorem eqv_pair {x : Nat} (hx : IsL x) : Eqv [x, sw x] [] := fun u v hu => by
  have := red_pair (v := v) hu hx
  simpa using this
theorem eqv_pair' {x : Nat} (hx : IsL x) : Eqv [sw x, x] [] := by
  have := eqv_pair (sw_L hx)
  rw [sw_sw hx] at this
  exact this
theorem eqv_push {st : List Nat} {c : Nat} (hs : Ls st) (hc : IsL c) : Eqv (st.reverse ++ [c]) (push st c).reverse := by
  cases st with
  | nil => exact Eqv.refl _
  | cons t r =>
    by_cases e : t = sw c
    · have e1 : push (t :: r) c = r := if_pos e
      rw [e1, e]
      have : (sw c :: r).reverse ++ [c] = r.reverse ++ [sw c, c] := by simp
      rw [this]
      have k := (Eqv.refl r.reverse).app (eqv_pair' hc) hs.tail.rev
      rw [List.append_nil] at k
      exact k
    · have e1 : push (t :: r) c = c :: t :: r := if_neg e
      rw [e1]
      have : (c :: t :: r).reverse = (t :: r).reverse ++ [c] := by simp
      rw [this]
      exact Eqv.refl _
theorem eqv_fold : ∀ (l st : List Nat), Ls st → Ls l → Eqv (st.reverse ++ l) (l.foldl push st).reverse
  | [], st, _, _ => by rw [List.append_nil]; exact Eqv.refl _
  | c :: l, st, hs, hl => by
    have e : st.reverse ++ c :: l = st.reverse ++ [c] ++ l := by simp
    rw [e]
    exact ((eqv_push hs hl.head).app (Eqv.refl l) (push_L hs hl.head).rev).trans (eqv_fold l (push st c) (push_L hs hl.head) hl.tail)
/-- a row may stand for its net -/
theorem eqv_red {l : List Nat} (h : Ls l) : Eqv l (RB.red l) := eqv_fold l [] Ls.nil h
theorem eqv_of {a b : List Nat} (ha : Ls a) (hb : Ls b) (h : RB.red a = RB.red b) : Eqv a b := (eqv_red ha).trans (h ▸ (eqv_red hb).symm)
theorem Eqv.inv {a b : List Nat} (ha : Ls a) (hb : Ls b) (h : Eqv a b) : Eqv (RB.inv a) (RB.inv b) := by
  -- inv a, then a for b, then b and inv b fall away
  have h1 : Eqv (RB.inv a ++ a ++ RB.inv b) (RB.inv b) := fun u v hu => by
    have := red_turn' (m := a) (u := u) (v := RB.inv b ++ v) hu ha
    simpa using this
  have h2 : Eqv (RB.inv a ++ (b ++ RB.inv b)) (RB.inv a) := fun u v hu => by
    have := red_turn (m := b) (u := u ++ RB.inv a) (v := v) (hu.app ha.inv) hb
    simpa using this
  have h3 : Eqv (RB.inv a ++ (b ++ RB.inv b)) (RB.inv a ++ a ++ RB.inv b) := by
    rw [List.append_assoc]
    exact (Eqv.refl _).app (h.symm.app (Eqv.refl _) ha) ha.inv
  exact h2.symm.trans (h3.trans h1)
theorem eqv_inv_r {a : List Nat} (ha : Ls a) : Eqv (a ++ RB.inv a) [] := fun u v hu => by
  have := red_turn (m := a) (u := u) (v := v) hu ha
  simpa using this
theorem eqv_inv_l {a : List Nat} (ha : Ls a) : Eqv (RB.inv a ++ a) [] := fun u v hu => by
  have := red_turn' (m := a) (u := u) (v := v) hu ha
  simpa using this
/-- the row so often -/
def rep (l : List Nat) : Nat → List Nat
  | 0 => []
  | n + 1 => l ++ rep l n
theorem rep_len (l : List Nat) : ∀ n, (rep l n).length = l.length * n
  | 0 => rfl
  | n + 1 => by show (l ++ rep l n).length = _; rw [List.length_append, rep_len l n, Nat.mul_succ]; omega
theorem Ls.rep {l : List Nat} (h : Ls l) : ∀ n, Ls (rep l n)
  | 0 => Ls.nil
  | n + 1 => h.app (Ls.rep h n)
theorem rep_snoc (l : List Nat) : ∀ n, rep l (n + 1) = rep l n ++ l
  | 0 => by show l ++ [] = [] ++ l; simp
  | n + 1 => by
    show l ++ rep l (n + 1) = (l ++ rep l n) ++ l
    rw [rep_snoc l n]; simp
theorem rep_add (l : List Nat) (m : Nat) : ∀ n, rep l (m + n) = rep l m ++ rep l n
  | 0 => by show rep l m = rep l m ++ []; simp
  | n + 1 => by
    have e : m + (n + 1) = (m + n) + 1 := by omega
    rw [e, rep_snoc, rep_add l m n, rep_snoc]; simp
theorem Eqv.rep {a b : List Nat} (h : Eqv a b) (hb : Ls b) : ∀ n, Eqv (RB.rep a n) (RB.rep b n)
  | 0 => Eqv.refl _
  | n + 1 => h.app (Eqv.rep h hb n) hb
theorem rep_rep (l : List Nat) : RB.rep l 1 = l := by show l ++ [] = l; simp
theorem inv_rep (l : List Nat) : ∀ n, inv (rep l n) = rep (inv l) n
  | 0 => rfl
  | n + 1 => by
    show inv (l ++ rep l n) = _
    rw [inv_app, inv_rep l n, rep_snoc]
/-- a net: its two ends that undo one another (a of them), and the core -/
structure Cut (l : List Nat) (a : Nat) : Prop where
  small : 2 * a ≤ l.length
  ends : ∀ i x, i < a → l[i]? = some x → l[l.length - 1 - i]? = some (sw x)
/-- the core may be repeated as it stands -/
def Core (c : List Nat) : Prop := c ≠ [] ∧ ∀ x y, c.getLast? = some x → c.head? = some y → y ≠ sw x
theorem cut_eq {l : List Nat} {a : Nat} (h : Cut l a) : l = l.take a ++ (l.drop a).take (l.length - 2 * a) ++ inv (l.take a) := by
  have hs := h.small
  have e1 : l.drop (l.length - a) = inv (l.take a) := by
    apply List.ext_getElem?
    intro i
    by_cases hi : i < a
    · have hx : l[a - 1 - i]? = some l[a - 1 - i] := List.getElem?_eq_getElem (by omega)
      have := h.ends (a - 1 - i) _ (by omega) hx
      rw [List.getElem?_drop]
      have e : l.length - 1 - (a - 1 - i) = l.length - a + i := by omega
      rw [e] at this
      rw [this]
      unfold inv
      rw [List.getElem?_reverse (by rw [List.length_map, List.length_take]; omega), List.getElem?_map, List.length_map, List.length_take, List.getElem?_take]
      have e2 : min a l.length - 1 - i = a - 1 - i := by omega
      rw [e2, if_pos (by omega), hx]; rfl
    · rw [List.getElem?_eq_none (by rw [List.length_drop]; omega), List.getElem?_eq_none (by rw [inv_len, List.length_take]; omega)]
  have e2 : l.drop a = (l.drop a).take (l.length - 2 * a) ++ l.drop (l.length - a) := by
    have := (List.take_append_drop (l.length - 2 * a) (l.drop a)).symm
    rw [List.drop_drop] at this
    have e : a + (l.length - 2 * a) = l.length - a := by omega
    rw [e] at this
    exact this
  rw [← e1, List.append_assoc, ← e2, List.take_append_drop]
theorem rep_np {c : List Nat} (h : Core c) (n : NoPair c) : ∀ k, NoPair (rep c k)
  | 0 => trivial
  | k + 1 => by
    refine np_join n (rep_np h n k) fun x y e1 e2 => ?_
    cases k with
    | zero => cases e2
    | succ k =>
      have : (rep c (k + 1)).head? = c.head? := by
        show (c ++ rep c k).head? = _
        cases c with
        | nil => exact absurd rfl h.1
        | cons a r => rfl
      rw [this] at e2
      exact h.2 x y e1 e2
theorem rep_head {c : List Nat} (h : c ≠ []) (k : Nat) : (rep c (k + 1)).head? = c.head? := by
  show (c ++ rep c k).head? = _
  cases c with
  | nil => exact absurd rfl h
  | cons a r => rfl
theorem rep_last {c : List Nat} (h : c ≠ []) (k : Nat) : (rep c (k + 1)).getLast? = c.getLast? := by
  rw [rep_snoc, List.getLast?_append]
  cases e : c.getLast? with
  | none => exact absurd (List.getLast?_eq_none_iff.mp e) h
  | some x => rfl
theorem rep_ne {c : List Nat} (h : c ≠ []) (k : Nat) : rep c (k + 1) ≠ [] := by
  intro z
  have e := congrArg List.length z
  rw [rep_len, List.length_nil] at e
  have p : 0 < c.length := List.length_pos_iff.mpr h
  have : 0 < c.length * (k + 1) := Nat.mul_pos p (by omega)
  omega
/-- put a net between other ends that fit as well -/
theorem np_between {s c c' e : List Nat} (hc : c ≠ []) (hc' : c' ≠ []) (h : NoPair (s ++ c ++ e)) (n : NoPair c') (e1 : c'.head? = c.head?) (e2 : c'.getLast? = c.getLast?) : NoPair (s ++ c' ++ e) := by
  have hs : NoPair s := (h.app_left).app_left
  have he : NoPair e := NoPair.app_right (a := s ++ c) h
  have j1 : ∀ x y, s.getLast? = some x → c.head? = some y → y ≠ sw x := by
    intro x y h1 h2
    obtain ⟨s', rfl⟩ := List.getLast?_eq_some_iff.mp h1
    cases c with
    | nil => exact absurd rfl hc
    | cons a r =>
      cases h2
      have : NoPair (s' ++ ([x] ++ y :: (r ++ e))) := by simpa using h
      exact (NoPair.app_right this).1
  have j2 : ∀ x y, c.getLast? = some x → e.head? = some y → y ≠ sw x := by
    intro x y h1 h2
    obtain ⟨s', rfl⟩ := List.getLast?_eq_some_iff.mp h1
    cases e with
    | nil => cases h2
    | cons a r =>
      cases h2
      have : NoPair ((s ++ s') ++ ([x] ++ y :: r)) := by simpa using h
      exact (NoPair.app_right this).1
  refine np_join (np_join hs n fun x y h1 h2 => j1 x y h1 (e1 ▸ h2)) he fun x y h1 h2 => ?_
  rw [List.getLast?_append] at h1
  cases q : c'.getLast? with
  | none => exact absurd (List.getLast?_eq_none_iff.mp q) hc'
  | some z =>
    rw [q] at h1
    cases h1
    exact j2 x y (e2 ▸ q) h2
/-- the power of a net, by its ends and its core -/
theorem rep_cut {s c : List Nat} (hs : Ls s) (hc : Ls c) (k : Core c) (n : NoPair (s ++ c ++ inv s)) (m : Nat) : red (rep (s ++ c ++ inv s) (m + 1)) = s ++ rep c (m + 1) ++ inv s := by
  have e : ∀ m, Eqv (rep (s ++ c ++ inv s) (m + 1)) (s ++ rep c (m + 1) ++ inv s) := by
    intro m
    induction m with
    | zero => rw [rep_rep, rep_rep]; exact Eqv.refl _
    | succ m ih =>
      have h1 : Eqv (rep (s ++ c ++ inv s) (m + 1 + 1)) ((s ++ c ++ inv s) ++ (s ++ rep c (m + 1) ++ inv s)) := (Eqv.refl _).app ih ((hs.app hc).app hs.inv)
      refine h1.trans ?_
      have h2 : (s ++ c ++ inv s) ++ (s ++ rep c (m + 1) ++ inv s) = (s ++ c) ++ ((inv s ++ s) ++ (rep c (m + 1) ++ inv s)) := by simp
      have h3 : s ++ rep c (m + 1 + 1) ++ inv s = (s ++ c) ++ ([] ++ (rep c (m + 1) ++ inv s)) := by
        show s ++ (c ++ rep c (m + 1)) ++ inv s = _
        simp
      rw [h2, h3]
      exact (Eqv.refl _).app ((eqv_inv_l hs).app (Eqv.refl _) Ls.nil) (hs.app hc)
  rw [(e m).red]
  refine red_id ((hs.app (hc.rep _)).app hs.inv) ?_
  exact np_between k.1 (rep_ne k.1 m) n (rep_np k (NoPair.app_right (a := s) n.app_left) _) (rep_head k.1 m) (rep_last k.1 m)
end RB
namespace RB
/-- the ends can't be taken any further -/
def Stop (l : List Nat) (a : Nat) : Prop := ∀ x y, 2 * a + 1 < l.length → l[a]? = some x → l[l.length - 1 - a]? = some y → y ≠ sw x
def mid (l : List Nat) (a : Nat) : List Nat := (l.drop a).take (l.length - 2 * a)
theorem mid_len {l : List Nat} {a : Nat} (h : 2 * a ≤ l.length) : (mid l a).length = l.length - 2 * a := by
  unfold mid; rw [List.length_take, List.length_drop]; omega
theorem core_of {l : List Nat} {a : Nat} (hl : Ls l) (n : NoPair l) (h0 : l ≠ []) (c : Cut l a) (s : Stop l a) : Core (mid l a) := by
  have hs := c.small
  have ml := mid_len hs
  have pos : 0 < l.length := List.length_pos_iff.mpr h0
  have ne : mid l a ≠ [] := by
    intro z
    have e0 : l.length = 2 * a := by rw [z] at ml; simp at ml; omega
    have hx : l[a - 1]? = some l[a - 1] := List.getElem?_eq_getElem (by omega)
    have := c.ends (a - 1) _ (by omega) hx
    have e : l.length - 1 - (a - 1) = a - 1 + 1 := by omega
    rw [e] at this
    exact np_at n hx this rfl
  refine ⟨ne, fun x y e1 e2 => ?_⟩
  have h1 : (mid l a).head? = l[a]? := by
    rw [List.head?_eq_getElem?]
    unfold mid
    rw [List.getElem?_take, if_pos (by have := List.length_pos_iff.mpr ne; omega), List.getElem?_drop]; rfl
  have h2 : (mid l a).getLast? = l[l.length - 1 - a]? := by
    rw [List.getLast?_eq_getElem?, ml]
    unfold mid
    have := List.length_pos_iff.mpr ne
    rw [List.getElem?_take, if_pos (by omega), List.getElem?_drop]
    congr 1; omega
  rw [h1] at e2
  rw [h2] at e1
  by_cases big : 2 * a + 1 < l.length
  · intro z
    have hx : IsL x := hl x (List.mem_of_getElem? e1)
    exact s y x big e2 e1 (by rw [z, sw_sw hx])
  · have e : l.length - 1 - a = a := by have := List.length_pos_iff.mpr ne; omega
    rw [e, e2] at e1
    cases e1
    exact fun z => sw_ne (hl _ (List.mem_of_getElem? e2)) z.symm
/-- the net so often: below 0 the undone one -/
def pw (l : List Nat) (i : Int) : List Nat := if i < 0 then red (rep (inv l) (-i).toNat) else red (rep l i.toNat)
theorem cut_rep {t : List Nat} {a n : Nat} (ht : Ls t) (np : NoPair t) (h0 : t ≠ []) (c : Cut t a) (s : Stop t a) : red (rep t (n + 1)) = t.take a ++ rep (mid t a) (n + 1) ++ inv (t.take a) := by
  have e := cut_eq c
  have hm : Ls (mid t a) := (ht.drop a).take _
  have k := core_of ht np h0 c s
  have e2 : t = t.take a ++ mid t a ++ inv (t.take a) := e
  have np2 : NoPair (t.take a ++ mid t a ++ inv (t.take a)) := by rw [← e2]; exact np
  have := rep_cut (ht.take a) hm k np2 n
  rw [← e2] at this
  exact this
theorem rep_red {l : List Nat} (h : Ls l) (n : Nat) : red (rep (red l) n) = red (rep l n) := (((eqv_red h).symm).rep h n).red
theorem inv_red {l : List Nat} (h : Ls l) : red (inv (red l)) = red (inv l) := ((eqv_red h).inv h (red_L h)).symm.red
end RB
/-! Texts as lists of codes. -/
namespace RB
open PySem PySem.Builtin PySem.Builtin.Str PyProof.Rows L2
def S (l : List Nat) : Str := ⟨l.toArray⟩
theorem S_list (l : List Nat) : (S l).cps.toList = l := rfl
theorem S_len (l : List Nat) : (S l).length = l.length := by show l.toArray.size = _; simp
theorem S_inj {a b : List Nat} (h : S a = S b) : a = b := by
  have := congrArg (fun x : Str => x.cps.toList) h
  exact this
theorem S_eq {a b : List Nat} : S a = S b ↔ a = b := ⟨S_inj, fun h => by rw [h]⟩
theorem V_eq {a b : List Nat} : (V.str (S a) = V.str (S b)) ↔ a = b := ⟨fun h => S_inj (by cases h; rfl), fun h => by rw [h]⟩
theorem dec_eq {a b : List Nat} : decide (V.str (S a) = V.str (S b)) = decide (a = b) := by
  by_cases h : a = b
  · rw [decide_eq_true h, decide_eq_true (V_eq.mpr h)]
  · rw [decide_eq_false h, decide_eq_false (fun z => h (V_eq.mp z))]
theorem S_of (z : Str) : ∃ l, z = S l := ⟨z.cps.toList, by cases z; rfl⟩
theorem S_app (a b : List Nat) : S a ++ S b = S (a ++ b) := by
  show (⟨a.toArray ++ b.toArray⟩ : Str) = ⟨(a ++ b).toArray⟩
  simp
theorem S_rev (l : List Nat) : revS (S l) = S l.reverse := rfl
theorem sIx_nat (n d : Nat) (i : Nat) : HT.sIx n d (some (i : Int)) = min i n := HT.sIx_nat n d i
theorem cut_to (l : List Nat) (i : Nat) : cutS (S l) none (some (i : Int)) = S (l.take i) := by
  unfold cutS
  rw [HT.sIx_none, sIx_nat, S_len]
  show (⟨((l.drop 0).take (min i l.length - 0)).toArray⟩ : Str) = ⟨(l.take i).toArray⟩
  rw [List.drop_zero, Nat.sub_zero]
  congr 2
  rcases Nat.le_total i l.length with h | h
  · rw [Nat.min_eq_left h]
  · rw [Nat.min_eq_right h, List.take_length, List.take_of_length_le h]
theorem cut_from (l : List Nat) (i : Nat) : cutS (S l) (some (i : Int)) none = S (l.drop i) := by
  unfold cutS
  rw [HT.sIx_none, sIx_nat, S_len]
  show (⟨((l.drop (min i l.length)).take (l.length - min i l.length)).toArray⟩ : Str) = ⟨(l.drop i).toArray⟩
  congr 2
  rcases Nat.le_total i l.length with h | h
  · rw [Nat.min_eq_left h]; exact List.take_of_length_le (by rw [List.length_drop]; exact Nat.le_refl _)
  · rw [Nat.min_eq_right h, List.drop_length, List.drop_of_length_le h]; simp
theorem cut_mid (l : List Nat) (i j : Nat) : cutS (S l) (some (i : Int)) (some (j : Int)) = S ((l.drop i).take (j - i)) := by
  unfold cutS
  rw [sIx_nat, sIx_nat, S_len]
  show (⟨((l.drop (min i l.length)).take (min j l.length - min i l.length)).toArray⟩ : Str) = ⟨((l.drop i).take (j - i)).toArray⟩
  congr 2
  rcases Nat.le_total i l.length with h | h
  · rw [Nat.min_eq_left h]
    rcases Nat.le_total j l.length with h2 | h2
    · rw [Nat.min_eq_left h2]
    · rw [Nat.min_eq_right h2, List.take_of_length_le (by rw [List.length_drop]; exact Nat.le_refl _), List.take_of_length_le (by rw [List.length_drop]; omega)]
  · rw [Nat.min_eq_right h, List.drop_length, List.drop_of_length_le h]; simp
/-! ### signs of the first half -/
def Asc (l : List Nat) : Prop := ∀ c ∈ l, c < 128
instance (l : List Nat) : Decidable (Asc l) := inferInstanceAs (Decidable (∀ c ∈ l, c < 128))
theorem Ls.asc {l : List Nat} (h : Ls l) : Asc l := fun c hc => by
  have := h c hc
  unfold IsL at this
  omega
theorem up_asc {l : List Nat} (h : Asc l) : Txt.upper (S l) = S (l.map up1) := by
  rw [upper_ascii (x := S l) h]; show (⟨l.toArray.map up1⟩ : Str) = ⟨(l.map up1).toArray⟩; simp
theorem lo_asc {l : List Nat} (h : Asc l) : Txt.lower (S l) = S (l.map lo1) := by
  rw [lower_ascii (x := S l) h]; show (⟨l.toArray.map lo1⟩ : Str) = ⟨(l.map lo1).toArray⟩; simp
theorem isU_asc : ∀ c, c < 128 → Unicode.isUpper c = decide (65 ≤ c ∧ c ≤ 90) := by decide +kernel
theorem isLo_asc : ∀ c, c < 128 → Unicode.isLower c = decide (97 ≤ c ∧ c ≤ 122) := by decide +kernel
theorem isTi_asc : ∀ c, c < 128 → Unicode.isTitle c = false := by decide +kernel
theorem isAl_asc : ∀ c, c < 128 → Unicode.isAlpha c = decide (IsL c) := by decide +kernel
theorem lowerAt_asc {x : Array Nat} {i c : Nat} (h : x[i]? = some c) (hc : c < 128) : Unicode.lowerAt x i = [lo1 c] := by
  unfold Unicode.lowerAt
  rw [h]
  have e : (c == 0x3A3) = false := beq_eq_false_iff_ne.mpr (by omega)
  simp only [e, Bool.false_and, Bool.false_eq_true, if_false]
  exact lowerOf_ascii c hc
theorem swap_asc {l : List Nat} (h : Asc l) : Txt.swapcase (S l) = S (l.map sw) := by
  have e := placed_single (S l) (fun i c => if Unicode.isUpper c then Unicode.lowerAt (S l).cps i else if Unicode.isLower c then Unicode.upperOf c else [c]) sw fun i c hc => by
    have hlt : c < 128 := h c (List.mem_of_getElem? hc)
    have hx : (S l).cps[i]? = some c := by simpa [S] using hc
    rw [isU_asc c hlt, isLo_asc c hlt, lowerAt_asc hx hlt, upperOf_ascii c hlt]
    unfold sw lo1 up1
    by_cases h1 : 65 ≤ c ∧ c ≤ 90
    · simp [h1]
    · by_cases h2 : 97 ≤ c ∧ c ≤ 122
      · simp [h1, h2]
      · simp [h1, h2]
  show (⟨placed (S l) _⟩ : Str) = _
  rw [e]
  show (⟨l.toArray.map sw⟩ : Str) = ⟨(l.map sw).toArray⟩
  simp
theorem asc_iff (l : List Nat) : Txt.isascii (S l) = decide (Asc l) := by
  unfold Txt.isascii
  show l.toArray.all _ = _
  rw [List.all_toArray]
  by_cases h : Asc l
  · rw [decide_eq_true h, List.all_eq_true]
    intro c hc; exact decide_eq_true (h c hc)
  · rw [decide_eq_false h, Bool.eq_false_iff]
    intro z; rw [List.all_eq_true] at z
    exact h fun c hc => of_decide_eq_true (z c hc)
theorem alpha_asc {l : List Nat} (h : Asc l) : Txt.isalpha (S l) = (decide (l ≠ []) && decide (Ls l)) := by
  unfold Txt.isalpha
  have e : (S l).cps.all Unicode.isAlpha = decide (Ls l) := by
    show l.toArray.all _ = _
    rw [List.all_toArray]
    by_cases q : Ls l
    · rw [decide_eq_true q, List.all_eq_true]
      intro c hc; rw [isAl_asc c (h c hc)]; exact decide_eq_true (q c hc)
    · rw [decide_eq_false q, Bool.eq_false_iff]
      intro z; rw [List.all_eq_true] at z
      refine q fun c hc => ?_
      have := z c hc
      rw [isAl_asc c (h c hc)] at this
      exact of_decide_eq_true this
  rw [e, S_len]
  cases l with
  | nil => rfl
  | cons a r => simp
theorem islo_one {c : Nat} (h : c < 128) : Txt.islower (S [c]) = decide (97 ≤ c ∧ c ≤ 122) := by
  unfold Txt.islower
  show ((#[c] : Array Nat).any Unicode.isLower && !(#[c] : Array Nat).any _) = _
  have e1 : (#[c] : Array Nat).any Unicode.isLower = Unicode.isLower c := by simp
  have e2 : (#[c] : Array Nat).any (fun c => Unicode.isUpper c || Unicode.isTitle c) = (Unicode.isUpper c || Unicode.isTitle c) := by simp
  rw [e1, e2, isLo_asc c h, isU_asc c h, isTi_asc c h]
  by_cases h2 : 97 ≤ c ∧ c ≤ 122
  · have h3 : ¬ (65 ≤ c ∧ c ≤ 90) := by omega
    simp [h2, h3]
  · simp [h2]
theorem fold_nil : ∀ (ls : List (List Nat)) (acc : Array Nat), (ls.map S).foldl (fun acc p => acc ++ (S []).cps ++ p.cps) acc = acc ++ ls.flatten.toArray
  | [], acc => by simp
  | a :: r, acc => by
    rw [List.map_cons, List.foldl_cons, fold_nil r]
    show (acc ++ #[] ++ a.toArray) ++ _ = _
    simp
theorem join_nil (ls : List (List Nat)) : Txt.join (S []) (ls.map S) = S ls.flatten := by
  show glued (S []) (ls.map S) = _
  cases ls with
  | nil => rfl
  | cons a r =>
    show (⟨(r.map S).foldl (fun acc p => acc ++ (S []).cps ++ p.cps) (S a).cps⟩ : Str) = _
    rw [fold_nil]
    show (⟨a.toArray ++ r.flatten.toArray⟩ : Str) = ⟨(a :: r).flatten.toArray⟩
    simp
end RB
/-! Rules: a text so often, < of data, a loop over a list or a tuple, isinstance of what is held with several classes. -/
namespace RB
open PySem PySem.Spec PyProof.Rows L2
theorem rep_fold (l : List Nat) : ∀ (n : Nat) (acc : Array Nat), (List.replicate n (S l).cps).foldl (· ++ ·) acc = acc ++ (rep l n).toArray
  | 0, acc => by show acc = acc ++ #[]; simp
  | n + 1, acc => by
    rw [List.replicate_succ, List.foldl_cons, rep_fold l n]
    show acc ++ l.toArray ++ (rep l n).toArray = acc ++ (l ++ rep l n).toArray
    simp
/-- text * number -/
def rRepS : R2 := fun x y H Q => ∃ (l : List Nat) (n : Nat), x = .str (S l) ∧ y = .int (n : Nat) ∧ n < 2 ^ 62 ∧ l.length * n ≤ 16777216 ∧ Q (.str (S (rep l n))) H
theorem op_repS {X : Cx} : OpR X (binaryOp .Mult) rRepS := by
  rintro pins s σ H x y v u Q I rx ry ⟨l, n, rfl, rfl, hn, fits, goal⟩
  obtain ⟨t, rfl⟩ := rx
  obtain ⟨t2, rfl⟩ := ry
  have hlen : (S l).length = l.length := S_len l
  refine P.mul_str ?_ (fun h1 _ => ?_) (fun _ _ => ?_) ?_
  · have h1 : ¬ ((n : Int) < -(2 ^ 63)) := by omega
    have h2 : ¬ ((n : Int) ≥ 2 ^ 63) := by omega
    rw [decide_eq_false h1, decide_eq_false h2]; rfl
  · rw [hlen]
    refine Int.not_lt.mpr ?_
    refine (Int.le_ediv_iff_mul_le (by omega)).mpr ?_
    have : ((l.length * n : Nat) : Int) ≤ (16777216 : Nat) := Int.ofNat_le.mpr fits
    have e : ((l.length : Nat) : Int) * (n : Nat) = ((l.length * n : Nat) : Int) := (Int.natCast_mul _ _).symm
    rw [e]; omega
  · rw [hlen, Int.toNat_natCast]; exact short24 fits
  · by_cases h1 : (n : Int) < 1
    · have n0 : n = 0 := by omega
      subst n0
      rw [if_pos h1]
      exact ⟨by decide, .str _, H, I.tok _, ⟨_, rfl⟩, goal⟩
    · rw [if_neg h1]
      by_cases h2 : ((n : Int) == 1 || (S l).length == 0) = true
      · rw [if_pos h2]
        have e : rep l n = l := by
          rcases Bool.or_eq_true_iff.mp h2 with z | z
          · have : n = 1 := by have := beq_iff_eq.mp z; omega
            rw [this, rep_rep]
          · have : l.length = 0 := by have := beq_iff_eq.mp z; rw [hlen] at this; exact this
            have : l = [] := List.length_eq_zero_iff.mp this
            subst this
            refine List.length_eq_zero_iff.mp ?_
            rw [rep_len]; simp
        rw [e] at goal
        exact ⟨.str _, H, I, ⟨t, rfl⟩, goal⟩
      · rw [if_neg h2]
        have e : (⟨(List.replicate ((n : Int).toNat) (S l).cps).foldl (· ++ ·) #[]⟩ : Str) = S (rep l n) := by
          rw [show ((n : Int).toNat) = n from Int.toNat_natCast n, rep_fold]
          show (⟨#[] ++ (rep l n).toArray⟩ : Str) = ⟨(rep l n).toArray⟩
          simp
        rw [e]
        refine ⟨?_, .str _, H, I.tok _, ⟨_, rfl⟩, goal⟩
        rw [S_len, rep_len]
        exact Nat.le_trans fits (by decide)
end RB
namespace L2
open PySem PySem.Spec PyProof.Rows
/-- x < y of data of one form -/
def rLtD (K : PySem.W.Frag) : R2 := fun x y H Q => ∃ d e, Dp K H x d ∧ Dp K H y e ∧ PySem.W.alike d e = true ∧ d ≠ .none ∧ d.depth ≤ 32 ∧ Q (.bl (PySem.W.dataLt d e)) H
theorem op_ltD {X : Cx} {K : PySem.W.Frag} (q : X.K = K) (hu : X.A.units + 64 < cLine) : OpR X (compareOp .Lt) (rLtD K) := by
  subst q
  rintro pins s σ H x y v u Q I rx ry ⟨d, e, hd, he, al, nn, dep, goal⟩
  obtain ⟨as, ra⟩ := Dp.reads I d x v hd rx; obtain ⟨bs, rb⟩ := Dp.reads I e y u he ry
  exact PySem.W.rcLt_alike d e X.A s v u as bs ra rb al nn (by have := Nat.min_le_left d.depth e.depth; omega) _ _ _ _ ⟨.bl _, H, I, rfl, goal⟩
/-- over a list or a tuple -/
def iSeq (K : PySem.W.Frag) (tl : TE) : TI := fun σ H R => iList K tl σ H R ∨ iTup K tl σ H R
theorem pi_or {X : Cx} {tg l : Expr} {w1 w2 : TI} (h1 : PI X tg l w1) (h2 : PI X tg l w2) : PI X tg l (fun σ H R => w1 σ H R ∨ w2 σ H R) :=
  ⟨fun pins s σ H R I h => h.elim (h1.run pins s σ H R I) (h2.run pins s σ H R I)⟩
theorem piQ {X : Cx} {K : PySem.W.Frag} {tg l : Expr} {tl : TE} (q : X.K = K) (h : PE X l tl) : PI X tg l (iSeq K tl) := q ▸ pi_or (pi_list h) (pi_tup h)
/-- isinstance(e, (C, D)), e what the suite holds -/
def rIsXT (K : PySem.W.Frag) (D a : Addr) (cls : Value) (d : Option Addr) : List V → Hp → VK → Prop := fun xs H Q => cls = .ref D ∧ d = none ∧
  ∃ (tp : Addr) (cs : List V) (us : List Value) (b : Bool), xs = [.ref a, .ref tp] ∧ H tp = some (.tup cs) ∧ Paired ClsV cs us ∧ PySem.W.kitAny K (.ref D) us = some b ∧ Q (.bl b) H
theorem cisET {X : Cx} {K : PySem.W.Frag} {a D : Addr} {cls : Value} {d : Option Addr} {oe : Obj} {pn : List (Addr × Obj)} (q : X.K = K) (C : ExcC K D) (hz : Zc cls d oe) (hf : ∃ vs, oe.data = .fields vs) :
    CallR (X.suite a ((a, oe) :: pn)) (.builtin "isinstance") (rIsXT K D a cls d) := by
  subst q
  rintro pins s σ H vs us Q I r ⟨rfl, rfl, tp, cs, ws, b, rfl, made, classes, answer, goal⟩
  obtain ⟨x1, x2, rfl, q1, q2⟩ := vals2 r
  cases (show x1 = Value.ref a from q1); cases (show x2 = Value.ref tp from q2)
  obtain ⟨there, _⟩ := I.pin (a, oe) (List.mem_append_left _ List.mem_cons_self)
  obtain ⟨fv, data⟩ := hf
  have inst : PySem.W.InstAt s.heap a oe D none := by
    match oe, hz, data, there with
    | ⟨_, _, _, _⟩, ⟨rfl, rfl⟩, rfl, there => exact ⟨there, rfl, rfl, trivial⟩
  obtain ⟨_, its, rv, o, o1, o2, n, o3⟩ := (show ObjOk X.prog X.w H s.heap tp (.tup cs) from I.hok tp _ made)
  cases ClsV.all classes rv
  obtain ⟨oc, od, dt, sl⟩ := o
  cases (show oc = _ from o2); cases (show dt = _ from o3)
  exact PySem.W.kia_tup (PySem.W.handS_kitx_exc C.hg C.hk C.hs C.hd C.ha C.hn C.ht C.hm) I.kIn inst o1 answer (fun z => nomatch z) fun tk => ⟨.bl b, H, I.kept (t' := tk) fun _ _ z => z, rfl, goal⟩
end L2
/-! What all the laws share: words between steps, heaps, the hand that draws. -/
namespace L2
open PySem PySem.Spec PyProof.Rows
section
variable {X : Cx}
/-- a word behind a value, a test, some arguments -/
def tMidE (t : TE) : TE := fun σ H Q => ∃ R : VK, t σ H R ∧ ∀ v H', R v H' → Q v H'
theorem pe_mid {e : Expr} {t : TE} (h : PE X e t) : PE X e (tMidE t) :=
  ⟨fun pins s σ H _ I ⟨_, h1, h2⟩ => thn (h.run pins s σ H _ I h1) fun _ _ ⟨v, H', J, r, q⟩ => ⟨v, H', J, r, h2 v H' q⟩⟩
def tMidT (t : TT) : TT := fun σ H Q => ∃ R : Bool → Hp → Prop, t σ H R ∧ ∀ v H', R v H' → Q v H'
theorem pt_mid {e : Expr} {t : TT} (h : PT X e t) : PT X e (tMidT t) :=
  ⟨fun pins s σ H _ I ⟨_, h1, h2⟩ => thn (h.run pins s σ H _ I h1) fun b _ ⟨H', J, q⟩ => ⟨H', J, h2 b H' q⟩⟩
theorem passF {P : Program} {w : World} {X : Cx} : Passes (CX P w) X (fun _ _ _ => False) := fun _ _ _ _ _ _ _ ⟨_, _, _, _, _, _, _, _, _, _, _, _, z⟩ => z.elim
theorem iteD {p A B : Prop} [Decidable p] (h1 : p → A) (h2 : ¬ p → B) : if decide p = true then A else B := by
  by_cases h : p
  · rw [decide_eq_true h, if_pos rfl]; exact h1 h
  · rw [decide_eq_false h, if_neg Bool.false_ne_true]; exact h2 h
theorem iteB {b : Bool} {A B : Prop} (h1 : b = true → A) (h2 : b = false → B) : if b = true then A else B := by
  cases b with
  | true => rw [if_pos rfl]; exact h1 rfl
  | false => rw [if_neg Bool.false_ne_true]; exact h2 rfl
theorem iteN {p A B : Prop} [Decidable p] (h1 : ¬ p → A) (h2 : p → B) : if (!decide p) = true then A else B := by
  by_cases h : p
  · rw [decide_eq_true h]; exact h2 h
  · rw [decide_eq_false h]; exact h1 h
end
theorem upd_old {H : Hp} {a p : Addr} {o u : HO} (h : H a = some o) (n : H p = none) : upd H p u a = some o := by
  rw [upd_ne (ne_of_none h n)]; exact h
theorem upd_oth {H : Hp} {a p : Addr} {o u : HO} (h : H a = some o) (n : a ≠ p) : upd H p u a = some o := by
  rw [upd_ne n]; exact h
theorem Same.new {H : Hp} {p : Addr} {o : HO} (n : H p = none) : Same H (upd H p o) := fun _ _ h => upd_old h n
/-- all that was tracked stands, but what stands at h -/
def But (h : Addr) (H H' : Hp) : Prop := ∀ b o, b ≠ h → H b = some o → H' b = some o
theorem But.refl (h : Addr) (H : Hp) : But h H H := fun _ _ _ e => e
theorem But.trans {h : Addr} {H H1 H2 : Hp} (a : But h H H1) (b : But h H1 H2) : But h H H2 := fun c o n e => b c o n (a c o n e)
theorem Same.but {h : Addr} {H H' : Hp} (a : Same H H') : But h H H' := fun b o _ e => a b o e
theorem But.set {h : Addr} {H : Hp} {o : HO} : But h H (upd H h o) := fun _ _ n e => upd_oth e n
theorem But.seq {K : PySem.W.Frag} {h : Addr} {H H' : Hp} {a : Addr} {xs : List V} (e : But h H H') (n : a ≠ h) (x : SqL K H a xs) : SqL K H' a xs := by
  rcases x with (x | ⟨o, x⟩) | x
  · exact .inl (.inl (e _ _ n x))
  · exact .inl (.inr ⟨o, e _ _ n x⟩)
  · exact .inr x
end L2
namespace L2
open PySem PySem.Spec PyProof.Rows
theorem bt_len : bootBuiltins ("len" : Str) = some (.builtin "len") := by kernel_rfl
theorem bt_abs : bootBuiltins ("abs" : Str) = some (.builtin "abs") := by kernel_rfl
theorem bt_min : bootBuiltins ("min" : Str) = some (.builtin "min") := by kernel_rfl
theorem bt_max : bootBuiltins ("max" : Str) = some (.builtin "max") := by kernel_rfl
theorem bt_int : bootBuiltins ("int" : Str) = some (.type "int") := by kernel_rfl
theorem bt_str : bootBuiltins ("str" : Str) = some (.type "str") := by kernel_rfl
theorem bt_bool : bootBuiltins ("bool" : Str) = some (.type "bool") := by kernel_rfl
theorem bt_range : bootBuiltins ("range" : Str) = some (.type "range") := by kernel_rfl
theorem bt_zip : bootBuiltins ("zip" : Str) = some (.type "zip") := by kernel_rfl
theorem bt_enumerate : bootBuiltins ("enumerate" : Str) = some (.type "enumerate") := by kernel_rfl
theorem bt_reversed : bootBuiltins ("reversed" : Str) = some (.type "reversed") := by kernel_rfl
theorem bt_sorted : bootBuiltins ("sorted" : Str) = some (.builtin "sorted") := by kernel_rfl
theorem bt_sum : bootBuiltins ("sum" : Str) = some (.builtin "sum") := by kernel_rfl
theorem bt_any : bootBuiltins ("any" : Str) = some (.builtin "any") := by kernel_rfl
theorem bt_all : bootBuiltins ("all" : Str) = some (.builtin "all") := by kernel_rfl
theorem bt_isinstance : bootBuiltins ("isinstance" : Str) = some (.builtin "isinstance") := by kernel_rfl
theorem bt_list : bootBuiltins ("list" : Str) = some (.type "list") := by kernel_rfl
theorem bt_tuple : bootBuiltins ("tuple" : Str) = some (.type "tuple") := by kernel_rfl
theorem bt_dict : bootBuiltins ("dict" : Str) = some (.type "dict") := by kernel_rfl
theorem bt_set : bootBuiltins ("set" : Str) = some (.type "set") := by kernel_rfl
theorem bt_ord : bootBuiltins ("ord" : Str) = some (.builtin "ord") := by kernel_rfl
theorem bt_chr : bootBuiltins ("chr" : Str) = some (.builtin "chr") := by kernel_rfl
theorem bt_divmod : bootBuiltins ("divmod" : Str) = some (.builtin "divmod") := by kernel_rfl
theorem bt_ValueError : bootBuiltins ("ValueError" : Str) = some (.type "ValueError") := by kernel_rfl
end L2
namespace RB
open PySem L2
/-- the hand at h: its cells at c, the next one, what is left of a great one, two numbers -/
def Hand (H : Hp) (h c : Addr) : Prop := ∃ (cells : List Int) (i held st k : Int), H h = some (.lst [.ref c, .int i, .int held, .int st, .int k]) ∧
  H c = some (.lst (cells.map V.int)) ∧ 0 ≤ i ∧ i ≤ cells.length ∧ (∀ z ∈ cells, 0 ≤ z) ∧ 0 ≤ held ∧ c ≠ h
/-- on from a heap with the hand at h to another one -/
def Go (h c : Addr) (H H' : Hp) : Prop := But h H H' ∧ Hand H' h c
theorem Go.trans {h c : Addr} {H H1 H2 : Hp} (a : Go h c H H1) (b : Go h c H1 H2) : Go h c H H2 := ⟨a.1.trans b.1, b.2⟩
theorem Hand.same {H H' : Hp} {h c : Addr} (x : Hand H h c) (e : Same H H') : Hand H' h c := by
  obtain ⟨cells, i, held, st, k, h1, h2, r⟩ := x
  exact ⟨cells, i, held, st, k, e _ _ h1, e _ _ h2, r⟩
theorem Hand.go {H H' : Hp} {h c : Addr} (x : Hand H h c) (e : Same H H') : Go h c H H' := ⟨e.but, x.same e⟩
theorem Hand.refl {H : Hp} {h c : Addr} (x : Hand H h c) : Go h c H H := ⟨But.refl _ _, x⟩
theorem Go.same {H H1 H2 : Hp} {h c : Addr} (x : Go h c H H1) (e : Same H1 H2) : Go h c H H2 := x.trans (x.2.go e)
/-- what is new is not the hand, nor its cells -/
theorem Hand.ne {H : Hp} {h c p : Addr} (x : Hand H h c) (n : H p = none) : p ≠ h ∧ p ≠ c := by
  obtain ⟨cells, i, held, st, k, h1, h2, _⟩ := x
  exact ⟨(ne_of_none h1 n).symm, (ne_of_none h2 n).symm⟩
theorem Hand.put {H : Hp} {h c p : Addr} {o : HO} (x : Hand H h c) (n : p ≠ h ∧ p ≠ c) : Hand (upd H p o) h c := by
  obtain ⟨cells, i, held, st, k, h1, h2, r⟩ := x
  exact ⟨cells, i, held, st, k, upd_oth h1 n.1.symm, upd_oth h2 n.2.symm, r⟩
/-- what was not there at first may change -/
theorem Go.put {H H1 : Hp} {h c p : Addr} {o : HO} (x : Hand H h c) (n : H p = none) (g : Go h c H H1) : Go h c H (upd H1 p o) :=
  ⟨fun b u nb hb => by rw [upd_ne (ne_of_none hb n)]; exact g.1 b u nb hb, g.2.put (x.ne n)⟩
theorem Go.new {H : Hp} {h c p : Addr} {o : HO} (x : Hand H h c) (n : H p = none) : Go h c H (upd H p o) := x.refl.put x n
theorem Same.mut {H H1 : Hp} {p : Addr} {o : HO} (n : H p = none) (g : Same H H1) : Same H (upd H1 p o) := fun b u hb => by
  rw [upd_ne (ne_of_none hb n)]; exact g b u hb
/-! ### promises of the law's own defs that every law has -/
/-- a draw below n -/
def sp_draw : Sp := fun vs H Q _ => ∃ (h c : Addr) (n : Int), vs = [.ref h, .int n] ∧ Hand H h c ∧ 0 < n ∧ n < 2 ^ 62 ∧ ∀ (d : Int) (H' : Hp), 0 ≤ d → d < n → Go h c H H' → Q (.int d) H'
/-- a new hand of the script -/
def sp_hand (K : PySem.W.Frag) : Sp := fun vs H Q _ => ∃ (a : Addr) (ns : List Int), vs = [.ref a] ∧ SqL K H a (ns.map V.int) ∧ ns.length ≤ 63 ∧ ∀ (h c : Addr) (H' : Hp), H h = none → Same H H' → Hand H' h c → Q (.ref h) H'
end RB
namespace L2
open PySem
theorem atI_int {α : Type} {xs : List α} {i : Int} {j : Nat} {x : α} (h0 : i = (j : Int)) (h : xs[j]? = some x) : atI xs i = some x := by
  subst h0
  have hj : j < xs.length := by
    rcases Nat.lt_or_ge j xs.length with q | q
    · exact q
    · rw [List.getElem?_eq_none q] at h; cases h
  unfold atI ixN
  rw [if_pos (by omega : (0 : Int) ≤ j), if_pos (by omega)]
  exact h
theorem log_lt {n : Int} (h : n < 2 ^ 62) (h0 : 0 < n) : n.natAbs.log2 < 9000 := by
  have h1 : n.natAbs < 2 ^ 62 := by omega
  have h2 : n.natAbs ≠ 0 := by omega
  exact Nat.lt_trans ((Nat.log2_lt h2).mpr h1) (by decide)
theorem mod_in {a n : Int} (h : 0 < n) : 0 ≤ a % n ∧ a % n < n := ⟨Int.emod_nonneg _ (by omega), Int.emod_lt_of_pos _ h⟩
theorem div_in {a n : Int} (h : 0 < n) (ha : 0 ≤ a) : 0 ≤ a / n := Int.ediv_nonneg ha (by omega)
end L2
namespace RB
open PySem L2
theorem S_nil : (Str.ofString "" : Str) = S [] := by decide +kernel
/-- whether a value is a row -/
inductive RowJ (K : PySem.W.Frag) (H : Hp) : V → Bool → Prop
  | str (l : List Nat) : RowJ K H (.str (S l)) (decide (Ls l))
  | non {x : V} {t : Value} (ty : TyX K H x t) (k : PySem.W.kitOne K t (.type "str") = some false) : RowJ K H x false
theorem kit_str {K : PySem.W.Frag} : PySem.W.kitOne K (.type "str") (.type "str") = some true := kit_ty (by decide +kernel)
theorem RowJ.row {K : PySem.W.Frag} {H : Hp} {l : List Nat} (h : Ls l) : RowJ K H (.str (S l)) true := by
  have := RowJ.str (K := K) (H := H) l
  rw [decide_eq_true h] at this
  exact this
theorem nil_L : Ls [] := fun _ h => nomatch h
theorem asc_dec {l : List Nat} : (decide (Asc l) && (decide (l ≠ []) && decide (Ls l))) = (decide (l ≠ []) && decide (Ls l)) := by
  by_cases h : Ls l
  · rw [decide_eq_true h.asc, Bool.true_and]
  · rw [decide_eq_false h, Bool.and_false, Bool.and_false]
end RB
namespace RB
open PySem L2 PyProof.Rows
theorem up1_L {c : Nat} (h : IsL c) : IsL (up1 c) := by unfold IsL at *; unfold up1; split <;> omega
theorem _root_.RB.Ls.up {l : List Nat} (h : Ls l) : Ls (l.map up1) := fun c hc => by
  obtain ⟨d, hd, e⟩ := List.mem_map.mp hc
  rw [← e]; exact up1_L (h d hd)
theorem sw_up {c : Nat} (h : 97 ≤ c ∧ c ≤ 122) : up1 c = sw c := by unfold up1 sw; simp [h]; omega
theorem sw_lo {c : Nat} (h : IsL c) (h2 : ¬ (97 ≤ c ∧ c ≤ 122)) : lo1 c = sw c := by
  unfold IsL at h; unfold lo1 sw; simp [show 65 ≤ c ∧ c ≤ 90 by omega]
theorem sum_one (l : List Nat) : ((l.map fun c => [c]).map S |>.map (·.length)).sum = l.length := by
  induction l with
  | nil => rfl
  | cons a r ih =>
    simp only [List.map_cons, List.sum_cons, List.length_cons] at *
    rw [ih]; show (S [a]).length + _ = _; rw [S_len]; simp; omega
theorem flat_one (l : List Nat) : (l.map fun c => [c]).flatten = l := by
  induction l with
  | nil => rfl
  | cons a r ih => simp [ih]
/-- the texts of one sign each -/
def ones (l : List Nat) : List V := l.map fun c => V.str (S [c])
theorem ones_eq (l : List Nat) : ones l = ((l.map fun c => [c]).map S).map V.str := by
  unfold ones; rw [List.map_map, List.map_map]; rfl
theorem ones_len (l : List Nat) : (ones l).length = l.length := List.length_map ..
theorem ones_at {l : List Nat} {i c : Nat} (h : l[i]? = some c) : (ones l)[i]? = some (.str (S [c])) := by
  unfold ones; rw [List.getElem?_map, h]; rfl
theorem nil_len : (Str.ofString "" : Str).length = 0 := by rw [S_nil, S_len]; rfl
theorem take_one {α : Type} {l : List α} {i : Nat} {x : α} (h : l[i]? = some x) : l.take (i + 1) = l.take i ++ [x] := by
  rw [List.take_add_one, h]; rfl
theorem cutV_to (xs : List V) (n : Nat) : cutV xs none (some (n : Int)) = xs.take n := by
  unfold cutV
  rw [HT.sIx_none, sIx_nat, List.drop_zero, Nat.sub_zero]
  rcases Nat.le_total n xs.length with h | h
  · rw [Nat.min_eq_left h]
  · rw [Nat.min_eq_right h, List.take_length, List.take_of_length_le h]
theorem cutV_from (xs : List V) (i : Nat) : cutV xs (some (i : Int)) none = xs.drop i := by
  unfold cutV
  rw [HT.sIx_none, sIx_nat]
  rcases Nat.le_total i xs.length with h | h
  · rw [Nat.min_eq_left h]; exact List.take_of_length_le (by rw [List.length_drop]; exact Nat.le_refl _)
  · rw [Nat.min_eq_right h, List.drop_length, List.drop_of_length_le h]; simp
end RB
namespace RB
open PySem L2 PyProof.Rows
/-- values that are no rows (the hand at h stands apart) -/
inductive Odd (H : Hp) (h : Addr) : V → Prop
  | non : Odd H h .non
  | bl (b : Bool) : Odd H h (.bl b)
  | int (i : Int) : Odd H h (.int i)
  | str {z : Str} (l : List Nat) (e : z = S l) (n : ¬ Ls l) : Odd H h (.str z)
  | lst {a : Addr} {xs : List V} (n : a ≠ h) (e : H a = some (.lst xs)) : Odd H h (.ref a)
  | tup {a : Addr} {xs : List V} (n : a ≠ h) (e : H a = some (.tup xs)) : Odd H h (.ref a)
  | dict {a : Addr} {xs : List (L2.Key × V)} (n : a ≠ h) (e : H a = some (.dK xs)) : Odd H h (.ref a)
theorem Odd.but {H H' : Hp} {h : Addr} {v : V} (x : Odd H h v) (b : But h H H') : Odd H' h v := by
  cases x with
  | non => exact .non
  | bl b => exact .bl b
  | int i => exact .int i
  | str l e n => exact .str l e n
  | lst n e => exact .lst n (b _ _ n e)
  | tup n e => exact .tup n (b _ _ n e)
  | dict n e => exact .dict n (b _ _ n e)
theorem Odd.row {K : PySem.W.Frag} {H : Hp} {h : Addr} {v : V} (x : Odd H h v) : RowJ K H v false := by
  cases x with
  | non => exact .non (.base .non) (kit_ty (by decide +kernel))
  | bl b => exact .non (.base (.bl b)) (kit_ty (by decide +kernel))
  | int i => exact .non (.base (.int i)) (kit_ty (by decide +kernel))
  | str l e n =>
    subst e
    have := RowJ.str (K := K) (H := H) l
    rw [decide_eq_false n] at this
    exact this
  | lst n e => exact .non (.base (.lst e)) (kit_ty (by decide +kernel))
  | tup n e => exact .non (.base (.tup e)) (kit_ty (by decide +kernel))
  | dict n e => exact .non (.base (.dK e)) (kit_ty (by decide +kernel))
theorem all_c {α : Type} {P : α → Prop} {a : α} {l : List α} (h : P a) (r : ∀ x ∈ l, P x) : ∀ x ∈ a :: l, P x := fun x hx => by
  rcases List.mem_cons.mp hx with e | e
  · rw [e]; exact h
  · exact r x e
theorem all_n {α : Type} {P : α → Prop} : ∀ x ∈ ([] : List α), P x := fun _ h => nomatch h
end RB
namespace RB
open PySem L2
theorem Go.free {H H1 : Hp} {h c p : Addr} (g : Go h c H H1) (n : p ≠ h) (e : H1 p = none) : H p = none := by
  cases q : H p with
  | none => rfl
  | some o =>
    rw [g.1 p o n q] at e
    cases e
theorem Go.put2 {H H1 : Hp} {h c p : Addr} {o : HO} (g : Go h c H H1) (n : p ≠ h ∧ p ≠ c) (hn : H p = none) : Go h c H (upd H1 p o) :=
  ⟨fun b u nb hb => by rw [upd_ne (ne_of_none hb hn)]; exact g.1 b u nb hb, g.2.put n⟩
end RB
namespace RB
open PySem L2
theorem RowJ.inv {K : PySem.W.Frag} {H : Hp} {v : V} {b : Bool} (j : RowJ K H v b) : ∀ l, v = .str (S l) → b = decide (Ls l) := by
  intro l e
  cases j with
  | str l' => cases S_inj (V.str.inj e); rfl
  | non ty k =>
    subst e
    cases ty with
    | base ty => cases ty; rw [kit_str] at k; cases k
end RB
namespace RB
open PySem L2 PyProof.Rows
/-- a display of numbers -/
def tInts : List Nat → TA
  | [] => tNil
  | n :: r => tCons (tC (.int n)) (tInts r)
theorem tInts_run : ∀ (ns : List Nat) (σ : L2.St) (H : Hp) (Q : List V → Hp → Prop), Q (ns.map fun n : Nat => V.int n) H → tInts ns σ H Q
  | [], _, _, _, q => q
  | n :: r, σ, H, Q, q => tInts_run r σ H (fun xs H2 => Q (V.int n :: xs) H2) q
/-- [..numbers..][a draw] -/
theorem rd_pick {K : PySem.W.Frag} {σ : L2.St} {H : Hp} {Q : VK} {E : XK} {h c : Addr} {i : Nat} {m : Int} (ns : List Nat) (hs : σ[i]? = some (some (.ref h))) (hH : Hand H h c) (hm : m = ns.length) (hz : 0 < ns.length ∧ ns.length ≤ 1000)
    (q : ∀ k ∈ ns, ∀ H', Go h c H H' → Q (.int (k : Nat)) H') : tOp (rIxL K) (tLst (tInts ns)) (tCall sp_draw [] E (tCons (tVar i) (tCons (tC (.int m)) tNil))) σ H Q := by
  refine tInts_run ns σ H _ ?_
  refine ⟨by rw [List.length_map]; exact Nat.le_trans hz.2 (by decide), fun p hp => ?_⟩
  refine ⟨_, hs, ?_⟩
  have g0 : Go h c H (upd H p (.lst (ns.map fun n : Nat => V.int n))) := Go.new hH hp
  refine ⟨h, c, m, rfl, g0.2, by omega, by omega, fun d H' d0 d1 g1 => ?_⟩
  obtain ⟨j, rfl⟩ : ∃ j : Nat, d = j := ⟨d.toNat, by omega⟩
  have hj : j < ns.length := by omega
  have hat : (ns.map fun n : Nat => V.int n)[j]? = some (.int (ns[j] : Nat)) := by rw [List.getElem?_map, List.getElem?_eq_getElem hj]; rfl
  exact ⟨p, _, _, _, rfl, rfl, SqL.of (g1.1 _ _ (hH.ne hp).1 upd_same), atI_int rfl hat, q _ (List.getElem_mem hj) H' (g0.trans g1)⟩
def alph : List Nat := List.range' 97 26
theorem alph_is : (Str.ofString "abcdefghijklmnopqrstuvwxyz" : Str) = S alph := by decide +kernel
theorem alph_L : Ls alph := by decide
theorem ne_self {v : V} : (!decide (v = v)) = false := by rw [decide_eq_true rfl]; rfl
end RB
namespace RB
open PySem L2
theorem RowJ.yes {K : PySem.W.Frag} {H : Hp} {v : V} {b : Bool} (j : RowJ K H v b) (e : b = true) : ∃ l, v = .str (S l) ∧ Ls l := by
  cases j with
  | str l => exact ⟨l, rfl, of_decide_eq_true e⟩
  | non ty k => cases e
end RB
namespace L2
theorem atI_neg {α : Type} {xs : List α} {i : Int} {j : Nat} {x : α} (h0 : i + xs.length = (j : Int)) (h1 : i < 0) (h : xs[j]? = some x) : atI xs i = some x := by
  unfold atI ixN
  rw [if_neg (by omega), if_pos (by omega), h0]
  exact h
end L2
namespace L2
theorem dec_ints (i j : Int) : decide (V.int i = V.int j) = decide (i = j) := by
  by_cases h : i = j
  · rw [decide_eq_true h, decide_eq_true (congrArg V.int h)]
  · rw [decide_eq_false h, decide_eq_false fun z => h (V.int.inj z)]
theorem dec_int0 (n : Nat) : decide (V.int (n : Int) = V.int 0) = decide (n = 0) := by
  by_cases h : n = 0
  · subst h; rfl
  · rw [decide_eq_false h, decide_eq_false]
    intro z
    exact h (by have := V.int.inj z; omega)
end L2
/-! What the functions of rows promise. -/
namespace RB
open PySem L2 PyProof.Rows
/-- an argument that ought to be a row: ok with its letters, or the error of the class at C -/
def Row1 (K : PySem.W.Frag) (C : Addr) (E : XK) (H : Hp) (v : V) (ok : List Nat → Prop) : Prop :=
  ∃ b, RowJ K H v b ∧ (∀ l, v = .str (S l) → Ls l → ok l) ∧ (b = false → ∀ H', Same H H' → E (.ref C) none H')
theorem Row1.yes {K : PySem.W.Frag} {C : Addr} {E : XK} {H : Hp} {l : List Nat} {ok : List Nat → Prop} (hl : Ls l) (h : ok l) : Row1 K C E H (.str (S l)) ok :=
  ⟨true, RowJ.row hl, fun l' e _ => by cases S_inj (V.str.inj e); exact h, fun z => nomatch z⟩
theorem Row1.no {K : PySem.W.Frag} {C : Addr} {E : XK} {H : Hp} {v : V} {ok : List Nat → Prop} (j : RowJ K H v false) (h : ∀ H', Same H H' → E (.ref C) none H') : Row1 K C E H v ok :=
  ⟨false, j, fun l e hl => (by have := j.inv l e; rw [decide_eq_true hl] at this; cases this), fun _ => h⟩
def sp_demand (K : PySem.W.Frag) (C : Addr) : Sp := fun vs H Q E => ∃ v, vs = [v] ∧ Row1 K C E H v fun _ => Q .non H
def sp_net (K : PySem.W.Frag) (C : Addr) : Sp := fun vs H Q E => ∃ v, vs = [v] ∧ Row1 K C E H v fun l => l.length ≤ 100000 ∧ ∀ H', Same H H' → Q (.str (S (red l))) H'
def sp_undone (K : PySem.W.Frag) (C : Addr) : Sp := fun vs H Q E => ∃ v, vs = [v] ∧ Row1 K C E H v fun l => l.length ≤ 100000 ∧ ∀ H', Same H H' → Q (.str (S (red (inv l)))) H'
def sp_undoings : Sp := fun vs H Q _ => ∃ l, vs = [.str (S l)] ∧ Ls l ∧ l.length ≤ 100000 ∧ Q (.str (S (inv l))) H
def sp_split : Sp := fun vs H Q _ => ∃ l, vs = [.str (S l)] ∧ Ls l ∧ l.length ≤ 100000 ∧
  ∀ a p H', Cut l a → Stop l a → Same H H' → H p = none → H' p = some (.tup [.str (S (l.take a)), .str (S (mid l a))]) → Q (.ref p) H'
def sp_repnet : Sp := fun vs H Q _ => ∃ (t : List Nat) (n : Nat), vs = [.str (S t), .int n] ∧ Ls t ∧ NoPair t ∧ t.length ≤ 100000 ∧ t.length * n ≤ 5000000 ∧ n < 2 ^ 62 ∧ ∀ H', Same H H' → Q (.str (S (red (rep t n)))) H'
/-- whether a value is an integer -/
inductive IntJ (K : PySem.W.Frag) (H : Hp) : V → Option Int → Prop
  | int (i : Int) : IntJ K H (.int i) (some i)
  | bl (b : Bool) : IntJ K H (.bl b) none
  | non {x : V} {t : Value} (ty : TyX K H x t) (k : PySem.W.kitOne K t (.type "int") = some false) : IntJ K H x none
def sp_isint (K : PySem.W.Frag) : Sp := fun vs H Q _ => ∃ v o, vs = [v] ∧ IntJ K H v o ∧ Q (.bl o.isSome) H
def within (o : Option Int) (a b : Int) : Bool := match o with | some i => decide (a ≤ i) && decide (i ≤ b) | none => false
def sp_within (K : PySem.W.Frag) : Sp := fun vs H Q _ => ∃ v o a b, vs = [v, .int a, .int b] ∧ IntJ K H v o ∧ Q (.bl (within o a b)) H
def sp_power (K : PySem.W.Frag) (C CN : Addr) : Sp := fun vs H Q E => ∃ v w, vs = [v, w] ∧ Row1 K C E H v fun l => ∃ o, IntJ K H w o ∧ (within o (-1000) 1000 = false → ∀ H', Same H H' → E (.ref CN) none H') ∧
  (∀ i : Int, w = .int i → -1000 ≤ i → i ≤ 1000 → l.length ≤ 5000 ∧ ∀ H', Same H H' → Q (.str (S (pw l i))) H')
def sp_turned (K : PySem.W.Frag) (C : Addr) : Sp := fun vs H Q E => ∃ v w, vs = [v, w] ∧ Row1 K C E H v fun l => Row1 K C E H w fun m => l.length + 2 * m.length ≤ 100000 ∧ ∀ H', Same H H' → Q (.str (S (red (m ++ l ++ inv m)))) H'
/-- what joined is handed -/
inductive RowsJ (K : PySem.W.Frag) (H : Hp) : V → Option (List (List Nat)) → Prop
  | bad {x : V} {t : Value} (ty : TyX K H x t) (k : PySem.W.kitAny K t [.type "list", .type "tuple"] = some false) : RowsJ K H x none
  | lst {p : Addr} {xs : List V} {bs : List Bool} (e : SqL K H p xs) (j : Paired (RowJ K H) xs bs) (n : bs.all id = false) (e2 : H p = some (.lst xs)) : RowsJ K H (.ref p) none
  | tup {p : Addr} {xs : List V} {bs : List Bool} (e : SqT K H p xs) (j : Paired (RowJ K H) xs bs) (n : bs.all id = false) (e2 : H p = some (.tup xs)) : RowsJ K H (.ref p) none
  | lstY {p : Addr} {ls : List (List Nat)} (e2 : H p = some (.lst (ls.map fun l => V.str (S l)))) (h : ∀ l ∈ ls, Ls l) : RowsJ K H (.ref p) (some ls)
  | tupY {p : Addr} {ls : List (List Nat)} (e2 : H p = some (.tup (ls.map fun l => V.str (S l)))) (h : ∀ l ∈ ls, Ls l) : RowsJ K H (.ref p) (some ls)
def sp_joined (K : PySem.W.Frag) (C : Addr) : Sp := fun vs H Q E => ∃ v o, vs = [v] ∧ RowsJ K H v o ∧ (o = none → ∀ H', Same H H' → E (.ref C) none H') ∧
  (∀ ls, o = some ls → ls.flatten.length ≤ 100000 ∧ ∀ H', Same H H' → Q (.str (S (red ls.flatten))) H')
end RB
namespace RB
open PySem L2 PyProof.Rows
theorem tyOf_same {K : PySem.W.Frag} {H H' : Hp} {v : V} {t : Value} (s : Same H H') (h : TyOf K H v t) : TyOf K H' v t := by
  cases h with
  | non => exact .non
  | bl b => exact .bl b
  | int i => exact .int i
  | str x => exact .str x
  | flt x => exact .flt x
  | lst e => exact .lst (s _ _ e)
  | frz e => exact .frz (s _ _ e)
  | tup e => exact .tup (s _ _ e)
  | dK e => exact .dK (s _ _ e)
  | dT e => exact .dT (s _ _ e)
  | ins e cl ha hn htk hm => exact .ins (s _ _ e) cl ha hn htk hm
theorem tyX_same {K : PySem.W.Frag} {H H' : Hp} {v : V} {t : Value} (s : Same H H') (h : TyX K H v t) : TyX K H' v t := by
  cases h with
  | base h => exact .base (tyOf_same s h)
  | byt b => exact .byt b
  | set e => exact .set (s _ _ e)
  | kList e c => exact .kList e c
  | kTuple e c => exact .kTuple e c
  | kDict e c => exact .kDict e c
  | fTuple e => exact .fTuple (s _ _ e)
  | fDict e => exact .fDict (s _ _ e)
theorem RowJ.same {K : PySem.W.Frag} {H H' : Hp} {v : V} {b : Bool} (s : Same H H') (j : RowJ K H v b) : RowJ K H' v b := by
  cases j with
  | str l => exact .str l
  | non ty k => exact .non (tyX_same s ty) k
theorem IntJ.same {K : PySem.W.Frag} {H H' : Hp} {v : V} {o : Option Int} (s : Same H H') (j : IntJ K H v o) : IntJ K H' v o := by
  cases j with
  | int i => exact .int i
  | bl b => exact .bl b
  | non ty k => exact .non (tyX_same s ty) k
theorem paired_at {α β : Type} {R : α → β → Prop} : ∀ {xs : List α} {bs : List β}, Paired R xs bs → ∀ {i : Nat} {x : α}, xs[i]? = some x → ∃ b, bs[i]? = some b ∧ R x b
  | _, _, .nil, _, _, h => by simp at h
  | _, _, .cons r _, 0, _, h => by cases h; exact ⟨_, rfl, r⟩
  | _, _, .cons _ p, i + 1, _, h => paired_at p (i := i) h
theorem paired_len {α β : Type} {R : α → β → Prop} : ∀ {xs : List α} {bs : List β}, Paired R xs bs → xs.length = bs.length
  | _, _, .nil => rfl
  | _, _, .cons _ p => by rw [List.length_cons, List.length_cons, paired_len p]
theorem all_at {bs : List Bool} (h : ∀ (i : Nat) (b : Bool), bs[i]? = some b → b = true) : bs.all id = true := by
  rw [List.all_eq_true]
  intro b hb
  obtain ⟨k0, hk0, e⟩ := List.getElem_of_mem hb
  exact h k0 b (by rw [List.getElem?_eq_getElem hk0, e])
/-! ### the order of rows -/
def posL (c : Nat) : Int := if 97 ≤ c then 2 * ((c : Int) - 97) else 2 * ((c : Int) - 65) + 1
def LETS : Str := "aAbBcCdDeEfFgGhHiIjJkKlLmMnNoOpPqQrRsStTuUvVwWxXyYzZ"
theorem find_let : ∀ c, c < 123 → IsL c → Txt.find LETS (S [c]) = posL c := by decide +kernel
def plD (l : List Nat) : PyData := .tuple [.int l.length, .list (l.map fun c => PyData.int (posL c))]
def earl (l m : List Nat) : Bool := PySem.W.dataLt (plD l) (plD m)
theorem dpAll_ints {K : PySem.W.Frag} {H : Hp} : ∀ ns : List Int, DpAll K H (ns.map V.int) (ns.map PyData.int)
  | [] => .nil
  | n :: r => .cons (.int n) (dpAll_ints r)
theorem alike_ints : ∀ ns ms : List Int, PySem.W.alikeAll (ns.map PyData.int) (ms.map PyData.int) = true
  | [], _ => by unfold PySem.W.alikeAll; rfl
  | _ :: _, [] => by unfold PySem.W.alikeAll; rfl
  | n :: r, m :: r2 => by
    show (PySem.W.alike (.int n) (.int m) && PySem.W.alikeAll (r.map PyData.int) (r2.map PyData.int)) = true
    rw [alike_ints r r2]; rfl
theorem pl_alike (l m : List Nat) : PySem.W.alike (plD l) (plD m) = true := by
  have h := alike_ints (l.map posL) (m.map posL)
  rw [List.map_map, List.map_map] at h
  simp only [plD, PySem.W.alike, PySem.W.alikeAll, Bool.true_and, Bool.and_true]
  exact h
def sp_place : Sp := fun vs H Q _ => ∃ l, vs = [.str (S l)] ∧ Ls l ∧ l.length ≤ 100000 ∧
  ∀ p q H', Same H H' → H' p = some (.tup [.int l.length, .ref q]) → H' q = some (.lst ((l.map posL).map V.int)) → Q (.ref p) H'
def sp_earlier (K : PySem.W.Frag) (C : Addr) : Sp := fun vs H Q E => ∃ v w, vs = [v, w] ∧ Row1 K C E H v fun l => Row1 K C E H w fun m => l.length ≤ 100000 ∧ m.length ≤ 100000 ∧ ∀ H', Same H H' → Q (.bl (earl l m)) H'
/-! ### roots -/
/-- the row looks like itself again d letters on -/
def Turn (c : List Nat) (d : Nat) : Prop := ((c ++ c).drop d).take c.length = c ∧ d ≤ c.length
def Per (c : List Nat) (d : Nat) : Prop := 1 ≤ d ∧ Turn c d ∧ ∀ k, 1 ≤ k → k < d → ¬ Turn c k
theorem at_turn (c : List Nat) (k : Nat) : PySem.StrLaws.At (S (c ++ c)) (S c) (S (c ++ c)).length k ↔ Turn c k := by
  unfold PySem.StrLaws.At Builtin.Str.subAt Turn
  rw [S_len, S_len, List.length_append]
  have e : ((S (c ++ c)).cps.extract k (k + c.length) == (S c).cps) = decide (((c ++ c).drop k).take c.length = c) := by
    show ((c ++ c).toArray.extract k (k + c.length) == c.toArray) = _
    have e1 : (c ++ c).toArray.extract k (k + c.length) = (((c ++ c).drop k).take c.length).toArray := by
      rw [List.extract_toArray, List.extract_eq_take_drop, Nat.add_sub_cancel_left]
    rw [e1]
    by_cases h : ((c ++ c).drop k).take c.length = c
    · rw [h, decide_eq_true rfl]; simp
    · rw [decide_eq_false h]
      rw [beq_eq_false_iff_ne]
      intro z
      exact h (by simpa using z)
  rw [e, decide_eq_true_iff]
  constructor
  · exact fun ⟨h1, h2⟩ => ⟨h2, by omega⟩
  · exact fun ⟨h1, h2⟩ => ⟨by omega, h1⟩
theorem find_per {c : List Nat} (h : c ≠ []) : ∃ d : Nat, Txt.find3 (S (c ++ c)) (S c) 1 = d ∧ Per c d := by
  have hl : 0 < c.length := List.length_pos_iff.mpr h
  have full : Turn c c.length := ⟨by rw [List.drop_left]; exact List.take_length .., Nat.le_refl _⟩
  unfold Txt.find3
  have ef : fromIndex (S (c ++ c)).length 1 = 1 := rfl
  rw [ef]
  rcases PySem.StrLaws.occ_head_from (S (c ++ c)) (S c) 1 1 (Nat.le_refl _) with ⟨_, hn⟩ | ⟨i, r, e, h1, ha, hn⟩
  · exact absurd ((at_turn c c.length).mpr full) (hn _ hl)
  · rw [e]
    exact ⟨i, rfl, h1, (at_turn c i).mp ha, fun k k1 k2 z => hn k k1 k2 ((at_turn c k).mpr z)⟩
def sp_rootnet : Sp := fun vs H Q _ => ∃ t : List Nat, vs = [.str (S t)] ∧ Ls t ∧ NoPair t ∧ t ≠ [] ∧ t.length ≤ 100000 ∧ ∀ a d p H', Cut t a → Stop t a → Per (mid t a) d → Same H H' → H p = none →
  H' p = some (.tup [.str (S (t.take a ++ (mid t a).take d ++ inv (t.take a))), .int ((mid t a).length / d : Nat)]) → Q (.ref p) H'
def sp_root (K : PySem.W.Frag) (C CR : Addr) : Sp := fun vs H Q E => ∃ v, vs = [v] ∧ Row1 K C E H v fun l => l.length ≤ 100000 ∧ (red l = [] → ∀ H', Same H H' → E (.ref CR) none H') ∧
  (red l ≠ [] → ∀ a d p H', Cut (red l) a → Stop (red l) a → Per (mid (red l) a) d → Same H H' → H p = none →
    H' p = some (.tup [.str (S ((red l).take a ++ (mid (red l) a).take d ++ inv ((red l).take a))), .int ((mid (red l) a).length / d : Nat)]) → Q (.ref p) H')
end RB
namespace RB
open PySem L2 PyProof.Rows
theorem kit_lst {K : PySem.W.Frag} : PySem.W.kitAny K (.type "list") [.type "list", .type "tuple"] = some true :=
  kitAny_cons (b := true) (kit_ty (by decide +kernel)) (fun z => nomatch z) (fun _ => rfl)
theorem kit_tup {K : PySem.W.Frag} : PySem.W.kitAny K (.type "tuple") [.type "list", .type "tuple"] = some true :=
  kitAny_cons (b := false) (kit_ty (by decide +kernel)) (fun _ => kitAny_cons (b := true) (kit_ty (by decide +kernel)) (fun z => nomatch z) (fun _ => rfl)) (fun z => nomatch z)
theorem sum_S (ls : List (List Nat)) : ((ls.map S).map (·.length)).sum = ls.flatten.length := by
  induction ls with
  | nil => rfl
  | cons a r ih => simp only [List.map_cons, List.sum_cons, List.flatten_cons, List.length_append, ih, S_len]
theorem map_S (ls : List (List Nat)) : (ls.map fun l => V.str (S l)) = (ls.map S).map V.str := by rw [List.map_map]; rfl
end RB
namespace RB
open PySem L2
theorem depths_ints : ∀ ns : List Int, PyData.depthAll (ns.map PyData.int) = 0
  | [] => (by simp [PyData.depthAll] : _ = 0)
  | n :: r => by
    have := depths_ints r
    simp only [List.map_cons, PyData.depth, PyData.depthAll]
    omega
theorem pl_depth (l : List Nat) : (plD l).depth ≤ 32 := by
  have h := depths_ints (l.map posL)
  rw [List.map_map] at h
  simp only [plD, PyData.depth, PyData.depthAll]
  have : PyData.depthAll (l.map fun c => PyData.int (posL c)) = 0 := h
  omega
end RB
namespace RB
open PySem L2
theorem alph_at {j : Nat} (h : j < 26) : alph[j]? = some (97 + j) := by
  unfold alph; rw [List.getElem?_range' h]; simp
theorem alph_len : alph.length = 26 := rfl
/-- deeds, ascending -/
structure Deeds (d : List Nat) : Prop where
  low : ∀ x ∈ d, 97 ≤ x ∧ x ≤ 122
  up : List.Pairwise (· < ·) d
theorem Deeds.L {d : List Nat} (h : Deeds d) : Ls d := fun c hc => .inr (h.low c hc)
theorem asc_len : ∀ (l : List Nat) (a : Nat), List.Pairwise (· < ·) l → (∀ x ∈ l, a ≤ x ∧ x ≤ 122) → l.length ≤ 123 - a
  | [], a, _, _ => Nat.zero_le (123 - a)
  | x :: r, a, p, h => by
    have h1 := h x List.mem_cons_self
    have p2 := List.pairwise_cons.mp p
    have := asc_len r (x + 1) p2.2 fun y hy => ⟨p2.1 y hy, (h y (List.mem_cons_of_mem _ hy)).2⟩
    rw [List.length_cons]; omega
theorem Deeds.len {d : List Nat} (h : Deeds d) : d.length ≤ 26 := asc_len d 97 h.up h.low
def sp_deeds : Sp := fun vs H Q _ => ∃ (h c : Addr) (n : Nat), vs = [.ref h, .int n] ∧ Hand H h c ∧ 1 ≤ n ∧ n ≤ 26 ∧ ∀ d H', Deeds d → d ≠ [] → d.length ≤ n → Go h c H H' → Q (.str (S d)) H'
end RB
namespace RB
open PySem L2
theorem within_yes {i a b : Int} (h1 : a ≤ i) (h2 : i ≤ b) : within (some i) a b = true := by
  show (decide (a ≤ i) && decide (i ≤ b)) = true
  rw [decide_eq_true h1, decide_eq_true h2]; rfl
theorem kit_int {K : PySem.W.Frag} : PySem.W.kitOne K (.type "int") (.type "int") = some true := kit_ty (by decide +kernel)
theorem IntJ.inv {K : PySem.W.Frag} {H : Hp} {v : V} {o : Option Int} (j : IntJ K H v o) : ∀ i, v = .int i → o = some i := by
  intro i e
  cases j with
  | int k => cases e; rfl
  | bl b => cases e
  | non ty k =>
    subst e
    cases ty with
    | base ty => cases ty; rw [kit_int] at k; cases k
end RB
/-! Lists of texts and of numbers compared. -/
namespace RB
open PySem L2 PyProof.Rows
theorem lay_strs : ∀ xs : List Str, (∀ x ∈ xs, PyData.strOk x = true) → PyData.canLayAll0 (xs.map PyData.str) = true
  | [], _ => by simp only [List.map_nil, PyData.canLayAll0]
  | x :: r, h => by
    have h1 := lay_strs r fun y hy => h y (List.mem_cons_of_mem _ hy)
    have h2 := h x List.mem_cons_self
    simp only [List.map_cons, PyData.canLayAll0, PyData.canLay0, h1, h2, Bool.and_self]
theorem deep_strs : ∀ xs : List Str, PyData.depthAll (xs.map PyData.str) = 0
  | [] => by simp only [List.map_nil, PyData.depthAll]
  | x :: r => by
    have := deep_strs r
    simp only [List.map_cons, PyData.depth, PyData.depthAll, this, Nat.max_self]
theorem sh_strs (xs : List Str) (h : ∀ x ∈ xs, PyData.strOk x = true) : SeqAt.shaped (.list (xs.map PyData.str)) = true := by
  have h1 := lay_strs xs h
  have h2 := deep_strs xs
  simp only [SeqAt.shaped, PyData.canLay0, PyData.depth, h1, h2, Bool.true_and]; decide
theorem sh_strsT (xs : List Str) (h : ∀ x ∈ xs, PyData.strOk x = true) : SeqAt.shaped (.tuple (xs.map PyData.str)) = true := by
  have h1 := lay_strs xs h
  have h2 := deep_strs xs
  simp only [SeqAt.shaped, PyData.canLay0, PyData.depth, h1, h2, Bool.true_and]; decide
theorem eqvAll_strs : ∀ xs ys : List Str, PyData.eqvAll (xs.map PyData.str) (ys.map PyData.str) = decide (xs = ys)
  | [], [] => by simp only [List.map_nil, PyData.eqvAll, decide_true]
  | [], y :: t => by simp only [List.map_nil, List.map_cons, PyData.eqvAll]; rw [decide_eq_false]; exact fun z => nomatch z
  | x :: r, [] => by simp only [List.map_nil, List.map_cons, PyData.eqvAll]; rw [decide_eq_false]; exact fun z => nomatch z
  | x :: r, y :: t => by
    have := eqvAll_strs r t
    simp only [List.map_cons, PyData.eqvAll, PyData.eqv, this]
    by_cases h : x = y <;> by_cases h2 : r = t <;> simp [h, h2]
theorem eqv_strsL (xs ys : List Str) : PyData.eqv (.list (xs.map PyData.str)) (.list (ys.map PyData.str)) = decide (xs = ys) := by
  have := eqvAll_strs xs ys
  simp only [PyData.eqv, this]
theorem dp_strs {K : PySem.W.Frag} {H : Hp} : ∀ xs : List Str, DpAll K H (xs.map V.str) (xs.map PyData.str)
  | [] => .nil
  | x :: r => .cons (.str x) (dp_strs r)
/-- two lists of texts, == and != -/
theorem ne_strs {K : PySem.W.Frag} {H : Hp} {Q : VK} {p q : Addr} {xs ys : List Str} (hp : SqL K H p (xs.map V.str)) (hq : SqL K H q (ys.map V.str)) (hx : ∀ x ∈ xs, PyData.strOk x = true) (hy : ∀ x ∈ ys, PyData.strOk x = true) (h : Q (.bl (!decide (xs = ys))) H) : rNeD K (.ref p) (.ref q) H Q :=
  ⟨_, _, .lst hp (dp_strs xs), .lst hq (dp_strs ys), sh_strs xs hx, sh_strs ys hy, by rw [eqv_strsL]; exact h⟩
theorem eq_strs {K : PySem.W.Frag} {H : Hp} {Q : VK} {p q : Addr} {xs ys : List Str} (hp : SqL K H p (xs.map V.str)) (hq : SqL K H q (ys.map V.str)) (hx : ∀ x ∈ xs, PyData.strOk x = true) (hy : ∀ x ∈ ys, PyData.strOk x = true) (h : Q (.bl (decide (xs = ys))) H) : rEqD K (.ref p) (.ref q) H Q :=
  ⟨_, _, .lst hp (dp_strs xs), .lst hq (dp_strs ys), sh_strs xs hx, sh_strs ys hy, by rw [eqv_strsL]; exact h⟩
theorem ok_S {l : List Nat} (h : Ls l) : PyData.strOk (S l) = true := by
  show l.toArray.all (fun c => decide (c < 0x110000)) = true
  rw [List.all_toArray, List.all_eq_true]
  intro c hc
  have := h.asc c hc
  exact decide_eq_true (by omega)
theorem ok_map {ls : List (List Nat)} (h : ∀ l ∈ ls, Ls l) : ∀ x ∈ ls.map S, PyData.strOk x = true := fun x hx => by
  obtain ⟨l, hl, e⟩ := List.mem_map.mp hx
  rw [← e]; exact ok_S (h l hl)
/-! ### the net of a row so often, by whole numbers -/
theorem zmix {l : List Nat} (h : Ls l) (a b : Nat) : Eqv (rep l a ++ rep (inv l) b) (if b ≤ a then rep l (a - b) else rep (inv l) (b - a)) := by
  by_cases q : b ≤ a
  · rw [if_pos q]
    have e : rep l a = rep l (a - b) ++ rep l b := by rw [← rep_add]; congr 1; omega
    have k : Eqv (rep l b ++ rep (inv l) b) [] := by
      have := eqv_inv_r (h.rep b)
      rw [inv_rep] at this
      exact this
    have := (Eqv.refl (rep l (a - b))).app k (h.rep _)
    rw [e, List.append_assoc]
    rw [List.append_nil] at this
    exact this
  · rw [if_neg q]
    have e : rep (inv l) b = rep (inv l) a ++ rep (inv l) (b - a) := by rw [← rep_add]; congr 1; omega
    have k : Eqv (rep l a ++ rep (inv l) a) [] := by
      have := eqv_inv_r (h.rep a)
      rw [inv_rep] at this
      exact this
    have := k.app (Eqv.refl (rep (inv l) (b - a))) Ls.nil
    rw [e, ← List.append_assoc]
    exact this
theorem pw_of {l : List Nat} (i : Int) : pw l i = red (if i < 0 then rep (inv l) (-i).toNat else rep l i.toNat) := by unfold pw; split <;> rfl
theorem zz_L {l : List Nat} (h : Ls l) (i : Int) : Ls (if i < 0 then rep (inv l) (-i).toNat else rep l i.toNat) := by
  split
  · exact h.inv.rep _
  · exact h.rep _
theorem pw_L {l : List Nat} (h : Ls l) (i : Int) : Ls (pw l i) := by rw [pw_of]; exact red_L (zz_L h i)
theorem pw_eqv {l : List Nat} (h : Ls l) (i : Int) : Eqv (pw l i) (if i < 0 then rep (inv l) (-i).toNat else rep l i.toNat) := by
  rw [pw_of]; exact (eqv_red (zz_L h i)).symm
theorem pw_add {l : List Nat} (h : Ls l) (i j : Int) : red (pw l i ++ pw l j) = pw l (i + j) := by
  have e := (pw_eqv h i).app (pw_eqv h j) (zz_L h i)
  rw [e.red, pw_of (i + j)]
  by_cases hi : i < 0 <;> by_cases hj : j < 0
  · rw [if_pos hi, if_pos hj, if_pos (by omega), ← rep_add]
    congr 2; omega
  · rw [if_pos hi, if_neg hj]
    have z := zmix h.inv (-i).toNat j.toNat
    rw [inv_inv h] at z
    rw [z.red]
    by_cases q : j.toNat ≤ (-i).toNat
    · rw [if_pos q]
      by_cases q2 : i + j < 0
      · rw [if_pos q2]; congr 2; omega
      · rw [if_neg q2]
        have e1 : (-i).toNat - j.toNat = 0 := by omega
        have e2 : (i + j).toNat = 0 := by omega
        rw [e1, e2]; rfl
    · rw [if_neg q, if_neg (by omega)]; congr 2; omega
  · rw [if_neg hi, if_pos hj]
    have z := zmix h i.toNat (-j).toNat
    rw [z.red]
    by_cases q : (-j).toNat ≤ i.toNat
    · rw [if_pos q, if_neg (by omega)]; congr 2; omega
    · rw [if_neg q, if_pos (by omega)]; congr 2; omega
  · rw [if_neg hi, if_neg hj, if_neg (by omega), ← rep_add]
    congr 2; omega
theorem pw_one (l : List Nat) : pw l 1 = red l := by
  rw [pw_of, if_neg (by decide)]
  show red (rep l 1) = _
  rw [rep_rep]
theorem pw_back (l : List Nat) : pw l (-1) = red (inv l) := by
  rw [pw_of, if_pos (by decide)]
  show red (rep (inv l) 1) = _
  rw [rep_rep]
theorem pw_len (l : List Nat) (i : Int) : (pw l i).length ≤ l.length * i.natAbs := by
  rw [pw_of]
  refine Nat.le_trans (red_len _) ?_
  split
  · rw [rep_len, inv_len]; exact Nat.le_of_eq (by congr 1; omega)
  · rw [rep_len]; exact Nat.le_of_eq (by congr 1; omega)
end RB
/-! Roots: what turns look like, the shortest one, and the greatest power. -/
namespace RB
/-- the row gone round, letter by letter -/
def cy (c : List Nat) (i : Nat) : Option Nat := c[i % c.length]?
theorem cy_low {c : List Nat} {i : Nat} (h : i < c.length) : cy c i = c[i]? := by unfold cy; rw [Nat.mod_eq_of_lt h]
theorem cy_len (c : List Nat) (i : Nat) : cy c (i + c.length) = cy c i := by unfold cy; rw [Nat.add_mod_right]
theorem two_at {c : List Nat} {i : Nat} (h : i < 2 * c.length) : (c ++ c)[i]? = cy c i := by
  by_cases q : i < c.length
  · rw [List.getElem?_append_left q, cy_low q]
  · have e : i = (i - c.length) + c.length := by omega
    rw [List.getElem?_append_right (by omega)]
    rw [e, cy_len, cy_low (by omega)]
    congr 1
    omega
theorem turn_at {c : List Nat} {d : Nat} : Turn c d ↔ d ≤ c.length ∧ ∀ i, i < c.length → cy c (i + d) = cy c i := by
  unfold Turn
  constructor
  · rintro ⟨h, hd⟩
    refine ⟨hd, fun i hi => ?_⟩
    have e : (((c ++ c).drop d).take c.length)[i]? = c[i]? := by rw [h]
    rw [List.getElem?_take, if_pos hi, List.getElem?_drop, Nat.add_comm, two_at (by omega)] at e
    rw [e, cy_low hi]
  · rintro ⟨hd, h⟩
    refine ⟨?_, hd⟩
    apply List.ext_getElem?
    intro i
    by_cases hi : i < c.length
    · rw [List.getElem?_take, if_pos hi, List.getElem?_drop, Nat.add_comm, two_at (by omega), h i hi, cy_low hi]
    · rw [List.getElem?_eq_none (by rw [List.length_take]; omega), List.getElem?_eq_none (by omega)]
theorem cy_mod (c : List Nat) (i : Nat) : cy c (i % c.length) = cy c i := by unfold cy; rw [Nat.mod_mod]
theorem turn_all {c : List Nat} {d : Nat} (h0 : c ≠ []) (h : Turn c d) (i : Nat) : cy c (i + d) = cy c i := by
  have pos := List.length_pos_iff.mpr h0
  have := (turn_at.mp h).2 (i % c.length) (Nat.mod_lt _ pos)
  rw [cy_mod] at this
  rw [← this]
  unfold cy
  rw [Nat.mod_add_mod]
theorem turn_mul {c : List Nat} {d : Nat} (h0 : c ≠ []) (h : Turn c d) (i : Nat) : ∀ k, cy c (i + d * k) = cy c i
  | 0 => rfl
  | k + 1 => by
    have e : i + d * (k + 1) = (i + d * k) + d := by rw [Nat.mul_succ]; omega
    rw [e, turn_all h0 h, turn_mul h0 h i k]
/-- the shortest turn divides the length -/
theorem per_dvd {c : List Nat} {d : Nat} (h0 : c ≠ []) (h : Per c d) : d ∣ c.length := by
  obtain ⟨h1, ht, hm⟩ := h
  apply Nat.dvd_of_mod_eq_zero
  by_cases z : c.length % d = 0
  · exact z
  · exfalso
    have lt := Nat.mod_lt c.length (by omega : d > 0)
    refine hm (c.length % d) (by omega) lt (turn_at.mpr ⟨Nat.mod_le _ _, fun i _ => ?_⟩)
    have e := turn_mul h0 ht (i + c.length % d) (c.length / d)
    have e2 : i + c.length % d + d * (c.length / d) = i + c.length := by have := Nat.mod_add_div c.length d; omega
    rw [e2, cy_len] at e
    exact e.symm
theorem rep_at {u : List Nat} : ∀ {n i : Nat}, i < n * u.length → (rep u n)[i]? = u[i % u.length]?
  | 0, i, h => by omega
  | n + 1, i, h => by
    show (u ++ rep u n)[i]? = _
    by_cases q : i < u.length
    · rw [List.getElem?_append_left q, Nat.mod_eq_of_lt q]
    · rw [List.getElem?_append_right (by omega), rep_at (by rw [Nat.succ_mul] at h; omega)]
      congr 1
      have e : i = (i - u.length) + u.length := by omega
      conv => rhs; rw [e]
      rw [Nat.add_mod_right]
/-- the row is its first letters so often -/
theorem per_rep {c : List Nat} {d : Nat} (h0 : c ≠ []) (hd : 1 ≤ d) (ht : Turn c d) (hv : d ∣ c.length) : rep (c.take d) (c.length / d) = c := by
  have dl : (c.take d).length = d := by rw [List.length_take]; have := ht.2; omega
  have ml : c.length / d * d = c.length := Nat.div_mul_cancel hv
  apply List.ext_getElem?
  intro i
  by_cases hi : i < c.length
  · rw [rep_at (by rw [dl, ml]; exact hi), dl, List.getElem?_take, if_pos (Nat.mod_lt _ (by omega))]
    have e := turn_mul h0 ht (i % d) (i / d)
    rw [Nat.mod_add_div, cy_low hi] at e
    have hlt : i % d < c.length := by have := Nat.mod_lt i (by omega : d > 0); have := ht.2; omega
    rw [cy_low hlt] at e
    exact e.symm
  · have : (rep (c.take d) (c.length / d)).length = c.length := by rw [rep_len, dl, Nat.mul_comm, ml]
    rw [List.getElem?_eq_none (by omega), List.getElem?_eq_none (by omega)]
/-- what is put together of so many alike turns by one of them -/
theorem rep_turn {u : List Nat} {n : Nat} (h0 : u ≠ []) (hn : 1 ≤ n) : Turn (rep u n) u.length := by
  have pos := List.length_pos_iff.mpr h0
  have hl : (rep u n).length = n * u.length := by rw [rep_len, Nat.mul_comm]
  have hle : u.length ≤ n * u.length := Nat.le_mul_of_pos_left _ hn
  refine turn_at.mpr ⟨by omega, fun i hi => ?_⟩
  have at_ : ∀ j, cy (rep u n) j = u[j % u.length]? := fun j => by
    unfold cy
    rw [hl, rep_at (Nat.mod_lt _ (by omega)), Nat.mod_mod_of_dvd _ (Nat.dvd_mul_left _ _)]
  rw [at_, at_, Nat.add_mod_right]
/-- a turn of the one is a turn of all -/
theorem turn_up {u : List Nat} {n k : Nat} (h0 : u ≠ []) (hn : 1 ≤ n) (h : Turn u k) : Turn (rep u n) k := by
  have pos := List.length_pos_iff.mpr h0
  have hl : (rep u n).length = n * u.length := by rw [rep_len, Nat.mul_comm]
  have hle : u.length ≤ n * u.length := Nat.le_mul_of_pos_left _ hn
  have hk := h.2
  refine turn_at.mpr ⟨by omega, fun i hi => ?_⟩
  have at_ : ∀ j, cy (rep u n) j = cy u j := fun j => by
    unfold cy
    rw [hl, rep_at (Nat.mod_lt _ (by omega)), Nat.mod_mod_of_dvd _ (Nat.dvd_mul_left _ _)]
  rw [at_, at_, turn_all h0 h]
/-- the ends of a net can be taken in one way only -/
theorem cut_one {t : List Nat} {a b : Nat} (ca : Cut t a) (sa : Stop t a) (cb : Cut t b) (sb : Stop t b) : a = b := by
  have key : ∀ {a b : Nat}, Cut t b → Stop t a → ¬ a < b := fun {a b} cb sa lt => by
    have hs := cb.small
    have hx : t[a]? = some t[a] := List.getElem?_eq_getElem (by omega)
    have hy := cb.ends a _ lt hx
    exact sa _ _ (by omega) hx hy rfl
  rcases Nat.lt_trichotomy a b with h | h | h
  · exact absurd h (key cb sa)
  · exact h
  · exact absurd h (key ca sb)
/-! a row that loses nothing is a net -/
theorem push_lt {st : List Nat} {c : Nat} : (push st c).length = st.length + 1 → push st c = c :: st := by
  cases st with
  | nil => intro _; rfl
  | cons t r =>
    intro h
    by_cases e : t = sw c
    · have e1 : push (t :: r) c = r := if_pos e
      rw [e1] at h
      simp at h; omega
    · exact if_neg e
theorem fold_full : ∀ (l st : List Nat), (l.foldl push st).length = st.length + l.length → l.foldl push st = l.reverse ++ st
  | [], st, _ => rfl
  | c :: l, st, h => by
    have h1 := kst_len_aux l (push st c)
    have h2 := push_len st c
    have h3 : (l.foldl push (push st c)).length = st.length + (l.length + 1) := h
    have h4 : (push st c).length = st.length + 1 := by omega
    have e := push_lt h4
    have h5 := fold_full l (push st c) (by omega)
    show l.foldl push (push st c) = _
    rw [h5, e]; simp
theorem red_full {l : List Nat} (h : (red l).length = l.length) : red l = l := by
  have h1 : (l.foldl push []).length = ([] : List Nat).length + l.length := by
    have : (red l).length = (kst l).length := by unfold red; rw [List.length_reverse]
    rw [h] at this
    show (kst l).length = _
    rw [← this]; simp
  have := fold_full l [] h1
  unfold red kst
  rw [this]; simp
/-- the ends may be dropped from both -/
theorem eqv_drop {s x y : List Nat} (hs : Ls s) (hx : Ls x) (hy : Ls y) (h : Eqv (s ++ x ++ inv s) (s ++ y ++ inv s)) : Eqv x y := by
  have f : ∀ {z : List Nat}, Ls z → Eqv (inv s ++ ((s ++ z ++ inv s) ++ s)) z := fun {z} hz => by
    have e : inv s ++ ((s ++ z ++ inv s) ++ s) = (inv s ++ s) ++ (z ++ (inv s ++ s)) := by simp
    rw [e]
    have k := (eqv_inv_l hs).app ((Eqv.refl z).app (eqv_inv_l hs) hz) Ls.nil
    rw [List.nil_append, List.append_nil] at k
    exact k
  exact (f hx).symm.trans (((Eqv.refl (inv s)).app (h.app (Eqv.refl s) ((hs.app hy).app hs.inv)) hs.inv).trans (f hy))
theorem rep_side {s u : List Nat} (hs : Ls s) (hu : Ls u) : ∀ n, Eqv (rep (s ++ u ++ inv s) (n + 1)) (s ++ rep u (n + 1) ++ inv s)
  | 0 => by rw [rep_rep, rep_rep]; exact Eqv.refl _
  | n + 1 => by
    have h1 : Eqv (rep (s ++ u ++ inv s) (n + 1 + 1)) ((s ++ u ++ inv s) ++ (s ++ rep u (n + 1) ++ inv s)) := (Eqv.refl _).app (rep_side hs hu n) ((hs.app hu).app hs.inv)
    refine h1.trans ?_
    have h2 : (s ++ u ++ inv s) ++ (s ++ rep u (n + 1) ++ inv s) = (s ++ u) ++ ((inv s ++ s) ++ (rep u (n + 1) ++ inv s)) := by simp
    have h3 : s ++ rep u (n + 1 + 1) ++ inv s = (s ++ u) ++ ([] ++ (rep u (n + 1) ++ inv s)) := by
      show s ++ (u ++ rep u (n + 1)) ++ inv s = _
      simp
    rw [h2, h3]
    exact (Eqv.refl _).app ((eqv_inv_l hs).app (Eqv.refl _) Ls.nil) (hs.app hu)
end RB
namespace RB
theorem core_ends {t : List Nat} {a : Nat} (c : Cut t a) : t.drop (t.length - a) = inv (t.take a) ∧ t = t.take a ++ mid t a ++ inv (t.take a) := by
  have e := cut_eq c
  have hs := c.small
  have e2 : t = t.take a ++ mid t a ++ inv (t.take a) := e
  refine ⟨?_, e2⟩
  have hl : (t.take a ++ mid t a).length = t.length - a := by
    rw [List.length_append, List.length_take, mid_len hs]; omega
  conv => lhs; rw [e2]
  have : t.length - a = (t.take a ++ mid t a).length := hl.symm
  rw [← e2, this]
  conv => lhs; arg 2; rw [e2]
  rw [List.drop_left]
theorem core_first {t : List Nat} {a e : Nat} (h : e ≤ t.length - 2 * a) : t.take (a + e) = t.take a ++ (mid t a).take e := by
  unfold mid
  rw [List.take_take, Nat.min_eq_left h, List.take_add]
/-- what the law tries, at k times -/
theorem root_test {t : List Nat} {a k : Nat} (ht : Ls t) (np : NoPair t) (h0 : t ≠ []) (c : Cut t a) (s : Stop t a) (hk : k ∣ (mid t a).length) (k1 : 1 ≤ k) :
    red (rep (t.take a ++ (mid t a).take ((mid t a).length / k) ++ inv (t.take a)) k) = t ↔ Turn (mid t a) ((mid t a).length / k) := by
  have hm : Ls (mid t a) := (ht.drop a).take _
  have hs := ht.take a
  have co := core_of ht np h0 c s
  have e2 := (core_ends c).2
  obtain ⟨n, rfl⟩ : ∃ n, k = n + 1 := ⟨k - 1, by omega⟩
  generalize hc : mid t a = m at *
  generalize he : m.length / (n + 1) = e
  have hu : Ls (m.take e) := hm.take e
  have ek : e * (n + 1) = m.length := by rw [← he]; exact Nat.div_mul_cancel hk
  have mpos : 0 < m.length := List.length_pos_iff.mpr co.1
  have e1 : 1 ≤ e := by
    rcases Nat.eq_zero_or_pos e with z | z
    · rw [z] at ek; omega
    · exact z
  have em : e ≤ m.length := by rw [← ek]; exact Nat.le_mul_of_pos_right _ (by omega)
  have ul : (m.take e).length = e := by rw [List.length_take]; omega
  have rl : (rep (m.take e) (n + 1)).length = m.length := by rw [rep_len, ul, ek]
  have side := rep_side hs hu n
  constructor
  · intro h
    have q1 : Eqv (t.take a ++ rep (m.take e) (n + 1) ++ inv (t.take a)) (t.take a ++ m ++ inv (t.take a)) := by
      refine eqv_of ((hs.app (hu.rep _)).app hs.inv) ((hs.app hm).app hs.inv) ?_
      rw [← side.red, h, ← e2, red_id ht np]
    have q2 := eqv_drop hs (hu.rep _) hm q1
    have npm : NoPair m := by
      have : NoPair (t.take a ++ m ++ inv (t.take a)) := by rw [← e2]; exact np
      exact NoPair.app_right (a := t.take a) this.app_left
    have q3 : red (rep (m.take e) (n + 1)) = m := by rw [q2.red, red_id hm npm]
    have q4 : rep (m.take e) (n + 1) = m := (red_full (by rw [q3, rl])).symm.trans q3
    have ne : m.take e ≠ [] := fun z => by rw [z] at ul; simp at ul; omega
    have := rep_turn (n := n + 1) ne (by omega)
    rw [q4, ul] at this
    exact this
  · intro h
    have hv : e ∣ m.length := ⟨n + 1, ek.symm⟩
    have q := per_rep co.1 e1 h hv
    have dv : m.length / e = n + 1 := by rw [← ek]; exact Nat.mul_div_cancel_left _ (by omega)
    rw [dv] at q
    rw [side.red, q, ← e2, red_id ht np]
/-- at the root's times it is the whole -/
theorem root_whole {t : List Nat} {a d : Nat} (ht : Ls t) (np : NoPair t) (h0 : t ≠ []) (c : Cut t a) (s : Stop t a) (p : Per (mid t a) d) :
    red (rep (t.take a ++ (mid t a).take d ++ inv (t.take a)) ((mid t a).length / d)) = t := by
  have co := core_of ht np h0 c s
  have hv := per_dvd co.1 p
  have mpos : 0 < (mid t a).length := List.length_pos_iff.mpr co.1
  have k1 : 1 ≤ (mid t a).length / d := Nat.div_pos p.2.1.2 p.1
  have kd : (mid t a).length / d * d = (mid t a).length := Nat.div_mul_cancel hv
  have e : (mid t a).length / ((mid t a).length / d) = d := by
    conv => lhs; arg 1; rw [← kd]
    exact Nat.mul_div_cancel_left _ k1
  have := (root_test (k := (mid t a).length / d) ht np h0 c s ⟨d, kd.symm⟩ k1).mpr (by rw [e]; exact p.2.1)
  rw [e] at this
  exact this
/-- above them it is not -/
theorem root_above {t : List Nat} {a d k : Nat} (ht : Ls t) (np : NoPair t) (h0 : t ≠ []) (c : Cut t a) (s : Stop t a) (p : Per (mid t a) d) (hk : k ∣ (mid t a).length) (gt : (mid t a).length / d < k) :
    red (rep (t.take a ++ (mid t a).take ((mid t a).length / k) ++ inv (t.take a)) k) ≠ t := by
  intro h
  have kpos : 0 < k := Nat.lt_of_le_of_lt (Nat.zero_le _) gt
  have co := core_of ht np h0 c s
  have mpos : 0 < (mid t a).length := List.length_pos_iff.mpr co.1
  have hv := per_dvd co.1 p
  have ht2 := (root_test ht np h0 c s hk kpos).mp h
  obtain ⟨e, ee⟩ := hk
  have eq : (mid t a).length / k = e := by rw [ee]; exact Nat.mul_div_cancel_left _ kpos
  rw [eq] at ht2
  have e1 : 1 ≤ e := by
    rcases Nat.eq_zero_or_pos e with z | z
    · rw [z] at ee; omega
    · exact z
  refine p.2.2 e e1 ?_ ht2
  have kd : (mid t a).length / d * d = (mid t a).length := Nat.div_mul_cancel hv
  rcases Nat.lt_or_ge e d with q | q
  · exact q
  · exfalso
    have h1 : ((mid t a).length / d) * d < k * d := Nat.mul_lt_mul_of_pos_right gt (by have := p.1; omega)
    have h2 : k * d ≤ k * e := Nat.mul_le_mul_left k q
    omega
/-- the root: its ends are those of the whole, and what is between is no power -/
theorem root_root {t : List Nat} {a d : Nat} (ht : Ls t) (np : NoPair t) (h0 : t ≠ []) (c : Cut t a) (s : Stop t a) (p : Per (mid t a) d) :
    ∃ r, r = t.take a ++ (mid t a).take d ++ inv (t.take a) ∧ Ls r ∧ NoPair r ∧ r ≠ [] ∧ Cut r a ∧ Stop r a ∧ r.take a = t.take a ∧ mid r a = (mid t a).take d ∧ (∀ e, Per ((mid t a).take d) e → e = d) ∧ ((mid t a).take d).length = d := by
  have hm : Ls (mid t a) := (ht.drop a).take _
  have hs := ht.take a
  have co := core_of ht np h0 c s
  have e2 := (core_ends c).2
  have cs := c.small
  have ml := mid_len cs
  have hv := per_dvd co.1 p
  have kd : (mid t a).length / d * d = (mid t a).length := Nat.div_mul_cancel hv
  have k1 : 1 ≤ (mid t a).length / d := Nat.div_pos p.2.1.2 p.1
  have rp := per_rep co.1 p.1 p.2.1 hv
  obtain ⟨n, en⟩ : ∃ n, (mid t a).length / d = n + 1 := ⟨(mid t a).length / d - 1, by omega⟩
  rw [en] at rp
  have ul : ((mid t a).take d).length = d := by rw [List.length_take]; have := p.2.1.2; omega
  have une : (mid t a).take d ≠ [] := fun z => by rw [z] at ul; have := p.1; simp at ul; omega
  have uL : Ls ((mid t a).take d) := hm.take d
  have hh : ((mid t a).take d).head? = (mid t a).head? := by rw [← rep_head une n, rp]
  have hl : ((mid t a).take d).getLast? = (mid t a).getLast? := by rw [← rep_last une n, rp]
  have np2 : NoPair (t.take a ++ mid t a ++ inv (t.take a)) := by rw [← e2]; exact np
  have npm : NoPair (mid t a) := NoPair.app_right (a := t.take a) np2.app_left
  have npu : NoPair ((mid t a).take d) := by
    have : (mid t a).take d ++ (mid t a).drop d = mid t a := List.take_append_drop _ _
    rw [← this] at npm
    exact npm.app_left
  have npr := np_between co.1 une np2 npu hh hl
  have tl : (t.take a).length = a := by rw [List.length_take]; omega
  refine ⟨_, rfl, (hs.app uL).app hs.inv, npr, ?_, ?_, ?_, ?_, ?_, ?_, ul⟩
  · intro z
    have := congrArg List.length z
    have d1 := p.1
    simp only [List.length_append, ul, List.length_nil] at this
    omega
  · refine ⟨by rw [List.length_append, List.length_append, inv_len, ul, tl]; omega, fun i x hi hx => ?_⟩
    rw [List.append_assoc, List.getElem?_append_left (by omega)] at hx
    have hx2 : t[i]? = some x := by rw [List.getElem?_take, if_pos hi] at hx; exact hx
    have := c.ends i x hi hx2
    have el : (t.take a ++ (mid t a).take d ++ inv (t.take a)).length - 1 - i = (t.take a ++ (mid t a).take d).length + (a - 1 - i) := by
      simp only [List.length_append, inv_len, ul, tl]; omega
    rw [el, List.getElem?_append_right (by omega), Nat.add_sub_cancel_left]
    have el2 : t.length - 1 - i = (t.length - a) + (a - 1 - i) := by omega
    rw [el2, ← List.getElem?_drop, (core_ends c).1] at this
    exact this
  · intro x y big hx hy
    have ll : (t.take a ++ (mid t a).take d ++ inv (t.take a)).length = 2 * a + d := by
      simp only [List.length_append, inv_len, ul, tl]; omega
    rw [ll] at big
    have hx2 : t[a]? = some x := by
      rw [List.append_assoc, List.getElem?_append_right (by omega), tl, Nat.sub_self, List.getElem?_append_left (by omega)] at hx
      rw [List.getElem?_take, if_pos (by omega)] at hx
      unfold mid at hx
      rw [List.getElem?_take, if_pos (by have := p.2.1.2; omega), List.getElem?_drop] at hx
      exact hx
    have hy2 : t[t.length - 1 - a]? = some y := by
      have el : (t.take a ++ (mid t a).take d ++ inv (t.take a)).length - 1 - a = a + (d - 1) := by omega
      rw [el, List.append_assoc, List.getElem?_append_right (by omega), tl, Nat.add_sub_cancel_left, List.getElem?_append_left (by omega)] at hy
      have g : ((mid t a).take d).getLast? = some y := by rw [List.getLast?_eq_getElem?, ul]; exact hy
      rw [hl, List.getLast?_eq_getElem?, ml] at g
      unfold mid at g
      have dm := p.2.1.2
      rw [List.getElem?_take, if_pos (by omega), List.getElem?_drop] at g
      rw [← g]; congr 1; omega
    exact s x y (by have := p.2.1.2; omega) hx2 hy2
  · rw [List.append_assoc, List.take_left' tl]
  · unfold mid
    rw [List.append_assoc, List.drop_left' tl]
    have el : (t.take a ++ ((t.drop a).take (t.length - 2 * a)).take d ++ inv (t.take a)).length - 2 * a = (((t.drop a).take (t.length - 2 * a)).take d).length := by
      simp only [List.length_append, inv_len, tl]; omega
    rw [← List.append_assoc, el, List.take_left]
  · intro e pe
    have et := turn_up (n := n + 1) une (by omega) pe.2.1
    rw [rp] at et
    have le := pe.2.1.2
    rw [ul] at le
    rcases Nat.lt_or_ge e d with q | q
    · exact absurd et (p.2.2 e pe.1 q)
    · omega
end RB
namespace RB
open PySem L2
/-! ### the order of rows, letter by letter -/
def lexI (xs ys : List Int) : Bool := PyProof.Rows.lexLt PyProof.Rows.itemOrd (PySem.W.keyToksAll (xs.map PyData.int)) (PySem.W.keyToksAll (ys.map PyData.int))
theorem lexI_nil : lexI [] [] = false := by
  unfold lexI
  simp only [List.map_nil, PySem.W.keyToksAll]
  rfl
theorem lexI_same (x : Int) (xs ys : List Int) : lexI (x :: xs) (x :: ys) = lexI xs ys :=
  PySem.W.dataLt_all_yes (x := .int x) (y := .int x) rfl (by simp [PyData.eqv])
theorem lexI_ne {x y : Int} (h : x ≠ y) (xs ys : List Int) : lexI (x :: xs) (y :: ys) = decide (x < y) := by
  have := PySem.W.dataLt_all_no (x := .int x) (y := .int y) (xs := xs.map PyData.int) (ys := ys.map PyData.int) rfl (by simp [PyData.eqv, h])
  rw [PySem.W.dataLt_int] at this
  exact this
theorem al_int (i j : Int) : PySem.W.alike (.int i) (.int j) = true := by simp only [PySem.W.alike]
theorem earl_len {l m : List Nat} (h : l.length ≠ m.length) : earl l m = decide (l.length < m.length) := by
  unfold earl plD
  have e1 : PyData.eqv (.int (l.length : Nat)) (.int (m.length : Nat)) = false := by simp [PyData.eqv]; omega
  rw [PySem.W.dataLt_tuple, PySem.W.dataLt_all_no (al_int _ _) e1, PySem.W.dataLt_int]
  by_cases q : l.length < m.length
  · rw [decide_eq_true q, decide_eq_true (by omega)]
  · rw [decide_eq_false q, decide_eq_false (by omega)]
theorem alike_lists (ns ms : List Int) : PySem.W.alike (.list (ns.map PyData.int)) (.list (ms.map PyData.int)) = true := by
  have := alike_ints ns ms
  simp only [PySem.W.alike, this]
theorem map_ints (l : List Nat) : (l.map fun c => PyData.int (posL c)) = (l.map posL).map PyData.int := by rw [List.map_map]; rfl
theorem eqv_intsAll : ∀ ns ms : List Int, PyData.eqvAll (ns.map PyData.int) (ms.map PyData.int) = decide (ns = ms)
  | [], [] => by simp [PyData.eqvAll]
  | [], b :: t => by simp [PyData.eqvAll]
  | a :: r, [] => by simp [PyData.eqvAll]
  | a :: r, b :: t => by
    have ih := eqv_intsAll r t
    simp only [List.map_cons, PyData.eqvAll, PyData.eqv, ih]
    by_cases h : a = b <;> by_cases h2 : r = t <;> simp [h, h2]
theorem lexI_self : ∀ ns : List Int, lexI ns ns = false
  | [] => lexI_nil
  | n :: r => by rw [lexI_same]; exact lexI_self r
theorem earl_same {l m : List Nat} (h : l.length = m.length) : earl l m = lexI (l.map posL) (m.map posL) := by
  unfold earl plD
  have e1 : PyData.eqv (.int (l.length : Nat)) (.int (m.length : Nat)) = true := by simp [PyData.eqv, h]
  rw [PySem.W.dataLt_tuple, PySem.W.dataLt_all_yes (al_int _ _) e1, map_ints, map_ints]
  cases q : PyData.eqv (.list ((l.map posL).map PyData.int)) (.list ((m.map posL).map PyData.int)) with
  | false => rw [PySem.W.dataLt_all_no (alike_lists _ _) q, PySem.W.dataLt_list]; rfl
  | true =>
    rw [PySem.W.dataLt_all_yes (alike_lists _ _) q]
    have e2 := eqv_intsAll (l.map posL) (m.map posL)
    simp only [PyData.eqv] at q
    rw [e2] at q
    rw [of_decide_eq_true q, lexI_self]
    exact lexI_nil
theorem posL_inj {x y : Nat} (hx : IsL x) (hy : IsL y) (h : posL x = posL y) : x = y := by
  unfold IsL at hx hy
  unfold posL at h
  split at h <;> split at h <;> omega
theorem drop_at {l : List Nat} {i x : Nat} (h : l[i]? = some x) : l.drop i = x :: l.drop (i + 1) := by
  have hlt : i < l.length := by
    rcases Nat.lt_or_ge i l.length with q | q
    · exact q
    · rw [List.getElem?_eq_none q] at h; cases h
  rw [List.drop_eq_getElem_cons hlt]
  congr 1
  rw [List.getElem?_eq_getElem hlt] at h
  exact Option.some.inj h
end RB
namespace RB
open PySem L2
theorem per_one {c : List Nat} {d e : Nat} (h : Per c d) (k : Per c e) : d = e := by
  rcases Nat.lt_trichotomy d e with q | q | q
  · exact absurd h.2.1 (k.2.2 d h.1 q)
  · exact q
  · exact absurd k.2.1 (h.2.2 e k.1 q)
theorem sh_rt {l : List Nat} (h : Ls l) (i : Int) : SeqAt.shaped (.tuple [.str (S l), .int i]) = true := by
  have := ok_S h
  simp only [SeqAt.shaped, PyData.canLay0, PyData.canLayAll0, PyData.depth, PyData.depthAll, this]; rfl
theorem eq_rt (l : List Nat) (i : Int) : PyData.eqv (.tuple [.str (S l), .int i]) (.tuple [.str (S l), .int i]) = true := by
  simp [PyData.eqv, PyData.eqvAll]
theorem dp_rt {K : PySem.W.Frag} {H : Hp} {p : Addr} {l : List Nat} {i : Int} (h : H p = some (.tup [.str (S l), .int i])) : Dp K H (.ref p) (.tuple [.str (S l), .int i]) :=
  .tup (SqT.of h) (.cons (.str _) (.cons (.int _) .nil))
/-- a root and its times compared with another one -/
theorem ne_rt {K : PySem.W.Frag} {H : Hp} {Q : VK} {p q : Addr} {l : List Nat} {i : Int} (hl : Ls l) (hp : H p = some (.tup [.str (S l), .int i])) (hq : H q = some (.tup [.str (S l), .int i])) (h : Q (.bl false) H) : rNeD K (.ref p) (.ref q) H Q :=
  ⟨_, _, dp_rt hp, dp_rt hq, sh_rt hl i, sh_rt hl i, by rw [eq_rt]; exact h⟩
theorem eq_rts {K : PySem.W.Frag} {H : Hp} {Q : VK} {p q : Addr} {l : List Nat} {i : Int} (hl : Ls l) (hp : H p = some (.tup [.str (S l), .int i])) (hq : H q = some (.tup [.str (S l), .int i])) (h : Q (.bl true) H) : rEqD K (.ref p) (.ref q) H Q :=
  ⟨_, _, dp_rt hp, dp_rt hq, sh_rt hl i, sh_rt hl i, by rw [eq_rt]; exact h⟩
end RB
namespace K02
open PySem PySem.Spec PyProof.Rows L2 RB
def topS (i : Nat) : Stmt := PySem.Challenge.pw_runsback_k02_whole_roots_and_earlier_row.main.body.getD i (.Pass ⟨0, 0, 0, 0⟩)
abbrev s_NoRow_init : Stmt := inClass (topS 2) 0
abbrev s_NoNumber_init : Stmt := inClass (topS 3) 0
abbrev s_NoRoot_init : Stmt := inClass (topS 4) 0
abbrev s_is_integer : Stmt := topS 6
abbrev s_is_integer_within : Stmt := topS 7
abbrev s_is_row : Stmt := topS 8
abbrev s_undoings : Stmt := topS 11
abbrev s_reduced : Stmt := topS 12
abbrev s_split_net : Stmt := topS 13
abbrev s_repeated_net : Stmt := topS 14
abbrev s_root_of_net : Stmt := topS 15
abbrev s_place_in_order : Stmt := topS 16
abbrev s_net : Stmt := topS 18
abbrev s_power : Stmt := topS 19
abbrev s_earlier : Stmt := topS 20
abbrev s_root : Stmt := topS 21
abbrev s_demand_row : Stmt := topS 22
abbrev s_hand : Stmt := topS 24
abbrev s_draw : Stmt := topS 25
abbrev s_undoing : Stmt := topS 26
abbrev s_back : Stmt := topS 27
abbrev s_lnet : Stmt := topS 28
abbrev s_deeds : Stmt := topS 29
abbrev s_row : Stmt := topS 30
abbrev s_lroot : Stmt := topS 31
abbrev s_is_earlier : Stmt := topS 32
abbrev s_asked : Stmt := topS 33
abbrev s_roots_right : Stmt := topS 34
abbrev s_law : Stmt := topS 35
theorem sc_NoRow_init : FnScope ["self"] ["self"] (defScope s_NoRow_init) := ⟨rfl, rfl, rfl, by decide +kernel, rfl, by decide +kernel, by decide +kernel⟩
theorem sc_NoNumber_init : FnScope ["self"] ["self"] (defScope s_NoNumber_init) := ⟨rfl, rfl, rfl, by decide +kernel, rfl, by decide +kernel, by decide +kernel⟩
theorem sc_NoRoot_init : FnScope ["self"] ["self"] (defScope s_NoRoot_init) := ⟨rfl, rfl, rfl, by decide +kernel, rfl, by decide +kernel, by decide +kernel⟩
theorem sc_is_integer : FnScope ["thing"] ["thing"] (defScope s_is_integer) := ⟨rfl, rfl, rfl, by decide +kernel, rfl, by decide +kernel, by decide +kernel⟩
theorem sc_is_integer_within : FnScope ["thing", "least", "most"] ["thing", "least", "most"] (defScope s_is_integer_within) := ⟨rfl, rfl, rfl, by decide +kernel, rfl, by decide +kernel, by decide +kernel⟩
theorem sc_is_row : FnScope ["thing"] ["thing"] (defScope s_is_row) := ⟨rfl, rfl, rfl, by decide +kernel, rfl, by decide +kernel, by decide +kernel⟩
theorem sc_undoings : FnScope ["row"] ["row"] (defScope s_undoings) := ⟨rfl, rfl, rfl, by decide +kernel, rfl, by decide +kernel, by decide +kernel⟩
theorem sc_reduced : FnScope ["row", "kept", "letter"] ["row"] (defScope s_reduced) := ⟨rfl, rfl, rfl, by decide +kernel, rfl, by decide +kernel, by decide +kernel⟩
theorem sc_split_net : FnScope ["one", "at"] ["one"] (defScope s_split_net) := ⟨rfl, rfl, rfl, by decide +kernel, rfl, by decide +kernel, by decide +kernel⟩
theorem sc_repeated_net : FnScope ["one", "times", "side", "core"] ["one", "times"] (defScope s_repeated_net) := ⟨rfl, rfl, rfl, by decide +kernel, rfl, by decide +kernel, by decide +kernel⟩
theorem sc_root_of_net : FnScope ["one", "side", "core", "period"] ["one"] (defScope s_root_of_net) := ⟨rfl, rfl, rfl, by decide +kernel, rfl, by decide +kernel, by decide +kernel⟩
theorem sc_place_in_order : FnScope ["row", "letter"] ["row"] (defScope s_place_in_order) := ⟨rfl, rfl, rfl, by decide +kernel, rfl, by decide +kernel, by decide +kernel⟩
theorem sc_net : FnScope ["row"] ["row"] (defScope s_net) := ⟨rfl, rfl, rfl, by decide +kernel, rfl, by decide +kernel, by decide +kernel⟩
theorem sc_power : FnScope ["row", "times"] ["row", "times"] (defScope s_power) := ⟨rfl, rfl, rfl, by decide +kernel, rfl, by decide +kernel, by decide +kernel⟩
theorem sc_earlier : FnScope ["row", "second"] ["row", "second"] (defScope s_earlier) := ⟨rfl, rfl, rfl, by decide +kernel, rfl, by decide +kernel, by decide +kernel⟩
theorem sc_root : FnScope ["row"] ["row"] (defScope s_root) := ⟨rfl, rfl, rfl, by decide +kernel, rfl, by decide +kernel, by decide +kernel⟩
theorem sc_demand_row : FnScope ["thing"] ["thing"] (defScope s_demand_row) := ⟨rfl, rfl, rfl, by decide +kernel, rfl, by decide +kernel, by decide +kernel⟩
theorem sc_hand : FnScope ["_law_script", "_law_cells", "_law_cell"] ["_law_script"] (defScope s_hand) := ⟨rfl, rfl, rfl, by decide +kernel, rfl, by decide +kernel, by decide +kernel⟩
theorem sc_draw : FnScope ["_law_hand_here", "_law_many", "_law_cell", "_law_digit", "_law_number"] ["_law_hand_here", "_law_many"] (defScope s_draw) := ⟨rfl, rfl, rfl, by decide +kernel, rfl, by decide +kernel, by decide +kernel⟩
theorem sc_undoing : FnScope ["_law_letter"] ["_law_letter"] (defScope s_undoing) := ⟨rfl, rfl, rfl, by decide +kernel, rfl, by decide +kernel, by decide +kernel⟩
theorem sc_back : FnScope ["_law_row_here", "_law_letter"] ["_law_row_here"] (defScope s_back) := ⟨rfl, rfl, rfl, by decide +kernel, rfl, by decide +kernel, by decide +kernel⟩
theorem sc_lnet : FnScope ["_law_row_here", "_law_kept", "_law_letter"] ["_law_row_here"] (defScope s_lnet) := ⟨rfl, rfl, rfl, by decide +kernel, rfl, by decide +kernel, by decide +kernel⟩
theorem sc_deeds : FnScope ["_law_hand_here", "_law_most", "_law_many", "_law_found", "_law_rest", "_law_turn", "_law_at"] ["_law_hand_here", "_law_most"] (defScope s_deeds) := ⟨rfl, rfl, rfl, by decide +kernel, rfl, by decide +kernel, by decide +kernel⟩
theorem sc_row : FnScope ["_law_hand_here", "_law_deeds_here", "_law_many", "_law_letters", "_law_turn"] ["_law_hand_here", "_law_deeds_here", "_law_many"] (defScope s_row) := ⟨rfl, rfl, rfl, by decide +kernel, rfl, by decide +kernel, by decide +kernel⟩
theorem sc_lroot : FnScope ["_law_whole", "_law_ends", "_law_many", "_law_times", "_law_found"] ["_law_whole"] (defScope s_lroot) := ⟨rfl, rfl, rfl, by decide +kernel, rfl, by decide +kernel, by decide +kernel⟩
theorem sc_is_earlier : FnScope ["_law_one", "_law_other", "_law_order", "_law_at"] ["_law_one", "_law_other"] (defScope s_is_earlier) := ⟨rfl, rfl, rfl, by decide +kernel, rfl, by decide +kernel, by decide +kernel⟩
theorem sc_asked : FnScope ["_law_row_here", "_law_told"] ["_law_row_here"] (defScope s_asked) := ⟨rfl, rfl, rfl, by decide +kernel, rfl, by decide +kernel, by decide +kernel⟩
theorem sc_roots_right : FnScope ["_law_hand_here", "_law_deeds_here", "_law_inner", "_law_by", "_law_row_here", "_law_kind", "_law_whole", "_law_told"] ["_law_hand_here", "_law_deeds_here"] (defScope s_roots_right) := ⟨rfl, rfl, rfl, by decide +kernel, rfl, by decide +kernel, by decide +kernel⟩
theorem sc_law : FnScope ["_law_script", "_law_hand_here", "_law_deeds_here", "_law_turn", "_law_begin", "_law_rows", "_law_one", "_law_other", "_law_told"] ["_law_script"] (defScope s_law) := ⟨rfl, rfl, rfl, by decide +kernel, rfl, by decide +kernel, by decide +kernel⟩
/-- where the defs and classes of the text stand -/
structure Ad where
  a_NoRow_init : Addr
  d_NoRow_init : FuncData
  a_NoNumber_init : Addr
  d_NoNumber_init : FuncData
  a_NoRoot_init : Addr
  d_NoRoot_init : FuncData
  a_is_integer : Addr
  d_is_integer : FuncData
  a_is_integer_within : Addr
  d_is_integer_within : FuncData
  a_is_row : Addr
  d_is_row : FuncData
  a_undoings : Addr
  d_undoings : FuncData
  a_reduced : Addr
  d_reduced : FuncData
  a_split_net : Addr
  d_split_net : FuncData
  a_repeated_net : Addr
  d_repeated_net : FuncData
  a_root_of_net : Addr
  d_root_of_net : FuncData
  a_place_in_order : Addr
  d_place_in_order : FuncData
  a_net : Addr
  d_net : FuncData
  a_power : Addr
  d_power : FuncData
  a_earlier : Addr
  d_earlier : FuncData
  a_root : Addr
  d_root : FuncData
  a_demand_row : Addr
  d_demand_row : FuncData
  a_hand : Addr
  d_hand : FuncData
  a_draw : Addr
  d_draw : FuncData
  a_undoing : Addr
  d_undoing : FuncData
  a_back : Addr
  d_back : FuncData
  a_lnet : Addr
  d_lnet : FuncData
  a_deeds : Addr
  d_deeds : FuncData
  a_row : Addr
  d_row : FuncData
  a_lroot : Addr
  d_lroot : FuncData
  a_is_earlier : Addr
  d_is_earlier : FuncData
  a_asked : Addr
  d_asked : FuncData
  a_roots_right : Addr
  d_roots_right : FuncData
  a_law : Addr
  d_law : FuncData
  c_RunsError : Addr
  c_NoRow : Addr
  c_NoNumber : Addr
  c_NoRoot : Addr
  v_LETTERS : Value
/-- what the top has written -/
structure Txt (K : PySem.W.Frag) (mg : Str → Option Value) (A : Ad) : Prop where
  F_NoRow_init : Fun K "__init__" "NoRow.__init__" s_NoRow_init A.a_NoRow_init A.d_NoRow_init
  b_NoRow_init : Binds K A.d_NoRow_init ["self"] []
  F_NoNumber_init : Fun K "__init__" "NoNumber.__init__" s_NoNumber_init A.a_NoNumber_init A.d_NoNumber_init
  b_NoNumber_init : Binds K A.d_NoNumber_init ["self"] []
  F_NoRoot_init : Fun K "__init__" "NoRoot.__init__" s_NoRoot_init A.a_NoRoot_init A.d_NoRoot_init
  b_NoRoot_init : Binds K A.d_NoRoot_init ["self"] []
  F_is_integer : Fun K "is_integer" "is_integer" s_is_integer A.a_is_integer A.d_is_integer
  g_is_integer : mg "is_integer" = some (.ref A.a_is_integer)
  b_is_integer : Binds K A.d_is_integer ["thing"] []
  F_is_integer_within : Fun K "is_integer_within" "is_integer_within" s_is_integer_within A.a_is_integer_within A.d_is_integer_within
  g_is_integer_within : mg "is_integer_within" = some (.ref A.a_is_integer_within)
  b_is_integer_within : Binds K A.d_is_integer_within ["thing", "least", "most"] []
  F_is_row : Fun K "is_row" "is_row" s_is_row A.a_is_row A.d_is_row
  g_is_row : mg "is_row" = some (.ref A.a_is_row)
  b_is_row : Binds K A.d_is_row ["thing"] []
  F_undoings : Fun K "undoings" "undoings" s_undoings A.a_undoings A.d_undoings
  g_undoings : mg "undoings" = some (.ref A.a_undoings)
  b_undoings : Binds K A.d_undoings ["row"] []
  F_reduced : Fun K "reduced" "reduced" s_reduced A.a_reduced A.d_reduced
  g_reduced : mg "reduced" = some (.ref A.a_reduced)
  b_reduced : Binds K A.d_reduced ["row"] []
  F_split_net : Fun K "split_net" "split_net" s_split_net A.a_split_net A.d_split_net
  g_split_net : mg "split_net" = some (.ref A.a_split_net)
  b_split_net : Binds K A.d_split_net ["one"] []
  F_repeated_net : Fun K "repeated_net" "repeated_net" s_repeated_net A.a_repeated_net A.d_repeated_net
  g_repeated_net : mg "repeated_net" = some (.ref A.a_repeated_net)
  b_repeated_net : Binds K A.d_repeated_net ["one", "times"] []
  F_root_of_net : Fun K "root_of_net" "root_of_net" s_root_of_net A.a_root_of_net A.d_root_of_net
  g_root_of_net : mg "root_of_net" = some (.ref A.a_root_of_net)
  b_root_of_net : Binds K A.d_root_of_net ["one"] []
  F_place_in_order : Fun K "place_in_order" "place_in_order" s_place_in_order A.a_place_in_order A.d_place_in_order
  g_place_in_order : mg "place_in_order" = some (.ref A.a_place_in_order)
  b_place_in_order : Binds K A.d_place_in_order ["row"] []
  F_net : Fun K "net" "net" s_net A.a_net A.d_net
  g_net : mg "net" = some (.ref A.a_net)
  b_net : Binds K A.d_net ["row"] []
  F_power : Fun K "power" "power" s_power A.a_power A.d_power
  g_power : mg "power" = some (.ref A.a_power)
  b_power : Binds K A.d_power ["row", "times"] []
  F_earlier : Fun K "earlier" "earlier" s_earlier A.a_earlier A.d_earlier
  g_earlier : mg "earlier" = some (.ref A.a_earlier)
  b_earlier : Binds K A.d_earlier ["row", "second"] []
  F_root : Fun K "root" "root" s_root A.a_root A.d_root
  g_root : mg "root" = some (.ref A.a_root)
  b_root : Binds K A.d_root ["row"] []
  F_demand_row : Fun K "demand_row" "demand_row" s_demand_row A.a_demand_row A.d_demand_row
  g_demand_row : mg "demand_row" = some (.ref A.a_demand_row)
  b_demand_row : Binds K A.d_demand_row ["thing"] []
  F_hand : Fun K "_law_hand" "_law_hand" s_hand A.a_hand A.d_hand
  g_hand : mg "_law_hand" = some (.ref A.a_hand)
  b_hand : Binds K A.d_hand ["_law_script"] []
  F_draw : Fun K "_law_draw" "_law_draw" s_draw A.a_draw A.d_draw
  g_draw : mg "_law_draw" = some (.ref A.a_draw)
  b_draw : Binds K A.d_draw ["_law_hand_here", "_law_many"] []
  F_undoing : Fun K "_law_undoing" "_law_undoing" s_undoing A.a_undoing A.d_undoing
  g_undoing : mg "_law_undoing" = some (.ref A.a_undoing)
  b_undoing : Binds K A.d_undoing ["_law_letter"] []
  F_back : Fun K "_law_back" "_law_back" s_back A.a_back A.d_back
  g_back : mg "_law_back" = some (.ref A.a_back)
  b_back : Binds K A.d_back ["_law_row_here"] []
  F_lnet : Fun K "_law_net" "_law_net" s_lnet A.a_lnet A.d_lnet
  g_lnet : mg "_law_net" = some (.ref A.a_lnet)
  b_lnet : Binds K A.d_lnet ["_law_row_here"] []
  F_deeds : Fun K "_law_deeds" "_law_deeds" s_deeds A.a_deeds A.d_deeds
  g_deeds : mg "_law_deeds" = some (.ref A.a_deeds)
  b_deeds : Binds K A.d_deeds ["_law_hand_here", "_law_most"] []
  F_row : Fun K "_law_row" "_law_row" s_row A.a_row A.d_row
  g_row : mg "_law_row" = some (.ref A.a_row)
  b_row : Binds K A.d_row ["_law_hand_here", "_law_deeds_here", "_law_many"] []
  F_lroot : Fun K "_law_root" "_law_root" s_lroot A.a_lroot A.d_lroot
  g_lroot : mg "_law_root" = some (.ref A.a_lroot)
  b_lroot : Binds K A.d_lroot ["_law_whole"] []
  F_is_earlier : Fun K "_law_is_earlier" "_law_is_earlier" s_is_earlier A.a_is_earlier A.d_is_earlier
  g_is_earlier : mg "_law_is_earlier" = some (.ref A.a_is_earlier)
  b_is_earlier : Binds K A.d_is_earlier ["_law_one", "_law_other"] []
  F_asked : Fun K "_law_asked" "_law_asked" s_asked A.a_asked A.d_asked
  g_asked : mg "_law_asked" = some (.ref A.a_asked)
  b_asked : Binds K A.d_asked ["_law_row_here"] []
  F_roots_right : Fun K "_law_roots_right" "_law_roots_right" s_roots_right A.a_roots_right A.d_roots_right
  g_roots_right : mg "_law_roots_right" = some (.ref A.a_roots_right)
  b_roots_right : Binds K A.d_roots_right ["_law_hand_here", "_law_deeds_here"] []
  F_law : Fun K "law" "law" s_law A.a_law A.d_law
  g_law : mg "law" = some (.ref A.a_law)
  b_law : Binds K A.d_law ["_law_script"] []
  gC_RunsError : mg "RunsError" = some (.ref A.c_RunsError)
  gC_NoRow : mg "NoRow" = some (.ref A.c_NoRow)
  o_NoRow : OexC K A.c_NoRow
  i_NoRow : PySem.W.findIn K (.ref A.c_NoRow) "__init__" = some (some (.ref A.a_NoRow_init))
  t_NoRow : PySem.W.typeIn K (.ref A.a_NoRow_init) = some (.type "function")
  x_NoRow : ExcC K A.c_NoRow
  gC_NoNumber : mg "NoNumber" = some (.ref A.c_NoNumber)
  o_NoNumber : OexC K A.c_NoNumber
  i_NoNumber : PySem.W.findIn K (.ref A.c_NoNumber) "__init__" = some (some (.ref A.a_NoNumber_init))
  t_NoNumber : PySem.W.typeIn K (.ref A.a_NoNumber_init) = some (.type "function")
  x_NoNumber : ExcC K A.c_NoNumber
  gC_NoRoot : mg "NoRoot" = some (.ref A.c_NoRoot)
  o_NoRoot : OexC K A.c_NoRoot
  i_NoRoot : PySem.W.findIn K (.ref A.c_NoRoot) "__init__" = some (some (.ref A.a_NoRoot_init))
  t_NoRoot : PySem.W.typeIn K (.ref A.a_NoRoot_init) = some (.type "function")
  x_NoRoot : ExcC K A.c_NoRoot
  m_ValueError : mg "ValueError" = none
  m_abs : mg "abs" = none
  m_bool : mg "bool" = none
  m_int : mg "int" = none
  m_isinstance : mg "isinstance" = none
  m_len : mg "len" = none
  m_range : mg "range" = none
  m_str : mg "str" = none
  m_tuple : mg "tuple" = none
  c_LETTERS : mg "LETTERS" = some A.v_LETTERS
  r_LETTERS : L2.RelV (V.str "aAbBcCdDeEfFgGhHiIjJkKlLmMnNoOpPqQrRsStTuUvVwWxXyYzZ") A.v_LETTERS
  e_NoNumber_NoRoot : PySem.W.exmOne K (.ref A.c_NoNumber) (.ref A.c_NoRoot) = some false
  e_NoRoot_NoRoot : PySem.W.exmOne K (.ref A.c_NoRoot) (.ref A.c_NoRoot) = some true
  e_NoRow_NoRoot : PySem.W.exmOne K (.ref A.c_NoRow) (.ref A.c_NoRoot) = some false
section
variable {P : Program} {w : World} {K : PySem.W.Frag} {mg : Str → Option Value} {base : Heap} {A : Ad}
local macro_rules | `(tactic| walk_at "lk") => `(tactic| first | assumption | exact upd_same | exact upd_old (by walk_at "lk") (by assumption) | exact upd_oth (by walk_at "lk") (by assumption))
local macro_rules | `(tactic| walk_at "sq") => `(tactic| first | assumption | exact SqL.of (by walk_at "lk"))
local macro_rules | `(tactic| walk_at "v") => `(tactic| refine ⟨_, rfl, ?_⟩)
local macro_rules | `(tactic| walk_at "ii") => `(tactic| refine ⟨_, _, rfl, rfl, ?_⟩)
local macro_rules | `(tactic| walk_at "ix") => `(tactic| refine ⟨_, _, _, _, rfl, rfl, (by walk_at "sq"), (by rfl), ?_⟩)
local macro_rules | `(tactic| walk_at "set") => `(tactic| refine ⟨_, _, _, _, rfl, rfl, (by walk_at "lk"), (by rfl), ?_⟩)
local macro_rules | `(tactic| walk_at "int") => `(tactic| refine .inl ⟨_, rfl, ?_⟩)
local macro_rules | `(tactic| walk_at "len") => `(tactic| refine ⟨_, _, rfl, .inl (by walk_at "sq"), ?_⟩)
local macro_rules | `(tactic| walk_at "mul") => `(tactic| refine ⟨_, _, rfl, rfl, (show CMul _ _ from by first | exact .inr ⟨by decide, by decide⟩ | exact .inl ⟨by decide, by decide⟩ | exact .inl ⟨by omega, by omega⟩), ?_⟩)
local macro_rules | `(tactic| walk_at "mod") => `(tactic| refine ⟨_, _, rfl, rfl, (show (0 : Int) < _ from by first | decide | assumption), ?_⟩)
local macro_rules | `(tactic| walk_at "div") => `(tactic| refine ⟨_, _, rfl, rfl, (show CDivW _ _ from by first | exact ⟨by decide, by decide⟩ | exact ⟨by assumption, log_lt (by assumption) (by assumption)⟩), ?_⟩)
local macro_rules | `(tactic| walk_at "pow") => `(tactic| refine ⟨_, _, rfl, rfl, (show CPow _ _ from ⟨by decide, by decide, by decide⟩), ?_⟩)
local macro_rules | `(tactic| walk_at "go") => `(tactic| repeat (first | walk_at "ix" | walk_at "mul" | walk_at "mod" | walk_at "div" | walk_at "pow" | walk_at "ii" | walk_at "v" | walk_at "int" | walk_at "set" | walk_at "len"))
local macro_rules | `(tactic| walk_at "m0") => `(tactic| refine ⟨rfl, _, rfl, rfl, trivial, ?_⟩)
local macro_rules | `(tactic| walk_at "sz") => `(tactic| (simp only [List.length_cons, List.length_nil]; decide))
theorem ok_draw (T : Txt K mg A) : FnOk P w K mg base (CX P w) 1 A.a_draw A.d_draw ["_law_hand_here", "_law_many"] (sp_draw) := by
  refine T.F_draw.okX sc_draw (fun vs H Q E h => ?_) (fun cdv Ar outer s H vs Q E hr h => ?_)
  · obtain ⟨_, _, _, rfl, _⟩ := h
    rfl
  · obtain ⟨h, c, n, rfl, ⟨cells, i, held, st, k, hh, hc, i0, i1, cp, h0, hch⟩, n0, n1, q⟩ := h
    refine ⟨_, (C8.pss_cut (ps_if (pt_mid (PW.pt (pw_and (pt_cmpR op_eq (pe_ix (ixL (K := K) rfl) (pv 0) pe_int (fun _ _ => rfl)) pe_int (nomark _)) (pw_and1 (pt_cmpR op_lt (pe_ix (ixL (K := K) rfl) (pv 0) pe_int (fun _ _ => rfl)) (pe_callB (clen (K := K) rfl) (by rfl) T.m_len bt_len (pa_cons (pe_ix (ixL (K := K) rfl) (pv 0) pe_int (fun _ _ => rfl)) pa_nil)) (nomark _)))))) (pss_cons (ps_set (i := 2) sc_draw.nd rfl (Or.inl rfl) (pe_ix (ixL (K := K) rfl) (pe_ix (ixL (K := K) rfl) (pv 0) pe_int (fun _ _ => rfl)) (pe_ix (ixL (K := K) rfl) (pv 0) pe_int (fun _ _ => rfl)) (fun _ _ => rfl)))
      (pss_cons (ps_asg (pe_op op_add (pe_ix (ixL (K := K) rfl) (pv 0) pe_int (fun _ _ => rfl)) pe_int) (pg_sub (pv 0) pe_int set_list))
      (pss_cons (ps_asg (pe_op op_mod (pe_callTy call_int1 (by rfl) T.m_int bt_int (pa_cons (pe_op op_add (pe_op op_add (pe_op op_mul (pe_ix (ixL (K := K) rfl) (pv 0) pe_int (fun _ _ => rfl)) pe_int) (pv 2)) pe_int) pa_nil)) pe_int) (pg_sub (pv 0) pe_int set_list))
      (pss_one (ps_if (pt_cmpR op_ge (pv 2) (pe_op op_pow pe_int pe_int) (nomark _)) (pss_one (ps_asg (pv 2) (pg_sub (pv 0) pe_int set_list))) pss_nil))))) pss_nil)
      (pss_cons (ps_if (pt_cmpR op_gt (pe_ix (ixL (K := K) rfl) (pv 0) pe_int (fun _ _ => rfl)) pe_int (nomark _)) (pss_cons (ps_set (i := 3) sc_draw.nd rfl (Or.inl rfl) (pe_op op_mod (pe_callTy call_int1 (by rfl) T.m_int bt_int (pa_cons (pe_ix (ixL (K := K) rfl) (pv 0) pe_int (fun _ _ => rfl)) pa_nil)) (pv 1)))
      (pss_cons (ps_asg (pe_op op_fdivW (pe_ix (ixL (K := K) rfl) (pv 0) pe_int (fun _ _ => rfl)) (pv 1)) (pg_sub (pv 0) pe_int set_list))
      (pss_one (ps_ret (pv 3))))) pss_nil)
      (pss_cons (ps_asg (pe_op op_add (pe_ix (ixL (K := K) rfl) (pv 0) pe_int (fun _ _ => rfl)) pe_int) (pg_sub (pv 0) pe_int set_list))
      (pss_cons (ps_set (i := 4) sc_draw.nd rfl (Or.inl rfl) (pe_op op_mod (pe_callTy call_int1 (by rfl) T.m_int bt_int (pa_cons (pe_op op_mul (pe_callTy call_int1 (by rfl) T.m_int bt_int (pa_cons (pe_op op_add (pe_ix (ixL (K := K) rfl) (pv 0) pe_int (fun _ _ => rfl)) (pe_op op_mul pe_int (pe_ix (ixL (K := K) rfl) (pv 0) pe_int (fun _ _ => rfl)))) pa_nil)) pe_int) pa_nil)) pe_int))
      (pss_cons (ps_set (i := 4) sc_draw.nd rfl (Or.inl rfl) (pe_op op_mod (pe_callTy call_int1 (by rfl) T.m_int bt_int (pa_cons (pe_op op_mul (pv 4) (pe_op op_add (pe_op op_fdivW (pv 4) pe_int) pe_int)) pa_nil)) pe_int))
      (pss_cons (ps_set (i := 4) sc_draw.nd rfl (Or.inl rfl) (pe_op op_mod (pe_callTy call_int1 (by rfl) T.m_int bt_int (pa_cons (pe_op op_mul (pv 4) (pe_op op_add (pe_op op_fdivW (pv 4) pe_int) pe_int)) pa_nil)) pe_int))
      (pss_one (ps_ret (pe_op op_mod (pe_callTy call_int1 (by rfl) T.m_int bt_int (pa_cons (pe_op op_fdivW (pv 4) pe_int) pa_nil)) (pv 1)))))))))), ?_⟩
    -- if nothing is held, and there is a cell more
    refine ⟨fun σ' H' => ∃ (y2 : Option V) (i' held' st' : Int), σ' = [some (.ref h), some (.int n), y2, none, none] ∧ But h H H' ∧ H' h = some (.lst [.ref c, .int i', .int held', .int st', .int k]) ∧ 0 ≤ i' ∧ i' ≤ cells.length ∧ 0 ≤ held', ?_, ?_⟩
    · refine ⟨fun b H' => H' = H ∧ (b = true → i < cells.length), ?_, ?_⟩
      · walk_at "v"; walk_at "ix"
        refine ⟨rfl, ?_⟩; walk_at "v"
        refine iteB (fun e => ?_) (fun _ => ⟨rfl, fun z => by cases z⟩)
        walk_at "go"
        refine ⟨rfl, fun z => ?_⟩
        have lt2 := of_decide_eq_true z
        rw [List.length_map] at lt2
        exact lt2
      · rintro b H' ⟨rfl, hb⟩
        refine iteB (fun e => ?_) (fun e => ⟨_, _, _, _, rfl, But.refl _ _, hh, i0, i1, h0⟩)
        have hi := hb e
        obtain ⟨j, rfl⟩ : ∃ j : Nat, i = j := ⟨i.toNat, by omega⟩
        have hj : j < cells.length := by omega
        have hx : (cells.map V.int)[j]? = some (.int cells[j]) := by rw [List.getElem?_map, List.getElem?_eq_getElem hj]; rfl
        have hp : 0 ≤ cells[j] := cp _ (List.getElem_mem hj)
        walk_at "v"; walk_at "ix"; walk_at "v"; walk_at "ix"
        refine ⟨_, _, _, _, rfl, rfl, (by walk_at "sq"), atI_int rfl hx, ?_⟩
        walk_at "go"
        refine iteB (fun g => ?_) (fun g => ?_)
        · walk_at "go"
          refine ⟨_, _, _, _, rfl, ?_, upd_same, by omega, by omega, hp⟩
          intro b o hb he
          rw [upd_ne hb, upd_ne hb, upd_ne hb]; exact he
        · refine ⟨_, _, _, _, rfl, ?_, upd_same, by omega, by omega, h0⟩
          intro b o hb he
          rw [upd_ne hb, upd_ne hb]; exact he
    · rintro σ' H1 ⟨y2, i', held', st', rfl, b1, hh1, i2, i3, h1⟩
      have hc1 : H1 c = some (.lst (cells.map V.int)) := b1 _ _ hch hc
      walk_at "v"; walk_at "ix"; walk_at "ii"; walk_at "v"
      refine iteB (fun e => ?_) (fun e => ?_)
      · have hp := of_decide_eq_true e
        walk_at "go"
        refine q _ _ (mod_in n0).1 (mod_in n0).2 ⟨?_, cells, i', _, _, _, upd_same, upd_oth hc1 hch, i2, i3, cp, div_in n0 (by omega), hch⟩
        exact b1.trans But.set
      · walk_at "go"
        refine q _ _ (mod_in n0).1 (mod_in n0).2 ⟨?_, cells, i', _, _, _, upd_same, upd_oth hc1 hch, i2, i3, cp, h1, hch⟩
        exact b1.trans But.set
theorem ok_hand (T : Txt K mg A) : FnOk P w K mg base (CX P w) 1 A.a_hand A.d_hand ["_law_script"] (sp_hand K) := by
  refine T.F_hand.okX sc_hand (fun vs H Q E h => ?_) (fun cdv Ar outer s H vs Q E hr h => ?_)
  · obtain ⟨_, _, rfl, _⟩ := h
    rfl
  · obtain ⟨a, ns, rfl, hS, hz, q⟩ := h
    refine ⟨_, (pss_cons (ps_setLc (i := 1) (own := [("_law_cell", 2)]) (tt := tYes) rfl sc_hand.nd rfl rfl (sw_true rfl rfl rfl (by decide +kernel)) (piL (K := K) rfl (pe_slice (slL (K := K) rfl) (pv 0) po_none (po_some pe_int))) (blkOk_by (N := ["_law_script", "_law_cells", "_law_cell"]) (sc := defScope s_hand) (by decide +kernel)) (fun _ _ _ _ _ => (pg_name (i := 2) sc_hand.nd rfl (Or.inl rfl))) (fun _ _ _ _ _ => pts_nil) (fun _ _ _ _ _ => (pe_callB call_abs (by rfl) T.m_abs bt_abs (pa_cons (pe_callTy call_int1 (by rfl) T.m_int bt_int (pa_cons (pv 2) pa_nil)) pa_nil))))
      (pss_one (ps_ret (pe_lst (pa_cons (pv 1) (pa_cons pe_int (pa_cons pe_int (pa_cons (pe_op op_add pe_int (pe_callB (clen (K := K) rfl) (by rfl) T.m_len bt_len (pa_cons (pv 1) pa_nil))) (pa_cons pe_int pa_nil))))))))), ?_⟩
    walk_at "v"; walk_at "v"
    refine ⟨a, _, rfl, hS, fun p hp => ?_⟩
    have e63 : cutV (ns.map V.int) none (some 63) = ns.map V.int := by
      have := cutV_to (ns.map V.int) 63
      rw [List.take_of_length_le (by rw [List.length_map]; exact hz)] at this
      exact this
    rw [e63]
    refine ⟨p, rfl, ⟨_, SqL.of upd_same⟩, fun D hD => ?_⟩
    have npD : p ≠ D := ne_of_none upd_same hD
    refine lc_list (xs := ns.map V.int) (Pv := fun i H' => Same H H' ∧ H' p = some (.lst (ns.map V.int)) ∧ H' D = some (.lst ((ns.take i).map fun z => V.int (if z < 0 then -z else z)))) ⟨(Same.new hp).trans (Same.new hD), upd_oth upd_same npD, upd_same⟩ (fun i H' _ z => SqL.of z.2.1) ?_ ?_
    · rintro i x H1 hx ⟨s1, h1, h2⟩
      obtain ⟨z, hz', rfl⟩ : ∃ z, ns[i]? = some z ∧ x = .int z := by
        rw [List.getElem?_map] at hx
        cases e : ns[i]? with
        | none => rw [e] at hx; cases hx
        | some z => rw [e] at hx; exact ⟨z, rfl, (Option.some.inj hx).symm⟩
      refine ⟨rfl, ?_⟩
      walk_at "v"; walk_at "int"; walk_at "v"
      have nD : H D = none := Same.free (Same.new hp) hD
      refine ⟨_, h2, ?_, Same.mut nD s1, upd_oth h1 npD, ?_⟩
      · rw [List.length_map, List.length_take]; exact Nat.lt_of_le_of_lt (by omega : _ ≤ 63) (by decide)
      · rw [upd_same, take_one hz', List.map_append]; rfl
    · rintro H1 ⟨s1, h1, h2⟩
      rw [List.length_map, List.take_length] at h2
      have e3 : (ns.map fun z => V.int (if z < 0 then -z else z)) = (ns.map fun z => if z < 0 then -z else z).map V.int := by rw [List.map_map]; rfl
      rw [e3] at h2
      walk_at "v"; walk_at "v"; walk_at "len"; walk_at "ii"
      refine ⟨by walk_at "sz", fun h hh => ?_⟩
      refine q h D _ ?_ (s1.trans (Same.new hh)) ⟨_, 0, 0, _, 0, upd_same, upd_old h2 hh, by decide, by omega, ?_, by decide, ne_of_none h2 hh⟩
      · exact Same.free s1 hh
      · intro z hz2
        obtain ⟨y, _, e⟩ := List.mem_map.mp hz2
        rw [← e]; split <;> omega
/-- a row of n letters over the deeds d -/
def sp_row : Sp := fun vs H Q _ => ∃ (h c : Addr) (d : List Nat) (n : Nat), vs = [.ref h, .str (S d), .int n] ∧ Hand H h c ∧ Ls d ∧ d ≠ [] ∧ d.length ≤ 1000 ∧ n ≤ 1000 ∧
  ∀ l H', l.length = n → Ls l → (∀ c ∈ l, c ∈ d ∨ ∃ b ∈ d, c = up1 b) → Go h c H H' → Q (.str (S l)) H'
theorem ok_row (T : Txt K mg A) : FnOk P w K mg base (CX P w) 2 A.a_row A.d_row ["_law_hand_here", "_law_deeds_here", "_law_many"] (sp_row) := by
  refine T.F_row.okX sc_row (fun vs H Q E h => ?_) (fun cdv Ar outer s H vs Q E hr h => ?_)
  · obtain ⟨_, _, _, _, rfl, _⟩ := h
    rfl
  · obtain ⟨h, c, d, n, rfl, hH, hd, d0, dz, nz, q⟩ := h
    refine ⟨_, (pss_cons (ps_set (i := 3) sc_row.nd rfl (Or.inr rfl) (pe_op op_add_str (pv 1) (pbm0 (K := K) rfl PySem.F.plainAttrs_str PySem.F.slot_str_upper PySem.F.type_str_upper mt_upper (pv 1))))
      (pss_one (ps_ret (pbm (K := K) rfl PySem.F.plainAttrs_str PySem.F.slot_str_join PySem.F.type_str_join (mjoin (K := K) rfl) pe_str (pa_cons (pe_lc (own := [("_law_turn", 4)]) (tt := tYes) rfl sc_row.nd (pi_range1 (by rfl) T.m_range (pa_cons (pv 2) pa_nil)) (blkOk_by (N := ["_law_hand_here", "_law_deeds_here", "_law_many", "_law_letters", "_law_turn"]) (sc := defScope s_row) (by decide +kernel)) (fun _ _ _ _ _ => (pg_name (i := 4) sc_row.nd rfl (Or.inl rfl))) (fun _ _ _ _ _ => pts_nil) (fun _ _ _ _ _ => (pe_ix ix_str (pv 3) (pe_call (ok_draw T) hr (by rfl) T.g_draw T.F_draw.kp T.b_draw .nil passF (pa_cons (pv 0) (pa_cons (pe_callB clenS (by rfl) T.m_len bt_len (pa_cons (pv 3) pa_nil)) pa_nil))) (fun _ _ => rfl)))) pa_nil))))), ?_⟩
    walk_at "v"; walk_at "v"
    refine ⟨rfl, _, rfl, rfl, ?_, ?_⟩
    · rw [S_len]; omega
    rw [up_asc hd.asc]
    refine ⟨_, _, rfl, rfl, ?_, ?_⟩
    · rw [S_len, S_len, List.length_map]; exact Nat.le_trans (by omega : _ ≤ 2000) (by decide)
    rw [S_app]
    have hL : Ls (d ++ d.map up1) := hd.app hd.up
    have hlen : (d ++ d.map up1).length = 2 * d.length := by rw [List.length_append, List.length_map]; omega
    have hpos : 0 < d.length := List.length_pos_iff.mpr d0
    generalize eL : d ++ d.map up1 = L at hL hlen
    refine ⟨rfl, ?_⟩
    walk_at "v"
    refine ⟨_, rfl, by omega, by omega, fun D hD => ?_⟩
    refine lc_range (Pv := fun i H' => ∃ l, l.length = i ∧ (∀ c ∈ l, c ∈ L) ∧ Go h c H H' ∧ H' D = some (.lst (ones l))) ⟨[], rfl, (fun _ z => nomatch z), Go.new hH hD, upd_same⟩ ?_ ?_
    · rintro i H1 hi ⟨l, el, hl, g1, h1⟩
      have hi' : i < n := by simpa using hi
      refine ⟨rfl, ?_⟩
      walk_at "v"; walk_at "v"; walk_at "v"
      refine ⟨_, rfl, ?_, ?_⟩
      · rw [S_len]; exact Nat.le_trans (by omega : _ ≤ 2000) (by decide)
      refine ⟨h, c, _, rfl, g1.2, by rw [S_len]; omega, by rw [S_len]; omega, fun k H2 k0 k1 g2 => ?_⟩
      rw [S_len] at k1
      obtain ⟨j, rfl⟩ : ∃ j : Nat, k = j := ⟨k.toNat, by omega⟩
      have hj : j < L.length := by omega
      refine ⟨_, _, L[j], rfl, rfl, ?_, atI_int rfl (by rw [S_list]; exact List.getElem?_eq_getElem hj), ?_⟩
      · rw [S_len]; exact Nat.le_trans (by omega : _ ≤ 2000) (by decide)
      have h2 := g2.1 _ _ (hH.ne hD).1 h1
      refine ⟨_, h2, ?_, l ++ [L[j]], by rw [List.length_append, el]; rfl, ?_, (g1.trans g2).put hH hD, ?_⟩
      · rw [ones_len]; exact Nat.lt_of_le_of_lt (by omega : _ ≤ 1000) (by decide)
      · intro c hc
        rcases List.mem_append.mp hc with z | z
        · exact hl c z
        · rw [List.mem_singleton.mp z]; exact List.getElem_mem hj
      · rw [upd_same]; unfold ones; rw [List.map_append]; rfl
    · rintro H1 ⟨l, el, hl, g1, h1⟩
      have el' : l.length = n := by simpa using el
      rw [ones_eq] at h1
      refine ⟨_, _, _, rfl, rfl, .inl (SqL.of h1), ?_, ?_⟩
      · rw [nil_len, Nat.mul_zero, Nat.add_zero, sum_one]; omega
      · rw [S_nil, RB.join_nil, flat_one]
        refine q l H1 el' (fun c hc => hL c (hl c hc)) (fun c hc => ?_) g1
        have := hl c hc
        rw [← eL] at this
        rcases List.mem_append.mp this with z | z
        · exact .inl z
        · obtain ⟨b, hb, e⟩ := List.mem_map.mp z
          exact .inr ⟨b, hb, e.symm⟩
theorem ok_deeds (T : Txt K mg A) : FnOk P w K mg base (CX P w) 2 A.a_deeds A.d_deeds ["_law_hand_here", "_law_most"] (sp_deeds) := by
  refine T.F_deeds.okX sc_deeds (fun vs H Q E h => ?_) (fun cdv Ar outer s H vs Q E hr h => ?_)
  · obtain ⟨_, _, _, rfl, _⟩ := h
    rfl
  · obtain ⟨h, c, n, rfl, hH, n1, n2, q⟩ := h
    refine ⟨_, (pss_cons (ps_set (i := 2) sc_deeds.nd rfl (Or.inl rfl) (pe_op op_add pe_int (pe_call (ok_draw T) hr (by rfl) T.g_draw T.F_draw.kp T.b_draw .nil passF (pa_cons (pv 0) (pa_cons (pv 1) pa_nil)))))
      (pss_cons (ps_set (i := 3) sc_deeds.nd rfl (Or.inl rfl) pe_str)
      (pss_cons (ps_set (i := 4) sc_deeds.nd rfl (Or.inl rfl) pe_str)
      (pss_cons (ps_for (passes_of rfl) rfl (pi_range1 (by rfl) T.m_range (pa_cons (pv 2) pa_nil)) (pg_name (i := 5) sc_deeds.nd rfl (Or.inl rfl)) (pss_cons (ps_set (i := 6) sc_deeds.nd rfl (Or.inl rfl) (pe_call (ok_draw T) hr (by rfl) T.g_draw T.F_draw.kp T.b_draw .nil passF (pa_cons (pv 0) (pa_cons (pe_op op_sub (pe_callB clenS (by rfl) T.m_len bt_len (pa_cons (pv 4) pa_nil)) (pe_op op_sub (pe_op op_sub (pv 2) (pv 5)) pe_int)) pa_nil))))
      (pss_cons (ps_set (i := 3) sc_deeds.nd rfl (Or.inl rfl) (pe_op op_add_str (pv 3) (pe_ix ix_str (pv 4) (pv 6) (fun _ _ => rfl))))
      (pss_one (ps_set (i := 4) sc_deeds.nd rfl (Or.inl rfl) (pe_slice sl_str (pv 4) (po_some (pe_op op_add (pv 6) pe_int)) po_none))))))
      (pss_one (ps_ret (pv 3))))))), ?_⟩
    walk_at "v"; walk_at "v"
    refine ⟨h, c, n, rfl, hH, by omega, by omega, fun m0 H1 m00 m01 g1 => ?_⟩
    walk_at "ii"
    obtain ⟨m, rfl⟩ : ∃ m : Nat, m0 = m := ⟨m0.toNat, by omega⟩
    walk_at "v"
    refine ⟨_, rfl, by omega, by omega, ?_⟩
    rw [show ((1 : Int) + (m : Nat)).toNat = m + 1 by omega]
    refine for_range (n := m + 1) (fun i σ' H' => ∃ f k y5 y6, σ' = [some (.ref h), some (.int n), some (.int (1 + (m : Nat))), some (.str (S f)), some (.str (S (alph.drop k))), y5, y6] ∧ f.length = i ∧ k ≤ 26 ∧ m + 1 - i ≤ 26 - k ∧ i ≤ m + 1 ∧
      (∀ x ∈ f, 97 ≤ x ∧ x < 97 + k) ∧ List.Pairwise (· < ·) f ∧ Go h c H H') ⟨[], 0, none, none, by rw [List.drop_zero, ← alph_is, ← S_nil]; rfl, rfl, by omega, by omega, by omega, (fun _ z => nomatch z), .nil, g1⟩ ?_ ?_
    · rintro i σ' H2 hi ⟨f, k, y5, y6, rfl, ef, k26, hk, _, hf, hp, g2⟩
      have lr : (alph.drop k).length = 26 - k := by rw [List.length_drop, alph_len]
      have rs : (S (alph.drop k)).length ≤ sizeLine := by rw [S_len, lr]; exact Nat.le_trans (by omega : _ ≤ 26) (by decide)
      walk_at "v"; walk_at "v"
      refine ⟨_, rfl, rs, ?_⟩
      rw [S_len, lr]
      walk_at "v"; walk_at "v"; walk_at "ii"; walk_at "ii"; walk_at "ii"
      refine ⟨h, c, _, rfl, g2.2, by omega, by omega, fun a0 H3 a00 a01 g3 => ?_⟩
      obtain ⟨a, rfl⟩ : ∃ a : Nat, a0 = a := ⟨a0.toNat, by omega⟩
      have ha : k + a < 26 := by omega
      walk_at "v"; walk_at "v"; walk_at "v"
      refine ⟨_, _, 97 + (k + a), rfl, rfl, rs, atI_int rfl (by rw [S_list, List.getElem?_drop]; exact alph_at ha), ?_⟩
      refine ⟨_, _, rfl, rfl, ?_, ?_⟩
      · rw [S_len]; show f.length + 1 ≤ sizeLine; exact Nat.le_trans (by omega : _ ≤ 100) (by decide)
      rw [show ({ cps := #[97 + (k + a)] } : Str) = S [97 + (k + a)] from rfl, S_app]
      walk_at "v"; walk_at "v"; walk_at "ii"; walk_at "v"
      refine ⟨_, rfl, rs, ?_⟩
      have ea : ((a : Int) + 1) = ((a + 1 : Nat) : Int) := by omega
      rw [ea, cut_from, List.drop_drop]
      refine ⟨f ++ [97 + (k + a)], k + (a + 1), _, _, rfl, by rw [List.length_append, ef]; rfl, by omega, by omega, by omega, fun x hx => ?_, ?_, g2.trans g3⟩
      · rcases List.mem_append.mp hx with z | z
        · have := hf x z; omega
        · have := List.mem_singleton.mp z; omega
      · rw [List.pairwise_append]
        exact ⟨hp, List.pairwise_singleton _ _, fun x hx y hy => by have := hf x hx; have := List.mem_singleton.mp hy; omega⟩
    · rintro σ' H2 ⟨f, k, y5, y6, rfl, ef, k26, hk, _, hf, hp, g2⟩
      walk_at "v"
      refine q f H2 ⟨fun x hx => by have := hf x hx; omega, hp⟩ (fun z => ?_) (by omega) g2
      rw [z] at ef
      cases ef
theorem ok_NoRow_init (T : Txt K mg A) : FnOk P w K mg base (CX P w) 1 A.a_NoRow_init A.d_NoRow_init ["self"] (spPass) := by
  refine T.F_NoRow_init.okX sc_NoRow_init (fun vs H Q E h => ?_) (fun cdv Ar outer s H vs Q E hr h => ?_)
  · obtain ⟨_, rfl, _⟩ := h
    rfl
  · obtain ⟨x, rfl, q⟩ := h
    exact ⟨_, (pss_one ps_pass), q⟩
def sp_is_row (K : PySem.W.Frag) : Sp := fun vs H Q _ => ∃ v b, vs = [v] ∧ RowJ K H v b ∧ Q (.bl b) H
theorem ok_is_row (T : Txt K mg A) : FnOk P w K mg base (CX P w) 1 A.a_is_row A.d_is_row ["thing"] (sp_is_row K) := by
  refine T.F_is_row.okX sc_is_row (fun vs H Q E h => ?_) (fun cdv Ar outer s H vs Q E hr h => ?_)
  · obtain ⟨_, _, rfl, _⟩ := h
    rfl
  · obtain ⟨v, b, rfl, j, q⟩ := h
    refine ⟨_, (pss_one (ps_ret (pe_mid (pe_and (pe_callB (cisi (K := K) rfl) (by rfl) T.m_isinstance bt_isinstance (pa_cons (pv 0) (pa_cons (pe_bltn (v := .ty "str") (by rfl) T.m_str bt_str rfl) pa_nil))) (pe_one (pe_mid (pe_or (pe_cmpR op_eq (pv 0) pe_str (nomark _)) (pe_one (pe_mid (pe_and (pbm0 (K := K) rfl PySem.F.plainAttrs_str PySem.F.slot_str_isascii PySem.F.type_str_isascii mt_isascii (pv 0)) (pe_one (pbm0 (K := K) rfl PySem.F.plainAttrs_str PySem.F.slot_str_isalpha PySem.F.type_str_isalpha mt_isalpha (pv 0))))))))))))), ?_⟩
    refine ⟨fun v' H' => v' = .bl b ∧ H' = H, ?_, fun v' H' ⟨e1, e2⟩ => by subst e1 e2; exact q⟩
    cases j with
    | non ty k =>
      walk_at "v"
      refine ⟨_, _, _, _, _, rfl, .ty _, ty, k, ?_⟩
      walk_at "v"
      exact ⟨rfl, rfl⟩
    | str l =>
      walk_at "v"
      refine ⟨_, _, _, _, _, rfl, .ty _, .base (.str _), kit_str, ?_⟩
      walk_at "v"
      refine iteT ?_
      refine ⟨fun v' H' => v' = .bl (decide (Ls l)) ∧ H' = H, ?_, fun v' H' z => z⟩
      walk_at "v"
      refine ⟨rfl, ?_⟩
      walk_at "v"
      rw [S_nil, dec_eq]
      refine iteB (fun e => ?_) (fun e => ?_)
      · have e1 := of_decide_eq_true e
        subst e1
        exact ⟨by rw [decide_eq_true nil_L], rfl⟩
      · have e1 : l ≠ [] := of_decide_eq_false e
        refine ⟨fun v' H' => v' = .bl (decide (Ls l)) ∧ H' = H, ?_, fun v' H' z => z⟩
        walk_at "v"; walk_at "m0"; walk_at "v"
        rw [asc_iff]
        refine iteB (fun e => ?_) (fun e => ?_)
        · walk_at "v"; walk_at "m0"
          rw [alpha_asc (of_decide_eq_true e), decide_eq_true e1, Bool.true_and]
          exact ⟨rfl, rfl⟩
        · refine ⟨?_, rfl⟩
          rw [decide_eq_false fun z : Ls l => of_decide_eq_false e z.asc]
theorem ok_demand_row (T : Txt K mg A) : FnOk P w K mg base (CX P w) 3 A.a_demand_row A.d_demand_row ["thing"] (sp_demand K A.c_NoRow) := by
  refine T.F_demand_row.okX sc_demand_row (fun vs H Q E h => ?_) (fun cdv Ar outer s H vs Q E hr h => ?_)
  · obtain ⟨_, rfl, _⟩ := h
    rfl
  · obtain ⟨v, rfl, b, j, q1, q2⟩ := h
    refine ⟨_, (pss_one (ps_if (pt_not (pt_val (pe_call (ok_is_row T) (hr.mono (by decide)) (by rfl) T.g_is_row T.F_is_row.kp T.b_is_row .nil passF (pa_cons (pv 0) pa_nil)))) (pss_one (ps_raise rfl (takes_of rfl rfl rfl rfl) (pmk_oexZ T.o_NoRow T.i_NoRow T.t_NoRow (ok_NoRow_init T) (hr.mono (by decide)) T.b_NoRow_init passF (by rfl) T.gC_NoRow))) pss_nil)), ?_⟩
    walk_at "v"
    refine ⟨_, _, rfl, j, ?_⟩
    walk_at "v"
    cases b with
    | true =>
      obtain ⟨l, e, hl⟩ := j.yes rfl
      exact q1 l e hl
    | false => exact q2 rfl _ (Same.refl _)
/-- the net of a row -/
def sp_reduced : Sp := fun vs H Q _ => ∃ l, vs = [.str (S l)] ∧ Ls l ∧ l.length ≤ 100000 ∧ ∀ H', Same H H' → Q (.str (S (red l))) H'
theorem ok_reduced (T : Txt K mg A) : FnOk P w K mg base (CX P w) 1 A.a_reduced A.d_reduced ["row"] (sp_reduced) := by
  refine T.F_reduced.okX sc_reduced (fun vs H Q E h => ?_) (fun cdv Ar outer s H vs Q E hr h => ?_)
  · obtain ⟨_, rfl, _⟩ := h
    rfl
  · obtain ⟨l, rfl, hl, hz, q⟩ := h
    refine ⟨_, (pss_cons (ps_set (i := 1) sc_reduced.nd rfl (Or.inl rfl) (pe_lst pa_nil))
      (pss_cons (ps_for (passes_of rfl) rfl (pi_str (pv 0)) (pg_name (i := 2) sc_reduced.nd rfl (Or.inl rfl)) (pss_one (ps_if (pt_mid (PW.pt (pw_and (ptru (K := K) rfl (pv 1) (by intro _; rfl)) (pw_and1 (pt_cmpR op_eq (pe_ix (ixL (K := K) rfl) (pv 1) (pe_un un_neg pe_int) (fun _ _ => rfl)) (pbm0 (K := K) rfl PySem.F.plainAttrs_str PySem.F.slot_str_swapcase PySem.F.type_str_swapcase mt_swapcase (pv 2)) (nomark _)))))) (pss_one (ps_expr (pbm0 (K := K) rfl PySem.F.plainAttrs_list PySem.F.slot_list_pop PySem.F.type_list_pop mt_pop (pv 1)))) (pss_one (ps_expr (pbm (K := K) rfl PySem.F.plainAttrs_list PySem.F.slot_list_append PySem.F.type_list_append mt_append (pv 1) (pa_cons (pv 2) pa_nil)))))))
      (pss_one (ps_ret (pbm (K := K) rfl PySem.F.plainAttrs_str PySem.F.slot_str_join PySem.F.type_str_join (mjoin (K := K) rfl) pe_str (pa_cons (pv 1) pa_nil)))))), ?_⟩
    refine ⟨Nat.zero_le _, fun p hp => ?_⟩
    walk_at "v"; walk_at "v"
    refine ⟨fun i m σ' H' => m = l.length - i ∧ i ≤ l.length ∧ ∃ y, σ' = [some (.str (S l)), some (.ref p), y] ∧ Same H H' ∧ H' p = some (.lst ((kst (l.take i)).reverse.map fun c => V.str (S [c]))), ⟨_, rfl, Nat.zero_le _, none, rfl, Same.new hp, upd_same⟩, ?_⟩
    rintro i m σ' H1 ⟨rfl, hi, y, rfl, s1, h1⟩
    by_cases hlt : i < l.length
    · refine .inr ⟨hlt, fun σ' H' => ∃ y, σ' = [some (.str (S l)), some (.ref p), y] ∧ Same H H' ∧ H' p = some (.lst ((kst (l.take (i + 1))).reverse.map fun c => V.str (S [c]))), fun σ' H' z => ⟨_, by omega, rfl, hlt, z⟩, ?_⟩
      rintro x H' ⟨rfl, c, hc, rfl⟩
      have hc' : l[i]? = some c := by simpa [S] using hc
      have hcl : IsL c := hl c (List.mem_of_getElem? hc')
      have et : l.take (i + 1) = l.take i ++ [c] := by rw [List.take_add_one, hc']; rfl
      have ek : kst (l.take (i + 1)) = push (kst (l.take i)) c := by rw [et, kst_app]; rfl
      have hk : Ls (kst (l.take i)) := kst_L (hl.take i)
      have hkl : (kst (l.take i)).length ≤ i := by
        have := kst_len_aux (l.take i) []
        rw [List.length_take] at this
        show (List.foldl push [] _).length ≤ i
        simp at this; omega
      refine ⟨fun b H2 => H2 = H' ∧ b = (match kst (l.take i) with | [] => false | t :: _ => decide (t = sw c)), ?_, ?_⟩
      · walk_at "v"
        refine ⟨!(List.isEmpty _), .inl ⟨_, SqL.of h1, rfl⟩, ?_⟩
        cases e : kst (l.take i) with
        | nil => exact ⟨rfl, rfl⟩
        | cons t r =>
          refine iteB (fun _ => ?_) (fun z => ?_)
          · walk_at "v"; walk_at "v"
            have g : atI ((t :: r).reverse.map fun c => V.str (S [c])) (-1) = some (.str (S [t])) := by
              rw [List.reverse_cons, List.map_append]; exact atI_last _ _
            rw [e] at h1
            refine ⟨_, _, _, _, rfl, rfl, SqL.of h1, g, ?_⟩
            walk_at "v"
            refine ⟨rfl, _, rfl, rfl, ?_, ?_⟩
            · show (S [c]).length ≤ _
              rw [S_len]; exact Nat.le_trans (by decide : 1 ≤ 100) (by decide)
            · refine ⟨rfl, ?_⟩
              walk_at "v"
              refine ⟨rfl, ?_⟩
              have e2 : Txt.swapcase ({ cps := #[c] } : Str) = S [sw c] := swap_asc (Ls.one hcl).asc
              rw [e2, dec_eq]
              simp
          · rw [List.reverse_cons, List.map_append] at z
            simp at z
      · rintro b H2 ⟨rfl, eb⟩
        subst eb
        cases e : kst (l.take i) with
        | nil =>
          refine iteF ?_
          walk_at "v"
          refine ⟨.inl ⟨rfl, _, SqL.of h1⟩, ?_⟩
          walk_at "v"
          refine ⟨_, _, _, rfl, rfl, h1, ?_, ?_⟩
          · rw [List.length_map, List.length_reverse]; exact Nat.lt_of_le_of_lt (by omega : _ ≤ 100000) (by decide)
          · refine ⟨_, rfl, fun b o hb => ?_, ?_⟩
            · rw [upd_ne (ne_of_none hb hp)]; exact s1 b o hb
            · rw [upd_same, ek, e]; rfl
        | cons t r =>
          have en : (kst (l.take (i + 1))) = if t = sw c then r else c :: t :: r := by rw [ek, e]; rfl
          refine iteB (fun z => ?_) (fun z => ?_)
          · have z1 := of_decide_eq_true z
            rw [if_pos z1] at en
            walk_at "v"
            refine ⟨.inl ⟨rfl, _, SqL.of h1⟩, ?_⟩
            rw [e, List.reverse_cons, List.map_append] at h1
            refine ⟨_, _, .str (S [t]), rfl, rfl, h1, ?_, ?_⟩
            · simp
            · refine ⟨_, rfl, fun b o hb => ?_, ?_⟩
              · rw [upd_ne (ne_of_none hb hp)]; exact s1 b o hb
              · rw [upd_same, en]; simp
          · have z1 := of_decide_eq_false z
            rw [if_neg z1] at en
            walk_at "v"
            refine ⟨.inl ⟨rfl, _, SqL.of h1⟩, ?_⟩
            walk_at "v"
            refine ⟨_, _, _, rfl, rfl, h1, ?_, ?_⟩
            · rw [List.length_map, List.length_reverse]; exact Nat.lt_of_le_of_lt (by omega : _ ≤ 100000) (by decide)
            · refine ⟨_, rfl, fun b o hb => ?_, ?_⟩
              · rw [upd_ne (ne_of_none hb hp)]; exact s1 b o hb
              · rw [upd_same, en, e]; simp; rfl
    · have ei : i = l.length := by omega
      subst ei
      rw [List.take_length] at h1
      refine .inl ⟨?_, ?_⟩
      · show (S l).cps.size ≤ _
        exact Nat.le_of_eq (S_len l)
      · refine ⟨rfl, ?_⟩
        walk_at "v"
        have ej : (kst l).reverse.map (fun c => V.str (S [c])) = (((red l).map fun c => [c]).map S).map V.str := by
          rw [List.map_map, List.map_map]; rfl
        rw [ej] at h1
        refine ⟨_, _, _, rfl, rfl, .inl (SqL.of h1), ?_, ?_⟩
        · have e0 : (Str.ofString "" : Str).length = 0 := by rw [S_nil, S_len]; rfl
          rw [e0, Nat.mul_zero, Nat.add_zero, List.map_map, List.map_map]
          have : (List.map ((Str.length ∘ S) ∘ fun c => [c]) (red l)).sum = (red l).length := by
            induction red l with
            | nil => rfl
            | cons a r ih => simp only [List.map_cons, List.sum_cons, List.length_cons, ih]; show (S [a]).length + _ = _; rw [S_len]; simp; omega
          rw [this]
          have := red_len l
          omega
        · rw [S_nil, RB.join_nil]
          have ef : ((red l).map fun c => [c]).flatten = red l := by
            induction red l with
            | nil => rfl
            | cons a r ih => simp [ih]
          rw [ef]
          exact q _ s1
theorem ok_NoNumber_init (T : Txt K mg A) : FnOk P w K mg base (CX P w) 1 A.a_NoNumber_init A.d_NoNumber_init ["self"] (spPass) := by
  refine T.F_NoNumber_init.okX sc_NoNumber_init (fun vs H Q E h => ?_) (fun cdv Ar outer s H vs Q E hr h => ?_)
  · obtain ⟨_, rfl, _⟩ := h
    rfl
  · obtain ⟨x, rfl, q⟩ := h
    exact ⟨_, (pss_one ps_pass), q⟩
theorem ok_NoRoot_init (T : Txt K mg A) : FnOk P w K mg base (CX P w) 1 A.a_NoRoot_init A.d_NoRoot_init ["self"] (spPass) := by
  refine T.F_NoRoot_init.okX sc_NoRoot_init (fun vs H Q E h => ?_) (fun cdv Ar outer s H vs Q E hr h => ?_)
  · obtain ⟨_, rfl, _⟩ := h
    rfl
  · obtain ⟨x, rfl, q⟩ := h
    exact ⟨_, (pss_one ps_pass), q⟩
theorem ok_undoings (T : Txt K mg A) : FnOk P w K mg base (CX P w) 1 A.a_undoings A.d_undoings ["row"] (sp_undoings) := by
  refine T.F_undoings.okX sc_undoings (fun vs H Q E h => ?_) (fun cdv Ar outer s H vs Q E hr h => ?_)
  · obtain ⟨_, rfl, _⟩ := h
    rfl
  · obtain ⟨l, rfl, hl, hz, q⟩ := h
    refine ⟨_, (pss_one (ps_ret (pe_revS (pbm0 (K := K) rfl PySem.F.plainAttrs_str PySem.F.slot_str_swapcase PySem.F.type_str_swapcase mt_swapcase (pv 0))))), ?_⟩
    walk_at "v"
    refine ⟨rfl, _, rfl, rfl, by rw [S_len]; omega, ?_⟩
    rw [swap_asc hl.asc]
    refine ⟨_, rfl, by rw [S_len, List.length_map]; exact Nat.le_trans hz (by decide), ?_⟩
    rw [S_rev]
    exact q
theorem ok_split_net (T : Txt K mg A) : FnOk P w K mg base (CX P w) 1 A.a_split_net A.d_split_net ["one"] (sp_split) := by
  refine T.F_split_net.okX sc_split_net (fun vs H Q E h => ?_) (fun cdv Ar outer s H vs Q E hr h => ?_)
  · obtain ⟨_, rfl, _⟩ := h
    rfl
  · obtain ⟨l, rfl, hl, hz, q⟩ := h
    refine ⟨_, (pss_cons (ps_set (i := 1) sc_split_net.nd rfl (Or.inl rfl) pe_int)
      (pss_cons (ps_while (passes_of rfl) (pt_mid (PW.pt (pw_and (pt_cmpR op_lt (pv 1) (pe_op op_sub (pe_op op_sub (pe_callB clenS (by rfl) T.m_len bt_len (pa_cons (pv 0) pa_nil)) pe_int) (pv 1)) (nomark _)) (pw_and1 (pt_cmpR op_eq (pe_ix ix_str (pv 0) (pv 1) (fun _ _ => rfl)) (pbm0 (K := K) rfl PySem.F.plainAttrs_str PySem.F.slot_str_swapcase PySem.F.type_str_swapcase mt_swapcase (pe_ix ix_str (pv 0) (pe_op op_sub (pe_un un_neg pe_int) (pv 1)) (fun _ _ => rfl))) (nomark _)))))) (pss_one (ps_aug (i := 1) sc_split_net.nd rfl (Or.inl rfl) pe_int ip_add)))
      (pss_one (ps_ret (pe_tup (pa_cons (pe_slice sl_str (pv 0) po_none (po_some (pv 1))) (pa_cons (pe_slice sl_str (pv 0) (po_some (pv 1)) (po_some (pe_op op_sub (pe_callB clenS (by rfl) T.m_len bt_len (pa_cons (pv 0) pa_nil)) (pv 1)))) pa_nil))))))), ?_⟩
    have ls : (S l).length ≤ sizeLine := by rw [S_len]; exact Nat.le_trans hz (by decide)
    refine ⟨fun m σ' H' => ∃ a : Nat, m = l.length - a ∧ σ' = [some (.str (S l)), some (.int a)] ∧ Same H H' ∧ Cut l a, ⟨_, 0, rfl, rfl, Same.refl _, ⟨by omega, fun i x hi => absurd hi (by omega)⟩⟩, ?_⟩
    rintro m σ' H1 ⟨a, rfl, rfl, s1, cut⟩
    have hsm := cut.small
    refine ⟨fun b H' => H' = H1 ∧ (b = true → 2 * a + 1 < l.length ∧ ∃ x, l[a]? = some x ∧ l[l.length - 1 - a]? = some (sw x)) ∧ (b = false → Stop l a), ?_, ?_⟩
    · walk_at "v"; walk_at "v"
      refine ⟨_, rfl, ls, ?_⟩
      rw [S_len]
      walk_at "ii"; walk_at "v"; walk_at "ii"; walk_at "ii"; walk_at "v"
      refine iteB (fun e => ?_) (fun e => ⟨rfl, fun z => (nomatch z), fun _ x y big => ?_⟩)
      · have big : 2 * a + 1 < l.length := by have := of_decide_eq_true e; omega
        have hx : l[a]? = some l[a] := List.getElem?_eq_getElem (by omega)
        have hy : l[l.length - 1 - a]? = some l[l.length - 1 - a] := List.getElem?_eq_getElem (by omega)
        walk_at "v"; walk_at "v"
        refine ⟨_, _, _, rfl, rfl, ls, atI_int (j := a) rfl (by rw [S_list]; exact hx), ?_⟩
        walk_at "v"; walk_at "v"; walk_at "v"; walk_at "ii"
        refine ⟨_, _, _, rfl, rfl, ls, atI_neg (j := l.length - 1 - a) (by rw [S_list]; omega) (by omega) (by rw [S_list]; exact hy), ?_⟩
        have hyL := hl _ (List.mem_of_getElem? hy)
        have hxL := hl _ (List.mem_of_getElem? hx)
        refine ⟨rfl, _, rfl, rfl, (by show (S [_]).length ≤ _; rw [S_len]; exact (by decide : 1 ≤ 5592405)), ?_⟩
        rw [show Txt.swapcase ({ cps := #[l[l.length - 1 - a]] } : Str) = S [sw l[l.length - 1 - a]] from swap_asc (Ls.one hyL).asc]
        refine ⟨rfl, ?_⟩
        walk_at "v"
        have e2 : decide (V.str ({ cps := #[l[a]] } : Str) = V.str (S [sw l[l.length - 1 - a]])) = decide (l[a] = sw l[l.length - 1 - a]) := by
          rw [show ({ cps := #[l[a]] } : Str) = S [l[a]] from rfl, dec_eq]; simp
        rw [e2]
        refine ⟨rfl, fun z => ⟨big, _, hx, ?_⟩, fun z x y _ h1 h2 => ?_⟩
        · rw [hy, of_decide_eq_true z, sw_sw hyL]
        · cases hx.symm.trans h1
          cases hy.symm.trans h2
          intro w
          exact of_decide_eq_false z (by rw [w, sw_sw hxL])
      · have := of_decide_eq_false e
        omega
    · rintro b H2 ⟨rfl, h1, h2⟩
      refine iteB (fun e => ?_) (fun e => ?_)
      · obtain ⟨big, x, hx, hy⟩ := h1 e
        refine ⟨fun σ' H' => ∃ a' : Nat, l.length - a' < l.length - a ∧ σ' = [some (.str (S l)), some (.int a')] ∧ Same H H' ∧ Cut l a', fun σ' H' ⟨a', z, r⟩ => ⟨_, z, a', rfl, r⟩, ?_⟩
        refine ⟨_, rfl, ?_⟩
        walk_at "ii"
        refine ⟨a + 1, by omega, rfl, s1, ⟨by omega, fun i y hi h => ?_⟩⟩
        by_cases z : i = a
        · subst z
          cases hx.symm.trans h
          exact hy
        · exact cut.ends i y (by omega) h
      · have stop := h2 e
        walk_at "v"; walk_at "v"; walk_at "v"
        refine ⟨_, rfl, ls, ?_⟩
        rw [cut_to]
        walk_at "v"; walk_at "v"; walk_at "v"; walk_at "v"
        refine ⟨_, rfl, ls, ?_⟩
        rw [S_len]
        walk_at "v"; walk_at "ii"; walk_at "v"
        refine ⟨_, rfl, ls, ?_⟩
        have e3 : ((l.length : Int) - (a : Int)) = ((l.length - a : Nat) : Int) := by omega
        rw [e3, cut_mid]
        refine ⟨by walk_at "sz", fun p hp => ?_⟩
        have e4 : l.length - a - a = l.length - 2 * a := by omega
        rw [e4]
        exact q a p _ cut stop (s1.trans (Same.new hp)) (Same.free s1 hp) upd_same
theorem ok_repeated_net (T : Txt K mg A) : FnOk P w K mg base (CX P w) 2 A.a_repeated_net A.d_repeated_net ["one", "times"] (sp_repnet) := by
  refine T.F_repeated_net.okX sc_repeated_net (fun vs H Q E h => ?_) (fun cdv Ar outer s H vs Q E hr h => ?_)
  · obtain ⟨_, _, rfl, _⟩ := h
    rfl
  · obtain ⟨t, n, rfl, ht, np, tz, tn, n62, q⟩ := h
    refine ⟨_, (pss_cons (ps_if (pt_mid (PW.pt (pw_or (pt_cmpR op_eq (pv 0) pe_str (nomark _)) (pw_or1 (pt_cmpR op_eq (pv 1) pe_int (nomark _)))))) (pss_one (ps_ret pe_str)) pss_nil)
      (pss_cons (ps_asg (pe_call (ok_split_net T) hr (by rfl) T.g_split_net T.F_split_net.kp T.b_split_net .nil passF (pa_cons (pv 0) pa_nil)) (pgT (K := K) rfl rfl (pgs_cons (pg_name (i := 2) sc_repeated_net.nd rfl (Or.inl rfl)) (pgs_cons (pg_name (i := 3) sc_repeated_net.nd rfl (Or.inl rfl)) pgs_nil))))
      (pss_one (ps_ret (pe_op op_add_str (pe_op op_add_str (pv 2) (pe_op op_repS (pv 3) (pv 1))) (pe_call (ok_undoings T) hr (by rfl) T.g_undoings T.F_undoings.kp T.b_undoings .nil passF (pa_cons (pv 2) pa_nil))))))), ?_⟩
    refine ⟨fun b H' => H' = H ∧ b = (decide (t = []) || decide (n = 0)), ?_, ?_⟩
    · walk_at "v"
      refine ⟨rfl, ?_⟩
      walk_at "v"
      rw [S_nil, dec_eq]
      refine iteB (fun e => ⟨rfl, by rw [e]; rfl⟩) (fun e => ?_)
      walk_at "v"
      refine ⟨rfl, ?_⟩
      walk_at "v"
      rw [e, Bool.false_or]
      exact ⟨rfl, dec_int0 n⟩
    · rintro b H1 ⟨rfl, rfl⟩
      refine iteB (fun e => ?_) (fun e => ?_)
      · have e1 : rep t n = [] := by
          rcases Bool.or_eq_true_iff.mp e with z | z
          · have := of_decide_eq_true z
            subst this
            exact List.length_eq_zero_iff.mp (by rw [rep_len]; simp)
          · have := of_decide_eq_true z
            subst this; rfl
        have := q H1 (Same.refl _)
        rw [e1] at this
        show Q _ _
        rw [S_nil]
        exact this
      · have e1 := Bool.or_eq_false_iff.mp e
        have t0 : t ≠ [] := of_decide_eq_false e1.1
        have n0 : n ≠ 0 := of_decide_eq_false e1.2
        walk_at "v"
        refine ⟨t, rfl, ht, tz, fun a p H2 cut stop s2 hp h2 => ?_⟩
        have hsm := cut.small
        have ml := mid_len hsm
        refine ⟨p, _, rfl, SqT.of h2, rfl, _, _, rfl, _, _, rfl, rfl, ?_⟩
        have mn : (mid t a).length * n ≤ t.length * n := Nat.mul_le_mul_right _ (by omega)
        walk_at "v"; walk_at "v"; walk_at "v"
        refine ⟨_, n, rfl, rfl, n62, by omega, ?_⟩
        have cat : ∀ {x y : List Nat}, x.length + y.length ≤ 10000000 → (S x).length + (S y).length ≤ sizeLine := fun {x y} z => by rw [S_len, S_len]; exact Nat.le_trans z (by decide)
        refine ⟨_, _, rfl, rfl, cat (by rw [rep_len, List.length_take]; omega), ?_⟩
        rw [S_app]
        walk_at "v"
        refine ⟨_, rfl, ht.take a, by rw [List.length_take]; omega, ?_⟩
        refine ⟨_, _, rfl, rfl, cat (by rw [List.length_append, rep_len, inv_len, List.length_take]; omega), ?_⟩
        rw [S_app]
        obtain ⟨k, rfl⟩ : ∃ k, n = k + 1 := ⟨n - 1, by omega⟩
        rw [← cut_rep ht np t0 cut stop]
        exact q H2 s2
theorem ok_is_integer (T : Txt K mg A) : FnOk P w K mg base (CX P w) 1 A.a_is_integer A.d_is_integer ["thing"] (sp_isint K) := by
  refine T.F_is_integer.okX sc_is_integer (fun vs H Q E h => ?_) (fun cdv Ar outer s H vs Q E hr h => ?_)
  · obtain ⟨_, _, rfl, _⟩ := h
    rfl
  · obtain ⟨v, o, rfl, j, q⟩ := h
    refine ⟨_, (pss_one (ps_ret (pe_mid (pe_and (pe_callB (cisi (K := K) rfl) (by rfl) T.m_isinstance bt_isinstance (pa_cons (pv 0) (pa_cons (pe_bltn (v := .ty "int") (by rfl) T.m_int bt_int rfl) pa_nil))) (pe_one (pe_not (pe_callB (cisi (K := K) rfl) (by rfl) T.m_isinstance bt_isinstance (pa_cons (pv 0) (pa_cons (pe_bltn (v := .ty "bool") (by rfl) T.m_bool bt_bool rfl) pa_nil))))))))), ?_⟩
    refine ⟨fun v' H' => v' = .bl o.isSome ∧ H' = H, ?_, fun v' H' ⟨e1, e2⟩ => by subst e1 e2; exact q⟩
    walk_at "v"
    cases j with
    | int i =>
      refine ⟨_, _, _, _, _, rfl, .ty _, .base (.int i), kit_ty (r := true) (by decide +kernel), ?_⟩
      walk_at "v"; walk_at "v"
      refine ⟨_, _, _, _, _, rfl, .ty _, .base (.int i), kit_ty (r := false) (by decide +kernel), ?_⟩
      walk_at "v"
      exact ⟨rfl, rfl⟩
    | bl b =>
      refine ⟨_, _, _, _, _, rfl, .ty _, .base (.bl b), kit_ty (r := true) (by decide +kernel), ?_⟩
      walk_at "v"; walk_at "v"
      refine ⟨_, _, _, _, _, rfl, .ty _, .base (.bl b), kit_ty (r := true) (by decide +kernel), ?_⟩
      walk_at "v"
      exact ⟨rfl, rfl⟩
    | non ty k =>
      refine ⟨_, _, _, _, _, rfl, .ty _, ty, k, ?_⟩
      walk_at "v"
      exact ⟨rfl, rfl⟩
theorem ok_is_integer_within (T : Txt K mg A) : FnOk P w K mg base (CX P w) 2 A.a_is_integer_within A.d_is_integer_within ["thing", "least", "most"] (sp_within K) := by
  refine T.F_is_integer_within.okX sc_is_integer_within (fun vs H Q E h => ?_) (fun cdv Ar outer s H vs Q E hr h => ?_)
  · obtain ⟨_, _, _, _, rfl, _⟩ := h
    rfl
  · obtain ⟨v, o, a, b, rfl, j, q⟩ := h
    refine ⟨_, (pss_one (ps_ret (pe_mid (pe_and (pe_call (ok_is_integer T) hr (by rfl) T.g_is_integer T.F_is_integer.kp T.b_is_integer .nil passF (pa_cons (pv 0) pa_nil)) (pe_one (pe_chain op_le op_le (pv 1) (pv 0) (pv 2))))))), ?_⟩
    refine ⟨fun v' H' => v' = .bl (within o a b) ∧ H' = H, ?_, fun v' H' ⟨e1, e2⟩ => by subst e1 e2; exact q⟩
    walk_at "v"
    refine ⟨v, o, rfl, j, ?_⟩
    cases j with
    | int i =>
      walk_at "v"; walk_at "v"; walk_at "v"; walk_at "ii"; walk_at "v"
      refine iteB (fun e => ?_) (fun e => ?_)
      · walk_at "v"; walk_at "ii"
        exact ⟨by show V.bl (decide (i ≤ b)) = V.bl (decide (a ≤ i) && decide (i ≤ b)); rw [e, Bool.true_and], rfl⟩
      · exact ⟨by show V.bl false = V.bl (decide (a ≤ i) && decide (i ≤ b)); rw [e, Bool.false_and], rfl⟩
    | bl b => walk_at "v"; exact ⟨rfl, rfl⟩
    | non ty k => walk_at "v"; exact ⟨rfl, rfl⟩
theorem ok_power (T : Txt K mg A) : FnOk P w K mg base (CX P w) 4 A.a_power A.d_power ["row", "times"] (sp_power K A.c_NoRow A.c_NoNumber) := by
  refine T.F_power.okX sc_power (fun vs H Q E h => ?_) (fun cdv Ar outer s H vs Q E hr h => ?_)
  · obtain ⟨_, _, rfl, _⟩ := h
    rfl
  · obtain ⟨v, w', rfl, b, j, q1, q2⟩ := h
    refine ⟨_, (pss_cons (ps_expr (pe_call (ok_demand_row T) hr (by rfl) T.g_demand_row T.F_demand_row.kp T.b_demand_row .nil (passes_call (takes_of rfl rfl rfl rfl) (fun _ _ _ _ h => h)) (pa_cons (pv 0) pa_nil)))
      (pss_cons (ps_if (pt_not (pt_val (pe_call (ok_is_integer_within T) (hr.mono (by decide)) (by rfl) T.g_is_integer_within T.F_is_integer_within.kp T.b_is_integer_within .nil passF (pa_cons (pv 1) (pa_cons (pe_un un_neg pe_int) (pa_cons pe_int pa_nil)))))) (pss_one (ps_raise rfl (takes_of rfl rfl rfl rfl) (pmk_oexZ T.o_NoNumber T.i_NoNumber T.t_NoNumber (ok_NoNumber_init T) (hr.mono (by decide)) T.b_NoNumber_init passF (by rfl) T.gC_NoNumber))) pss_nil)
      (pss_cons (ps_if (pt_cmpR op_lt (pv 1) pe_int (nomark _)) (pss_one (ps_ret (pe_call (ok_repeated_net T) (hr.mono (by decide)) (by rfl) T.g_repeated_net T.F_repeated_net.kp T.b_repeated_net .nil passF (pa_cons (pe_call (ok_reduced T) (hr.mono (by decide)) (by rfl) T.g_reduced T.F_reduced.kp T.b_reduced .nil passF (pa_cons (pe_call (ok_undoings T) (hr.mono (by decide)) (by rfl) T.g_undoings T.F_undoings.kp T.b_undoings .nil passF (pa_cons (pv 0) pa_nil)) pa_nil)) (pa_cons (pe_un un_neg (pv 1)) pa_nil))))) pss_nil)
      (pss_one (ps_ret (pe_call (ok_repeated_net T) (hr.mono (by decide)) (by rfl) T.g_repeated_net T.F_repeated_net.kp T.b_repeated_net .nil passF (pa_cons (pe_call (ok_reduced T) (hr.mono (by decide)) (by rfl) T.g_reduced T.F_reduced.kp T.b_reduced .nil passF (pa_cons (pv 0) pa_nil)) (pa_cons (pv 1) pa_nil)))))))), ?_⟩
    walk_at "v"
    refine ⟨_, rfl, b, j, fun l e hl => ?_, q2⟩
    subst e
    obtain ⟨o, ji, bad, good⟩ := q1 l rfl hl
    walk_at "v"; walk_at "v"
    refine ⟨w', o, -1000, 1000, rfl, ji, ?_⟩
    walk_at "v"
    refine iteB (fun e => ?_) (fun e => ?_)
    · exact bad (by simpa using e) _ (Same.refl _)
    · have e1 : within o (-1000) 1000 = true := by simpa using e
      obtain ⟨i, rfl, i0, i1⟩ : ∃ i, w' = .int i ∧ -1000 ≤ i ∧ i ≤ 1000 := by
        cases ji with
        | int i =>
          have := Bool.and_eq_true_iff.mp e1
          exact ⟨i, rfl, of_decide_eq_true this.1, of_decide_eq_true this.2⟩
        | bl b => cases e1
        | non ty k => cases e1
      obtain ⟨lz, q⟩ := good i rfl i0 i1
      walk_at "v"; walk_at "ii"; walk_at "v"
      refine iteB (fun e2 => ?_) (fun e2 => ?_)
      · have neg := of_decide_eq_true e2
        obtain ⟨n, rfl⟩ : ∃ n : Nat, i = -(n : Int) := ⟨i.natAbs, by omega⟩
        walk_at "v"
        refine ⟨l, rfl, hl, by omega, ?_⟩
        refine ⟨_, rfl, hl.inv, by rw [inv_len]; omega, fun H1 s1 => ?_⟩
        walk_at "v"; walk_at "v"
        have z := red_len (inv l)
        rw [inv_len] at z
        have nz : (red (inv l)).length * n ≤ 5000 * 1000 := Nat.mul_le_mul (by omega) (by omega)
        refine ⟨_, n, by show [V.str _, V.int (-(-(n : Int)))] = _; rw [Int.neg_neg], red_L hl.inv, red_np hl.inv, by omega, nz, by omega, fun H2 s2 => ?_⟩
        rw [rep_red hl.inv]
        have := q H2 (s1.trans s2)
        unfold pw at this
        rw [if_pos neg, Int.neg_neg, Int.toNat_natCast] at this
        exact this
      · have pos := of_decide_eq_false e2
        obtain ⟨n, rfl⟩ : ∃ n : Nat, i = (n : Int) := ⟨i.toNat, by omega⟩
        walk_at "v"
        refine ⟨_, rfl, hl, by omega, fun H1 s1 => ?_⟩
        walk_at "v"
        have z := red_len l
        have nz : (red l).length * n ≤ 5000 * 1000 := Nat.mul_le_mul (by omega) (by omega)
        refine ⟨_, n, rfl, red_L hl, red_np hl, by omega, nz, by omega, fun H2 s2 => ?_⟩
        rw [rep_red hl]
        have := q H2 (s1.trans s2)
        unfold pw at this
        rw [if_neg pos, Int.toNat_natCast] at this
        exact this
theorem ok_place_in_order (T : Txt K mg A) : FnOk P w K mg base (CX P w) 1 A.a_place_in_order A.d_place_in_order ["row"] (sp_place) := by
  refine T.F_place_in_order.okX sc_place_in_order (fun vs H Q E h => ?_) (fun cdv Ar outer s H vs Q E hr h => ?_)
  · obtain ⟨_, rfl, _⟩ := h
    rfl
  · obtain ⟨l, rfl, hl, hz, q⟩ := h
    refine ⟨_, (pss_one (ps_ret (pe_tup (pa_cons (pe_callB clenS (by rfl) T.m_len bt_len (pa_cons (pv 0) pa_nil)) (pa_cons (pe_lc (own := [("letter", 1)]) (tt := tYes) rfl sc_place_in_order.nd (pi_str (pv 0)) (blkOk_by (N := ["row", "letter"]) (sc := defScope s_place_in_order) (by decide +kernel)) (fun _ _ _ _ _ => (pg_name (i := 1) sc_place_in_order.nd rfl (Or.inl rfl))) (fun _ _ _ _ _ => pts_nil) (fun _ _ _ _ _ => (pbm (K := K) rfl PySem.F.plainAttrs_str PySem.F.slot_str_find PySem.F.type_str_find mt_find (pe_glob (v := V.str "aAbBcCdDeEfFgGhHiIjJkKlLmMnNoOpPqQrRsStTuUvVwWxXyYzZ") (by rfl) T.c_LETTERS T.r_LETTERS) (pa_cons (pv 1) pa_nil)))) pa_nil))))), ?_⟩
    have ls : (S l).length ≤ sizeLine := by rw [S_len]; exact Nat.le_trans hz (by decide)
    walk_at "v"
    refine ⟨_, rfl, ls, ?_⟩
    walk_at "v"
    refine ⟨_, rfl, fun D hD => ?_⟩
    refine ⟨fun i m H' => m = l.length - i ∧ i ≤ l.length ∧ Same H H' ∧ H' D = some (.lst ((l.take i).map fun c => V.int (posL c))), ⟨_, rfl, Nat.zero_le _, Same.new hD, upd_same⟩, ?_⟩
    rintro i m H1 ⟨rfl, hi, s1, h1⟩
    by_cases hlt : i < l.length
    · refine .inr ⟨hlt, fun H' => Same H H' ∧ H' D = some (.lst ((l.take (i + 1)).map fun c => V.int (posL c))), fun H' z => ⟨_, by omega, rfl, hlt, z⟩, ?_⟩
      rintro x H' ⟨rfl, c, hc, rfl⟩
      have hc' : l[i]? = some c := by simpa [S] using hc
      have hcl : IsL c := hl c (List.mem_of_getElem? hc')
      refine ⟨rfl, ?_⟩
      refine ⟨rfl, ?_⟩
      walk_at "v"
      refine ⟨_, _, rfl, rfl, ?_⟩
      have hlt2 : c < 123 := by unfold RB.IsL at hcl; omega
      have ef : Txt.find LETS ({ cps := #[c] } : Str) = posL c := find_let c hlt2 hcl
      show ∃ acc, _
      rw [show (Txt.find (Str.ofString "aAbBcCdDeEfFgGhHiIjJkKlLmMnNoOpPqQrRsStTuUvVwWxXyYzZ") ({ cps := #[c] } : Str)) = posL c from ef]
      refine ⟨_, h1, ?_, Same.mut hD s1, ?_⟩
      · rw [List.length_map, List.length_take]; exact Nat.lt_of_le_of_lt (by omega : _ ≤ 100000) (by decide)
      · rw [upd_same, take_one hc', List.map_append]; rfl
    · have ei : i = l.length := by omega
      subst ei
      rw [List.take_length] at h1
      refine .inl ⟨?_, ?_⟩
      · show (S l).cps.size ≤ _
        exact Nat.le_of_eq (S_len l)
      · refine ⟨by walk_at "sz", fun p hp => ?_⟩
        refine q p D _ (s1.trans (Same.new hp)) ?_ (upd_old ?_ hp)
        · rw [upd_same, S_len]
        · rw [h1, List.map_map]; rfl
theorem ok_earlier (T : Txt K mg A) : FnOk P w K mg base (CX P w) 4 A.a_earlier A.d_earlier ["row", "second"] (sp_earlier K A.c_NoRow) := by
  refine T.F_earlier.okX sc_earlier (fun vs H Q E h => ?_) (fun cdv Ar outer s H vs Q E hr h => ?_)
  · obtain ⟨_, _, rfl, _⟩ := h
    rfl
  · obtain ⟨v, w', rfl, b, j, q1, q2⟩ := h
    refine ⟨_, (pss_cons (ps_expr (pe_call (ok_demand_row T) hr (by rfl) T.g_demand_row T.F_demand_row.kp T.b_demand_row .nil (passes_call (takes_of rfl rfl rfl rfl) (fun _ _ _ _ h => h)) (pa_cons (pv 0) pa_nil)))
      (pss_cons (ps_expr (pe_call (ok_demand_row T) hr (by rfl) T.g_demand_row T.F_demand_row.kp T.b_demand_row .nil (passes_call (takes_of rfl rfl rfl rfl) (fun _ _ _ _ h => h)) (pa_cons (pv 1) pa_nil)))
      (pss_one (ps_ret (pe_cmpR (op_ltD (K := K) rfl hr.units) (pe_call (ok_place_in_order T) (hr.mono (by decide)) (by rfl) T.g_place_in_order T.F_place_in_order.kp T.b_place_in_order .nil passF (pa_cons (pv 0) pa_nil)) (pe_call (ok_place_in_order T) (hr.mono (by decide)) (by rfl) T.g_place_in_order T.F_place_in_order.kp T.b_place_in_order .nil passF (pa_cons (pv 1) pa_nil)) (nomark _)))))), ?_⟩
    walk_at "v"
    refine ⟨_, rfl, b, j, fun l e hl => ?_, q2⟩
    subst e
    obtain ⟨b2, j2, q3, q4⟩ := q1 l rfl hl
    walk_at "v"
    refine ⟨_, rfl, b2, j2, fun m e hm => ?_, q4⟩
    subst e
    obtain ⟨lz, mz, q⟩ := q3 m rfl hm
    walk_at "v"
    refine ⟨l, rfl, hl, lz, fun p1 q1' H1 s1 hp1 hq1 => ?_⟩
    walk_at "v"
    refine ⟨m, rfl, hm, mz, fun p2 q2' H2 s2 hp2 hq2 => ?_⟩
    have data : ∀ {r : List Nat} {p q : Addr}, H2 p = some (.tup [.int r.length, .ref q]) → H2 q = some (.lst ((r.map posL).map V.int)) → Dp K H2 (.ref p) (plD r) := fun {r p q} h1 h2 => by
      have := dpAll_ints (K := K) (H := H2) (r.map posL)
      rw [List.map_map, List.map_map] at this
      exact .tup (SqT.of h1) (.cons (.int _) (.cons (.lst (SqL.of h2) (by rw [List.map_map]; exact this)) .nil))
    have dep : (plD l).depth ≤ 32 := pl_depth l
    exact ⟨_, _, data (s2 _ _ hp1) (s2 _ _ hq1), data hp2 hq2, pl_alike l m, (fun z => nomatch z), dep, q H2 (s1.trans s2)⟩
theorem ok_root_of_net (T : Txt K mg A) : FnOk P w K mg base (CX P w) 2 A.a_root_of_net A.d_root_of_net ["one"] (sp_rootnet) := by
  refine T.F_root_of_net.okX sc_root_of_net (fun vs H Q E h => ?_) (fun cdv Ar outer s H vs Q E hr h => ?_)
  · obtain ⟨_, rfl, _⟩ := h
    rfl
  · obtain ⟨t, rfl, ht, np, t0, tz, q⟩ := h
    refine ⟨_, (pss_cons (ps_asg (pe_call (ok_split_net T) hr (by rfl) T.g_split_net T.F_split_net.kp T.b_split_net .nil passF (pa_cons (pv 0) pa_nil)) (pgT (K := K) rfl rfl (pgs_cons (pg_name (i := 1) sc_root_of_net.nd rfl (Or.inl rfl)) (pgs_cons (pg_name (i := 2) sc_root_of_net.nd rfl (Or.inl rfl)) pgs_nil))))
      (pss_cons (ps_set (i := 3) sc_root_of_net.nd rfl (Or.inl rfl) (pbm (K := K) rfl PySem.F.plainAttrs_str PySem.F.slot_str_find PySem.F.type_str_find mt_find3 (pe_op op_add_str (pv 2) (pv 2)) (pa_cons (pv 2) (pa_cons pe_int pa_nil))))
      (pss_one (ps_ret (pe_tup (pa_cons (pe_op op_add_str (pe_op op_add_str (pv 1) (pe_slice sl_str (pv 2) po_none (po_some (pv 3)))) (pe_call (ok_undoings T) hr (by rfl) T.g_undoings T.F_undoings.kp T.b_undoings .nil passF (pa_cons (pv 1) pa_nil))) (pa_cons (pe_op op_fdivW (pe_callB clenS (by rfl) T.m_len bt_len (pa_cons (pv 2) pa_nil)) (pv 3)) pa_nil))))))), ?_⟩
    walk_at "v"
    refine ⟨t, rfl, ht, tz, fun a p H1 cut stop s1 hp h1 => ?_⟩
    have hsm := cut.small
    have ml := mid_len hsm
    have co := core_of ht np t0 cut stop
    refine ⟨p, _, rfl, SqT.of h1, rfl, _, _, rfl, _, _, rfl, rfl, ?_⟩
    have cat : ∀ {x y : List Nat}, x.length + y.length ≤ 10000000 → (S x).length + (S y).length ≤ sizeLine := fun {x y} z => by rw [S_len, S_len]; exact Nat.le_trans z (by decide)
    have ms : (S (mid t a)).length ≤ sizeLine := by rw [S_len]; exact Nat.le_trans (by omega : _ ≤ 100000) (by decide)
    obtain ⟨d, ed, per⟩ := find_per co.1
    walk_at "v"; walk_at "v"
    refine ⟨_, _, rfl, rfl, cat (by omega), ?_⟩
    rw [S_app]
    refine ⟨rfl, ?_⟩
    walk_at "v"
    refine ⟨_, _, _, rfl, rfl, ?_⟩
    rw [ed]
    have d0 : 0 < (d : Int) := by have := per.1; omega
    have dz := per.2.1.2
    walk_at "v"; walk_at "v"; walk_at "v"; walk_at "v"
    refine ⟨_, rfl, ms, ?_⟩
    rw [cut_to]
    refine ⟨_, _, rfl, rfl, cat (by rw [List.length_take, List.length_take]; omega), ?_⟩
    rw [S_app]
    walk_at "v"
    refine ⟨_, rfl, ht.take a, by rw [List.length_take]; omega, ?_⟩
    refine ⟨_, _, rfl, rfl, cat (by simp only [List.length_append, inv_len, List.length_take]; omega), ?_⟩
    rw [S_app]
    walk_at "v"
    refine ⟨_, rfl, ms, ?_⟩
    rw [S_len]
    walk_at "v"
    refine ⟨_, _, rfl, rfl, ⟨d0, log_lt (by omega) d0⟩, ?_⟩
    refine ⟨by walk_at "sz", fun p2 hp2 => ?_⟩
    refine q a d p2 _ cut stop per (s1.trans (Same.new hp2)) (Same.free s1 hp2) ?_
    rw [upd_same]
    rfl
theorem ok_root (T : Txt K mg A) : FnOk P w K mg base (CX P w) 4 A.a_root A.d_root ["row"] (sp_root K A.c_NoRow A.c_NoRoot) := by
  refine T.F_root.okX sc_root (fun vs H Q E h => ?_) (fun cdv Ar outer s H vs Q E hr h => ?_)
  · obtain ⟨_, rfl, _⟩ := h
    rfl
  · obtain ⟨v, rfl, b, j, q1, q2⟩ := h
    refine ⟨_, (pss_cons (ps_expr (pe_call (ok_demand_row T) hr (by rfl) T.g_demand_row T.F_demand_row.kp T.b_demand_row .nil (passes_call (takes_of rfl rfl rfl rfl) (fun _ _ _ _ h => h)) (pa_cons (pv 0) pa_nil)))
      (pss_cons (ps_if (pt_cmpR op_eq (pe_call (ok_reduced T) (hr.mono (by decide)) (by rfl) T.g_reduced T.F_reduced.kp T.b_reduced .nil passF (pa_cons (pv 0) pa_nil)) pe_str (nomark _)) (pss_one (ps_raise rfl (takes_of rfl rfl rfl rfl) (pmk_oexZ T.o_NoRoot T.i_NoRoot T.t_NoRoot (ok_NoRoot_init T) (hr.mono (by decide)) T.b_NoRoot_init passF (by rfl) T.gC_NoRoot))) pss_nil)
      (pss_one (ps_ret (pe_call (ok_root_of_net T) (hr.mono (by decide)) (by rfl) T.g_root_of_net T.F_root_of_net.kp T.b_root_of_net .nil passF (pa_cons (pe_call (ok_reduced T) (hr.mono (by decide)) (by rfl) T.g_reduced T.F_reduced.kp T.b_reduced .nil passF (pa_cons (pv 0) pa_nil)) pa_nil)))))), ?_⟩
    walk_at "v"
    refine ⟨_, rfl, b, j, fun l e hl => ?_, q2⟩
    subst e
    obtain ⟨lz, q3, q4⟩ := q1 l rfl hl
    have rz := red_len l
    walk_at "v"
    refine ⟨l, rfl, hl, lz, fun H1 s1 => ?_⟩
    refine ⟨rfl, ?_⟩
    walk_at "v"
    rw [S_nil, dec_eq]
    refine iteB (fun e => ?_) (fun e => ?_)
    · exact q3 (of_decide_eq_true e) _ s1
    · walk_at "v"
      refine ⟨l, rfl, hl, lz, fun H2 s2 => ?_⟩
      refine ⟨_, rfl, red_L hl, red_np hl, of_decide_eq_false e, by omega, fun a d p H3 cut stop per s3 hp h3 => ?_⟩
      exact q4 (of_decide_eq_false e) a d p H3 cut stop per ((s1.trans s2).trans s3) (Same.free (s1.trans s2) hp) h3
theorem ok_net (T : Txt K mg A) : FnOk P w K mg base (CX P w) 4 A.a_net A.d_net ["row"] (sp_net K A.c_NoRow) := by
  refine T.F_net.okX sc_net (fun vs H Q E h => ?_) (fun cdv Ar outer s H vs Q E hr h => ?_)
  · obtain ⟨_, rfl, _⟩ := h
    rfl
  · obtain ⟨v, rfl, b, j, q1, q2⟩ := h
    refine ⟨_, (pss_cons (ps_expr (pe_call (ok_demand_row T) hr (by rfl) T.g_demand_row T.F_demand_row.kp T.b_demand_row .nil (passes_call (takes_of rfl rfl rfl rfl) (fun _ _ _ _ h => h)) (pa_cons (pv 0) pa_nil)))
      (pss_one (ps_ret (pe_call (ok_reduced T) (hr.mono (by decide)) (by rfl) T.g_reduced T.F_reduced.kp T.b_reduced .nil passF (pa_cons (pv 0) pa_nil))))), ?_⟩
    walk_at "v"
    refine ⟨_, rfl, b, j, fun l e hl => ?_, q2⟩
    subst e
    obtain ⟨h1, h2⟩ := q1 l rfl hl
    walk_at "v"
    exact ⟨l, rfl, hl, h1, h2⟩
/-- the undoing of a letter -/
def sp_undoing : Sp := fun vs H Q _ => ∃ c, vs = [.str (S [c])] ∧ IsL c ∧ Q (.str (S [sw c])) H
theorem ok_undoing (T : Txt K mg A) : FnOk P w K mg base (CX P w) 1 A.a_undoing A.d_undoing ["_law_letter"] (sp_undoing) := by
  refine T.F_undoing.okX sc_undoing (fun vs H Q E h => ?_) (fun cdv Ar outer s H vs Q E hr h => ?_)
  · obtain ⟨_, rfl, _⟩ := h
    rfl
  · obtain ⟨c, rfl, hc, q⟩ := h
    have ha : c < 128 := (Ls.one hc).asc c List.mem_cons_self
    refine ⟨_, (pss_cons (ps_if (pt_val (pbm0 (K := K) rfl PySem.F.plainAttrs_str PySem.F.slot_str_islower PySem.F.type_str_islower mt_islower (pv 0))) (pss_one (ps_ret (pbm0 (K := K) rfl PySem.F.plainAttrs_str PySem.F.slot_str_upper PySem.F.type_str_upper mt_upper (pv 0)))) pss_nil)
      (pss_one (ps_ret (pbm0 (K := K) rfl PySem.F.plainAttrs_str PySem.F.slot_str_lower PySem.F.type_str_lower mt_lower (pv 0))))), ?_⟩
    walk_at "v"; walk_at "m0"; walk_at "v"
    have hz : (S [c]).length ≤ 5592405 := by rw [S_len]; exact (by decide : 1 ≤ 5592405)
    rw [islo_one ha]
    refine iteB (fun e => ?_) (fun e => ?_)
    · walk_at "v"
      refine ⟨rfl, _, rfl, rfl, hz, ?_⟩
      rw [up_asc (Ls.one hc).asc, List.map_cons, sw_up (of_decide_eq_true e)]
      exact q
    · walk_at "v"
      refine ⟨rfl, _, rfl, rfl, hz, ?_⟩
      rw [lo_asc (Ls.one hc).asc, List.map_cons, sw_lo hc (of_decide_eq_false e)]
      exact q
/-- the undoings, from the last to the first -/
def sp_back : Sp := fun vs H Q _ => ∃ l, vs = [.str (S l)] ∧ Ls l ∧ l.length ≤ 100000 ∧ ∀ H', Same H H' → Q (.str (S (inv l))) H'
theorem ok_back (T : Txt K mg A) : FnOk P w K mg base (CX P w) 2 A.a_back A.d_back ["_law_row_here"] (sp_back) := by
  refine T.F_back.okX sc_back (fun vs H Q E h => ?_) (fun cdv Ar outer s H vs Q E hr h => ?_)
  · obtain ⟨_, rfl, _⟩ := h
    rfl
  · obtain ⟨l, rfl, hl, hz, q⟩ := h
    refine ⟨_, (pss_one (ps_ret (pbm (K := K) rfl PySem.F.plainAttrs_str PySem.F.slot_str_join PySem.F.type_str_join (mjoin (K := K) rfl) pe_str (pa_cons (pe_lc (own := [("_law_letter", 1)]) (tt := tYes) rfl sc_back.nd (pi_str (pe_revS (pv 0))) (blkOk_by (N := ["_law_row_here", "_law_letter"]) (sc := defScope s_back) (by decide +kernel)) (fun _ _ _ _ _ => (pg_name (i := 1) sc_back.nd rfl (Or.inl rfl))) (fun _ _ _ _ _ => pts_nil) (fun _ _ _ _ _ => (pe_call (ok_undoing T) hr (by rfl) T.g_undoing T.F_undoing.kp T.b_undoing .nil passF (pa_cons (pv 1) pa_nil)))) pa_nil)))), ?_⟩
    refine ⟨rfl, ?_⟩
    walk_at "v"
    refine ⟨_, rfl, ?_, _, rfl, fun D hD => ?_⟩
    · rw [S_len]; exact Nat.le_trans hz (by decide)
    rw [S_rev]
    refine ⟨fun i m H' => m = l.length - i ∧ i ≤ l.length ∧ Same H H' ∧ H' D = some (.lst (ones ((l.reverse.take i).map sw))), ⟨_, rfl, Nat.zero_le _, Same.new hD, upd_same⟩, ?_⟩
    rintro i m H1 ⟨rfl, hi, s1, h1⟩
    by_cases hlt : i < l.length
    · refine .inr ⟨?_, fun H' => Same H H' ∧ H' D = some (.lst (ones ((l.reverse.take (i + 1)).map sw))), fun H' z => ⟨_, by omega, rfl, hlt, z⟩, ?_⟩
      · show i < (S l.reverse).cps.size
        have : (S l.reverse).cps.size = l.reverse.length := S_len _
        rw [this, List.length_reverse]; exact hlt
      rintro x H' ⟨rfl, c, hc, rfl⟩
      have hc' : l.reverse[i]? = some c := by simpa [S] using hc
      have hcl : IsL c := hl.rev c (List.mem_of_getElem? hc')
      refine ⟨rfl, ?_⟩
      walk_at "v"
      refine ⟨c, rfl, hcl, _, h1, ?_, ?_⟩
      · rw [ones_len, List.length_map, List.length_take]; exact Nat.lt_of_le_of_lt (by omega : _ ≤ 100000) (by decide)
      · refine ⟨fun b o hb => ?_, ?_⟩
        · rw [upd_ne (ne_of_none hb hD)]; exact s1 b o hb
        · rw [upd_same, take_one hc', List.map_append]; unfold ones; rw [List.map_append]; rfl
    · have ei : i = l.length := by omega
      subst ei
      have e2 : l.reverse.take l.length = l.reverse := List.take_of_length_le (by rw [List.length_reverse]; exact Nat.le_refl _)
      rw [e2, ones_eq, List.map_reverse] at h1
      refine .inl ⟨?_, ?_⟩
      · show (S l.reverse).cps.size ≤ _
        have : (S l.reverse).cps.size = l.reverse.length := S_len _
        rw [this, List.length_reverse]; exact Nat.le_refl _
      · refine ⟨_, _, _, rfl, rfl, .inl (SqL.of h1), ?_, ?_⟩
        · rw [nil_len, Nat.mul_zero, Nat.add_zero, sum_one, List.length_reverse, List.length_map]; omega
        · rw [S_nil, RB.join_nil, flat_one]
          exact q _ s1
/-- the law's own net -/
def sp_lnet : Sp := fun vs H Q _ => ∃ l, vs = [.str (S l)] ∧ Ls l ∧ l.length ≤ 100000 ∧ ∀ H', Same H H' → Q (.str (S (red l))) H'
theorem ok_lnet (T : Txt K mg A) : FnOk P w K mg base (CX P w) 2 A.a_lnet A.d_lnet ["_law_row_here"] (sp_lnet) := by
  refine T.F_lnet.okX sc_lnet (fun vs H Q E h => ?_) (fun cdv Ar outer s H vs Q E hr h => ?_)
  · obtain ⟨_, rfl, _⟩ := h
    rfl
  · obtain ⟨l, rfl, hl, hz, q⟩ := h
    refine ⟨_, (pss_cons (ps_set (i := 1) sc_lnet.nd rfl (Or.inl rfl) (pe_lst pa_nil))
      (pss_cons (ps_for (passes_of rfl) rfl (pi_str (pv 0)) (pg_name (i := 2) sc_lnet.nd rfl (Or.inl rfl)) (pss_one (ps_if (pt_mid (PW.pt (pw_and (pt_cmpR op_gt (pe_callB (clen (K := K) rfl) (by rfl) T.m_len bt_len (pa_cons (pv 1) pa_nil)) pe_int (nomark _)) (pw_and1 (pt_cmpR op_eq (pe_ix (ixL (K := K) rfl) (pv 1) (pe_un un_neg pe_int) (fun _ _ => rfl)) (pe_call (ok_undoing T) hr (by rfl) T.g_undoing T.F_undoing.kp T.b_undoing .nil passF (pa_cons (pv 2) pa_nil)) (nomark _)))))) (pss_one (ps_expr (pbm0 (K := K) rfl PySem.F.plainAttrs_list PySem.F.slot_list_pop PySem.F.type_list_pop mt_pop (pv 1)))) (pss_one (ps_expr (pbm (K := K) rfl PySem.F.plainAttrs_list PySem.F.slot_list_append PySem.F.type_list_append mt_append (pv 1) (pa_cons (pv 2) pa_nil)))))))
      (pss_one (ps_ret (pbm (K := K) rfl PySem.F.plainAttrs_str PySem.F.slot_str_join PySem.F.type_str_join (mjoin (K := K) rfl) pe_str (pa_cons (pv 1) pa_nil)))))), ?_⟩
    refine ⟨Nat.zero_le _, fun p hp => ?_⟩
    walk_at "v"; walk_at "v"
    refine ⟨fun i m σ' H' => m = l.length - i ∧ i ≤ l.length ∧ ∃ y, σ' = [some (.str (S l)), some (.ref p), y] ∧ Same H H' ∧ H' p = some (.lst (ones (kst (l.take i)).reverse)), ⟨_, rfl, Nat.zero_le _, none, rfl, Same.new hp, upd_same⟩, ?_⟩
    rintro i m σ' H1 ⟨rfl, hi, y, rfl, s1, h1⟩
    by_cases hlt : i < l.length
    · refine .inr ⟨hlt, fun σ' H' => ∃ y, σ' = [some (.str (S l)), some (.ref p), y] ∧ Same H H' ∧ H' p = some (.lst (ones (kst (l.take (i + 1))).reverse)), fun σ' H' z => ⟨_, by omega, rfl, hlt, z⟩, ?_⟩
      rintro x H' ⟨rfl, c, hc, rfl⟩
      have hc' : l[i]? = some c := by simpa [S] using hc
      have hcl : IsL c := hl c (List.mem_of_getElem? hc')
      have et : l.take (i + 1) = l.take i ++ [c] := by rw [List.take_add_one, hc']; rfl
      have ek : kst (l.take (i + 1)) = push (kst (l.take i)) c := by rw [et, kst_app]; rfl
      have hkl : (kst (l.take i)).length ≤ i := by
        have := kst_len_aux (l.take i) []
        rw [List.length_take] at this
        show (List.foldl push [] _).length ≤ i
        simp at this; omega
      have hcs : ({ cps := #[c] } : Str) = S [c] := rfl
      refine ⟨fun b H2 => H2 = H' ∧ b = (match kst (l.take i) with | [] => false | t :: _ => decide (t = sw c)), ?_, ?_⟩
      · walk_at "v"
        refine ⟨_, _, rfl, .inl (SqL.of h1), ?_⟩
        walk_at "ii"
        rw [ones_len, List.length_reverse]
        walk_at "v"
        cases e : kst (l.take i) with
        | nil => exact ⟨rfl, rfl⟩
        | cons t r =>
          refine iteB (fun _ => ?_) (fun z => ?_)
          · rw [e] at h1
            walk_at "v"; walk_at "v"
            have g : atI (ones (t :: r).reverse) (-1) = some (.str (S [t])) := by
              unfold ones; rw [List.reverse_cons, List.map_append]; exact atI_last _ _
            refine ⟨_, _, _, _, rfl, rfl, SqL.of h1, g, ?_⟩
            walk_at "v"
            refine ⟨c, rfl, hcl, ?_⟩
            refine ⟨rfl, ?_⟩
            walk_at "v"
            refine ⟨rfl, ?_⟩
            rw [dec_eq]
            simp
          · simp at z
      · rintro b H2 ⟨rfl, eb⟩
        subst eb
        cases e : kst (l.take i) with
        | nil =>
          refine iteF ?_
          walk_at "v"
          refine ⟨.inl ⟨rfl, _, SqL.of h1⟩, ?_⟩
          walk_at "v"
          refine ⟨_, _, _, rfl, rfl, h1, ?_, ?_⟩
          · rw [ones_len, List.length_reverse]; exact Nat.lt_of_le_of_lt (by omega : _ ≤ 100000) (by decide)
          · refine ⟨_, rfl, fun b o hb => ?_, ?_⟩
            · rw [upd_ne (ne_of_none hb hp)]; exact s1 b o hb
            · rw [upd_same, ek, e]; rfl
        | cons t r =>
          have en : (kst (l.take (i + 1))) = if t = sw c then r else c :: t :: r := by rw [ek, e]; rfl
          refine iteB (fun z => ?_) (fun z => ?_)
          · have z1 := of_decide_eq_true z
            rw [if_pos z1] at en
            walk_at "v"
            refine ⟨.inl ⟨rfl, _, SqL.of h1⟩, ?_⟩
            unfold ones at h1
            rw [e, List.reverse_cons, List.map_append] at h1
            refine ⟨_, _, .str (S [t]), rfl, rfl, h1, ?_, ?_⟩
            · simp
            · refine ⟨_, rfl, fun b o hb => ?_, ?_⟩
              · rw [upd_ne (ne_of_none hb hp)]; exact s1 b o hb
              · rw [upd_same, en]; unfold ones; simp
          · have z1 := of_decide_eq_false z
            rw [if_neg z1] at en
            walk_at "v"
            refine ⟨.inl ⟨rfl, _, SqL.of h1⟩, ?_⟩
            walk_at "v"
            refine ⟨_, _, _, rfl, rfl, h1, ?_, ?_⟩
            · rw [ones_len, List.length_reverse]; exact Nat.lt_of_le_of_lt (by omega : _ ≤ 100000) (by decide)
            · refine ⟨_, rfl, fun b o hb => ?_, ?_⟩
              · rw [upd_ne (ne_of_none hb hp)]; exact s1 b o hb
              · rw [upd_same, en, e]; unfold ones; simp; rfl
    · have ei : i = l.length := by omega
      subst ei
      rw [List.take_length] at h1
      refine .inl ⟨?_, ?_⟩
      · show (S l).cps.size ≤ _
        exact Nat.le_of_eq (S_len l)
      · refine ⟨rfl, ?_⟩
        walk_at "v"
        have ej : ones (kst l).reverse = (((red l).map fun c => [c]).map S).map V.str := ones_eq _
        rw [ej] at h1
        refine ⟨_, _, _, rfl, rfl, .inl (SqL.of h1), ?_, ?_⟩
        · rw [nil_len, Nat.mul_zero, Nat.add_zero, sum_one]
          have := red_len l
          omega
        · rw [S_nil, RB.join_nil, flat_one]
          exact q _ s1
def rootT (t : List Nat) (a d : Nat) : List V := [.str (S (t.take a ++ (mid t a).take d ++ inv (t.take a))), .int ((mid t a).length / d : Nat)]
/-- the law's own root -/
def sp_lroot : Sp := fun vs H Q _ => ∃ t : List Nat, vs = [.str (S t)] ∧ Ls t ∧ NoPair t ∧ t ≠ [] ∧ t.length ≤ 300 ∧ ∀ a d p H', Cut t a → Stop t a → Per (mid t a) d → Same H H' → H' p = some (.tup (rootT t a d)) → Q (.ref p) H'
theorem ok_lroot (T : Txt K mg A) : FnOk P w K mg base (CX P w) 3 A.a_lroot A.d_lroot ["_law_whole"] (sp_lroot) := by
  refine T.F_lroot.okX sc_lroot (fun vs H Q E h => ?_) (fun cdv Ar outer s H vs Q E hr h => ?_)
  · obtain ⟨_, rfl, _⟩ := h
    rfl
  · obtain ⟨t, rfl, hl, np, t0, hz, q⟩ := h
    refine ⟨_, (pss_cons (ps_set (i := 1) sc_lroot.nd rfl (Or.inl rfl) pe_int)
      (pss_cons (ps_while (passes_of rfl) (pt_mid (PW.pt (pw_and (pt_cmpR op_lt (pe_op op_add (pe_op op_mul pe_int (pv 1)) pe_int) (pe_callB clenS (by rfl) T.m_len bt_len (pa_cons (pv 0) pa_nil)) (nomark _)) (pw_and1 (pt_cmpR op_eq (pe_ix ix_str (pv 0) (pv 1) (fun _ _ => rfl)) (pe_call (ok_undoing T) (hr.mono (by decide)) (by rfl) T.g_undoing T.F_undoing.kp T.b_undoing .nil passF (pa_cons (pe_ix ix_str (pv 0) (pe_op op_sub (pe_op op_sub (pe_callB clenS (by rfl) T.m_len bt_len (pa_cons (pv 0) pa_nil)) pe_int) (pv 1)) (fun _ _ => rfl)) pa_nil)) (nomark _)))))) (pss_one (ps_set (i := 1) sc_lroot.nd rfl (Or.inl rfl) (pe_op op_add (pv 1) pe_int))))
      (pss_cons (ps_set (i := 2) sc_lroot.nd rfl (Or.inl rfl) (pe_op op_sub (pe_callB clenS (by rfl) T.m_len bt_len (pa_cons (pv 0) pa_nil)) (pe_op op_mul pe_int (pv 1))))
      (pss_cons (ps_for (passes_of rfl) rfl (pi_range3 (by rfl) T.m_range (pa_cons (pv 2) (pa_cons pe_int (pa_cons (pe_un un_neg pe_int) pa_nil)))) (pg_name (i := 3) sc_lroot.nd rfl (Or.inl rfl)) (pss_one (ps_if (pt_cmpR op_eq (pe_op op_mod (pe_callTy call_int1 (by rfl) T.m_int bt_int (pa_cons (pv 2) pa_nil)) (pv 3)) pe_int (nomark _)) (pss_cons (ps_set (i := 4) sc_lroot.nd rfl (Or.inl rfl) (pe_op op_add_str (pe_slice sl_str (pv 0) po_none (po_some (pe_op op_add (pv 1) (pe_op op_fdivW (pv 2) (pv 3))))) (pe_slice sl_str (pv 0) (po_some (pe_op op_sub (pe_callB clenS (by rfl) T.m_len bt_len (pa_cons (pv 0) pa_nil)) (pv 1))) po_none)))
      (pss_one (ps_if (pt_cmpR op_eq (pe_call (ok_lnet T) hr (by rfl) T.g_lnet T.F_lnet.kp T.b_lnet .nil passF (pa_cons (pe_op op_repS (pv 4) (pv 3)) pa_nil)) (pv 0) (nomark _)) (pss_one (ps_ret (pe_tup (pa_cons (pv 4) (pa_cons (pv 3) pa_nil))))) pss_nil))) pss_nil)))
      (pss_one (ps_ret pe_non)))))), ?_⟩
    have ls : (S t).length ≤ sizeLine := by rw [S_len]; exact Nat.le_trans (by omega : _ ≤ 1000) (by decide)
    refine ⟨fun m σ' H' => ∃ a : Nat, m = t.length - a ∧ σ' = [some (.str (S t)), some (.int a), none, none, none] ∧ Same H H' ∧ Cut t a, ⟨_, 0, rfl, rfl, Same.refl _, ⟨by omega, fun i x hi => absurd hi (by omega)⟩⟩, ?_⟩
    rintro m σ' H1 ⟨a, rfl, rfl, s1, cut⟩
    have hsm := cut.small
    refine ⟨fun b H' => H' = H1 ∧ (b = true → 2 * a + 1 < t.length ∧ ∃ x, t[a]? = some x ∧ t[t.length - 1 - a]? = some (sw x)) ∧ (b = false → Stop t a), ?_, ?_⟩
    · walk_at "v"; walk_at "mul"; walk_at "ii"; walk_at "v"
      refine ⟨_, rfl, ls, ?_⟩
      rw [S_len]
      walk_at "ii"; walk_at "v"
      refine iteB (fun e => ?_) (fun e => ⟨rfl, fun z => (nomatch z), fun _ x y big => ?_⟩)
      · have big : 2 * a + 1 < t.length := by have := of_decide_eq_true e; omega
        have hx : t[a]? = some t[a] := List.getElem?_eq_getElem (by omega)
        have hy : t[t.length - 1 - a]? = some t[t.length - 1 - a] := List.getElem?_eq_getElem (by omega)
        walk_at "v"; walk_at "v"
        refine ⟨_, _, _, rfl, rfl, ls, atI_int (j := a) rfl (by rw [S_list]; exact hx), ?_⟩
        walk_at "v"; walk_at "v"
        refine ⟨_, rfl, ls, ?_⟩
        rw [S_len]
        walk_at "ii"; walk_at "v"; walk_at "ii"
        refine ⟨_, _, _, rfl, rfl, ls, atI_int (j := t.length - 1 - a) (by omega) (by rw [S_list]; exact hy), ?_⟩
        have hyL := hl _ (List.mem_of_getElem? hy)
        have hxL := hl _ (List.mem_of_getElem? hx)
        refine ⟨_, rfl, hyL, ?_⟩
        refine ⟨rfl, ?_⟩
        walk_at "v"
        have e2 : decide (V.str ({ cps := #[t[a]] } : Str) = V.str (S [sw t[t.length - 1 - a]])) = decide (t[a] = sw t[t.length - 1 - a]) := by
          rw [show ({ cps := #[t[a]] } : Str) = S [t[a]] from rfl, dec_eq]; simp
        rw [e2]
        refine ⟨rfl, fun z => ⟨big, _, hx, ?_⟩, fun z x y _ h1 h2 => ?_⟩
        · rw [hy, of_decide_eq_true z, sw_sw hyL]
        · cases hx.symm.trans h1
          cases hy.symm.trans h2
          intro w
          exact of_decide_eq_false z (by rw [w, sw_sw hxL])
      · have := of_decide_eq_false e
        omega
    · rintro b H2 ⟨rfl, h1, h2⟩
      refine iteB (fun e => ?_) (fun e => ?_)
      · obtain ⟨big, x, hx, hy⟩ := h1 e
        refine ⟨fun σ' H' => ∃ a' : Nat, t.length - a' < t.length - a ∧ σ' = [some (.str (S t)), some (.int a'), none, none, none] ∧ Same H H' ∧ Cut t a', fun σ' H' ⟨a', z, r⟩ => ⟨_, z, a', rfl, r⟩, ?_⟩
        refine ⟨_, rfl, ?_⟩
        walk_at "ii"
        refine ⟨a + 1, by omega, rfl, s1, ⟨by omega, fun i y hi h => ?_⟩⟩
        by_cases z : i = a
        · subst z
          cases hx.symm.trans h
          exact hy
        · exact cut.ends i y (by omega) h
      · have stop := h2 e
        have co := core_of hl np t0 cut stop
        have ml := mid_len hsm
        have mpos : 0 < (mid t a).length := List.length_pos_iff.mpr co.1
        obtain ⟨d, _, pd⟩ := find_per co.1
        have dv := per_dvd co.1 pd
        have kd : (mid t a).length / d * d = (mid t a).length := Nat.div_mul_cancel dv
        have k1 : 1 ≤ (mid t a).length / d := Nat.div_pos pd.2.1.2 pd.1
        have km : (mid t a).length / d ≤ (mid t a).length := Nat.div_le_self _ _
        generalize hM : (mid t a).length = M at *
        generalize hK : M / d = k at *
        walk_at "v"
        refine ⟨_, rfl, ls, ?_⟩
        rw [S_len]
        walk_at "v"; walk_at "mul"; walk_at "ii"
        have eM : ((t.length : Int) - 2 * (a : Int)) = (M : Nat) := by omega
        dsimp only
        rw [eM]
        walk_at "v"; walk_at "v"
        refine ⟨M, 0, -1, _, rfl, RgC.neg (by omega) (by omega) (by decide) (by decide), ?_⟩
        rw [show ((M : Int) - 0).toNat = M by omega]
        refine for_rangeC (n := M) (fun i σ' H' => ∃ y3 y4, σ' = [some (.str (S t)), some (.int a), some (.int M), y3, y4] ∧ Same H H' ∧ i + k ≤ M) ⟨none, none, rfl, s1, by omega⟩ ?_ ?_
        · rintro i σ' H3 hi ⟨y3, y4, rfl, s3, ik⟩
          have ei : ((M : Int) + (i : Nat) * -1) = ((M - i : Nat) : Int) := by omega
          rw [ei]
          have pos : 0 < M - i := by omega
          walk_at "v"; walk_at "int"; walk_at "v"
          refine ⟨_, _, rfl, rfl, (show (0 : Int) < _ from by omega), ?_⟩
          refine ⟨rfl, ?_⟩
          walk_at "v"
          rw [dec_ints]
          generalize hk' : M - i = k' at *
          have iv : (((M : Int) % (k' : Nat) = 0) ↔ k' ∣ M) := by
            have e0 : ((M : Int) % (k' : Nat)) = ((M % k' : Nat) : Int) := rfl
            rw [e0]
            constructor
            · intro z; exact Nat.dvd_of_mod_eq_zero (by omega)
            · intro z; have := Nat.mod_eq_zero_of_dvd z; omega
          refine iteB (fun e3 => ?_) (fun e3 => ⟨_, _, rfl, s3, ?_⟩)
          · have hdv : k' ∣ M := iv.mp (of_decide_eq_true e3)
            have lo : ((k' : Nat) : Int).natAbs.log2 < 9000 := log_lt (by omega) (by omega)
            have ee : M / k' ≤ M := Nat.div_le_self _ _
            walk_at "v"; walk_at "v"; walk_at "v"; walk_at "v"
            refine ⟨_, _, rfl, rfl, (show CDivW _ _ from ⟨by omega, lo⟩), ?_⟩
            walk_at "ii"; walk_at "v"
            refine ⟨_, rfl, ls, ?_⟩
            have e5 : ((a : Int) + (M : Int) / (k' : Nat)) = ((a + M / k' : Nat) : Int) := rfl
            rw [e5, cut_to]
            walk_at "v"; walk_at "v"
            refine ⟨_, rfl, ls, ?_⟩
            rw [S_len]
            walk_at "v"; walk_at "ii"; walk_at "v"
            refine ⟨_, rfl, ls, ?_⟩
            have e6 : ((t.length : Int) - (a : Nat)) = ((t.length - a : Nat) : Int) := by omega
            rw [e6, cut_from]
            refine ⟨_, _, rfl, rfl, by rw [S_len, S_len, List.length_take, List.length_drop]; exact Nat.le_trans (by omega : _ ≤ 1000) (by decide), ?_⟩
            rw [S_app, core_first (by omega), (core_ends cut).1]
            have fL : Ls (t.take a ++ (mid t a).take (M / k') ++ inv (t.take a)) := ((hl.take a).app (((hl.drop a).take _).take _)).app (hl.take a).inv
            have fz : (t.take a ++ (mid t a).take (M / k') ++ inv (t.take a)).length ≤ 300 := by
              simp only [List.length_append, List.length_take, inv_len]; omega
            have fz2 : (t.take a ++ (mid t a).take (M / k') ++ inv (t.take a)).length * k' ≤ 90000 := Nat.le_trans (Nat.mul_le_mul fz (by omega : k' ≤ 300)) (by decide)
            walk_at "v"; walk_at "v"
            refine ⟨_, k', rfl, rfl, by omega, by omega, ?_⟩
            refine ⟨_, rfl, fL.rep _, by rw [rep_len]; omega, fun H4 s4 => ?_⟩
            walk_at "v"
            refine ⟨rfl, ?_⟩
            walk_at "v"
            rw [dec_eq]
            have whole := root_whole hl np t0 cut stop pd
            rw [hM, hK] at whole
            have kdd : M / k = d := by
              conv => lhs; arg 1; rw [← kd]
              exact Nat.mul_div_cancel_left _ k1
            refine iteB (fun e7 => ?_) (fun e7 => ⟨_, _, rfl, s3.trans s4, ?_⟩)
            · have e8 := of_decide_eq_true e7
              have le : ¬ k < k' := fun lt => by
                have := root_above (k := k') hl np t0 cut stop pd (by rw [hM]; exact hdv) (by rw [hM, hK]; exact lt)
                rw [hM] at this
                exact this e8
              have ek : k' = k := by omega
              rw [ek, kdd]
              walk_at "v"; walk_at "v"
              refine ⟨by walk_at "sz", fun p hp => ?_⟩
              refine q a d p _ cut stop pd ((s3.trans s4).trans (Same.new hp)) ?_
              unfold rootT
              rw [hM, hK]
              exact upd_same
            · have e8 := of_decide_eq_false e7
              have ne : k' ≠ k := fun z => e8 (by rw [z, kdd]; exact whole)
              omega
          · have e4 := of_decide_eq_false e3
            have ne : k' ≠ k := fun z => e4 (iv.mpr (by rw [z]; exact ⟨d, kd.symm⟩))
            omega
        · rintro σ' H3 ⟨y3, y4, rfl, s3, ik⟩
          omega
/-- root, or 'none' -/
def sp_asked (K : PySem.W.Frag) : Sp := fun vs H Q _ => ∃ l : List Nat, vs = [.str (S l)] ∧ Ls l ∧ l.length ≤ 100000 ∧ (red l = [] → ∀ H', Same H H' → Q (.str "none") H') ∧
  (red l ≠ [] → ∀ a d p H', Cut (red l) a → Stop (red l) a → Per (mid (red l) a) d → Same H H' → H' p = some (.tup (rootT (red l) a d)) → Q (.ref p) H')
theorem ok_asked (T : Txt K mg A) : FnOk P w K mg base (CX P w) 5 A.a_asked A.d_asked ["_law_row_here"] (sp_asked K) := by
  refine T.F_asked.okX sc_asked (fun vs H Q E h => ?_) (fun cdv Ar outer s H vs Q E hr h => ?_)
  · obtain ⟨_, rfl, _⟩ := h
    rfl
  · obtain ⟨l, rfl, hl, lz, q1, q2⟩ := h
    refine ⟨_, (pss_cons (ps_set (i := 1) sc_asked.nd rfl (Or.inl rfl) pe_non)
      (pss_cons (ps_try_manyA rfl rfl (takes_of rfl rfl rfl rfl) (fun W pn xe tk hpo => (pss_one (ps_set (i := 1) sc_asked.nd rfl (Or.inl rfl) (pe_callS (ok_root T) hr (by rfl) T.g_root T.F_root.kp T.b_root (fun σ => passAt tk σ) (pa_cons (pv 0) pa_nil))))) (HdsA.cons ⟨rfl, by decide, .inl T.gC_NoRoot⟩ (fun a oe cls d pn hz hf => (pss_one (ps_set (i := 1) sc_asked.nd rfl (Or.inl rfl) pe_str))) HdsA.nil))
      (pss_one (ps_ret (pv 1))))), ?_⟩
    walk_at "v"
    refine ⟨_, rfl, .yes hl ⟨lz, fun e H1 s1 => ?_, fun e a d p H1 ca st pe s1 _ hp => ?_⟩⟩
    · refine ⟨true, T.e_NoRoot_NoRoot, fun _ a na => ?_, fun z => nomatch z⟩
      walk_at "v"
      exact q1 e _ s1
    · walk_at "v"
      exact q2 e a d p H1 ca st pe s1 hp
/-- roots of drawn rows -/
def sp_roots_right : Sp := fun vs H Q _ => ∃ (h c : Addr) (d : List Nat), vs = [.ref h, .str (S d)] ∧ Hand H h c ∧ Ls d ∧ d ≠ [] ∧ d.length ≤ 1000 ∧ ∀ H', Go h c H H' → Q (.bl true) H'
theorem ok_roots_right (T : Txt K mg A) : FnOk P w K mg base (CX P w) 6 A.a_roots_right A.d_roots_right ["_law_hand_here", "_law_deeds_here"] (sp_roots_right) := by
  refine T.F_roots_right.okX sc_roots_right (fun vs H Q E h => ?_) (fun cdv Ar outer s H vs Q E hr h => ?_)
  · obtain ⟨_, _, _, rfl, _⟩ := h
    rfl
  · obtain ⟨h, c, d, rfl, hH, hd, d0, dz, q⟩ := h
    refine ⟨_, (pss_cons (ps_set (i := 2) sc_roots_right.nd rfl (Or.inl rfl) (pe_call (ok_row T) (hr.mono (by decide)) (by rfl) T.g_row T.F_row.kp T.b_row .nil passF (pa_cons (pv 0) (pa_cons (pv 1) (pa_cons (pe_op op_add pe_int (pe_call (ok_draw T) (hr.mono (by decide)) (by rfl) T.g_draw T.F_draw.kp T.b_draw .nil passF (pa_cons (pv 0) (pa_cons pe_int pa_nil)))) pa_nil)))))
      (pss_cons (ps_set (i := 3) sc_roots_right.nd rfl (Or.inl rfl) (pe_call (ok_row T) (hr.mono (by decide)) (by rfl) T.g_row T.F_row.kp T.b_row .nil passF (pa_cons (pv 0) (pa_cons (pv 1) (pa_cons (pe_call (ok_draw T) (hr.mono (by decide)) (by rfl) T.g_draw T.F_draw.kp T.b_draw .nil passF (pa_cons (pv 0) (pa_cons pe_int pa_nil))) pa_nil)))))
      (pss_cons (ps_set (i := 4) sc_roots_right.nd rfl (Or.inl rfl) (pe_op op_add_str (pe_op op_add_str (pv 3) (pe_op op_repS (pv 2) (pe_op op_add pe_int (pe_call (ok_draw T) (hr.mono (by decide)) (by rfl) T.g_draw T.F_draw.kp T.b_draw .nil passF (pa_cons (pv 0) (pa_cons pe_int pa_nil)))))) (pe_call (ok_back T) (hr.mono (by decide)) (by rfl) T.g_back T.F_back.kp T.b_back .nil passF (pa_cons (pv 3) pa_nil))))
      (pss_cons (ps_set (i := 5) sc_roots_right.nd rfl (Or.inl rfl) (pe_call (ok_draw T) (hr.mono (by decide)) (by rfl) T.g_draw T.F_draw.kp T.b_draw .nil passF (pa_cons (pv 0) (pa_cons pe_int pa_nil))))
      (C8.pss_cut (ps_if (pt_cmpR op_lt (pv 5) pe_int (nomark _)) (pss_one (ps_set (i := 4) sc_roots_right.nd rfl (Or.inl rfl) (pe_call (ok_row T) (hr.mono (by decide)) (by rfl) T.g_row T.F_row.kp T.b_row .nil passF (pa_cons (pv 0) (pa_cons (pv 1) (pa_cons (pe_call (ok_draw T) (hr.mono (by decide)) (by rfl) T.g_draw T.F_draw.kp T.b_draw .nil passF (pa_cons (pv 0) (pa_cons pe_int pa_nil))) pa_nil)))))) pss_nil)
      (C8.pss_cut (ps_if (pt_cmpR op_eq (pv 5) pe_int (nomark _)) (pss_cons (ps_set (i := 2) sc_roots_right.nd rfl (Or.inl rfl) (pe_call (ok_row T) (hr.mono (by decide)) (by rfl) T.g_row T.F_row.kp T.b_row .nil passF (pa_cons (pv 0) (pa_cons (pv 1) (pa_cons (pe_op op_add pe_int (pe_call (ok_draw T) (hr.mono (by decide)) (by rfl) T.g_draw T.F_draw.kp T.b_draw .nil passF (pa_cons (pv 0) (pa_cons pe_int pa_nil)))) pa_nil)))))
      (pss_one (ps_set (i := 4) sc_roots_right.nd rfl (Or.inl rfl) (pe_op op_add_str (pe_op op_add_str (pv 3) (pe_op op_repS (pv 2) (pe_op op_fdivW (pe_op op_sub pe_int (pe_op op_mul pe_int (pe_callB clenS (by rfl) T.m_len bt_len (pa_cons (pv 3) pa_nil)))) (pe_callB clenS (by rfl) T.m_len bt_len (pa_cons (pv 2) pa_nil))))) (pe_call (ok_back T) (hr.mono (by decide)) (by rfl) T.g_back T.F_back.kp T.b_back .nil passF (pa_cons (pv 3) pa_nil)))))) pss_nil)
      (pss_cons (ps_set (i := 6) sc_roots_right.nd rfl (Or.inl rfl) (pe_call (ok_lnet T) (hr.mono (by decide)) (by rfl) T.g_lnet T.F_lnet.kp T.b_lnet .nil passF (pa_cons (pv 4) pa_nil)))
      (pss_cons (ps_set (i := 7) sc_roots_right.nd rfl (Or.inl rfl) (pe_call (ok_asked T) hr (by rfl) T.g_asked T.F_asked.kp T.b_asked .nil passF (pa_cons (pv 4) pa_nil)))
      (pss_cons (ps_if (pt_cmpR op_eq (pv 6) pe_str (nomark _)) (pss_one (ps_ret (pe_cmpR op_eq (pv 7) pe_str (nomark _)))) pss_nil)
      (pss_cons (ps_if (pt_mid (PW.pt (pw_or (pt_not (pt_val (pe_callB (cisi (K := K) rfl) (by rfl) T.m_isinstance bt_isinstance (pa_cons (pv 7) (pa_cons (pe_bltn (v := .ty "tuple") (by rfl) T.m_tuple bt_tuple rfl) pa_nil))))) (pw_or (pt_cmpR (neD (K := K) rfl hr.units) (pv 7) (pe_call (ok_lroot T) (hr.mono (by decide)) (by rfl) T.g_lroot T.F_lroot.kp T.b_lroot .nil passF (pa_cons (pv 6) pa_nil)) (nomark _)) (pw_or1 (pt_val (pe_callB (cisi (K := K) rfl) (by rfl) T.m_isinstance bt_isinstance (pa_cons (pe_ix (ixT (K := K) rfl) (pv 7) pe_int (fun _ _ => rfl)) (pa_cons (pe_bltn (v := .ty "bool") (by rfl) T.m_bool bt_bool rfl) pa_nil))))))))) (pss_one (ps_ret pe_bl)) pss_nil)
      (pss_one (ps_ret (pe_mid (pe_and (pe_cmpR op_eq (pe_call (ok_power T) (hr.mono (by decide)) (by rfl) T.g_power T.F_power.kp T.b_power .nil (passes_call (takes_of rfl rfl rfl rfl) (fun _ _ _ _ h => h)) (pa_cons (pe_ix (ixT (K := K) rfl) (pv 7) pe_int (fun _ _ => rfl)) (pa_cons (pe_ix (ixT (K := K) rfl) (pv 7) pe_int (fun _ _ => rfl)) pa_nil))) (pv 6) (nomark _)) (pe_and (pe_cmpR op_eq (pe_call (ok_net T) (hr.mono (by decide)) (by rfl) T.g_net T.F_net.kp T.b_net .nil (passes_call (takes_of rfl rfl rfl rfl) (fun _ _ _ _ h => h)) (pa_cons (pe_ix (ixT (K := K) rfl) (pv 7) pe_int (fun _ _ => rfl)) pa_nil)) (pe_ix (ixT (K := K) rfl) (pv 7) pe_int (fun _ _ => rfl)) (nomark _)) (pe_one (pe_cmpR (eqD (K := K) rfl hr.units) (pe_call (ok_root T) (hr.mono (by decide)) (by rfl) T.g_root T.F_root.kp T.b_root .nil (passes_call (takes_of rfl rfl rfl rfl) (fun _ _ _ _ h => h)) (pa_cons (pe_ix (ixT (K := K) rfl) (pv 7) pe_int (fun _ _ => rfl)) pa_nil)) (pe_tup (pa_cons (pe_ix (ixT (K := K) rfl) (pv 7) pe_int (fun _ _ => rfl)) (pa_cons pe_int pa_nil))) (nomark _)))))))))))))))))), ?_⟩
    have cat : ∀ {x y : List Nat}, x.length + y.length ≤ 1000 → (S x).length + (S y).length ≤ sizeLine := fun {x y} z => by rw [S_len, S_len]; exact Nat.le_trans z (by decide)
    have one : ∀ n : Nat, (1 : Int) + (n : Nat) = ((n + 1 : Nat) : Int) := fun n => by omega
    -- inner
    walk_at "v"; walk_at "v"; walk_at "v"
    refine ⟨h, c, 4, rfl, hH, by decide, by decide, fun n0 H1 n00 n01 g1 => ?_⟩
    obtain ⟨n, rfl⟩ : ∃ n : Nat, n0 = n := ⟨n0.toNat, by omega⟩
    walk_at "ii"
    refine ⟨h, c, d, n + 1, congrArg (fun z : Int => [V.ref h, V.str (S d), V.int z]) (one n), g1.2, hd, d0, dz, by omega, fun u H2 eu hu _ g2 => ?_⟩
    have g2 := g1.trans g2
    -- by
    walk_at "v"; walk_at "v"; walk_at "v"
    refine ⟨h, c, 4, rfl, g2.2, by decide, by decide, fun m0 H3 m00 m01 g3 => ?_⟩
    obtain ⟨m, rfl⟩ : ∃ m : Nat, m0 = m := ⟨m0.toNat, by omega⟩
    refine ⟨h, c, d, m, rfl, g3.2, hd, d0, dz, by omega, fun b H4 eb hb _ g4 => ?_⟩
    have g4 := (g2.trans g3).trans g4
    have ib := inv_len b
    -- the row
    walk_at "v"; walk_at "v"; walk_at "v"
    refine ⟨h, c, 13, rfl, g4.2, by decide, by decide, fun k0 H5 k00 k01 g5 => ?_⟩
    obtain ⟨k, rfl⟩ : ∃ k : Nat, k0 = k := ⟨k0.toNat, by omega⟩
    walk_at "ii"
    have kz : u.length * (k + 1) ≤ 52 := Nat.le_trans (Nat.mul_le_mul (by omega : u.length ≤ 4) (by omega : k + 1 ≤ 13)) (by decide)
    have ku := rep_len u (k + 1)
    refine ⟨u, k + 1, rfl, congrArg V.int (one k), by omega, by omega, ?_⟩
    refine ⟨_, _, rfl, rfl, cat (by omega), ?_⟩
    rw [S_app]
    walk_at "v"
    refine ⟨b, rfl, hb, by omega, fun H6 s6 => ?_⟩
    refine ⟨_, _, rfl, rfl, cat (by rw [List.length_append]; omega), ?_⟩
    rw [S_app]
    have rL : Ls (b ++ rep u (k + 1) ++ inv b) := (hb.app (hu.rep _)).app hb.inv
    have rz : (b ++ rep u (k + 1) ++ inv b).length ≤ 200 := by rw [List.length_append, List.length_append]; omega
    generalize b ++ rep u (k + 1) ++ inv b = r0 at rL rz
    have g6 := (g4.trans g5).same s6
    walk_at "v"
    refine ⟨h, c, 6, rfl, g6.2, by decide, by decide, fun kind H7 _ _ g7 => ?_⟩
    have g7 := g6.trans g7
    clear g1 g3 g5 s6 g6
    -- the other kinds
    refine ⟨fun σ' H' => ∃ r, σ' = [some (.ref h), some (.str (S d)), some (.str (S u)), some (.str (S b)), some (.str (S r)), some (.int kind), none, none] ∧ Ls r ∧ r.length ≤ 200 ∧ Go h c H H', ?_, ?_⟩
    · walk_at "v"; walk_at "ii"; walk_at "v"
      refine iteB (fun _ => ?_) (fun _ => ⟨r0, rfl, rL, rz, g7⟩)
      walk_at "v"; walk_at "v"; walk_at "v"
      refine ⟨h, c, 30, rfl, g7.2, by decide, by decide, fun j0 H8 j00 j01 g8 => ?_⟩
      obtain ⟨j, rfl⟩ : ∃ j : Nat, j0 = j := ⟨j0.toNat, by omega⟩
      refine ⟨h, c, d, j, rfl, g8.2, hd, d0, dz, by omega, fun r H9 er hr _ g9 => ?_⟩
      exact ⟨r, rfl, hr, by omega, (g7.trans g8).trans g9⟩
    rintro σ' H8 ⟨r1, rfl, r1L, r1z, g8⟩
    refine ⟨fun σ' H' => ∃ r y2, σ' = [some (.ref h), some (.str (S d)), y2, some (.str (S b)), some (.str (S r)), some (.int kind), none, none] ∧ Ls r ∧ r.length ≤ 200 ∧ Go h c H H', ?_, ?_⟩
    · walk_at "v"
      refine ⟨rfl, ?_⟩
      walk_at "v"
      refine iteB (fun _ => ?_) (fun _ => ⟨r1, _, rfl, r1L, r1z, g8⟩)
      walk_at "v"; walk_at "v"; walk_at "v"
      refine ⟨h, c, 9, rfl, g8.2, by decide, by decide, fun j0 H9 j00 j01 g9 => ?_⟩
      obtain ⟨j, rfl⟩ : ∃ j : Nat, j0 = j := ⟨j0.toNat, by omega⟩
      walk_at "ii"
      refine ⟨h, c, d, j + 1, congrArg (fun z : Int => [V.ref h, V.str (S d), V.int z]) (one j), g9.2, hd, d0, dz, by omega, fun u2 H10 eu2 hu2 _ g10 => ?_⟩
      have bs : (S b).length ≤ sizeLine := by rw [S_len]; exact Nat.le_trans (by omega : _ ≤ 1000) (by decide)
      have us : (S u2).length ≤ sizeLine := by rw [S_len]; exact Nat.le_trans (by omega : _ ≤ 1000) (by decide)
      walk_at "v"; walk_at "v"; walk_at "v"
      refine ⟨_, rfl, bs, ?_⟩
      rw [S_len]
      walk_at "mul"; walk_at "ii"; walk_at "v"
      refine ⟨_, rfl, us, ?_⟩
      rw [S_len]
      have up : (0 : Int) < (u2.length : Nat) := by omega
      refine ⟨_, _, rfl, rfl, (show CDivW _ _ from ⟨up, log_lt (by omega) up⟩), ?_⟩
      have ev : ((200 : Int) - 2 * (b.length : Nat)) / (u2.length : Nat) = (((200 - 2 * b.length) / u2.length : Nat) : Int) := by
        have : ((200 : Int) - 2 * (b.length : Nat)) = ((200 - 2 * b.length : Nat) : Int) := by omega
        rw [this]; rfl
      have le : u2.length * ((200 - 2 * b.length) / u2.length) ≤ 200 - 2 * b.length := Nat.mul_div_le _ _
      have le2 : (200 - 2 * b.length) / u2.length ≤ 200 := Nat.le_trans (Nat.div_le_self _ _) (by omega)
      generalize hv : (200 - 2 * b.length) / u2.length = v at *
      refine ⟨u2, v, rfl, congrArg V.int ev, by omega, by omega, ?_⟩
      have rl := rep_len u2 v
      refine ⟨_, _, rfl, rfl, cat (by omega), ?_⟩
      rw [S_app]
      walk_at "v"
      refine ⟨b, rfl, hb, by omega, fun H11 s11 => ?_⟩
      refine ⟨_, _, rfl, rfl, cat (by rw [List.length_append]; omega), ?_⟩
      rw [S_app]
      exact ⟨_, _, rfl, (hb.app (hu2.rep _)).app hb.inv, by rw [List.length_append, List.length_append]; omega, ((g8.trans g9).trans g10).same s11⟩
    rintro σ' H9 ⟨r, y2, rfl, rL, rz, g9⟩
    walk_at "v"
    refine ⟨r, rfl, rL, by omega, fun H10 s10 => ?_⟩
    walk_at "v"
    refine ⟨r, rfl, rL, by omega, fun e H11 s11 => ?_, fun e a p t H11 ca st pe s11 ht => ?_⟩
    · -- the empty net
      walk_at "v"
      refine ⟨rfl, ?_⟩
      walk_at "v"
      rw [e, S_nil, decide_eq_true rfl]
      walk_at "v"
      refine ⟨rfl, ?_⟩
      rw [decide_eq_true rfl]
      exact q _ ((g9.same s10).same s11)
    · have tL := red_L rL
      have tn := red_np rL
      have tz := red_len r
      generalize ht0 : red r = t0 at *
      have g11 := (g9.same s10).same s11
      obtain ⟨x, ex, xL, xn, x0, cx, sx, xa, xm, xp, ul⟩ := root_root tL tn e ca st pe
      have whole := root_whole tL tn e ca st pe
      unfold rootT at ht
      rw [← ex] at ht whole
      have xz : x.length ≤ 400 := by
        rw [ex, List.length_append, List.length_append, inv_len, List.length_take, ul]
        have := pe.2.1.2
        have := mid_len ca.small
        omega
      have kz : (mid t0 a).length / p ≤ 400 := Nat.le_trans (Nat.div_le_self _ _) (by have := mid_len ca.small; omega)
      walk_at "v"
      refine ⟨rfl, ?_⟩
      walk_at "v"
      rw [S_nil, dec_eq, decide_eq_false e]
      refine ⟨fun b H' => b = false ∧ Same H11 H', ?_, ?_⟩
      · walk_at "v"
        refine ⟨_, _, _, _, _, rfl, .ty _, .base (.tup ht), (kit_ty (by decide +kernel) : PySem.W.kitOne _ (.type "tuple") (.type "tuple") = some true), ?_⟩
        walk_at "v"
        walk_at "v"; walk_at "v"
        refine ⟨t0, rfl, tL, tn, e, by omega, fun a' p' t' H12 ca' st' pe' s12 ht' => ?_⟩
        have ea := cut_one ca' st' ca st
        subst ea
        have ep := per_one pe' pe
        subst ep
        unfold rootT at ht'
        rw [← ex] at ht'
        refine ne_rt xL (s12 _ _ ht) ht' ?_
        walk_at "v"
        walk_at "v"
        refine ⟨_, _, _, _, rfl, rfl, SqT.of (s12 _ _ ht), atI_int (j := 1) rfl rfl, ?_⟩
        refine ⟨_, _, _, _, _, rfl, .ty _, .base (.int _), (kit_ty (by decide +kernel) : PySem.W.kitOne _ (.type "int") (.type "bool") = some false), ?_⟩
        walk_at "v"
        exact ⟨rfl, s12⟩
      rintro b2 H12 ⟨rfl, s12⟩
      have hT := s12 _ _ ht
      have g12 := g11.same s12
      generalize hkk : (mid t0 a).length / p = kk at whole kz hT
      refine ⟨fun v' H' => v' = .bl true ∧ Same H12 H', ?_, fun v' H' ⟨e, s3⟩ => by subst e; exact q _ (g12.same s3)⟩
      walk_at "v"
      refine ⟨_, _, _, _, rfl, rfl, SqT.of hT, atI_int (j := 0) rfl rfl, ?_⟩
      walk_at "v"
      refine ⟨_, _, _, _, rfl, rfl, SqT.of hT, atI_int (j := 1) rfl rfl, ?_⟩
      have wf : -1000 ≤ ((kk : Nat) : Int) ∧ ((kk : Nat) : Int) ≤ 1000 := by omega
      refine ⟨_, _, rfl, .yes xL ⟨_, .int _, (fun e => by rw [within_yes wf.1 wf.2] at e; cases e), fun i e _ _ => ?_⟩⟩
      cases e
      refine ⟨by omega, fun H13 s13 => ?_⟩
      have pk : pw x (kk : Nat) = t0 := by
        rw [pw_of, if_neg (by omega), Int.toNat_natCast]; exact whole
      rw [pk]
      walk_at "v"
      refine ⟨rfl, ?_⟩
      walk_at "v"
      rw [decide_eq_true rfl]
      walk_at "v"
      refine ⟨_, _, _, _, rfl, rfl, SqT.of (s13 _ _ hT), atI_int (j := 0) rfl rfl, ?_⟩
      refine ⟨_, rfl, .yes xL ⟨by omega, fun H14 s14 => ?_⟩⟩
      rw [red_id xL xn]
      walk_at "v"
      have s14 := s13.trans s14
      refine ⟨_, _, _, _, rfl, rfl, SqT.of (s14 _ _ hT), atI_int (j := 0) rfl rfl, ?_⟩
      refine ⟨rfl, ?_⟩
      walk_at "v"
      rw [decide_eq_true rfl]
      walk_at "v"
      refine ⟨_, _, _, _, rfl, rfl, SqT.of (s14 _ _ hT), atI_int (j := 0) rfl rfl, ?_⟩
      have rx : red x = x := red_id xL xn
      refine ⟨_, rfl, .yes xL ⟨by omega, fun z => absurd (rx.symm.trans z) x0, fun _ a' p' t' H15 ca' st' pe' s15 _ ht' => ?_⟩⟩
      rw [rx] at ca' st' pe' ht'
      have ea := cut_one ca' st' cx sx
      subst ea
      rw [xm] at pe' ht'
      have ep := xp _ pe'
      subst ep
      have e1 : x.take a' ++ ((mid t0 a').take p').take p' ++ inv (x.take a') = x := by
        rw [xa, List.take_take, Nat.min_self]; exact ex.symm
      have e2 : (((mid t0 a').take p').length / p' : Nat) = 1 := by rw [ul]; exact Nat.div_self pe.1
      rw [e1, e2] at ht'
      walk_at "v"
      have s15 := s14.trans s15
      refine ⟨_, _, _, _, rfl, rfl, SqT.of (s15 _ _ hT), atI_int (j := 0) rfl rfl, ?_⟩
      refine ⟨by walk_at "sz", fun t2 ht2 => ?_⟩
      refine eq_rts xL (upd_old ht' ht2) upd_same ?_
      exact ⟨rfl, s15.trans (Same.new ht2)⟩
/-- the law's own order -/
def sp_is_earlier : Sp := fun vs H Q _ => ∃ l m : List Nat, vs = [.str (S l), .str (S m)] ∧ Ls l ∧ Ls m ∧ l.length ≤ 1000 ∧ m.length ≤ 1000 ∧ ∀ H', Same H H' → Q (.bl (earl l m)) H'
theorem ok_is_earlier (T : Txt K mg A) : FnOk P w K mg base (CX P w) 1 A.a_is_earlier A.d_is_earlier ["_law_one", "_law_other"] (sp_is_earlier) := by
  refine T.F_is_earlier.okX sc_is_earlier (fun vs H Q E h => ?_) (fun cdv Ar outer s H vs Q E hr h => ?_)
  · obtain ⟨_, _, rfl, _⟩ := h
    rfl
  · obtain ⟨l, m, rfl, hl, hm, lz, mz, q⟩ := h
    refine ⟨_, (pss_cons (ps_if (pt_cmpR op_ne (pe_callB clenS (by rfl) T.m_len bt_len (pa_cons (pv 0) pa_nil)) (pe_callB clenS (by rfl) T.m_len bt_len (pa_cons (pv 1) pa_nil)) (nomark _)) (pss_one (ps_ret (pe_cmpR op_lt (pe_callB clenS (by rfl) T.m_len bt_len (pa_cons (pv 0) pa_nil)) (pe_callB clenS (by rfl) T.m_len bt_len (pa_cons (pv 1) pa_nil)) (nomark _)))) pss_nil)
      (pss_cons (ps_set (i := 2) sc_is_earlier.nd rfl (Or.inl rfl) pe_str)
      (pss_cons (ps_for (passes_of rfl) rfl (pi_range1 (by rfl) T.m_range (pa_cons (pe_callB clenS (by rfl) T.m_len bt_len (pa_cons (pv 0) pa_nil)) pa_nil)) (pg_name (i := 3) sc_is_earlier.nd rfl (Or.inl rfl)) (pss_one (ps_if (pt_cmpR op_ne (pe_ix ix_str (pv 0) (pv 3) (fun _ _ => rfl)) (pe_ix ix_str (pv 1) (pv 3) (fun _ _ => rfl)) (nomark _)) (pss_one (ps_ret (pe_cmpR op_lt (pbm (K := K) rfl PySem.F.plainAttrs_str PySem.F.slot_str_find PySem.F.type_str_find mt_find (pv 2) (pa_cons (pe_ix ix_str (pv 0) (pv 3) (fun _ _ => rfl)) pa_nil)) (pbm (K := K) rfl PySem.F.plainAttrs_str PySem.F.slot_str_find PySem.F.type_str_find mt_find (pv 2) (pa_cons (pe_ix ix_str (pv 1) (pv 3) (fun _ _ => rfl)) pa_nil)) (nomark _)))) pss_nil)))
      (pss_one (ps_ret pe_bl))))), ?_⟩
    have ls : (S l).length ≤ sizeLine := by rw [S_len]; exact Nat.le_trans lz (by decide)
    have ms : (S m).length ≤ sizeLine := by rw [S_len]; exact Nat.le_trans mz (by decide)
    walk_at "v"
    refine ⟨_, rfl, ls, ?_⟩
    rw [S_len]
    walk_at "v"
    refine ⟨_, rfl, ms, ?_⟩
    rw [S_len]
    refine ⟨rfl, ?_⟩
    walk_at "v"
    rw [dec_ints]
    refine iteB (fun e => ?_) (fun e => ?_)
    · have ne : l.length ≠ m.length := fun z => by rw [z] at e; simp at e
      walk_at "v"
      refine ⟨_, rfl, ls, ?_⟩
      rw [S_len]
      walk_at "v"
      refine ⟨_, rfl, ms, ?_⟩
      rw [S_len]
      walk_at "ii"
      have e2 : decide ((l.length : Int) < (m.length : Nat)) = earl l m := by
        rw [earl_len ne]
        by_cases z : l.length < m.length
        · rw [decide_eq_true z, decide_eq_true (by omega)]
        · rw [decide_eq_false z, decide_eq_false (by omega)]
      have q2 := q H (Same.refl _)
      rw [← e2] at q2
      exact q2
    · have en : l.length = m.length := Int.ofNat.inj (by simpa using e)
      walk_at "v"
      refine ⟨_, rfl, ls, ?_⟩
      rw [S_len]
      refine ⟨_, rfl, by omega, by omega, for_range (n := l.length) (fun i σ' H' => ∃ y3, σ' = [some (.str (S l)), some (.str (S m)), some (.str LETS), y3] ∧ Same H H' ∧ earl l m = lexI ((l.drop i).map posL) ((m.drop i).map posL)) ⟨none, rfl, Same.refl _, earl_same en⟩ ?_ ?_⟩
      · rintro i σ' H1 hi ⟨y3, rfl, s1, inv⟩
        have hx : l[i]? = some l[i] := List.getElem?_eq_getElem hi
        have hy : m[i]? = some m[i] := List.getElem?_eq_getElem (by omega)
        have hxL := hl _ (List.mem_of_getElem? hx)
        have hyL := hm _ (List.mem_of_getElem? hy)
        rw [drop_at hx, drop_at hy, List.map_cons, List.map_cons] at inv
        generalize l[i] = x at hx hxL inv
        generalize m[i] = y at hy hyL inv
        rw [Int.zero_add]
        walk_at "v"; walk_at "v"
        refine ⟨_, _, _, rfl, rfl, ls, atI_int (j := i) rfl (by rw [S_list]; exact hx), ?_⟩
        walk_at "v"; walk_at "v"
        refine ⟨_, _, _, rfl, rfl, ms, atI_int (j := i) rfl (by rw [S_list]; exact hy), ?_⟩
        refine ⟨rfl, ?_⟩
        walk_at "v"
        have e2 : decide (V.str ({ cps := #[x] } : Str) = V.str ({ cps := #[y] } : Str)) = decide (x = y) := by
          have := dec_eq (a := [x]) (b := [y])
          simp only [List.cons.injEq, and_true] at this
          exact this
        rw [e2]
        refine iteB (fun e3 => ?_) (fun e3 => ?_)
        · have nxy : x ≠ y := fun z => by rw [z] at e3; simp at e3
          have npos : posL x ≠ posL y := fun z => nxy (posL_inj hxL hyL z)
          rw [lexI_ne npos] at inv
          have fx : Txt.find LETS ({ cps := #[x] } : Str) = posL x := find_let x (by unfold RB.IsL at hxL; omega) hxL
          have fy : Txt.find LETS ({ cps := #[y] } : Str) = posL y := find_let y (by unfold RB.IsL at hyL; omega) hyL
          walk_at "v"
          refine ⟨rfl, ?_⟩
          walk_at "v"; walk_at "v"
          refine ⟨_, _, _, rfl, rfl, ls, atI_int (j := i) rfl (by rw [S_list]; exact hx), ?_⟩
          refine ⟨_, _, rfl, rfl, ?_⟩
          walk_at "v"
          refine ⟨rfl, ?_⟩
          walk_at "v"; walk_at "v"
          refine ⟨_, _, _, rfl, rfl, ms, atI_int (j := i) rfl (by rw [S_list]; exact hy), ?_⟩
          refine ⟨_, _, rfl, rfl, ?_⟩
          rw [fx, fy]
          walk_at "ii"
          have := q H1 s1
          rw [inv] at this
          exact this
        · have exy : x = y := by simpa using e3
          rw [exy, lexI_same] at inv
          exact ⟨_, rfl, s1, inv⟩
      · rintro σ' H1 ⟨y3, rfl, s1, inv⟩
        rw [List.drop_length, en, List.drop_length, List.map_nil, lexI_nil] at inv
        have := q H1 s1
        rw [inv] at this
        exact this
theorem a_is : (Str.ofString "a" : Str) = S [97] := by decide +kernel
def sp_law (K : PySem.W.Frag) : Sp := fun vs H Q _ => ∃ (a : Addr) (ns : List Int), vs = [.ref a] ∧ SqL K H a (ns.map V.int) ∧ ns.length ≤ 63 ∧ ∀ H', Q (.bl true) H'
theorem hsp (K : PySem.W.Frag) (H : Hp) (a : Addr) (ns : List Int) (hl : ns.length ≤ 63) (_ : Only H) (hS : SqL K H a (ns.map V.int)) : sp_law K [.ref a] H (fun v _ => v = .bl true) fun _ _ _ => False :=
  ⟨a, ns, rfl, hS, hl, fun _ => rfl⟩
theorem ok_law (T : Txt K mg A) : FnOk P w K mg base (CX P w) 7 A.a_law A.d_law ["_law_script"] (sp_law K) := by
  refine T.F_law.okX sc_law (fun vs H Q E h => ?_) (fun cdv Ar outer s H vs Q E hr h => ?_)
  · obtain ⟨_, _, rfl, _⟩ := h
    rfl
  · obtain ⟨a, ns, rfl, hS, hlen, q⟩ := h
    refine ⟨_, (pss_cons (ps_set (i := 1) sc_law.nd rfl (Or.inr rfl) (pe_call (ok_hand T) (hr.mono (by decide)) (by rfl) T.g_hand T.F_hand.kp T.b_hand .nil passF (pa_cons (pv 0) pa_nil)))
      (pss_cons (ps_set (i := 2) sc_law.nd rfl (Or.inr rfl) (pe_call (ok_deeds T) (hr.mono (by decide)) (by rfl) T.g_deeds T.F_deeds.kp T.b_deeds .nil passF (pa_cons (pv 1) (pa_cons pe_int pa_nil))))
      (pss_cons (ps_for (passes_of rfl) rfl (pi_range1 (by rfl) T.m_range (pa_cons pe_int pa_nil)) (pg_name (i := 3) sc_law.nd rfl (Or.inl rfl)) (pss_one (ps_if (pt_not (pt_val (pe_call (ok_roots_right T) hr (by rfl) T.g_roots_right T.F_roots_right.kp T.b_roots_right .nil (passes_call (takes_of rfl rfl rfl rfl) (fun _ _ _ _ h => h)) (pa_cons (pv 1) (pa_cons (pv 2) pa_nil))))) (pss_one (ps_ret pe_bl)) pss_nil)))
      (pss_cons (ps_set (i := 4) sc_law.nd rfl (Or.inr rfl) (pe_call (ok_row T) (hr.mono (by decide)) (by rfl) T.g_row T.F_row.kp T.b_row .nil passF (pa_cons (pv 1) (pa_cons (pv 2) (pa_cons (pe_call (ok_draw T) (hr.mono (by decide)) (by rfl) T.g_draw T.F_draw.kp T.b_draw .nil passF (pa_cons (pv 1) (pa_cons pe_int pa_nil))) pa_nil)))))
      (pss_cons (ps_setLc (i := 5) (own := [("_law_turn", 3)]) (tt := tYes) rfl sc_law.nd rfl rfl (sw_true rfl rfl rfl (by decide +kernel)) (pi_range1 (by rfl) T.m_range (pa_cons pe_int pa_nil)) (blkOk_by (N := ["_law_script", "_law_hand_here", "_law_deeds_here", "_law_turn", "_law_begin", "_law_rows", "_law_one", "_law_other", "_law_told"]) (sc := defScope s_law) (by decide +kernel)) (fun _ _ _ _ _ => (pg_name (i := 3) sc_law.nd rfl (Or.inl rfl))) (fun _ _ _ _ _ => pts_nil) (fun _ _ _ _ _ => (pe_op op_add_str (pv 4) (pe_call (ok_row T) (hr.mono (by decide)) (by rfl) T.g_row T.F_row.kp T.b_row .nil passF (pa_cons (pv 1) (pa_cons (pv 2) (pa_cons (pe_call (ok_draw T) (hr.mono (by decide)) (by rfl) T.g_draw T.F_draw.kp T.b_draw .nil passF (pa_cons (pv 1) (pa_cons pe_int pa_nil))) pa_nil)))))))
      (pss_cons (ps_for (passes_of rfl) rfl (piL (K := K) rfl (pv 5)) (pg_name (i := 6) sc_law.nd rfl (Or.inl rfl)) (pss_one (ps_for (passes_of rfl) rfl (piL (K := K) rfl (pv 5)) (pg_name (i := 7) sc_law.nd rfl (Or.inl rfl)) (pss_cons (ps_set (i := 8) sc_law.nd rfl (Or.inl rfl) (pe_call (ok_earlier T) (hr.mono (by decide)) (by rfl) T.g_earlier T.F_earlier.kp T.b_earlier .nil (passes_call (takes_of rfl rfl rfl rfl) (fun _ _ _ _ h => h)) (pa_cons (pv 6) (pa_cons (pv 7) pa_nil))))
      (pss_one (ps_if (pt_mid (PW.pt (pw_or (pt_not (pt_val (pe_callB (cisi (K := K) rfl) (by rfl) T.m_isinstance bt_isinstance (pa_cons (pv 8) (pa_cons (pe_bltn (v := .ty "bool") (by rfl) T.m_bool bt_bool rfl) pa_nil))))) (pw_or1 (pt_cmpR op_ne (pv 8) (pe_call (ok_is_earlier T) (hr.mono (by decide)) (by rfl) T.g_is_earlier T.F_is_earlier.kp T.b_is_earlier .nil passF (pa_cons (pv 6) (pa_cons (pv 7) pa_nil))) (nomark _)))))) (pss_one (ps_ret pe_bl)) pss_nil))))))
      (pss_one (ps_ret (pe_cmpR (eqD (K := K) rfl hr.units) (pe_call (ok_root T) (hr.mono (by decide)) (by rfl) T.g_root T.F_root.kp T.b_root .nil (passes_call (takes_of rfl rfl rfl rfl) (fun _ _ _ _ h => h)) (pa_cons pe_str pa_nil)) (pe_tup (pa_cons pe_str (pa_cons pe_int pa_nil))) (nomark _)))))))))), ?_⟩
    rw [a_is]
    walk_at "v"
    refine ⟨a, ns, rfl, hS, hlen, fun h c H0 _ s0 hH => ?_⟩
    walk_at "v"
    refine ⟨h, c, 3, rfl, hH, by decide, by decide, fun d H1 hd d0 dz g1 => ?_⟩
    refine ⟨3, rfl, by decide, by decide, for_range (n := 3) (fun i σ' H' => ∃ y3, σ' = [some (.ref a), some (.ref h), some (.str (S d)), y3, none, none, none, none, none] ∧ Hand H' h c) ⟨none, rfl, g1.2⟩ ?_ ?_⟩
    · rintro i σ' H2 hi ⟨y3, rfl, g2⟩
      walk_at "v"; walk_at "v"
      refine ⟨h, c, d, rfl, g2, hd.L, d0, by omega, fun H3 g3 => ?_⟩
      walk_at "v"
      exact ⟨_, rfl, g3.2⟩
    rintro σ' H2 ⟨y3, rfl, g2⟩
    walk_at "v"; walk_at "v"; walk_at "v"
    refine ⟨h, c, 4, rfl, g2, by decide, by decide, fun n0 H3 n00 n01 g3 => ?_⟩
    obtain ⟨n, rfl⟩ : ∃ n : Nat, n0 = n := ⟨n0.toNat, by omega⟩
    refine ⟨h, c, d, n, rfl, g3.2, hd.L, d0, by omega, by omega, fun b H4 eb hb _ g4 => ?_⟩
    have g4 := g4.2
    refine ⟨6, rfl, by decide, by decide, fun D hD => ?_⟩
    refine lc_range (Pv := fun i H' => ∃ ls : List (List Nat), ls.length = i ∧ (∀ l ∈ ls, Ls l ∧ l.length ≤ 6) ∧ Go h c H4 H' ∧ H' D = some (.lst (ls.map fun l => V.str (S l)))) ⟨[], rfl, all_n, Go.new g4 hD, upd_same⟩ ?_ ?_
    · rintro i H5 hi ⟨ls, el, hls, g5, h5⟩
      have hi' : i < 6 := by simpa using hi
      refine ⟨rfl, ?_⟩
      walk_at "v"; walk_at "v"; walk_at "v"; walk_at "v"
      refine ⟨h, c, 3, rfl, g5.2, by decide, by decide, fun m0 H6 m00 m01 g6 => ?_⟩
      obtain ⟨m, rfl⟩ : ∃ m : Nat, m0 = m := ⟨m0.toNat, by omega⟩
      refine ⟨h, c, d, m, rfl, g6.2, hd.L, d0, by omega, by omega, fun r H7 er hr _ g7 => ?_⟩
      refine ⟨_, _, rfl, rfl, by rw [S_len, S_len]; exact Nat.le_trans (by omega : _ ≤ 1000) (by decide), ?_⟩
      rw [S_app]
      have g67 := g6.trans g7
      have h7 := g67.1 _ _ (g4.ne hD).1 h5
      refine ⟨_, h7, ?_, ls ++ [b ++ r], by rw [List.length_append, el]; rfl, ?_, (g5.trans g67).put g4 hD, ?_⟩
      · rw [List.length_map]; exact Nat.lt_of_le_of_lt (by omega : _ ≤ 1000) (by decide)
      · intro l hl
        rcases List.mem_append.mp hl with z | z
        · exact hls l z
        · rw [List.mem_singleton.mp z]; exact ⟨hb.app hr, by rw [List.length_append]; omega⟩
      · rw [upd_same, List.map_append]; rfl
    · rintro H5 ⟨ls, el, hls, g5, h5⟩
      have y : SqL K H5 D (ls.map fun l => V.str (S l)) := SqL.of h5
      walk_at "v"
      refine ⟨D, rfl, ⟨_, y⟩, for_list (K := K) (xs := ls.map fun l => V.str (S l)) (fun i σ' H' => ∃ y3 y6 y7 y8, σ' = [some (.ref a), some (.ref h), some (.str (S d)), y3, some (.str (S b)), some (.ref D), y6, y7, y8] ∧ Same H5 H') ⟨_, none, none, none, rfl, Same.refl _⟩ (fun i σ' H' _ z => by obtain ⟨_, _, _, _, _, s⟩ := z; exact SqL.of (s _ _ h5)) ?_ ?_⟩
      · rintro i x σ' H6 hx ⟨y3, y6, y7, y8, rfl, s6⟩
        obtain ⟨l, hl, rfl⟩ := List.mem_map.mp (List.mem_of_getElem? hx)
        obtain ⟨hlL, hlz⟩ := hls l hl
        walk_at "v"
        refine ⟨D, rfl, ⟨_, SqL.of (s6 _ _ h5)⟩, for_list (K := K) (xs := ls.map fun l => V.str (S l)) (fun i σ' H' => ∃ y7 y8, σ' = [some (.ref a), some (.ref h), some (.str (S d)), y3, some (.str (S b)), some (.ref D), some (.str (S l)), y7, y8] ∧ Same H5 H') ⟨y7, y8, rfl, s6⟩ (fun i σ' H' _ z => by obtain ⟨_, _, _, s⟩ := z; exact SqL.of (s _ _ h5)) ?_ ?_⟩
        · rintro i x2 σ' H7 hx2 ⟨y7, y8, rfl, s7⟩
          obtain ⟨m, hm, rfl⟩ := List.mem_map.mp (List.mem_of_getElem? hx2)
          obtain ⟨hmL, hmz⟩ := hls m hm
          walk_at "v"; walk_at "v"
          refine ⟨_, _, rfl, .yes hlL (.yes hmL ⟨by omega, by omega, fun H8 s8 => ?_⟩)⟩
          refine ⟨fun b' H' => b' = false ∧ Same H8 H', ?_, ?_⟩
          · walk_at "v"
            refine ⟨_, _, _, _, _, rfl, .ty _, .base (.bl _), (kit_ty (by decide +kernel) : PySem.W.kitOne _ (.type "bool") (.type "bool") = some true), ?_⟩
            walk_at "v"
            walk_at "v"; walk_at "v"; walk_at "v"
            refine ⟨l, m, rfl, hlL, hmL, by omega, by omega, fun H9 s9 => ?_⟩
            refine ⟨rfl, ?_⟩
            walk_at "v"
            rw [ne_self]
            exact ⟨rfl, s9⟩
          · rintro b' H9 ⟨rfl, s9⟩
            exact ⟨_, _, rfl, (s7.trans s8).trans s9⟩
        · rintro σ' H7 ⟨y7, y8, rfl, s7⟩
          exact ⟨_, _, _, _, rfl, s7⟩
      · rintro σ' H6 ⟨y3, y6, y7, y8, rfl, s6⟩
        have aL : Ls [97] := by intro c hc; rw [List.mem_singleton.mp hc]; exact .inr ⟨by decide, by decide⟩
        have ar : red [97] = [97] := rfl
        refine ⟨_, rfl, .yes aL ⟨by decide, (fun z => nomatch z), fun _ a' p' t' H7 ca st pe s7 _ ht => ?_⟩⟩
        rw [ar] at ca st pe ht
        have a0 : a' = 0 := by have := ca.small; simp at this; omega
        subst a0
        have m0 : mid [97] 0 = [97] := rfl
        rw [m0] at pe ht
        have p1 : p' = 1 := by have h1 := pe.1; have h2 := pe.2.1.2; simp at h2; omega
        subst p1
        refine ⟨by walk_at "sz", fun t2 ht2 => ?_⟩
        refine eq_rts aL (i := 1) (upd_old ht ht2) upd_same ?_
        exact q _
end
theorem all_mk {l : PySem.W.OpenLaw} {w : World} {K : PySem.W.Frag} {h : Heap} {mg : Str → Option Value} {fa : Addr} (X : K.In h) (G : h.Ns mainGlobals mg) (hfa : mg "law" = some (.ref fa))
    {f_NoRow_init f_NoNumber_init f_NoRoot_init f_is_integer f_is_integer_within f_is_row f_undoings f_reduced f_split_net f_repeated_net f_root_of_net f_place_in_order f_net f_power f_earlier f_root f_demand_row f_hand f_draw f_undoing f_back f_lnet f_deeds f_row f_lroot f_is_earlier f_asked f_roots_right f_law C_RunsError C_NoRow C_NoNumber C_NoRoot : Addr}
    {od_NoRow_init an_NoRow_init od_NoNumber_init an_NoNumber_init od_NoRoot_init an_NoRoot_init od_is_integer an_is_integer od_is_integer_within an_is_integer_within od_is_row an_is_row od_undoings an_undoings od_reduced an_reduced od_split_net an_split_net od_repeated_net an_repeated_net od_root_of_net an_root_of_net od_place_in_order an_place_in_order od_net an_net od_power an_power od_earlier an_earlier od_root an_root od_demand_row an_demand_row od_hand an_hand od_draw an_draw od_undoing an_undoing od_back an_back od_lnet an_lnet od_deeds an_deeds od_row an_row od_lroot an_lroot od_is_earlier an_is_earlier od_asked an_asked od_roots_right an_roots_right od_law an_law : Option Addr}
    {sl_NoRow_init sl_NoNumber_init sl_NoRoot_init sl_is_integer sl_is_integer_within sl_is_row sl_undoings sl_reduced sl_split_net sl_repeated_net sl_root_of_net sl_place_in_order sl_net sl_power sl_earlier sl_root sl_demand_row sl_hand sl_draw sl_undoing sl_back sl_lnet sl_deeds sl_row sl_lroot sl_is_earlier sl_asked sl_roots_right sl_law : Array (Option Value)}
    {oc_NoRow_init kV_NoRow_init dc_NoRow_init pm_NoRow_init cd_NoRow_init ct_NoRow_init oc_NoNumber_init kV_NoNumber_init dc_NoNumber_init pm_NoNumber_init cd_NoNumber_init ct_NoNumber_init oc_NoRoot_init kV_NoRoot_init dc_NoRoot_init pm_NoRoot_init cd_NoRoot_init ct_NoRoot_init oc_is_integer kV_is_integer dc_is_integer pm_is_integer cd_is_integer ct_is_integer oc_is_integer_within kV_is_integer_within dc_is_integer_within pm_is_integer_within cd_is_integer_within ct_is_integer_within oc_is_row kV_is_row dc_is_row pm_is_row cd_is_row ct_is_row oc_undoings kV_undoings dc_undoings pm_undoings cd_undoings ct_undoings oc_reduced kV_reduced dc_reduced pm_reduced cd_reduced ct_reduced oc_split_net kV_split_net dc_split_net pm_split_net cd_split_net ct_split_net oc_repeated_net kV_repeated_net dc_repeated_net pm_repeated_net cd_repeated_net ct_repeated_net oc_root_of_net kV_root_of_net dc_root_of_net pm_root_of_net cd_root_of_net ct_root_of_net oc_place_in_order kV_place_in_order dc_place_in_order pm_place_in_order cd_place_in_order ct_place_in_order oc_net kV_net dc_net pm_net cd_net ct_net oc_power kV_power dc_power pm_power cd_power ct_power oc_earlier kV_earlier dc_earlier pm_earlier cd_earlier ct_earlier oc_root kV_root dc_root pm_root cd_root ct_root oc_demand_row kV_demand_row dc_demand_row pm_demand_row cd_demand_row ct_demand_row oc_hand kV_hand dc_hand pm_hand cd_hand ct_hand oc_draw kV_draw dc_draw pm_draw cd_draw ct_draw oc_undoing kV_undoing dc_undoing pm_undoing cd_undoing ct_undoing oc_back kV_back dc_back pm_back cd_back ct_back oc_lnet kV_lnet dc_lnet pm_lnet cd_lnet ct_lnet oc_deeds kV_deeds dc_deeds pm_deeds cd_deeds ct_deeds oc_row kV_row dc_row pm_row cd_row ct_row oc_lroot kV_lroot dc_lroot pm_lroot cd_lroot ct_lroot oc_is_earlier kV_is_earlier dc_is_earlier pm_is_earlier cd_is_earlier ct_is_earlier oc_asked kV_asked dc_asked pm_asked cd_asked ct_asked oc_roots_right kV_roots_right dc_roots_right pm_roots_right cd_roots_right ct_roots_right oc_law kV_law dc_law pm_law cd_law ct_law : Value}
    (a_is_integer : PySem.W.nsIn K mainGlobals "is_integer" = some (some (.ref f_is_integer)))
    (a_is_integer_within : PySem.W.nsIn K mainGlobals "is_integer_within" = some (some (.ref f_is_integer_within)))
    (a_is_row : PySem.W.nsIn K mainGlobals "is_row" = some (some (.ref f_is_row)))
    (a_undoings : PySem.W.nsIn K mainGlobals "undoings" = some (some (.ref f_undoings)))
    (a_reduced : PySem.W.nsIn K mainGlobals "reduced" = some (some (.ref f_reduced)))
    (a_split_net : PySem.W.nsIn K mainGlobals "split_net" = some (some (.ref f_split_net)))
    (a_repeated_net : PySem.W.nsIn K mainGlobals "repeated_net" = some (some (.ref f_repeated_net)))
    (a_root_of_net : PySem.W.nsIn K mainGlobals "root_of_net" = some (some (.ref f_root_of_net)))
    (a_place_in_order : PySem.W.nsIn K mainGlobals "place_in_order" = some (some (.ref f_place_in_order)))
    (a_net : PySem.W.nsIn K mainGlobals "net" = some (some (.ref f_net)))
    (a_power : PySem.W.nsIn K mainGlobals "power" = some (some (.ref f_power)))
    (a_earlier : PySem.W.nsIn K mainGlobals "earlier" = some (some (.ref f_earlier)))
    (a_root : PySem.W.nsIn K mainGlobals "root" = some (some (.ref f_root)))
    (a_demand_row : PySem.W.nsIn K mainGlobals "demand_row" = some (some (.ref f_demand_row)))
    (a_hand : PySem.W.nsIn K mainGlobals "_law_hand" = some (some (.ref f_hand)))
    (a_draw : PySem.W.nsIn K mainGlobals "_law_draw" = some (some (.ref f_draw)))
    (a_undoing : PySem.W.nsIn K mainGlobals "_law_undoing" = some (some (.ref f_undoing)))
    (a_back : PySem.W.nsIn K mainGlobals "_law_back" = some (some (.ref f_back)))
    (a_lnet : PySem.W.nsIn K mainGlobals "_law_net" = some (some (.ref f_lnet)))
    (a_deeds : PySem.W.nsIn K mainGlobals "_law_deeds" = some (some (.ref f_deeds)))
    (a_row : PySem.W.nsIn K mainGlobals "_law_row" = some (some (.ref f_row)))
    (a_lroot : PySem.W.nsIn K mainGlobals "_law_root" = some (some (.ref f_lroot)))
    (a_is_earlier : PySem.W.nsIn K mainGlobals "_law_is_earlier" = some (some (.ref f_is_earlier)))
    (a_asked : PySem.W.nsIn K mainGlobals "_law_asked" = some (some (.ref f_asked)))
    (a_roots_right : PySem.W.nsIn K mainGlobals "_law_roots_right" = some (some (.ref f_roots_right)))
    (a_law : PySem.W.nsIn K mainGlobals "law" = some (some (.ref f_law)))
    (aC_RunsError : PySem.W.nsIn K mainGlobals "RunsError" = some (some (.ref C_RunsError)))
    (aC_NoRow : PySem.W.nsIn K mainGlobals "NoRow" = some (some (.ref C_NoRow)))
    (aC_NoNumber : PySem.W.nsIn K mainGlobals "NoNumber" = some (some (.ref C_NoNumber)))
    (aC_NoRoot : PySem.W.nsIn K mainGlobals "NoRoot" = some (some (.ref C_NoRoot)))
    (i_NoRow : PySem.W.findIn K (.ref C_NoRow) "__init__" = some (some (.ref f_NoRow_init)))
    (i_NoNumber : PySem.W.findIn K (.ref C_NoNumber) "__init__" = some (some (.ref f_NoNumber_init)))
    (i_NoRoot : PySem.W.findIn K (.ref C_NoRoot) "__init__" = some (some (.ref f_NoRoot_init)))
    (l_NoRow_init : K.lookup f_NoRow_init = some ⟨oc_NoRow_init, od_NoRow_init, .func (PySem.W.fnOf "__init__" "NoRow.__init__" (defArgs s_NoRow_init) (defBody s_NoRow_init) (defScope s_NoRow_init) .none kV_NoRow_init dc_NoRow_init pm_NoRow_init an_NoRow_init cd_NoRow_init ct_NoRow_init), sl_NoRow_init⟩)
    (c_NoRow_init : PySem.W.codeIn K cd_NoRow_init "NoRow.__init__" = true)
    (k_NoRow_init : PySem.W.keepIn K (.ref f_NoRow_init) = true)
    (l_NoNumber_init : K.lookup f_NoNumber_init = some ⟨oc_NoNumber_init, od_NoNumber_init, .func (PySem.W.fnOf "__init__" "NoNumber.__init__" (defArgs s_NoNumber_init) (defBody s_NoNumber_init) (defScope s_NoNumber_init) .none kV_NoNumber_init dc_NoNumber_init pm_NoNumber_init an_NoNumber_init cd_NoNumber_init ct_NoNumber_init), sl_NoNumber_init⟩)
    (c_NoNumber_init : PySem.W.codeIn K cd_NoNumber_init "NoNumber.__init__" = true)
    (k_NoNumber_init : PySem.W.keepIn K (.ref f_NoNumber_init) = true)
    (l_NoRoot_init : K.lookup f_NoRoot_init = some ⟨oc_NoRoot_init, od_NoRoot_init, .func (PySem.W.fnOf "__init__" "NoRoot.__init__" (defArgs s_NoRoot_init) (defBody s_NoRoot_init) (defScope s_NoRoot_init) .none kV_NoRoot_init dc_NoRoot_init pm_NoRoot_init an_NoRoot_init cd_NoRoot_init ct_NoRoot_init), sl_NoRoot_init⟩)
    (c_NoRoot_init : PySem.W.codeIn K cd_NoRoot_init "NoRoot.__init__" = true)
    (k_NoRoot_init : PySem.W.keepIn K (.ref f_NoRoot_init) = true)
    (l_is_integer : K.lookup f_is_integer = some ⟨oc_is_integer, od_is_integer, .func (PySem.W.fnOf "is_integer" "is_integer" (defArgs s_is_integer) (defBody s_is_integer) (defScope s_is_integer) .none kV_is_integer dc_is_integer pm_is_integer an_is_integer cd_is_integer ct_is_integer), sl_is_integer⟩)
    (c_is_integer : PySem.W.codeIn K cd_is_integer "is_integer" = true)
    (k_is_integer : PySem.W.keepIn K (.ref f_is_integer) = true)
    (l_is_integer_within : K.lookup f_is_integer_within = some ⟨oc_is_integer_within, od_is_integer_within, .func (PySem.W.fnOf "is_integer_within" "is_integer_within" (defArgs s_is_integer_within) (defBody s_is_integer_within) (defScope s_is_integer_within) .none kV_is_integer_within dc_is_integer_within pm_is_integer_within an_is_integer_within cd_is_integer_within ct_is_integer_within), sl_is_integer_within⟩)
    (c_is_integer_within : PySem.W.codeIn K cd_is_integer_within "is_integer_within" = true)
    (k_is_integer_within : PySem.W.keepIn K (.ref f_is_integer_within) = true)
    (l_is_row : K.lookup f_is_row = some ⟨oc_is_row, od_is_row, .func (PySem.W.fnOf "is_row" "is_row" (defArgs s_is_row) (defBody s_is_row) (defScope s_is_row) .none kV_is_row dc_is_row pm_is_row an_is_row cd_is_row ct_is_row), sl_is_row⟩)
    (c_is_row : PySem.W.codeIn K cd_is_row "is_row" = true)
    (k_is_row : PySem.W.keepIn K (.ref f_is_row) = true)
    (l_undoings : K.lookup f_undoings = some ⟨oc_undoings, od_undoings, .func (PySem.W.fnOf "undoings" "undoings" (defArgs s_undoings) (defBody s_undoings) (defScope s_undoings) .none kV_undoings dc_undoings pm_undoings an_undoings cd_undoings ct_undoings), sl_undoings⟩)
    (c_undoings : PySem.W.codeIn K cd_undoings "undoings" = true)
    (k_undoings : PySem.W.keepIn K (.ref f_undoings) = true)
    (l_reduced : K.lookup f_reduced = some ⟨oc_reduced, od_reduced, .func (PySem.W.fnOf "reduced" "reduced" (defArgs s_reduced) (defBody s_reduced) (defScope s_reduced) .none kV_reduced dc_reduced pm_reduced an_reduced cd_reduced ct_reduced), sl_reduced⟩)
    (c_reduced : PySem.W.codeIn K cd_reduced "reduced" = true)
    (k_reduced : PySem.W.keepIn K (.ref f_reduced) = true)
    (l_split_net : K.lookup f_split_net = some ⟨oc_split_net, od_split_net, .func (PySem.W.fnOf "split_net" "split_net" (defArgs s_split_net) (defBody s_split_net) (defScope s_split_net) .none kV_split_net dc_split_net pm_split_net an_split_net cd_split_net ct_split_net), sl_split_net⟩)
    (c_split_net : PySem.W.codeIn K cd_split_net "split_net" = true)
    (k_split_net : PySem.W.keepIn K (.ref f_split_net) = true)
    (l_repeated_net : K.lookup f_repeated_net = some ⟨oc_repeated_net, od_repeated_net, .func (PySem.W.fnOf "repeated_net" "repeated_net" (defArgs s_repeated_net) (defBody s_repeated_net) (defScope s_repeated_net) .none kV_repeated_net dc_repeated_net pm_repeated_net an_repeated_net cd_repeated_net ct_repeated_net), sl_repeated_net⟩)
    (c_repeated_net : PySem.W.codeIn K cd_repeated_net "repeated_net" = true)
    (k_repeated_net : PySem.W.keepIn K (.ref f_repeated_net) = true)
    (l_root_of_net : K.lookup f_root_of_net = some ⟨oc_root_of_net, od_root_of_net, .func (PySem.W.fnOf "root_of_net" "root_of_net" (defArgs s_root_of_net) (defBody s_root_of_net) (defScope s_root_of_net) .none kV_root_of_net dc_root_of_net pm_root_of_net an_root_of_net cd_root_of_net ct_root_of_net), sl_root_of_net⟩)
    (c_root_of_net : PySem.W.codeIn K cd_root_of_net "root_of_net" = true)
    (k_root_of_net : PySem.W.keepIn K (.ref f_root_of_net) = true)
    (l_place_in_order : K.lookup f_place_in_order = some ⟨oc_place_in_order, od_place_in_order, .func (PySem.W.fnOf "place_in_order" "place_in_order" (defArgs s_place_in_order) (defBody s_place_in_order) (defScope s_place_in_order) .none kV_place_in_order dc_place_in_order pm_place_in_order an_place_in_order cd_place_in_order ct_place_in_order), sl_place_in_order⟩)
    (c_place_in_order : PySem.W.codeIn K cd_place_in_order "place_in_order" = true)
    (k_place_in_order : PySem.W.keepIn K (.ref f_place_in_order) = true)
    (l_net : K.lookup f_net = some ⟨oc_net, od_net, .func (PySem.W.fnOf "net" "net" (defArgs s_net) (defBody s_net) (defScope s_net) .none kV_net dc_net pm_net an_net cd_net ct_net), sl_net⟩)
    (c_net : PySem.W.codeIn K cd_net "net" = true)
    (k_net : PySem.W.keepIn K (.ref f_net) = true)
    (l_power : K.lookup f_power = some ⟨oc_power, od_power, .func (PySem.W.fnOf "power" "power" (defArgs s_power) (defBody s_power) (defScope s_power) .none kV_power dc_power pm_power an_power cd_power ct_power), sl_power⟩)
    (c_power : PySem.W.codeIn K cd_power "power" = true)
    (k_power : PySem.W.keepIn K (.ref f_power) = true)
    (l_earlier : K.lookup f_earlier = some ⟨oc_earlier, od_earlier, .func (PySem.W.fnOf "earlier" "earlier" (defArgs s_earlier) (defBody s_earlier) (defScope s_earlier) .none kV_earlier dc_earlier pm_earlier an_earlier cd_earlier ct_earlier), sl_earlier⟩)
    (c_earlier : PySem.W.codeIn K cd_earlier "earlier" = true)
    (k_earlier : PySem.W.keepIn K (.ref f_earlier) = true)
    (l_root : K.lookup f_root = some ⟨oc_root, od_root, .func (PySem.W.fnOf "root" "root" (defArgs s_root) (defBody s_root) (defScope s_root) .none kV_root dc_root pm_root an_root cd_root ct_root), sl_root⟩)
    (c_root : PySem.W.codeIn K cd_root "root" = true)
    (k_root : PySem.W.keepIn K (.ref f_root) = true)
    (l_demand_row : K.lookup f_demand_row = some ⟨oc_demand_row, od_demand_row, .func (PySem.W.fnOf "demand_row" "demand_row" (defArgs s_demand_row) (defBody s_demand_row) (defScope s_demand_row) .none kV_demand_row dc_demand_row pm_demand_row an_demand_row cd_demand_row ct_demand_row), sl_demand_row⟩)
    (c_demand_row : PySem.W.codeIn K cd_demand_row "demand_row" = true)
    (k_demand_row : PySem.W.keepIn K (.ref f_demand_row) = true)
    (l_hand : K.lookup f_hand = some ⟨oc_hand, od_hand, .func (PySem.W.fnOf "_law_hand" "_law_hand" (defArgs s_hand) (defBody s_hand) (defScope s_hand) .none kV_hand dc_hand pm_hand an_hand cd_hand ct_hand), sl_hand⟩)
    (c_hand : PySem.W.codeIn K cd_hand "_law_hand" = true)
    (k_hand : PySem.W.keepIn K (.ref f_hand) = true)
    (l_draw : K.lookup f_draw = some ⟨oc_draw, od_draw, .func (PySem.W.fnOf "_law_draw" "_law_draw" (defArgs s_draw) (defBody s_draw) (defScope s_draw) .none kV_draw dc_draw pm_draw an_draw cd_draw ct_draw), sl_draw⟩)
    (c_draw : PySem.W.codeIn K cd_draw "_law_draw" = true)
    (k_draw : PySem.W.keepIn K (.ref f_draw) = true)
    (l_undoing : K.lookup f_undoing = some ⟨oc_undoing, od_undoing, .func (PySem.W.fnOf "_law_undoing" "_law_undoing" (defArgs s_undoing) (defBody s_undoing) (defScope s_undoing) .none kV_undoing dc_undoing pm_undoing an_undoing cd_undoing ct_undoing), sl_undoing⟩)
    (c_undoing : PySem.W.codeIn K cd_undoing "_law_undoing" = true)
    (k_undoing : PySem.W.keepIn K (.ref f_undoing) = true)
    (l_back : K.lookup f_back = some ⟨oc_back, od_back, .func (PySem.W.fnOf "_law_back" "_law_back" (defArgs s_back) (defBody s_back) (defScope s_back) .none kV_back dc_back pm_back an_back cd_back ct_back), sl_back⟩)
    (c_back : PySem.W.codeIn K cd_back "_law_back" = true)
    (k_back : PySem.W.keepIn K (.ref f_back) = true)
    (l_lnet : K.lookup f_lnet = some ⟨oc_lnet, od_lnet, .func (PySem.W.fnOf "_law_net" "_law_net" (defArgs s_lnet) (defBody s_lnet) (defScope s_lnet) .none kV_lnet dc_lnet pm_lnet an_lnet cd_lnet ct_lnet), sl_lnet⟩)
    (c_lnet : PySem.W.codeIn K cd_lnet "_law_net" = true)
    (k_lnet : PySem.W.keepIn K (.ref f_lnet) = true)
    (l_deeds : K.lookup f_deeds = some ⟨oc_deeds, od_deeds, .func (PySem.W.fnOf "_law_deeds" "_law_deeds" (defArgs s_deeds) (defBody s_deeds) (defScope s_deeds) .none kV_deeds dc_deeds pm_deeds an_deeds cd_deeds ct_deeds), sl_deeds⟩)
    (c_deeds : PySem.W.codeIn K cd_deeds "_law_deeds" = true)
    (k_deeds : PySem.W.keepIn K (.ref f_deeds) = true)
    (l_row : K.lookup f_row = some ⟨oc_row, od_row, .func (PySem.W.fnOf "_law_row" "_law_row" (defArgs s_row) (defBody s_row) (defScope s_row) .none kV_row dc_row pm_row an_row cd_row ct_row), sl_row⟩)
    (c_row : PySem.W.codeIn K cd_row "_law_row" = true)
    (k_row : PySem.W.keepIn K (.ref f_row) = true)
    (l_lroot : K.lookup f_lroot = some ⟨oc_lroot, od_lroot, .func (PySem.W.fnOf "_law_root" "_law_root" (defArgs s_lroot) (defBody s_lroot) (defScope s_lroot) .none kV_lroot dc_lroot pm_lroot an_lroot cd_lroot ct_lroot), sl_lroot⟩)
    (c_lroot : PySem.W.codeIn K cd_lroot "_law_root" = true)
    (k_lroot : PySem.W.keepIn K (.ref f_lroot) = true)
    (l_is_earlier : K.lookup f_is_earlier = some ⟨oc_is_earlier, od_is_earlier, .func (PySem.W.fnOf "_law_is_earlier" "_law_is_earlier" (defArgs s_is_earlier) (defBody s_is_earlier) (defScope s_is_earlier) .none kV_is_earlier dc_is_earlier pm_is_earlier an_is_earlier cd_is_earlier ct_is_earlier), sl_is_earlier⟩)
    (c_is_earlier : PySem.W.codeIn K cd_is_earlier "_law_is_earlier" = true)
    (k_is_earlier : PySem.W.keepIn K (.ref f_is_earlier) = true)
    (l_asked : K.lookup f_asked = some ⟨oc_asked, od_asked, .func (PySem.W.fnOf "_law_asked" "_law_asked" (defArgs s_asked) (defBody s_asked) (defScope s_asked) .none kV_asked dc_asked pm_asked an_asked cd_asked ct_asked), sl_asked⟩)
    (c_asked : PySem.W.codeIn K cd_asked "_law_asked" = true)
    (k_asked : PySem.W.keepIn K (.ref f_asked) = true)
    (l_roots_right : K.lookup f_roots_right = some ⟨oc_roots_right, od_roots_right, .func (PySem.W.fnOf "_law_roots_right" "_law_roots_right" (defArgs s_roots_right) (defBody s_roots_right) (defScope s_roots_right) .none kV_roots_right dc_roots_right pm_roots_right an_roots_right cd_roots_right ct_roots_right), sl_roots_right⟩)
    (c_roots_right : PySem.W.codeIn K cd_roots_right "_law_roots_right" = true)
    (k_roots_right : PySem.W.keepIn K (.ref f_roots_right) = true)
    (l_law : K.lookup f_law = some ⟨oc_law, od_law, .func (PySem.W.fnOf "law" "law" (defArgs s_law) (defBody s_law) (defScope s_law) .none kV_law dc_law pm_law an_law cd_law ct_law), sl_law⟩)
    (c_law : PySem.W.codeIn K cd_law "law" = true)
    (k_law : PySem.W.keepIn K (.ref f_law) = true)
    (t_NoRow : PySem.W.typeIn K (.ref f_NoRow_init) = some (.type "function"))
    (xL_NoRow : ∃ nm q N bs bm sn sub ab col dd k0 k1 k2 k3 k5, K.lookup C_NoRow = some (excClassObj nm q C_NoRow N bs bm true sn sub ab col dd k0 k1 k2 k3 k5 "ValueError.__new__") ∧ PySem.HandSPX.refsVE bm = true)
    (sa_NoRow : PySem.W.findIn K (.ref C_NoRow) "__setattr__" = some (some (.builtin "object.__setattr__")))
    (ga_NoRow : PySem.W.findIn K (.ref C_NoRow) "__getattribute__" = some (some (.builtin "BaseException.__getattribute__")))
    (gg_NoRow : PySem.W.findIn K (.ref C_NoRow) "__getattr__" = some none)
    (kC_NoRow : PySem.W.keepIn K (.ref C_NoRow) = true)
    (eC_NoRow : PySem.W.subIn K (.ref C_NoRow) (.type "BaseException") = some true)
    (tC_NoRow : PySem.W.typeIn K (.ref C_NoRow) = some (.type "type"))
    (hC_NoRow : PySem.W.hasDictIn K C_NoRow = true)
    (ha_NoRow : PySem.W.findIn K (.ref C_NoRow) "__class__" = some (some (.builtin "object.__class__")))
    (hm_NoRow : PySem.W.mroIn K C_NoRow (.type "object") = some true)
    (t_NoNumber : PySem.W.typeIn K (.ref f_NoNumber_init) = some (.type "function"))
    (xL_NoNumber : ∃ nm q N bs bm sn sub ab col dd k0 k1 k2 k3 k5, K.lookup C_NoNumber = some (excClassObj nm q C_NoNumber N bs bm true sn sub ab col dd k0 k1 k2 k3 k5 "ValueError.__new__") ∧ PySem.HandSPX.refsVE bm = true)
    (sa_NoNumber : PySem.W.findIn K (.ref C_NoNumber) "__setattr__" = some (some (.builtin "object.__setattr__")))
    (ga_NoNumber : PySem.W.findIn K (.ref C_NoNumber) "__getattribute__" = some (some (.builtin "BaseException.__getattribute__")))
    (gg_NoNumber : PySem.W.findIn K (.ref C_NoNumber) "__getattr__" = some none)
    (kC_NoNumber : PySem.W.keepIn K (.ref C_NoNumber) = true)
    (eC_NoNumber : PySem.W.subIn K (.ref C_NoNumber) (.type "BaseException") = some true)
    (tC_NoNumber : PySem.W.typeIn K (.ref C_NoNumber) = some (.type "type"))
    (hC_NoNumber : PySem.W.hasDictIn K C_NoNumber = true)
    (ha_NoNumber : PySem.W.findIn K (.ref C_NoNumber) "__class__" = some (some (.builtin "object.__class__")))
    (hm_NoNumber : PySem.W.mroIn K C_NoNumber (.type "object") = some true)
    (t_NoRoot : PySem.W.typeIn K (.ref f_NoRoot_init) = some (.type "function"))
    (xL_NoRoot : ∃ nm q N bs bm sn sub ab col dd k0 k1 k2 k3 k5, K.lookup C_NoRoot = some (excClassObj nm q C_NoRoot N bs bm true sn sub ab col dd k0 k1 k2 k3 k5 "ValueError.__new__") ∧ PySem.HandSPX.refsVE bm = true)
    (sa_NoRoot : PySem.W.findIn K (.ref C_NoRoot) "__setattr__" = some (some (.builtin "object.__setattr__")))
    (ga_NoRoot : PySem.W.findIn K (.ref C_NoRoot) "__getattribute__" = some (some (.builtin "BaseException.__getattribute__")))
    (gg_NoRoot : PySem.W.findIn K (.ref C_NoRoot) "__getattr__" = some none)
    (kC_NoRoot : PySem.W.keepIn K (.ref C_NoRoot) = true)
    (eC_NoRoot : PySem.W.subIn K (.ref C_NoRoot) (.type "BaseException") = some true)
    (tC_NoRoot : PySem.W.typeIn K (.ref C_NoRoot) = some (.type "type"))
    (hC_NoRoot : PySem.W.hasDictIn K C_NoRoot = true)
    (ha_NoRoot : PySem.W.findIn K (.ref C_NoRoot) "__class__" = some (some (.builtin "object.__class__")))
    (hm_NoRoot : PySem.W.mroIn K C_NoRoot (.type "object") = some true)
    (hn_ : PySem.W.specialIn K (.builtin "object.__class__") "__get__" = some (some (.builtin "getset_descriptor.__get__")))
    (ht_ : PySem.W.takesIn K (.builtin "object.__class__") = some true)
    (z_e_NoNumber_NoRoot : PySem.W.exmOne K (.ref C_NoNumber) (.ref C_NoRoot) = some false)
    (z_e_NoRoot_NoRoot : PySem.W.exmOne K (.ref C_NoRoot) (.ref C_NoRoot) = some true)
    (z_e_NoRow_NoRoot : PySem.W.exmOne K (.ref C_NoRow) (.ref C_NoRoot) = some false)
    {tk_LETTERS : Tok}
    (v_LETTERS : PySem.W.nsIn K mainGlobals "LETTERS" = some (some (.str "aAbBcCdDeEfFgGhHiIjJkKlLmMnNoOpPqQrRsStTuUvVwWxXyYzZ" tk_LETTERS)))
    (m_ValueError : PySem.W.nsIn K mainGlobals "ValueError" = some none)
    (m_abs : PySem.W.nsIn K mainGlobals "abs" = some none)
    (m_bool : PySem.W.nsIn K mainGlobals "bool" = some none)
    (m_int : PySem.W.nsIn K mainGlobals "int" = some none)
    (m_isinstance : PySem.W.nsIn K mainGlobals "isinstance" = some none)
    (m_len : PySem.W.nsIn K mainGlobals "len" = some none)
    (m_range : PySem.W.nsIn K mainGlobals "range" = some none)
    (m_str : PySem.W.nsIn K mainGlobals "str" = some none)
    (m_tuple : PySem.W.nsIn K mainGlobals "tuple" = some none)
    : ∃ fd : FuncData, (∀ (s : Shared) (v : Value), BindsTo s fd ⟨[v], []⟩ [("_law_script", v)]) ∧ ∀ base : Heap, K.In base → base.Ns mainGlobals mg → FnOk l.prog w K mg base (CX l.prog w) 7 fa fd ["_law_script"] (sp_law K) := by
  cases hfa.symm.trans (PySem.W.mg_of X G a_law)
  have F_NoRow_init := fun_mk (st := s_NoRow_init) l_NoRow_init c_NoRow_init k_NoRow_init
  have F_NoNumber_init := fun_mk (st := s_NoNumber_init) l_NoNumber_init c_NoNumber_init k_NoNumber_init
  have F_NoRoot_init := fun_mk (st := s_NoRoot_init) l_NoRoot_init c_NoRoot_init k_NoRoot_init
  have F_is_integer := fun_mk (st := s_is_integer) l_is_integer c_is_integer k_is_integer
  have F_is_integer_within := fun_mk (st := s_is_integer_within) l_is_integer_within c_is_integer_within k_is_integer_within
  have F_is_row := fun_mk (st := s_is_row) l_is_row c_is_row k_is_row
  have F_undoings := fun_mk (st := s_undoings) l_undoings c_undoings k_undoings
  have F_reduced := fun_mk (st := s_reduced) l_reduced c_reduced k_reduced
  have F_split_net := fun_mk (st := s_split_net) l_split_net c_split_net k_split_net
  have F_repeated_net := fun_mk (st := s_repeated_net) l_repeated_net c_repeated_net k_repeated_net
  have F_root_of_net := fun_mk (st := s_root_of_net) l_root_of_net c_root_of_net k_root_of_net
  have F_place_in_order := fun_mk (st := s_place_in_order) l_place_in_order c_place_in_order k_place_in_order
  have F_net := fun_mk (st := s_net) l_net c_net k_net
  have F_power := fun_mk (st := s_power) l_power c_power k_power
  have F_earlier := fun_mk (st := s_earlier) l_earlier c_earlier k_earlier
  have F_root := fun_mk (st := s_root) l_root c_root k_root
  have F_demand_row := fun_mk (st := s_demand_row) l_demand_row c_demand_row k_demand_row
  have F_hand := fun_mk (st := s_hand) l_hand c_hand k_hand
  have F_draw := fun_mk (st := s_draw) l_draw c_draw k_draw
  have F_undoing := fun_mk (st := s_undoing) l_undoing c_undoing k_undoing
  have F_back := fun_mk (st := s_back) l_back c_back k_back
  have F_lnet := fun_mk (st := s_lnet) l_lnet c_lnet k_lnet
  have F_deeds := fun_mk (st := s_deeds) l_deeds c_deeds k_deeds
  have F_row := fun_mk (st := s_row) l_row c_row k_row
  have F_lroot := fun_mk (st := s_lroot) l_lroot c_lroot k_lroot
  have F_is_earlier := fun_mk (st := s_is_earlier) l_is_earlier c_is_earlier k_is_earlier
  have F_asked := fun_mk (st := s_asked) l_asked c_asked k_asked
  have F_roots_right := fun_mk (st := s_roots_right) l_roots_right c_roots_right k_roots_right
  have F_law := fun_mk (st := s_law) l_law c_law k_law
  have T : Txt K mg ⟨f_NoRow_init, _, f_NoNumber_init, _, f_NoRoot_init, _, f_is_integer, _, f_is_integer_within, _, f_is_row, _, f_undoings, _, f_reduced, _, f_split_net, _, f_repeated_net, _, f_root_of_net, _, f_place_in_order, _, f_net, _, f_power, _, f_earlier, _, f_root, _, f_demand_row, _, f_hand, _, f_draw, _, f_undoing, _, f_back, _, f_lnet, _, f_deeds, _, f_row, _, f_lroot, _, f_is_earlier, _, f_asked, _, f_roots_right, _, fa, _, C_RunsError, C_NoRow, C_NoNumber, C_NoRoot, _⟩ := {
    F_NoRow_init := F_NoRow_init
    b_NoRow_init := F_NoRow_init.binds (ps := ["self"]) fun _ _ _ _ _ _ us hl => match us, hl with | [_], _ => rfl
    F_NoNumber_init := F_NoNumber_init
    b_NoNumber_init := F_NoNumber_init.binds (ps := ["self"]) fun _ _ _ _ _ _ us hl => match us, hl with | [_], _ => rfl
    F_NoRoot_init := F_NoRoot_init
    b_NoRoot_init := F_NoRoot_init.binds (ps := ["self"]) fun _ _ _ _ _ _ us hl => match us, hl with | [_], _ => rfl
    F_is_integer := F_is_integer
    g_is_integer := PySem.W.mg_of X G a_is_integer
    b_is_integer := F_is_integer.binds (ps := ["thing"]) fun _ _ _ _ _ _ us hl => match us, hl with | [_], _ => rfl
    F_is_integer_within := F_is_integer_within
    g_is_integer_within := PySem.W.mg_of X G a_is_integer_within
    b_is_integer_within := F_is_integer_within.binds (ps := ["thing", "least", "most"]) fun _ _ _ _ _ _ us hl => match us, hl with | [_, _, _], _ => rfl
    F_is_row := F_is_row
    g_is_row := PySem.W.mg_of X G a_is_row
    b_is_row := F_is_row.binds (ps := ["thing"]) fun _ _ _ _ _ _ us hl => match us, hl with | [_], _ => rfl
    F_undoings := F_undoings
    g_undoings := PySem.W.mg_of X G a_undoings
    b_undoings := F_undoings.binds (ps := ["row"]) fun _ _ _ _ _ _ us hl => match us, hl with | [_], _ => rfl
    F_reduced := F_reduced
    g_reduced := PySem.W.mg_of X G a_reduced
    b_reduced := F_reduced.binds (ps := ["row"]) fun _ _ _ _ _ _ us hl => match us, hl with | [_], _ => rfl
    F_split_net := F_split_net
    g_split_net := PySem.W.mg_of X G a_split_net
    b_split_net := F_split_net.binds (ps := ["one"]) fun _ _ _ _ _ _ us hl => match us, hl with | [_], _ => rfl
    F_repeated_net := F_repeated_net
    g_repeated_net := PySem.W.mg_of X G a_repeated_net
    b_repeated_net := F_repeated_net.binds (ps := ["one", "times"]) fun _ _ _ _ _ _ us hl => match us, hl with | [_, _], _ => rfl
    F_root_of_net := F_root_of_net
    g_root_of_net := PySem.W.mg_of X G a_root_of_net
    b_root_of_net := F_root_of_net.binds (ps := ["one"]) fun _ _ _ _ _ _ us hl => match us, hl with | [_], _ => rfl
    F_place_in_order := F_place_in_order
    g_place_in_order := PySem.W.mg_of X G a_place_in_order
    b_place_in_order := F_place_in_order.binds (ps := ["row"]) fun _ _ _ _ _ _ us hl => match us, hl with | [_], _ => rfl
    F_net := F_net
    g_net := PySem.W.mg_of X G a_net
    b_net := F_net.binds (ps := ["row"]) fun _ _ _ _ _ _ us hl => match us, hl with | [_], _ => rfl
    F_power := F_power
    g_power := PySem.W.mg_of X G a_power
    b_power := F_power.binds (ps := ["row", "times"]) fun _ _ _ _ _ _ us hl => match us, hl with | [_, _], _ => rfl
    F_earlier := F_earlier
    g_earlier := PySem.W.mg_of X G a_earlier
    b_earlier := F_earlier.binds (ps := ["row", "second"]) fun _ _ _ _ _ _ us hl => match us, hl with | [_, _], _ => rfl
    F_root := F_root
    g_root := PySem.W.mg_of X G a_root
    b_root := F_root.binds (ps := ["row"]) fun _ _ _ _ _ _ us hl => match us, hl with | [_], _ => rfl
    F_demand_row := F_demand_row
    g_demand_row := PySem.W.mg_of X G a_demand_row
    b_demand_row := F_demand_row.binds (ps := ["thing"]) fun _ _ _ _ _ _ us hl => match us, hl with | [_], _ => rfl
    F_hand := F_hand
    g_hand := PySem.W.mg_of X G a_hand
    b_hand := F_hand.binds (ps := ["_law_script"]) fun _ _ _ _ _ _ us hl => match us, hl with | [_], _ => rfl
    F_draw := F_draw
    g_draw := PySem.W.mg_of X G a_draw
    b_draw := F_draw.binds (ps := ["_law_hand_here", "_law_many"]) fun _ _ _ _ _ _ us hl => match us, hl with | [_, _], _ => rfl
    F_undoing := F_undoing
    g_undoing := PySem.W.mg_of X G a_undoing
    b_undoing := F_undoing.binds (ps := ["_law_letter"]) fun _ _ _ _ _ _ us hl => match us, hl with | [_], _ => rfl
    F_back := F_back
    g_back := PySem.W.mg_of X G a_back
    b_back := F_back.binds (ps := ["_law_row_here"]) fun _ _ _ _ _ _ us hl => match us, hl with | [_], _ => rfl
    F_lnet := F_lnet
    g_lnet := PySem.W.mg_of X G a_lnet
    b_lnet := F_lnet.binds (ps := ["_law_row_here"]) fun _ _ _ _ _ _ us hl => match us, hl with | [_], _ => rfl
    F_deeds := F_deeds
    g_deeds := PySem.W.mg_of X G a_deeds
    b_deeds := F_deeds.binds (ps := ["_law_hand_here", "_law_most"]) fun _ _ _ _ _ _ us hl => match us, hl with | [_, _], _ => rfl
    F_row := F_row
    g_row := PySem.W.mg_of X G a_row
    b_row := F_row.binds (ps := ["_law_hand_here", "_law_deeds_here", "_law_many"]) fun _ _ _ _ _ _ us hl => match us, hl with | [_, _, _], _ => rfl
    F_lroot := F_lroot
    g_lroot := PySem.W.mg_of X G a_lroot
    b_lroot := F_lroot.binds (ps := ["_law_whole"]) fun _ _ _ _ _ _ us hl => match us, hl with | [_], _ => rfl
    F_is_earlier := F_is_earlier
    g_is_earlier := PySem.W.mg_of X G a_is_earlier
    b_is_earlier := F_is_earlier.binds (ps := ["_law_one", "_law_other"]) fun _ _ _ _ _ _ us hl => match us, hl with | [_, _], _ => rfl
    F_asked := F_asked
    g_asked := PySem.W.mg_of X G a_asked
    b_asked := F_asked.binds (ps := ["_law_row_here"]) fun _ _ _ _ _ _ us hl => match us, hl with | [_], _ => rfl
    F_roots_right := F_roots_right
    g_roots_right := PySem.W.mg_of X G a_roots_right
    b_roots_right := F_roots_right.binds (ps := ["_law_hand_here", "_law_deeds_here"]) fun _ _ _ _ _ _ us hl => match us, hl with | [_, _], _ => rfl
    F_law := F_law
    g_law := PySem.W.mg_of X G a_law
    b_law := F_law.binds (ps := ["_law_script"]) fun _ _ _ _ _ _ us hl => match us, hl with | [_], _ => rfl
    gC_RunsError := PySem.W.mg_of X G aC_RunsError
    gC_NoRow := PySem.W.mg_of X G aC_NoRow
    o_NoRow := ⟨xL_NoRow, sa_NoRow, eC_NoRow, tC_NoRow, kC_NoRow⟩
    i_NoRow := i_NoRow
    t_NoRow := t_NoRow
    x_NoRow := ⟨ga_NoRow, gg_NoRow, eC_NoRow, hC_NoRow, ha_NoRow, hn_, ht_, hm_NoRow⟩
    gC_NoNumber := PySem.W.mg_of X G aC_NoNumber
    o_NoNumber := ⟨xL_NoNumber, sa_NoNumber, eC_NoNumber, tC_NoNumber, kC_NoNumber⟩
    i_NoNumber := i_NoNumber
    t_NoNumber := t_NoNumber
    x_NoNumber := ⟨ga_NoNumber, gg_NoNumber, eC_NoNumber, hC_NoNumber, ha_NoNumber, hn_, ht_, hm_NoNumber⟩
    gC_NoRoot := PySem.W.mg_of X G aC_NoRoot
    o_NoRoot := ⟨xL_NoRoot, sa_NoRoot, eC_NoRoot, tC_NoRoot, kC_NoRoot⟩
    i_NoRoot := i_NoRoot
    t_NoRoot := t_NoRoot
    x_NoRoot := ⟨ga_NoRoot, gg_NoRoot, eC_NoRoot, hC_NoRoot, ha_NoRoot, hn_, ht_, hm_NoRoot⟩
    m_ValueError := PySem.W.mg_none_of X G m_ValueError
    m_abs := PySem.W.mg_none_of X G m_abs
    m_bool := PySem.W.mg_none_of X G m_bool
    m_int := PySem.W.mg_none_of X G m_int
    m_isinstance := PySem.W.mg_none_of X G m_isinstance
    m_len := PySem.W.mg_none_of X G m_len
    m_range := PySem.W.mg_none_of X G m_range
    m_str := PySem.W.mg_none_of X G m_str
    m_tuple := PySem.W.mg_none_of X G m_tuple
    c_LETTERS := PySem.W.mg_of X G v_LETTERS
    r_LETTERS := ⟨_, rfl⟩
    e_NoNumber_NoRoot := z_e_NoNumber_NoRoot
    e_NoRoot_NoRoot := z_e_NoRoot_NoRoot
    e_NoRow_NoRoot := z_e_NoRow_NoRoot
  }
  exact ⟨PySem.W.fnOf "law" "law" (defArgs s_law) (defBody s_law) (defScope s_law) .none kV_law dc_law pm_law an_law cd_law ct_law, fun s v => .of_eq rfl, fun base _ _ => ok_law (P := l.prog) (w := w) (base := base) T⟩
end K02
open PySem PySem.W PyProof.Rows
set_option maxRecDepth 100000 in
set_option maxHeartbeats 0 in
theorem PySem.Challenge.cw_runsback_k02_whole_roots_and_earlier_row_holds : PySem.Challenge.rw_runsback_k02_whole_roots_and_earlier_row.Holds := by
  w_on; o_law; k_head; (case hw => w_witness2)
  k_fill
  refine L2.walk_of (l := PySem.Challenge.rw_runsback_k02_whole_roots_and_earlier_row) (n := 63) (k := 7) (x := "_law_script") (CX := fun w => L2.CX PySem.Challenge.pw_runsback_k02_whole_roots_and_earlier_row w) (sp := fun w => K02.sp_law _) rfl (by decide) rfl ⟨rfl, by decide, by decide⟩ (fun w h Y => PySem.W.kIn_of Y) ?F (fun _ H a ns hl hO hS => K02.hsp _ H a ns hl hO hS) (fun _ _ _ _ _ h => by obtain ⟨_, _, _, _, _, _, _, _, _, _, _, _, z⟩ := h; exact z)
  case F =>
    intro w mg fa h KX G hmg
    refine' K02.all_mk KX G hmg ?a_is_integer ?a_is_integer_within ?a_is_row ?a_undoings ?a_reduced ?a_split_net ?a_repeated_net ?a_root_of_net ?a_place_in_order ?a_net ?a_power ?a_earlier ?a_root ?a_demand_row ?a_hand ?a_draw ?a_undoing ?a_back ?a_lnet ?a_deeds ?a_row ?a_lroot ?a_is_earlier ?a_asked ?a_roots_right ?a_law ?aC_RunsError ?aC_NoRow ?aC_NoNumber ?aC_NoRoot ?i_NoRow ?i_NoNumber ?i_NoRoot ?l_NoRow_init ?c_NoRow_init ?k_NoRow_init ?l_NoNumber_init ?c_NoNumber_init ?k_NoNumber_init ?l_NoRoot_init ?c_NoRoot_init ?k_NoRoot_init ?l_is_integer ?c_is_integer ?k_is_integer ?l_is_integer_within ?c_is_integer_within ?k_is_integer_within ?l_is_row ?c_is_row ?k_is_row ?l_undoings ?c_undoings ?k_undoings ?l_reduced ?c_reduced ?k_reduced ?l_split_net ?c_split_net ?k_split_net ?l_repeated_net ?c_repeated_net ?k_repeated_net ?l_root_of_net ?c_root_of_net ?k_root_of_net ?l_place_in_order ?c_place_in_order ?k_place_in_order ?l_net ?c_net ?k_net ?l_power ?c_power ?k_power ?l_earlier ?c_earlier ?k_earlier ?l_root ?c_root ?k_root ?l_demand_row ?c_demand_row ?k_demand_row ?l_hand ?c_hand ?k_hand ?l_draw ?c_draw ?k_draw ?l_undoing ?c_undoing ?k_undoing ?l_back ?c_back ?k_back ?l_lnet ?c_lnet ?k_lnet ?l_deeds ?c_deeds ?k_deeds ?l_row ?c_row ?k_row ?l_lroot ?c_lroot ?k_lroot ?l_is_earlier ?c_is_earlier ?k_is_earlier ?l_asked ?c_asked ?k_asked ?l_roots_right ?c_roots_right ?k_roots_right ?l_law ?c_law ?k_law ?t_NoRow ?xL_NoRow ?sa_NoRow ?ga_NoRow ?gg_NoRow ?kC_NoRow ?eC_NoRow ?tC_NoRow ?hC_NoRow ?ha_NoRow ?hm_NoRow ?t_NoNumber ?xL_NoNumber ?sa_NoNumber ?ga_NoNumber ?gg_NoNumber ?kC_NoNumber ?eC_NoNumber ?tC_NoNumber ?hC_NoNumber ?ha_NoNumber ?hm_NoNumber ?t_NoRoot ?xL_NoRoot ?sa_NoRoot ?ga_NoRoot ?gg_NoRoot ?kC_NoRoot ?eC_NoRoot ?tC_NoRoot ?hC_NoRoot ?ha_NoRoot ?hm_NoRoot ?hn_ ?ht_ ?z_e_NoNumber_NoRoot ?z_e_NoRoot_NoRoot ?z_e_NoRow_NoRoot ?v_LETTERS ?m_ValueError ?m_abs ?m_bool ?m_int ?m_isinstance ?m_len ?m_range ?m_str ?m_tuple
    (case a_is_integer => k_is)
    (case a_is_integer_within => k_is)
    (case a_is_row => k_is)
    (case a_undoings => k_is)
    (case a_reduced => k_is)
    (case a_split_net => k_is)
    (case a_repeated_net => k_is)
    (case a_root_of_net => k_is)
    (case a_place_in_order => k_is)
    (case a_net => k_is)
    (case a_power => k_is)
    (case a_earlier => k_is)
    (case a_root => k_is)
    (case a_demand_row => k_is)
    (case a_hand => k_is)
    (case a_draw => k_is)
    (case a_undoing => k_is)
    (case a_back => k_is)
    (case a_lnet => k_is)
    (case a_deeds => k_is)
    (case a_row => k_is)
    (case a_lroot => k_is)
    (case a_is_earlier => k_is)
    (case a_asked => k_is)
    (case a_roots_right => k_is)
    (case a_law => k_is)
    (case aC_RunsError => k_is)
    (case aC_NoRow => k_is)
    (case aC_NoNumber => k_is)
    (case aC_NoRoot => k_is)
    (case i_NoRow => k_is)
    (case i_NoNumber => k_is)
    (case i_NoRoot => k_is)
    (case l_NoRow_init => k_is)
    (case c_NoRow_init => k_is)
    (case k_NoRow_init => k_is)
    (case l_NoNumber_init => k_is)
    (case c_NoNumber_init => k_is)
    (case k_NoNumber_init => k_is)
    (case l_NoRoot_init => k_is)
    (case c_NoRoot_init => k_is)
    (case k_NoRoot_init => k_is)
    (case l_is_integer => k_is)
    (case c_is_integer => k_is)
    (case k_is_integer => k_is)
    (case l_is_integer_within => k_is)
    (case c_is_integer_within => k_is)
    (case k_is_integer_within => k_is)
    (case l_is_row => k_is)
    (case c_is_row => k_is)
    (case k_is_row => k_is)
    (case l_undoings => k_is)
    (case c_undoings => k_is)
    (case k_undoings => k_is)
    (case l_reduced => k_is)
    (case c_reduced => k_is)
    (case k_reduced => k_is)
    (case l_split_net => k_is)
    (case c_split_net => k_is)
    (case k_split_net => k_is)
    (case l_repeated_net => k_is)
    (case c_repeated_net => k_is)
    (case k_repeated_net => k_is)
    (case l_root_of_net => k_is)
    (case c_root_of_net => k_is)
    (case k_root_of_net => k_is)
    (case l_place_in_order => k_is)
    (case c_place_in_order => k_is)
    (case k_place_in_order => k_is)
    (case l_net => k_is)
    (case c_net => k_is)
    (case k_net => k_is)
    (case l_power => k_is)
    (case c_power => k_is)
    (case k_power => k_is)
    (case l_earlier => k_is)
    (case c_earlier => k_is)
    (case k_earlier => k_is)
    (case l_root => k_is)
    (case c_root => k_is)
    (case k_root => k_is)
    (case l_demand_row => k_is)
    (case c_demand_row => k_is)
    (case k_demand_row => k_is)
    (case l_hand => k_is)
    (case c_hand => k_is)
    (case k_hand => k_is)
    (case l_draw => k_is)
    (case c_draw => k_is)
    (case k_draw => k_is)
    (case l_undoing => k_is)
    (case c_undoing => k_is)
    (case k_undoing => k_is)
    (case l_back => k_is)
    (case c_back => k_is)
    (case k_back => k_is)
    (case l_lnet => k_is)
    (case c_lnet => k_is)
    (case k_lnet => k_is)
    (case l_deeds => k_is)
    (case c_deeds => k_is)
    (case k_deeds => k_is)
    (case l_row => k_is)
    (case c_row => k_is)
    (case k_row => k_is)
    (case l_lroot => k_is)
    (case c_lroot => k_is)
    (case k_lroot => k_is)
    (case l_is_earlier => k_is)
    (case c_is_earlier => k_is)
    (case k_is_earlier => k_is)
    (case l_asked => k_is)
    (case c_asked => k_is)
    (case k_asked => k_is)
    (case l_roots_right => k_is)
    (case c_roots_right => k_is)
    (case k_roots_right => k_is)
    (case l_law => k_is)
    (case c_law => k_is)
    (case k_law => k_is)
    (case t_NoRow => k_is)
    (case xL_NoRow => exact ⟨_, _, _, _, [.ref _, .type "ValueError", .type "Exception", .type "BaseException", .type "object"], _, _, _, _, _, _, _, _, _, _, by k_is, by decide +kernel⟩)
    (case sa_NoRow => k_is)
    (case ga_NoRow => k_is)
    (case gg_NoRow => k_is)
    (case kC_NoRow => k_is)
    (case eC_NoRow => k_is)
    (case tC_NoRow => k_is)
    (case hC_NoRow => k_is)
    (case ha_NoRow => k_is)
    (case hm_NoRow => k_is)
    (case t_NoNumber => k_is)
    (case xL_NoNumber => exact ⟨_, _, _, _, [.ref _, .type "ValueError", .type "Exception", .type "BaseException", .type "object"], _, _, _, _, _, _, _, _, _, _, by k_is, by decide +kernel⟩)
    (case sa_NoNumber => k_is)
    (case ga_NoNumber => k_is)
    (case gg_NoNumber => k_is)
    (case kC_NoNumber => k_is)
    (case eC_NoNumber => k_is)
    (case tC_NoNumber => k_is)
    (case hC_NoNumber => k_is)
    (case ha_NoNumber => k_is)
    (case hm_NoNumber => k_is)
    (case t_NoRoot => k_is)
    (case xL_NoRoot => exact ⟨_, _, _, _, [.ref _, .type "ValueError", .type "Exception", .type "BaseException", .type "object"], _, _, _, _, _, _, _, _, _, _, by k_is, by decide +kernel⟩)
    (case sa_NoRoot => k_is)
    (case ga_NoRoot => k_is)
    (case gg_NoRoot => k_is)
    (case kC_NoRoot => k_is)
    (case eC_NoRoot => k_is)
    (case tC_NoRoot => k_is)
    (case hC_NoRoot => k_is)
    (case ha_NoRoot => k_is)
    (case hm_NoRoot => k_is)
    (case hn_ => k_is)
    (case ht_ => k_is)
    (case z_e_NoNumber_NoRoot => first | rfl | k_is)
    (case z_e_NoRoot_NoRoot => first | rfl | k_is)
    (case z_e_NoRow_NoRoot => first | rfl | k_is)
    (case v_LETTERS => k_is)
    (case m_ValueError => k_is)
    (case m_abs => k_is)
    (case m_bool => k_is)
    (case m_int => k_is)
    (case m_isinstance => k_is)
    (case m_len => k_is)
    (case m_range => k_is)
    (case m_str => k_is)
    (case m_tuple => k_is)
#print axioms PySem.Challenge.cw_runsback_k02_whole_roots_and_earlier_row_holds
