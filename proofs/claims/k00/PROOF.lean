import PyProof.Rows.All
import Wide.All
import OpenK.AllK
import Wide.FinOn
import KE.KRevSl
import HandS.ForMost
import HandS.ForExc
import HandS.StrMore
import HandS.Wide
import HandS.IsInst
import HandS.ExcInit
import HandS.ExcIs
import HandS.TryMany
import HandS.Style
import HandS.Codes
import PySem.Challenge.RW_runsback_k00_nets_struck_in_any_order
set_option Elab.async false
set_option linter.all false
set_option maxRecDepth 100000
set_option maxHeartbeats 8000000
/-! Further rules over the hand layer: swapcase, text[::-1], an exception made by C(), several except clauses with names, list(text). -/
namespace L2
open PySem PySem.Spec PyProof.Rows
theorem mt_swapcase {X : Cx} : MtR X "str.swapcase" (fun x xs H Q => ∃ a, x = .str a ∧ xs = [] ∧ a.length ≤ 5592405 ∧ Q (.str (Txt.swapcase a)) H) :=
  mt0 (C := fun a => a.length ≤ 5592405) (g := fun a => .str (Txt.swapcase a)) fun a _ s _ fits go => PyProof.Rows.SCL.swapcase fits fun _ => go _ (s.toks + 1) ⟨_, rfl⟩
/-! ### text[::-1] -/
def revS (z : Str) : Str := ⟨z.cps.toList.reverse.toArray⟩
def tRevS (te : TE) : TE := fun σ H Q => te σ H fun x H1 => ∃ z, x = .str z ∧ z.length ≤ sizeLine ∧ Q (.str (revS z)) H1
theorem rev_picked (z : Str) : ((Builtin.Str.strSliceIndices none none (-1) z.length).filterMap (z.cps[·]?)).toArray = (revS z).cps := by
  have e : Builtin.Str.strSliceIndices none none (-1) z.cps.size = sliceRange ((z.cps.size : Int) - 1) (-1) (-1) := rfl
  rw [show z.length = z.cps.size from rfl, e, PySem.W.krv_sliceRange, PySem.W.krv_range, List.filterMap_reverse, PySem.W.krv_all]; rfl
theorem pe_revS {X : Cx} {e : Expr} {te : TE} {k : Nat} {p1 p2 p3 pos : Pos} (he : PE X e te) : PE X (.Subscript e (.Slice none none (some (.UnaryOp .USub (.Constant (.int 1) k p1) p2)) p3) pos) (tRevS te) := by
  constructor
  intro pins s0 σ H Q I0 hw
  apply Subscript_
  refine thn (he.run pins s0 σ H _ I0 hw) ?_
  rintro v sA ⟨x, HA, IA, rA, z, rfl, fits, goal⟩
  obtain ⟨tok, rfl⟩ := rA
  apply wpAny_Slice
  rw [evalPart_none]
  apply wpAny_pure; apply wpAny_pure
  have last : PO X (some (.UnaryOp .USub (.Constant (.int 1) k p1) p2)) (tPart (tUn (rU fun i => .int (-i)) (tC (.int 1)))) := po_some (pe_un un_neg pe_int)
  refine thn (last.run pins sA σ HA (fun o HB => o = some (-1) ∧ HB = HA) IA ⟨1, rfl, -1, rfl, rfl, rfl⟩) ?_
  rintro vs sB ⟨o, HB, IB, part, rfl, rfl⟩
  obtain ⟨st, rfl, est⟩ := IsPart.raw part
  have IC : Inv X pins σ HB { sB with heap := sB.heap.push { cls := .type "slice", data := .fields #[.none, .none, partValue st] } } :=
    IB.kept (t' := sB.toks) fun _ _ there => Heap.get?_push_of_some _ there
  match st, est with
  | some (_, stok), rfl =>
    refine tail_any (ops := [.str z tok, .ref sB.heap.objs.size]) (typeIs_str _ _ _) F.slot_str_getitem.lookup ?_ (by with_unfolding_all rfl)
    refine wpAny_getItem_str_slice (l := none) (u := none) (st := some (-1, stok)) ⟨_, Heap.get?_push_size _ rfl, rfl, rfl⟩ rfl ?_
    show Made.post (if ((-1 : Int) == 1 && _) = true then Made.val (.str z tok) else Made.str ⟨((Builtin.Str.strSliceIndices none none (-1) z.length).filterMap (z.cps[·]?)).toArray⟩) _ _
    rw [if_neg (by simp), rev_picked]
    refine ⟨?_, .str _, HB, IC.tok _, ⟨_, rfl⟩, goal⟩
    have f2 : z.cps.size ≤ sizeLine := fits
    show z.cps.toList.reverse.toArray.size ≤ sizeLine
    simpa using f2
/-! ### C(), where __init__ does nothing: the new exception is let go with nothing stored -/
section
variable {X : Cx} {pins : List (Addr × Obj)} {σ : St} {H1 : Hp} {hp hp2 h2 : Heap} {a C : Addr}
/-- what stands at a is no part of what is tracked elsewhere -/
theorem exo_apart {c : Addr} {o : HO} (ho : o ≠ exo a C none) (e : upd H1 a (exo a C none) c = some o) : c ≠ a ∧ H1 c = some o := by
  by_cases z : c = a
  · rw [z, upd_same] at e; exact absurd (Option.some.inj e).symm ho
  · rw [upd_ne z] at e; exact ⟨z, e⟩
theorem hok_without {P : Program} {w : World} (hn : H1 a = none) (ok : HOk P w (upd H1 a (exo a C none)) h2) {G : Heap} (same : ∀ b, b ≠ a → G.get? b = h2.get? b) : HOk P w H1 G := by
  intro b o tracked
  have apart : b ≠ a := ne_of_none tracked hn
  have here : upd H1 a (exo a C none) b = some o := (upd_ne apart).trans tracked
  refine (ok b o here).stay ?_ ?_ ?_
  · rintro c v (rfl | owns) there
    · exact (same _ apart).trans there
    · exact (same c (exo_apart (fun z => exo_own z.symm) owns).1).trans there
  · exact fun c owns => (exo_apart (fun z => exo_own z.symm) owns).2
  · exact fun c xs tup => (exo_apart (fun z => exo_tup z.symm) tup).2
theorem un_without {fs : List Addr} (new : hp.objs.size ≤ a) (k : ∀ b o, hp.get? b = some o → hp2.get? b = some o) (un : Un fs [] (upd H1 a (exo a C none)) (upd H1 a (exo a C none)) hp2 h2) {G : Heap} (same : ∀ b, b ≠ a → G.get? b = h2.get? b) :
    Un fs [] H1 H1 hp G := by
  have far : ∀ b o, hp.get? b = some o → b ≠ a := fun b o there z => absurd (Heap.lt_size there) (by rw [z]; exact Nat.not_lt.mpr new)
  have free : ∀ b o, hp.get? b = some o → H1 b = none → upd H1 a (exo a C none) b = none := fun b o there z => (upd_ne (far b o there)).trans z
  refine ⟨fun b o there z f x => (same b (far b o there)).trans (un.keep b o (k b o there) (free b o there z) f x), fun b o there z f x => ?_, fun _ _ _ z _ => z, fun b o there x => ?_, fun _ _ z => z, fun _ _ _ z => z, fun _ _ z => ⟨#[], by rw [z]; simp⟩⟩
  · obtain ⟨sl, e⟩ := un.slot b o (k b o there) (free b o there z) f x
    exact ⟨sl, (same b (far b o there)).trans e⟩
  · obtain ⟨o', e⟩ := un.there b o (k b o there) x
    exact ⟨o', (same b (far b o there)).trans e⟩
theorem made_plain {Q : XK} {s1 : Shared} {g2 : Array GenState} {d2 : Drawn} {t2 : Nat} {os2 : OsState} (T : Raises X (.ref C)) (I1 : Inv X pins σ H1 s1) (new : s1.heap.objs.size ≤ a) (k : ∀ b o, s1.heap.get? b = some o → hp2.get? b = some o)
    (un : Un (frs X.stack) [] (upd H1 a (exo a C none)) (upd H1 a (exo a C none)) hp2 h2) (ok : HOk X.prog X.w (upd H1 a (exo a C none)) h2) (ho : os2 = s1.os) (hb : AllBare g2) (q : Q (.ref C) none H1) : MkP X pins σ Q (.ref a) ⟨h2, g2, d2, t2, os2⟩ := by
  obtain ⟨hp1, g1, d1, t1, os1⟩ := s1
  have hn : H1 a = none := I1.hok.fresh new
  obtain ⟨t0, obj⟩ := exo_at ok (e := a) (C := C) (d := none) upd_same
  obtain ⟨G, rest, gone⟩ := restrict h2 fun b => !decide (b = a)
  have same : ∀ b, b ≠ a → G.get? b = h2.get? b := fun b z => rest b (by simp [z])
  have away : G.get? a = none := gone a (by simp)
  have J : Inv X pins σ H1 ⟨G, g2, d2, t2, os2⟩ := I1.call' (ch := []) ho (un_without new k un same) (hok_without hn ok same) hb (fun _ z => absurd z (by simp))
  refine ⟨a, _, _, _, _, _, _, rfl, J, ?_, away, obj, ⟨rfl, rfl⟩, rfl, rfl, hn, rfl, hb, T, q⟩
  intro b o there
  have z : b ≠ a := fun z => by rw [z] at there; exact nomatch away.symm.trans there
  exact (same b z).symm.trans there
end
/-- __init__ that does nothing -/
def spPass : Sp := fun vs H Q _ => ∃ x : Addr, vs = [.ref x] ∧ Q .non H
theorem pmk_oexZ {X : Cx} {CX : CXT} {x : Str} {C fI : Addr} {k : Nat} {fd : FuncData} {ps : List Str} {p pos : Pos} (T : OexC X.K C) (iC : PySem.W.findIn X.K (.ref C) "__init__" = some (some (.ref fI))) (tI : PySem.W.typeIn X.K (.ref fI) = some (.type "function"))
    (F1 : FnOk X.prog X.w X.K X.mg X.base CX k fI fd ps spPass) (hr : Room (k + 1) X.A) (hb : Binds X.K fd ps []) (hx : Passes CX X (fun _ _ _ => False)) (hg : Gl X x) (hm : X.mg x = some (.ref C)) (hdb : (x == ("__debug__" : Str)) = false := by decide) :
    PMk X (.Call (.Name x p) [] [] pos) (fun _ H Q => Q (.ref C) none H) := by
  intro pins s σ H1 Q I1 goal
  obtain ⟨hp, g, dr, tk, os⟩ := s
  obtain ⟨nm, q, N, bs, bm, sn, sub, ab, col, dd, k0, k1, k2, k3, k5, hC, hbm⟩ := T.cls
  refine wpAny_Call_Name_kw (ld_glob I1 hg hm ?_ hdb)
  refine PySem.W.callWith_K0 I1.kIn T.kC ?_
  show wpAny _ _ (call (.ref C) []) _ _ _
  -- the new exception's place, and the heap with it
  generalize en : hp.objs.size + 1 = a
  have new : hp.objs.size ≤ a := by rw [← en]; exact Nat.le_succ _
  generalize eh : (hp.push (PySem.W.kdv_tup [])).push (PySem.HandSPX.excO C hp.objs.size) = hpA
  have kept : ∀ b o, hp.get? b = some o → hpA.get? b = some o := fun b o there => by rw [← eh]; exact Heap.get?_push_of_some _ (Heap.get?_push_of_some _ there)
  have there : hpA.get? a = some (PySem.HandSPX.excO C hp.objs.size) := by rw [← eh, ← en]; heap_get
  have I2 : Inv X pins σ (upd H1 a (exo a C none)) ⟨hpA, g, dr, tk, os⟩ := I1.laid (t' := tk) kept new (exo_ok there)
  have word : spPass [.ref a] (upd H1 a (exo a C none)) (fun v H2 => v = .non ∧ H2 = upd H1 a (exo a C none)) (fun _ _ _ => False) := ⟨_, rfl, rfl, rfl⟩
  have one : Vals [V.ref a] [Value.ref a] := .cons rfl .nil
  have hl : [Value.ref a].length = ps.length := one.length.symm.trans (F1.len _ _ _ _ word)
  have bind : BindsTo ⟨hpA, g, dr, tk, os⟩ fd ⟨[Value.ref a], []⟩ (ps.zip [Value.ref a]) := by simpa using hb ⟨hpA, g, dr, tk, os⟩ [Value.ref a] I2.kIn hl
  have run := F1.run _ X.stack _ _ ⟨[Value.ref a], []⟩ [Value.ref a] _ _ (fun _ _ _ => False) (hr.make C [] []) (I2.env0.make C [] []) bind one word
  subst eh
  subst en
  refine wpAny_call (PySem.HandSPX.call_own F.excBase_ValueError (fun Y => PySem.HandSPX.refsVE_contains Y bm hbm) (I1.kIn _ _ hC) (PySem.W.looks_findIn I1.kIn iC) (fun self => PySem.W.bind_fn I1.kIn self tI) (Nat.zero_le _) (codeAny_mono run fun r s' end_ => ?_))
  match r, end_ with
  | .error er, end_ => exact hx pins σ _ _ er s' I2 end_
  | .ok .next, end_ | .ok .brk, end_ | .ok .cont, end_ => exact end_.elim
  | .ok (.ret u), ⟨v, H2, os2, bare2, un2, ok2, rv, ev, eH⟩ =>
    subst ev
    subst eH
    exact ⟨rv, made_plain (raises_own T.exC T.tyC) I1 new kept un2 ok2 os2 bare2 goal⟩
theorem vals_by : ∀ (xs : List V) (us : List Value), xs.length = us.length → (∀ (j : Nat) (x : V) (v : Value), xs[j]? = some x → us[j]? = some v → RelV x v) → Vals xs us
  | [], [], _, _ => .nil
  | [], _ :: _, e, _ => by cases e
  | _ :: _, [], e, _ => by cases e
  | x :: xs, u :: us, e, h => .cons (h 0 x u rfl rfl) (vals_by xs us (by simpa using e) fun j y v h1 h2 => h (j + 1) y v h1 h2)
/-- list(a text): a text of one sign for each -/
theorem call_listS {X : Cx} (hc : X.calm = true) : CallR X (.type "list") (fun xs H Q => ∃ z : Str, xs = [.str z] ∧ z.length ≤ sizeLine ∧ ∀ p, H p = none → Q (.ref p) (upd H p (.lst (z.cps.toList.map fun c => V.str ⟨#[c]⟩)))) := by
  intro pins s σ H xs us Q I r word
  obtain ⟨z, rfl, hz, q⟩ := word; obtain ⟨u, rfl, t, rfl⟩ := vals1 r
  refine PySem.call_list_str (I.ok.hd hc) z t (fun h' tk acc' c' kp e it => ?_) hz
  have hsz : acc'.size = z.cps.size := it.1
  have hv : Vals (z.cps.toList.map fun c => V.str ⟨#[c]⟩) acc'.toList := by
    refine vals_by _ _ (by rw [List.length_map, Array.length_toList, Array.length_toList, hsz]) fun (j : Nat) x v h1 h2 => ?_
    obtain ⟨c, w2, hc2, rfl⟩ := it.2 j v (by simpa using h2)
    rw [List.getElem?_map, show z.cps.toList[j]? = some c by simpa using hc2] at h1
    cases h1
    exact ⟨w2, rfl⟩
  have e' : h'.get? s.heap.objs.size = some { cls := .type "list", dict := none, data := .seq acc'.toList.toArray c', slots := #[] } := e
  refine ⟨.ref s.heap.objs.size, _, I.laid (t' := tk) kp (Nat.le_refl _) (o := .lst (z.cps.toList.map fun c => V.str ⟨#[c]⟩)) ⟨?_, acc'.toList, c', hv, e'⟩, rfl, q _ (I.hok.fresh (Nat.le_refl _))⟩
  rw [List.length_map]
  exact hz

/-! ### several except clauses, with names or without -/
abbrev HdT := Value × Option Nat × (Addr → Value → Option Addr → TS)
def wManyA (K : PySem.W.Frag) (Wout : WX) (D : Ends) : List HdT → WX
  | [] => Wout
  | (c, none, ts) :: r => fun cls d σ H => ∃ b, PySem.W.exmOne K cls c = some b ∧ (b = true → ∀ a, H a = none → ts a cls d D σ H) ∧ (b = false → wManyA K Wout D r cls d σ H)
  | (c, some i, ts) :: r => fun cls d σ H => ∃ b, PySem.W.exmOne K cls c = some b ∧
      (b = true → ∀ a, H a = none → ts a cls d { nx := fun τ G => D.nx (τ.set i none) G, rt := D.rt, bk := fun τ G => D.bk (τ.set i none) G, ct := fun τ G => D.ct (τ.set i none) G } (σ.set i (some (.ref a))) H) ∧ (b = false → wManyA K Wout D r cls d σ H)
/-- an exception at a over the frame: the state it came from, the heap it stands in -/
structure Aloft (X : Cx) (pins : List (Addr × Obj)) (σ : St) (H : Hp) (old now : Shared) (B : Heap) (a : Addr) (cls : Value) (d : Option Addr) : Prop where
  inv : Inv X pins σ H old
  ground : ∀ b o, old.heap.get? b = some o → b ∉ frs X.stack → B.get? b = some o
  slots : old.heap.UpToSlots now.heap
  air : HandSPX.FlyingZ B (X.env :: X.outer) a (Zc cls d) now.heap
  free : H a = none
  sys : now.os = old.os
  gens : AllBare now.gens
section
variable {X : Cx} {pins : List (Addr × Obj)} {σ : St} {H : Hp} {old now : Shared} {B : Heap} {a : Addr} {cls : Value} {d : Option Addr}
theorem Aloft.at_ (x : Aloft X pins σ H old now B a cls d) : Inv X pins σ H now := x.inv.landed (s' := now) x.ground x.air.1 x.slots x.sys x.gens
theorem Aloft.further (x : Aloft X pins σ H old now B a cls d) {h : Heap} (up : now.heap.UpToSlots h) (fl : HandSPX.FlyingZ B (X.env :: X.outer) a (Zc cls d) h) : Aloft X pins σ H old { now with heap := h } B a cls d :=
  ⟨x.inv, x.ground, x.slots.trans up, fl, x.free, x.sys, x.gens⟩
/-- the clauses' own view: the exception is held -/
theorem Aloft.held (hf : X.env.frame = some X.env.locals) (hs : X.stack = X.env :: X.outer) (x : Aloft X pins σ H old now B a cls d) :
    ∃ oe, Zc cls d oe ∧ (∃ vs, oe.data = .fields vs) ∧ now.heap.get? a = some oe ∧ Inv (X.suite a ((a, oe) :: (X.pn ++ pins))) [] σ H now := by
  obtain ⟨oe, vs, at_, kind, data⟩ := x.air.there
  have noFrame : a ∉ frs (X.env :: X.outer) := fun m => by
    obtain ⟨_, o2, at2, other⟩ := x.air.2.2.1.mem m
    cases at_.symm.trans at2
    exact other _ data
  have nL : a ≠ X.env.locals := fun z => noFrame (List.mem_filterMap.mpr ⟨_, List.mem_cons_self, hf.trans (congrArg some z.symm)⟩)
  have nF : a ∉ X.fs := fun m => by
    obtain ⟨e, me, q⟩ := List.mem_filterMap.mp m
    exact noFrame (List.mem_filterMap.mpr ⟨e, List.mem_cons_of_mem _ me, q⟩)
  exact ⟨oe, kind, ⟨vs, data⟩, at_, x.at_.suite at_ data x.free nL nF⟩
end
/-- clauses, and what they wish of an exception -/
def PH (X : Cx) (hds : List ExceptHandler) (w : Ends → WX) : Prop := ∀ {pins : List (Addr × Obj)} {σ : St} {H : Hp} {old now : Shared} {B : Heap} {a : Addr} {cls : Value} {d : Option Addr} (D : Ends),
  Aloft X pins σ H old now B a cls d → w D cls d σ H → wpAny (model X.prog X.w) X.A (handleBy (.ref a) X.env hds) (SP X pins D) X.xe now
section
variable {X : Cx} {hds : List ExceptHandler} {Wout : WX} {l : List HdT} {x n : Str} {c : Value} {ts : Addr → Value → Option Addr → TS} {b₀ : Stmt} {suite : List Stmt} {np pos' : Pos}
theorem ph_nil (hf : X.env.frame = some X.env.locals) (hs : X.stack = X.env :: X.outer) (tk : Takes X Wout) : PH X [] (fun D => wManyA X.K Wout D []) := by
  intro pins σ H old now B a cls d D x wish
  apply wpAny_handleBy_nil
  obtain ⟨_, _, _, oe, vs, T, oT, ts', at_, kind, data, first, _⟩ := id x.air
  have out : wpAny (model X.prog X.w) X.A (setFlight (.ref a) X.env.frame) (fun _ s4 => wpAny (model X.prog X.w) X.A (throw (.ref a) : Sem Flow) (SP X pins D) X.xe s4) X.xe now := by
    rw [hf]
    refine HandSPX.setFlight_upZ x.air fun h held up => ?_
    refine wpAny_throw (tk _ _ ⟨a, B, old, pins, σ, H, cls, d, rfl, x.inv, x.ground, x.slots.trans up, .inr (.inr ?_), x.free, x.sys, x.gens, wish⟩)
    rw [hs]; exact held
  unfold PySem.passOn
  refine wpAny_bind (wpAny_field at_ data first ?_)
  have notNone : (Value.ref T == Value.none) ≠ true := by simp
  rw [if_neg notNone]
  first | exact wpAny_bind out | exact wpAny_bind (wpAny_pure (wpAny_bind out))
/-- the class of a clause is looked up -/
theorem load_cls {Y : Cx} {pins : List (Addr × Obj)} {σ : St} {H : Hp} {s : Shared} (J : Inv Y pins σ H s) (hc : Names Y x c) {Q E : Value → Shared → Prop} (q : Q c s) : wpAny (model Y.prog Y.w) Y.A (eval (.Name x np) Y.env) Q E s := by
  obtain ⟨glob, dbg, own | ⟨none_, boot, named⟩⟩ := hc
  · exact ld_glob J glob own q dbg
  · exact ld_blt J glob none_ boot q named dbg
theorem ph_cons (hf : X.env.frame = some X.env.locals) (hs : X.stack = X.env :: X.outer) (ok : X.Ok) (hc : Names X x c)
    (hsu : ∀ (a : Addr) (oe : Obj) (cls : Value) (d : Option Addr) (pn : List (Addr × Obj)), Zc cls d oe → (∃ vs, oe.data = .fields vs) → PSs (X.suite a ((a, oe) :: pn)) (b₀ :: suite) (ts a cls d))
    (rest : PH X hds fun D => wManyA X.K Wout D l) : PH X (.ExceptHandler (some (.Name x np)) none (b₀ :: suite) pos' :: hds) (fun D => wManyA X.K Wout D ((c, none, ts) :: l)) := by
  intro pins σ H old now B a cls d D y wish
  obtain ⟨b, said, yes, no⟩ := wish
  obtain ⟨oe, kind, data, at_, S⟩ := y.held hf hs
  have type : PySem.W.Looks (model X.prog X.w) now.heap (typeOf (.ref a)) cls := fun _ _ _ _ keep q => wpAny_typeOf_ref (keep _ _ at_) (kind.1.symm ▸ q)
  have answer := PySem.W.exm_one (M := model X.prog X.w) y.at_.kIn type said
  refine wpAny_handleBy_cons (codeAny_handlers_test (load_cls (Y := X.suite a ((a, oe) :: (X.pn ++ pins))) S hc (answer.here ?_))) (fun q => nomatch q)
  match b, yes, no with
  | false, _, no => exact rest D y (no rfl)
  | true, yes, _ =>
    refine codeAny_handlers_suite (HandSPX.lands_againZ y.air fun h fl up => ?_)
    obtain ⟨oe2, kind2, data2, _, S2⟩ := (y.further up fl).held hf hs
    refine wpAny_mono ((hsu a oe2 cls d (X.pn ++ pins) kind2 data2).run [] _ σ H _ S2 (yes rfl a y.free)) (fun f s6 end_ => ?_) (fun _ _ z => z.elim)
    match f, end_ with
    | .next, ⟨_, _, J, q⟩ | .brk, ⟨_, _, J, q⟩ | .cont, ⟨_, _, J, q⟩ => exact ⟨_, _, J.unsuite ok, q⟩
    | .ret _, ⟨_, _, _, J, r, q⟩ => exact ⟨_, _, _, J.unsuite ok, r, q⟩
theorem ph_consN {i : Nat} (hf : X.env.frame = some X.env.locals) (hs : X.stack = X.env :: X.outer) (ok : X.Ok) (hc : Names X x c) (hN : X.N.Nodup) (hi : X.N[i]? = some n) (hln : X.env.kindOf n = some .local)
    (hsu : ∀ (a : Addr) (oe : Obj) (cls : Value) (d : Option Addr) (pn : List (Addr × Obj)), Zc cls d oe → (∃ vs, oe.data = .fields vs) → PSs (X.suite a ((a, oe) :: pn)) (b₀ :: suite) (ts a cls d))
    (rest : PH X hds fun D => wManyA X.K Wout D l) : PH X (.ExceptHandler (some (.Name x np)) (some n) (b₀ :: suite) pos' :: hds) (fun D => wManyA X.K Wout D ((c, some i, ts) :: l)) := by
  intro pins σ H old now B a cls d D y wish
  obtain ⟨b, said, yes, no⟩ := wish
  obtain ⟨oe, kind, data, at_, S⟩ := y.held hf hs
  have type : PySem.W.Looks (model X.prog X.w) now.heap (typeOf (.ref a)) cls := fun _ _ _ _ keep q => wpAny_typeOf_ref (keep _ _ at_) (kind.1.symm ▸ q)
  have answer := PySem.W.exm_one (M := model X.prog X.w) y.at_.kIn type said
  refine wpAny_handleBy_cons (codeAny_handlers_test (load_cls (Y := X.suite a ((a, oe) :: (X.pn ++ pins))) S hc (answer.here ?_))) (fun q => nomatch q)
  match b, yes, no with
  | false, _, no => exact rest D y (no rfl)
  | true, yes, _ =>
    refine codeAny_handlers_suite_as (HandSPX.lands_againZ y.air fun h fl up => ?_)
    obtain ⟨oe2, kind2, data2, _, S2⟩ := (y.further up fl).held hf hs
    refine store_ok (X := X.suite a ((a, oe2) :: (X.pn ++ pins))) (v := .ref a) S2 hN hi (.inl hln) rfl (fun s5 S5 => ?_) (.inr hln)
    refine wpAny_mono ((hsu a oe2 cls d (X.pn ++ pins) kind2 data2).run [] s5 _ H _ S5 (yes rfl a y.free)) (fun f s6 end_ => ?_) (fun _ _ z => z.elim)
    match f, end_ with
    | .next, ⟨_, _, J, q⟩ | .brk, ⟨_, _, J, q⟩ | .cont, ⟨_, _, J, q⟩ => exact gone_ok (J.unsuite ok) hN hi hln fun _ J7 => ⟨_, _, J7, q⟩
    | .ret _, ⟨_, _, _, J, r, q⟩ => exact gone_ok (J.unsuite ok) hN hi hln fun _ J7 => ⟨_, _, _, J7, r, q⟩
end
/-- the clauses of a try, one by one -/
inductive HdsA (X : Cx) : List ExceptHandler → List HdT → Prop
  | nil : HdsA X [] []
  | cons {x : Str} {c : Value} {ts : Addr → Value → Option Addr → TS} {b₀ : Stmt} {suite : List Stmt} {np pos' : Pos} {hds : List ExceptHandler} {l : List HdT} (hc : Names X x c)
      (hsu : ∀ (a : Addr) (oe : Obj) (cls : Value) (d : Option Addr) (pn : List (Addr × Obj)), Zc cls d oe → (∃ vs, oe.data = .fields vs) → PSs (X.suite a ((a, oe) :: pn)) (b₀ :: suite) (ts a cls d)) (r : HdsA X hds l) : HdsA X (.ExceptHandler (some (.Name x np)) none (b₀ :: suite) pos' :: hds) ((c, none, ts) :: l)
  | consN {x n : Str} {i : Nat} {c : Value} {ts : Addr → Value → Option Addr → TS} {b₀ : Stmt} {suite : List Stmt} {np pos' : Pos} {hds : List ExceptHandler} {l : List HdT} (hc : Names X x c) (hN : X.N.Nodup) (hi : X.N[i]? = some n) (hln : X.env.kindOf n = some .local)
      (hsu : ∀ (a : Addr) (oe : Obj) (cls : Value) (d : Option Addr) (pn : List (Addr × Obj)), Zc cls d oe → (∃ vs, oe.data = .fields vs) → PSs (X.suite a ((a, oe) :: pn)) (b₀ :: suite) (ts a cls d)) (r : HdsA X hds l) : HdsA X (.ExceptHandler (some (.Name x np)) (some n) (b₀ :: suite) pos' :: hds) ((c, some i, ts) :: l)
theorem HdsA.ph {X : Cx} {hds : List ExceptHandler} {l : List HdT} {Wout : WX} (hf : X.env.frame = some X.env.locals) (hs : X.stack = X.env :: X.outer) (ok : X.Ok) (tk : Takes X Wout) (hh : HdsA X hds l) : PH X hds fun D => wManyA X.K Wout D l := by
  induction hh with
  | nil => exact ph_nil hf hs tk
  | cons hc hsu _ ih => exact ph_cons hf hs ok hc hsu ih
  | consN hc hN hi hln hsu _ ih => exact ph_consN hf hs ok hc hN hi hln hsu ih
theorem ps_try_manyA {X : Cx} {body : List Stmt} {h₀ : ExceptHandler} {hds : List ExceptHandler} {l : List HdT} {pos : Pos} {tb : WX → TS} {Wout : WX} (hs : X.stack = X.env :: X.outer) (hf : X.env.frame = some X.env.locals) (tk : Takes X Wout)
    (hb : ∀ (W : WX) (pn : List (Addr × Obj)) (xe : Value → Shared → Prop), Takes (X.tr pn xe) W → PassesOwn (model X.prog X.w) X.A X.env xe → PSs (X.tr pn xe) body (tb W)) (hh : HdsA X (h₀ :: hds) l) :
    PS X (.Try body (h₀ :: hds) [] [] pos) (fun D σ H => tb (wManyA X.K Wout D l) D σ H) := by
  constructor
  intro pins s σ H D I wish
  apply wpAny_Try_except
  have ok := I.ok
  have clauses : PH X (h₀ :: hds) fun D => wManyA X.K Wout D l := HdsA.ph hf hs ok tk hh
  -- what is done with what the body lets out
  let xe : Value → Shared → Prop := fun e s1 => wpAny (model X.prog X.w) X.A (noteFrame e X.env) (fun _ s2 => wpAny (model X.prog X.w) X.A (setFlight e none) (fun _ s3 => wpAny (model X.prog X.w) X.A (handleBy e X.env (h₀ :: hds)) (SP X pins D) X.xe s3) X.xe s2) X.xe s1
  have takes : Takes (X.tr (X.pn ++ pins) xe) (wManyA X.K Wout D l) := by
    rintro u s1 ⟨a, B, old, pins1, τ, G, cls, d, rfl, J, ground, up, sky, free, sys, gens, w⟩
    have sky2 : Sky B (X.env :: X.outer) a (Zc cls d) X.env.locals s1.heap := by rw [← hs]; exact sky
    refine Sky.land Zc.steady (by rw [ok.frames, hs]) hf sky2 fun h fl up2 => ?_
    exact clauses D ⟨J.ofTry ok, ground, up.trans up2, fl, free, sys, gens⟩ w
  refine wpAny_mono ((hb (wManyA X.K Wout D l) (X.pn ++ pins) xe takes PassesOwn.looking).run [] s σ H D (I.toTry _) wish) (fun f s1 end_ => ?_) (fun _ _ z => z)
  match f, end_ with
  | .next, ⟨τ, G, J, q⟩ => exact wpAny_execs_nil ⟨τ, G, J.ofTry ok, q⟩
  | .brk, ⟨τ, G, J, q⟩ | .cont, ⟨τ, G, J, q⟩ => exact ⟨τ, G, J.ofTry ok, q⟩
  | .ret _, ⟨v, τ, G, J, r, q⟩ => exact ⟨v, τ, G, J.ofTry ok, r, q⟩
end L2
/-! The rules with the written part by its own name. -/
namespace L2
open PySem PySem.Spec PyProof.Rows
section
variable {X : Cx} {K : PySem.W.Frag}
theorem ixL (e : X.K = K) : IxR X (rIxL K) := e ▸ ix_list
theorem ixT (e : X.K = K) : IxR X (rIxT K) := e ▸ ix_tup
theorem ixQ (e : X.K = K) : IxR X (rIx K) := e ▸ ix_seq
theorem slL (e : X.K = K) : SlR X (rSlL K) := e ▸ sl_list
theorem slT (e : X.K = K) : SlR X (rSlT K) := e ▸ sl_tup
theorem inQ (e : X.K = K) : OpR X (compareOp .In) (rIn K false) := e ▸ op_in_seq
theorem niQ (e : X.K = K) : OpR X (compareOp .NotIn) (rIn K true) := e ▸ op_notIn_seq
theorem catT (e : X.K = K) : OpR X (binaryOp .Add) (rCatT K) := e ▸ op_catT
theorem eqD (e : X.K = K) (hu : X.A.units + 64 < cLine) : OpR X (compareOp .Eq) (rEqD K) := e ▸ op_eqD hu
theorem neD (e : X.K = K) (hu : X.A.units + 64 < cLine) : OpR X (compareOp .NotEq) (rNeD K) := e ▸ op_neD hu
def rLen (K : PySem.W.Frag) : List V → Hp → VK → Prop := fun xs H Q => ∃ p ys, xs = [.ref p] ∧ (SqL K H p ys ∨ SqT K H p ys) ∧ Q (.int ys.length) H
theorem clen (e : X.K = K) : CallR X (.builtin "len") (rLen K) := e ▸ call_len_seq
def rLenText : List V → Hp → VK → Prop := fun vs H Q => ∃ z, vs = [.str z] ∧ z.length ≤ sizeLine ∧ Q (.int z.length) H
theorem clenS : CallR X (.builtin "len") rLenText := call_len_str
def rLst (K : PySem.W.Frag) : List V → Hp → VK → Prop := fun xs H Q => ∃ p ys, xs = [.ref p] ∧ (SqL K H p ys ∨ SqT K H p ys) ∧ ∀ l, H l = none → Q (.ref l) (upd H l (.lst ys))
theorem clist (e : X.K = K) : CallR X (.type "list") (rLst K) := e ▸ call_list_of
def rTupOf (K : PySem.W.Frag) : List V → Hp → VK → Prop := fun xs H Q => ∃ p ys, xs = [.ref p] ∧ ((SqL K H p ys ∧ ∀ l, H l = none → Q (.ref l) (upd H l (.tup ys))) ∨ (SqT K H p ys ∧ Q (.ref p) H))
theorem ctuple (e : X.K = K) : CallR X (.type "tuple") (rTupOf K) := e ▸ call_tuple_of
theorem cisi (e : X.K = K) : CallR X (.builtin "isinstance") (rIsi K) := e ▸ call_isi
theorem cisiT (e : X.K = K) : CallR X (.builtin "isinstance") (rIsiT K) := e ▸ call_isiT
theorem csum (e : X.K = K) (hc : X.calm = true) : CallR X (.builtin "sum") (rSum K) := e ▸ cr_sum hc
theorem cany (e : X.K = K) (hc : X.calm = true) : CallR X (.builtin "any") (rAny K) := e ▸ cr_any hc
theorem call_ (e : X.K = K) (hc : X.calm = true) : CallR X (.builtin "all") (rAll K) := e ▸ cr_all hc
theorem cmax (e : X.K = K) (hc : X.calm = true) : CallR X (.builtin "max") (rMax K) := e ▸ cr_max hc
theorem cmin (e : X.K = K) (hc : X.calm = true) : CallR X (.builtin "min") (rMin K) := e ▸ cr_min hc
def rJoin (K : PySem.W.Frag) : V → List V → Hp → VK → Prop := fun x xs H Q => ∃ a p, ∃ ys : List Str, x = .str a ∧ xs = [.ref p] ∧ (SqL K H p (ys.map V.str) ∨ SqT K H p (ys.map V.str)) ∧ (ys.map (·.length)).sum + ys.length * a.length ≤ 16777216 ∧ Q (.str (Txt.join a ys)) H
theorem mjoin (e : X.K = K) : MtR X "str.join" (rJoin K) := e ▸ mt_join
section
variable {T name id : String} {r : V → List V → Hp → VK → Prop} {o e : Expr} {es : List Expr} {to : TE} {t : TA} {apos cpos : Pos}
theorem pbm (q : X.K = K) (pa : PlainAttrs T) (slot : Slot T name id) (hty : typeOf (.builtin id) = pure (.type "method_descriptor")) (hm : MtR X id r) (ho : PE X o to) (ha : PA X (e :: es) t)
    (hbase : attributeBase o name X.env (eval o X.env) = eval o X.env := by rfl) (hfew : ((backTo cpos (starEach (e :: es) X.env)).all (fun x => !x.1) && (backToKw cpos (keywordEach [] X.env)).all (fun x => x.1.isSome) && decide ((e :: es).length + ([] : List Keyword).length + (if ([] : List Keyword).isEmpty then 0 else 1) < 30)) = true := by rfl)
    (hline : (apos.endLine == cpos.line) = true := by rfl) (hs :
    starEach (e :: es) X.env = (false, eval e X.env) :: starEach es X.env := by rfl) (hplain : (backTo cpos (starEach es X.env)).any (·.1) = false := by rfl) :
    PE X (.Call (.Attribute o name apos) (e :: es) [] cpos) (tBM K T r to t) := q ▸ pe_bm pa slot hty hm ho ha hbase hfew hline hs hplain
theorem pbm0 (q : X.K = K) (pa : PlainAttrs T) (slot : Slot T name id) (hty : typeOf (.builtin id) = pure (.type "method_descriptor")) (hm : MtR X id r) (ho : PE X o to)
    (hbase : attributeBase o name X.env (eval o X.env) = eval o X.env := by rfl) (hline : (apos.endLine == cpos.line) = true := by rfl) :
    PE X (.Call (.Attribute o name apos) [] [] cpos) (tBM0 K T r to) := q ▸ pe_bm0 pa slot hty hm ho hbase hline
end
def tTruth (K : PySem.W.Frag) (ta : TE) : TT := fun σ H Q => ta σ H fun x G => ∃ k, TruV K x G k ∧ Q k G
theorem ptru {a : Expr} {ta : TE} (e : X.K = K) (ha : PE X a ta) (he : ∀ whole, isTrue a X.env whole = (do let v ← whole; standAt a.pos; holding [v] (truthy v))) : PT X a (tTruth K ta) := e ▸ pt_truth ha he
theorem piL {tg l : Expr} {tl : TE} (e : X.K = K) (h : PE X l tl) (hs : ∀ x, foldedSetIterable l X.env x = pure x := by intro _; rfl) : PI X tg l (iList K tl) := e ▸ pi_list h
theorem piT {tg l : Expr} {tl : TE} (e : X.K = K) (h : PE X l tl) : PI X tg l (iTup K tl) := e ▸ pi_tup h
theorem pgT {es : List Expr} {k : Nat} {t : TGs} {n : Nat} {pos : Pos} (e : X.K = K) (hc : X.calm = true) (h : PGs X es t) (hn : (assignEach es X.env).length = n := by rfl)
    (hst : (assignEach es X.env).findIdx? (·.1) = none := by rfl) : PG X (.Tuple es k pos) (gTup K n t) := e ▸ pg_tup hc h hn hst
theorem prevL {e : Expr} {te : TE} {k : Nat} {p1 p2 p3 pos : Pos} (q : X.K = K) (he : PE X e te) : PE X (.Subscript e (.Slice none none (some (.UnaryOp .USub (.Constant (.int 1) k p1) p2)) p3) pos) (tRevL K te) := q ▸ pe_revL he
end
end L2
namespace L2
open PySem PySem.Spec PyProof.Rows
/-- isinstance(e, c), e what the suite holds, of the class at D and without a dict -/
def rIsX (K : PySem.W.Frag) (D a : Addr) (cls : Value) (d : Option Addr) : List V → Hp → VK → Prop := fun xs H Q => cls = .ref D ∧ d = none ∧ rIsE K D a xs H Q
theorem cisE {X : Cx} {K : PySem.W.Frag} {a D : Addr} {cls : Value} {d : Option Addr} {oe : Obj} {pn : List (Addr × Obj)} (q : X.K = K) (C : ExcC K D) (hz : Zc cls d oe) (hf : ∃ vs, oe.data = .fields vs) :
    CallR (X.suite a ((a, oe) :: pn)) (.builtin "isinstance") (rIsX K D a cls d) := by
  subst q
  rintro pins s σ H vs us Q I r ⟨rfl, rfl, word⟩
  exact call_isE C hz hf pins s σ H vs us Q I r word
end L2
/-! Rows as lists of codes: undoing, dropping neighbours, nets. -/
namespace RB
/-- the undoing of a letter (other signs stay) -/
def sw (c : Nat) : Nat := if 65 ≤ c ∧ c ≤ 90 then c + 32 else if 97 ≤ c ∧ c ≤ 122 then c - 32 else c
/-- a letter a to z or A to Z -/
def IsL (c : Nat) : Prop := (65 ≤ c ∧ c ≤ 90) ∨ (97 ≤ c ∧ c ≤ 122)
instance (c : Nat) : Decidable (IsL c) := by unfold IsL; infer_instance
theorem sw_sw {c : Nat} (h : IsL c) : sw (sw c) = c := by
  unfold IsL at h; unfold sw; split <;> split <;> (try split) <;> omega
theorem sw_L {c : Nat} (h : IsL c) : IsL (sw c) := by
  unfold IsL at *; unfold sw; split <;> (try split) <;> omega
theorem sw_ne {c : Nat} (h : IsL c) : sw c ≠ c := by
  unfold IsL at h; unfold sw; split <;> (try split) <;> omega
theorem sw_eq {a b : Nat} (ha : IsL a) (hb : IsL b) : a = sw b ↔ b = sw a :=
  ⟨fun e => by rw [e, sw_sw hb], fun e => by rw [e, sw_sw ha]⟩
/-- a row -/
def Ls (l : List Nat) : Prop := ∀ c ∈ l, IsL c
instance (l : List Nat) : Decidable (Ls l) := inferInstanceAs (Decidable (∀ c ∈ l, IsL c))
theorem Ls.nil : Ls [] := fun _ h => nomatch h
theorem Ls.app {a b : List Nat} (ha : Ls a) (hb : Ls b) : Ls (a ++ b) := fun c h => by
  rcases List.mem_append.mp h with z | z
  · exact ha c z
  · exact hb c z
theorem Ls.left {a b : List Nat} (h : Ls (a ++ b)) : Ls a := fun c hc => h c (List.mem_append_left _ hc)
theorem Ls.right {a b : List Nat} (h : Ls (a ++ b)) : Ls b := fun c hc => h c (List.mem_append_right _ hc)
theorem Ls.cons {x : Nat} {b : List Nat} (hx : IsL x) (hb : Ls b) : Ls (x :: b) := fun c h => by
  rcases List.mem_cons.mp h with h | h
  · rw [h]; exact hx
  · exact hb c h
theorem Ls.head {x : Nat} {b : List Nat} (h : Ls (x :: b)) : IsL x := h x List.mem_cons_self
theorem Ls.tail {x : Nat} {b : List Nat} (h : Ls (x :: b)) : Ls b := fun c hc => h c (List.mem_cons_of_mem _ hc)
theorem Ls.one {x : Nat} (hx : IsL x) : Ls [x] := Ls.cons hx Ls.nil
theorem Ls.rev {a : List Nat} (h : Ls a) : Ls a.reverse := fun c hc => h c (List.mem_reverse.mp hc)
theorem Ls.take {a : List Nat} (h : Ls a) (n : Nat) : Ls (a.take n) := fun c hc => h c (List.mem_of_mem_take hc)
theorem Ls.drop {a : List Nat} (h : Ls a) (n : Nat) : Ls (a.drop n) := fun c hc => h c (List.mem_of_mem_drop hc)
/-- the undoings of the letters, from the last to the first -/
def inv (l : List Nat) : List Nat := (l.map sw).reverse
theorem inv_len (l : List Nat) : (inv l).length = l.length := by unfold inv; rw [List.length_reverse, List.length_map]
theorem Ls.inv {a : List Nat} (h : Ls a) : Ls (inv a) := by
  intro c hc
  unfold RB.inv at hc
  rw [List.mem_reverse, List.mem_map] at hc
  obtain ⟨d, hd, e⟩ := hc
  rw [← e]; exact sw_L (h d hd)
theorem inv_inv {a : List Nat} (h : Ls a) : inv (inv a) = a := by
  unfold inv
  rw [List.map_reverse, List.reverse_reverse, List.map_map]
  conv => rhs; rw [← List.map_id a]
  exact List.map_congr_left fun c hc => sw_sw (h c hc)
theorem inv_app (a b : List Nat) : inv (a ++ b) = inv b ++ inv a := by
  unfold inv; rw [List.map_append, List.reverse_append]
theorem inv_cons (x : Nat) (b : List Nat) : inv (x :: b) = inv b ++ [sw x] := by
  unfold inv; rw [List.map_cons, List.reverse_cons]
/-- one letter more behind what is kept (the last one first) -/
def push (st : List Nat) (c : Nat) : List Nat := match st with
  | [] => [c]
  | t :: r => if t = sw c then r else c :: t :: r
/-- what is kept of a row, the last letter first -/
def kst (l : List Nat) : List Nat := l.foldl push []
/-- the net -/
def red (l : List Nat) : List Nat := (kst l).reverse
/-- no letter stands next to its undoing (whichever way it is read) -/
def NoPair : List Nat → Prop
  | x :: y :: r => y ≠ sw x ∧ NoPair (y :: r)
  | _ => True
theorem NoPair.tail {x : Nat} {r : List Nat} (h : NoPair (x :: r)) : NoPair r := by
  cases r with
  | nil => trivial
  | cons y r => exact h.2
theorem push_L {st : List Nat} {c : Nat} (h : Ls st) (hc : IsL c) : Ls (push st c) := by
  unfold push
  cases st with
  | nil => exact Ls.one hc
  | cons t r =>
    dsimp only
    split
    · exact h.tail
    · exact Ls.cons hc h
theorem push_np {st : List Nat} {c : Nat} (hL : Ls st) (hc : IsL c) (h : NoPair st) : NoPair (push st c) := by
  unfold push
  cases st with
  | nil => trivial
  | cons t r =>
    dsimp only
    split
    · exact h.tail
    · rename_i e
      exact ⟨e, h⟩
theorem foldl_L {l st : List Nat} (h : Ls st) (hl : Ls l) : Ls (l.foldl push st) := by
  induction l generalizing st with
  | nil => exact h
  | cons c l ih => exact ih (push_L h hl.head) hl.tail
theorem foldl_np {l st : List Nat} (h : Ls st) (hl : Ls l) (n : NoPair st) : NoPair (l.foldl push st) := by
  induction l generalizing st with
  | nil => exact n
  | cons c l ih => exact ih (push_L h hl.head) hl.tail (push_np h hl.head n)
theorem kst_L {l : List Nat} (h : Ls l) : Ls (kst l) := foldl_L Ls.nil h
theorem kst_np {l : List Nat} (h : Ls l) : NoPair (kst l) := foldl_np Ls.nil h trivial
theorem push_push {st : List Nat} {c : Nat} (hL : Ls st) (hc : IsL c) (h : NoPair st) : push (push st c) (sw c) = st := by
  cases st with
  | nil =>
    show push [c] (sw c) = []
    unfold push
    dsimp only
    rw [if_pos (sw_sw hc).symm]
  | cons t r =>
    by_cases e : t = sw c
    · have e1 : push (t :: r) c = r := if_pos e
      rw [e1]
      cases r with
      | nil =>
        show [sw c] = [t]
        rw [e]
      | cons u r =>
        have n1 : u ≠ sw t := h.1
        have n2 : ¬ u = sw (sw c) := by rw [← e]; exact n1
        show (if u = sw (sw c) then r else sw c :: u :: r) = t :: u :: r
        rw [if_neg n2, e]
    · have e1 : push (t :: r) c = c :: t :: r := if_neg e
      rw [e1]
      show (if c = sw (sw c) then t :: r else _) = t :: r
      rw [if_pos (sw_sw hc).symm]
theorem kst_app (a b : List Nat) : kst (a ++ b) = b.foldl push (kst a) := List.foldl_append
theorem kst_pair {u v : List Nat} {x : Nat} (hu : Ls u) (hx : IsL x) : kst (u ++ x :: sw x :: v) = kst (u ++ v) := by
  rw [kst_app, kst_app]
  show v.foldl push (push (push (kst u) x) (sw x)) = _
  rw [push_push (kst_L hu) hx (kst_np hu)]
theorem red_pair {u v : List Nat} {x : Nat} (hu : Ls u) (hx : IsL x) : red (u ++ x :: sw x :: v) = red (u ++ v) := by
  unfold red; rw [kst_pair hu hx]
theorem red_turn {m u v : List Nat} (hu : Ls u) (hm : Ls m) : red (u ++ m ++ inv m ++ v) = red (u ++ v) := by
  induction m generalizing u v with
  | nil => simp [inv]
  | cons x m ih =>
    have h1 := ih (u := u ++ [x]) (v := sw x :: v) (hu.app (Ls.one hm.head)) hm.tail
    have e : u ++ x :: m ++ inv (x :: m) ++ v = u ++ [x] ++ m ++ inv m ++ sw x :: v := by
      rw [inv_cons]; simp
    rw [e, h1]
    have e2 : u ++ [x] ++ sw x :: v = u ++ x :: sw x :: v := by simp
    rw [e2, red_pair hu hm.head]
theorem red_turn' {m u v : List Nat} (hu : Ls u) (hm : Ls m) : red (u ++ inv m ++ m ++ v) = red (u ++ v) := by
  have h := red_turn (m := inv m) (u := u) (v := v) hu hm.inv
  rw [inv_inv hm] at h
  exact h
theorem foldl_np_id : ∀ {l st : List Nat}, Ls l → Ls st → NoPair (l.reverse ++ st) → l.foldl push st = l.reverse ++ st
  | [], _, _, _, _ => rfl
  | c :: l, st, hl, hs, h => by
    have e : (c :: l).reverse ++ st = l.reverse ++ (c :: st) := by rw [List.reverse_cons]; simp
    rw [e] at h
    have hp : push st c = c :: st := by
      cases st with
      | nil => rfl
      | cons t r =>
        have : ∀ {a b : List Nat}, NoPair (a ++ b) → NoPair b := by
          intro a
          induction a with
          | nil => intro b z; exact z
          | cons y a ih => intro b z; exact ih z.tail
        have q := this h
        exact if_neg q.1
    show l.foldl push (push st c) = _
    rw [hp, foldl_np_id hl.tail (Ls.cons hl.head hs) h, e]
theorem NoPair.app_right : ∀ {a b : List Nat}, NoPair (a ++ b) → NoPair b
  | [], _, z => z
  | _ :: a, _, z => NoPair.app_right (a := a) z.tail
theorem NoPair.app_left : ∀ {a b : List Nat}, NoPair (a ++ b) → NoPair a
  | [], _, _ => trivial
  | [_], _, _ => trivial
  | x :: y :: a, b, z => ⟨z.1, NoPair.app_left (a := y :: a) (b := b) z.2⟩
/-- joined where the ends do not undo one another -/
theorem np_join : ∀ {a b : List Nat}, NoPair a → NoPair b → (∀ x y, a.getLast? = some x → b.head? = some y → y ≠ sw x) → NoPair (a ++ b)
  | [], _, _, hb, _ => hb
  | [x], [], _, _, _ => trivial
  | [x], y :: b, _, hb, h => ⟨h x y rfl rfl, hb⟩
  | x :: y :: a, b, ha, hb, h => ⟨ha.1, np_join (a := y :: a) ha.2 hb fun p q e1 e2 => h p q (by rw [List.getLast?_cons_cons]; exact e1) e2⟩
theorem np_rev : ∀ {l : List Nat}, Ls l → NoPair l → NoPair l.reverse
  | [], _, _ => trivial
  | [x], _, _ => trivial
  | x :: y :: l, hl, h => by
    rw [List.reverse_cons]
    refine np_join (np_rev hl.tail h.2) trivial fun p q e1 e2 => ?_
    rw [List.reverse_cons, List.getLast?_append, List.getLast?_singleton] at e1
    cases e1
    cases e2
    exact fun e => h.1 (by rw [e, sw_sw hl.tail.head])
theorem red_np {l : List Nat} (h : Ls l) : NoPair (red l) := np_rev (kst_L h) (kst_np h)
theorem red_L {l : List Nat} (h : Ls l) : Ls (red l) := (kst_L h).rev
/-- a row without neighbours that undo one another is its own net -/
theorem red_id {l : List Nat} (hl : Ls l) (h : NoPair l) : red l = l := by
  unfold red kst
  rw [foldl_np_id hl Ls.nil (by rw [List.append_nil]; exact np_rev hl h), List.append_nil, List.reverse_reverse]
theorem red_red {l : List Nat} (h : Ls l) : red (red l) = red l := red_id (red_L h) (red_np h)
theorem push_len (st : List Nat) (c : Nat) : (push st c).length ≤ st.length + 1 := by
  unfold push
  cases st with
  | nil => exact Nat.le_refl _
  | cons t r => dsimp only; split <;> simp <;> omega
theorem kst_len_aux : ∀ (l st : List Nat), (l.foldl push st).length ≤ st.length + l.length
  | [], st => Nat.le_refl _
  | c :: l, st => by
    have := kst_len_aux l (push st c)
    have := push_len st c
    show (l.foldl push (push st c)).length ≤ _
    rw [List.length_cons]; omega
theorem red_len (l : List Nat) : (red l).length ≤ l.length := by
  unfold red kst; rw [List.length_reverse]; have := kst_len_aux l []; simpa using this
/-- letters that stand next to their undoings, by place -/
theorem np_at : ∀ {l : List Nat} {i x y : Nat}, NoPair l → l[i]? = some x → l[i + 1]? = some y → y ≠ sw x
  | [], i, _, _, _, h, _ => by simp at h
  | [a], 0, _, _, _, _, h => by simp at h
  | [a], i + 1, _, _, _, h, _ => by simp at h
  | a :: b :: l, 0, x, y, n, h1, h2 => by
    cases h1; cases h2; exact n.1
  | a :: b :: l, i + 1, x, y, n, h1, h2 => np_at (l := b :: l) (i := i) n.2 h1 h2
theorem np_of_at : ∀ {l : List Nat}, (∀ i x y, l[i]? = some x → l[i + 1]? = some y → y ≠ sw x) → NoPair l
  | [], _ => trivial
  | [_], _ => trivial
  | a :: b :: l, h => ⟨h 0 a b rfl rfl, np_of_at (l := b :: l) fun i x y e1 e2 => h (i + 1) x y e1 e2⟩
/-- a pair that stands at i is taken out -/
theorem red_drop {l : List Nat} {i x : Nat} (hl : Ls l) (h1 : l[i]? = some x) (h2 : l[i + 1]? = some (sw x)) : red (l.take i ++ l.drop (i + 2)) = red l := by
  have hlen : i + 1 < l.length := by
    rcases Nat.lt_or_ge (i + 1) l.length with z | z
    · exact z
    · rw [List.getElem?_eq_none z] at h2; cases h2
  have e : l = l.take i ++ x :: sw x :: l.drop (i + 2) := by
    have a1 : l.drop i = x :: l.drop (i + 1) := by
      have : l[i]'(by omega) = x := by rw [List.getElem?_eq_getElem (by omega)] at h1; exact Option.some.inj h1
      rw [← this]; exact List.drop_eq_getElem_cons (by omega)
    have a2 : l.drop (i + 1) = sw x :: l.drop (i + 2) := by
      have : l[i + 1] = sw x := by rw [List.getElem?_eq_getElem hlen] at h2; exact Option.some.inj h2
      rw [← this]; exact List.drop_eq_getElem_cons hlen
    rw [← a2, ← a1, List.take_append_drop]
  have hx : IsL x := hl x (List.mem_of_getElem? h1)
  conv => rhs; rw [e]
  rw [red_pair (hl.take i) hx]
end RB
namespace RB
/-- a pair put in at a place -/
theorem red_put {l : List Nat} {i c : Nat} (hl : Ls l) (hc : IsL c) : red (l.take i ++ [c] ++ [sw c] ++ l.drop i) = red l := by
  have e : l.take i ++ [c] ++ [sw c] ++ l.drop i = l.take i ++ c :: sw c :: l.drop i := by simp
  rw [e, red_pair (hl.take i) hc, List.take_append_drop]
/-- the places where a letter stands ahead of its undoing -/
def pairsAt (l : List Nat) : List Nat := (List.range (l.length - 1)).filter fun i => decide (l[i + 1]? = (l[i]?).map sw)
theorem pairs_none {l : List Nat} (h : pairsAt l = []) : NoPair l := by
  refine np_of_at fun i x y h1 h2 e => ?_
  have hlen : i + 1 < l.length := by
    rcases Nat.lt_or_ge (i + 1) l.length with z | z
    · exact z
    · rw [List.getElem?_eq_none z] at h2; cases h2
  have : i ∈ pairsAt l := by
    unfold pairsAt
    rw [List.mem_filter]
    refine ⟨List.mem_range.mpr (by omega), decide_eq_true ?_⟩
    rw [h1, h2, e]; rfl
  rw [h] at this
  cases this
theorem pairs_some {l : List Nat} {i : Nat} (h : i ∈ pairsAt l) : i + 1 < l.length ∧ ∃ x, l[i]? = some x ∧ l[i + 1]? = some (sw x) := by
  unfold pairsAt at h
  rw [List.mem_filter] at h
  obtain ⟨h1, h2⟩ := h
  have h3 := List.mem_range.mp h1
  have h4 := of_decide_eq_true h2
  have hlen : i < l.length := by omega
  refine ⟨by omega, l[i], List.getElem?_eq_getElem hlen, ?_⟩
  rw [h4, List.getElem?_eq_getElem hlen]; rfl
theorem np_pairs {l : List Nat} (hl : Ls l) (h : NoPair l) : pairsAt l = [] := by
  cases e : pairsAt l with
  | nil => rfl
  | cons i r =>
    obtain ⟨_, x, h1, h2⟩ := pairs_some (l := l) (i := i) (by rw [e]; exact List.mem_cons_self)
    exact absurd rfl (np_at h h1 h2)
end RB
/-! Texts as lists of codes. -/
namespace RB
open PySem PySem.Builtin PySem.Builtin.Str PyProof.Rows L2
def S (l : List Nat) : Str := ⟨l.toArray⟩
theorem S_list (l : List Nat) : (S l).cps.toList = l := rfl
theorem S_len (l : List Nat) : (S l).length = l.length := by show l.toArray.size = _; simp
theorem S_inj {a b : List Nat} (h : S a = S b) : a = b := by
  have := congrArg (fun x : Str => x.cps.toList) h
  exact this
theorem S_eq {a b : List Nat} : S a = S b ↔ a = b := ⟨S_inj, fun h => by rw [h]⟩
theorem V_eq {a b : List Nat} : (V.str (S a) = V.str (S b)) ↔ a = b := ⟨fun h => S_inj (by cases h; rfl), fun h => by rw [h]⟩
theorem dec_eq {a b : List Nat} : decide (V.str (S a) = V.str (S b)) = decide (a = b) := by
  by_cases h : a = b
  · rw [decide_eq_true h, decide_eq_true (V_eq.mpr h)]
  · rw [decide_eq_false h, decide_eq_false (fun z => h (V_eq.mp z))]
theorem S_of (z : Str) : ∃ l, z = S l := ⟨z.cps.toList, by cases z; rfl⟩
theorem S_app (a b : List Nat) : S a ++ S b = S (a ++ b) := by
  show (⟨a.toArray ++ b.toArray⟩ : Str) = ⟨(a ++ b).toArray⟩
  simp
theorem S_rev (l : List Nat) : revS (S l) = S l.reverse := rfl
theorem sIx_nat (n d : Nat) (i : Nat) : HT.sIx n d (some (i : Int)) = min i n := HT.sIx_nat n d i
theorem cut_to (l : List Nat) (i : Nat) : cutS (S l) none (some (i : Int)) = S (l.take i) := by
  unfold cutS
  rw [HT.sIx_none, sIx_nat, S_len]
  show (⟨((l.drop 0).take (min i l.length - 0)).toArray⟩ : Str) = ⟨(l.take i).toArray⟩
  rw [List.drop_zero, Nat.sub_zero]
  congr 2
  rcases Nat.le_total i l.length with h | h
  · rw [Nat.min_eq_left h]
  · rw [Nat.min_eq_right h, List.take_length, List.take_of_length_le h]
theorem cut_from (l : List Nat) (i : Nat) : cutS (S l) (some (i : Int)) none = S (l.drop i) := by
  unfold cutS
  rw [HT.sIx_none, sIx_nat, S_len]
  show (⟨((l.drop (min i l.length)).take (l.length - min i l.length)).toArray⟩ : Str) = ⟨(l.drop i).toArray⟩
  congr 2
  rcases Nat.le_total i l.length with h | h
  · rw [Nat.min_eq_left h]; exact List.take_of_length_le (by rw [List.length_drop]; exact Nat.le_refl _)
  · rw [Nat.min_eq_right h, List.drop_length, List.drop_of_length_le h]; simp
theorem cut_mid (l : List Nat) (i j : Nat) : cutS (S l) (some (i : Int)) (some (j : Int)) = S ((l.drop i).take (j - i)) := by
  unfold cutS
  rw [sIx_nat, sIx_nat, S_len]
  show (⟨((l.drop (min i l.length)).take (min j l.length - min i l.length)).toArray⟩ : Str) = ⟨((l.drop i).take (j - i)).toArray⟩
  congr 2
  rcases Nat.le_total i l.length with h | h
  · rw [Nat.min_eq_left h]
    rcases Nat.le_total j l.length with h2 | h2
    · rw [Nat.min_eq_left h2]
    · rw [Nat.min_eq_right h2, List.take_of_length_le (by rw [List.length_drop]; exact Nat.le_refl _), List.take_of_length_le (by rw [List.length_drop]; omega)]
  · rw [Nat.min_eq_right h, List.drop_length, List.drop_of_length_le h]; simp
/-! ### signs of the first half -/
def Asc (l : List Nat) : Prop := ∀ c ∈ l, c < 128
instance (l : List Nat) : Decidable (Asc l) := inferInstanceAs (Decidable (∀ c ∈ l, c < 128))
theorem Ls.asc {l : List Nat} (h : Ls l) : Asc l := fun c hc => by
  have := h c hc
  unfold IsL at this
  omega
theorem up_asc {l : List Nat} (h : Asc l) : Txt.upper (S l) = S (l.map up1) := by
  rw [upper_ascii (x := S l) h]; show (⟨l.toArray.map up1⟩ : Str) = ⟨(l.map up1).toArray⟩; simp
theorem lo_asc {l : List Nat} (h : Asc l) : Txt.lower (S l) = S (l.map lo1) := by
  rw [lower_ascii (x := S l) h]; show (⟨l.toArray.map lo1⟩ : Str) = ⟨(l.map lo1).toArray⟩; simp
theorem isU_asc : ∀ c, c < 128 → Unicode.isUpper c = decide (65 ≤ c ∧ c ≤ 90) := by decide +kernel
theorem isLo_asc : ∀ c, c < 128 → Unicode.isLower c = decide (97 ≤ c ∧ c ≤ 122) := by decide +kernel
theorem isTi_asc : ∀ c, c < 128 → Unicode.isTitle c = false := by decide +kernel
theorem isAl_asc : ∀ c, c < 128 → Unicode.isAlpha c = decide (IsL c) := by decide +kernel
theorem lowerAt_asc {x : Array Nat} {i c : Nat} (h : x[i]? = some c) (hc : c < 128) : Unicode.lowerAt x i = [lo1 c] := by
  unfold Unicode.lowerAt
  rw [h]
  have e : (c == 0x3A3) = false := beq_eq_false_iff_ne.mpr (by omega)
  simp only [e, Bool.false_and, Bool.false_eq_true, if_false]
  exact lowerOf_ascii c hc
theorem swap_asc {l : List Nat} (h : Asc l) : Txt.swapcase (S l) = S (l.map sw) := by
  have e := placed_single (S l) (fun i c => if Unicode.isUpper c then Unicode.lowerAt (S l).cps i else if Unicode.isLower c then Unicode.upperOf c else [c]) sw fun i c hc => by
    have hlt : c < 128 := h c (List.mem_of_getElem? hc)
    have hx : (S l).cps[i]? = some c := by simpa [S] using hc
    rw [isU_asc c hlt, isLo_asc c hlt, lowerAt_asc hx hlt, upperOf_ascii c hlt]
    unfold sw lo1 up1
    by_cases h1 : 65 ≤ c ∧ c ≤ 90
    · simp [h1]
    · by_cases h2 : 97 ≤ c ∧ c ≤ 122
      · simp [h1, h2]
      · simp [h1, h2]
  show (⟨placed (S l) _⟩ : Str) = _
  rw [e]
  show (⟨l.toArray.map sw⟩ : Str) = ⟨(l.map sw).toArray⟩
  simp
theorem asc_iff (l : List Nat) : Txt.isascii (S l) = decide (Asc l) := by
  unfold Txt.isascii
  show l.toArray.all _ = _
  rw [List.all_toArray]
  by_cases h : Asc l
  · rw [decide_eq_true h, List.all_eq_true]
    intro c hc; exact decide_eq_true (h c hc)
  · rw [decide_eq_false h, Bool.eq_false_iff]
    intro z; rw [List.all_eq_true] at z
    exact h fun c hc => of_decide_eq_true (z c hc)
theorem alpha_asc {l : List Nat} (h : Asc l) : Txt.isalpha (S l) = (decide (l ≠ []) && decide (Ls l)) := by
  unfold Txt.isalpha
  have e : (S l).cps.all Unicode.isAlpha = decide (Ls l) := by
    show l.toArray.all _ = _
    rw [List.all_toArray]
    by_cases q : Ls l
    · rw [decide_eq_true q, List.all_eq_true]
      intro c hc; rw [isAl_asc c (h c hc)]; exact decide_eq_true (q c hc)
    · rw [decide_eq_false q, Bool.eq_false_iff]
      intro z; rw [List.all_eq_true] at z
      refine q fun c hc => ?_
      have := z c hc
      rw [isAl_asc c (h c hc)] at this
      exact of_decide_eq_true this
  rw [e, S_len]
  cases l with
  | nil => rfl
  | cons a r => simp
theorem islo_one {c : Nat} (h : c < 128) : Txt.islower (S [c]) = decide (97 ≤ c ∧ c ≤ 122) := by
  unfold Txt.islower
  show ((#[c] : Array Nat).any Unicode.isLower && !(#[c] : Array Nat).any _) = _
  have e1 : (#[c] : Array Nat).any Unicode.isLower = Unicode.isLower c := by simp
  have e2 : (#[c] : Array Nat).any (fun c => Unicode.isUpper c || Unicode.isTitle c) = (Unicode.isUpper c || Unicode.isTitle c) := by simp
  rw [e1, e2, isLo_asc c h, isU_asc c h, isTi_asc c h]
  by_cases h2 : 97 ≤ c ∧ c ≤ 122
  · have h3 : ¬ (65 ≤ c ∧ c ≤ 90) := by omega
    simp [h2, h3]
  · simp [h2]
theorem fold_nil : ∀ (ls : List (List Nat)) (acc : Array Nat), (ls.map S).foldl (fun acc p => acc ++ (S []).cps ++ p.cps) acc = acc ++ ls.flatten.toArray
  | [], acc => by simp
  | a :: r, acc => by
    rw [List.map_cons, List.foldl_cons, fold_nil r]
    show (acc ++ #[] ++ a.toArray) ++ _ = _
    simp
theorem join_nil (ls : List (List Nat)) : Txt.join (S []) (ls.map S) = S ls.flatten := by
  show glued (S []) (ls.map S) = _
  cases ls with
  | nil => rfl
  | cons a r =>
    show (⟨(r.map S).foldl (fun acc p => acc ++ (S []).cps ++ p.cps) (S a).cps⟩ : Str) = _
    rw [fold_nil]
    show (⟨a.toArray ++ r.flatten.toArray⟩ : Str) = ⟨(a :: r).flatten.toArray⟩
    simp
end RB
/-! What all the laws share: words between steps, heaps, the hand that draws. -/
namespace L2
open PySem PySem.Spec PyProof.Rows
section
variable {X : Cx}
/-- a word behind a value, a test, some arguments -/
def tMidE (t : TE) : TE := fun σ H Q => ∃ R : VK, t σ H R ∧ ∀ v H', R v H' → Q v H'
theorem pe_mid {e : Expr} {t : TE} (h : PE X e t) : PE X e (tMidE t) :=
  ⟨fun pins s σ H _ I ⟨_, h1, h2⟩ => thn (h.run pins s σ H _ I h1) fun _ _ ⟨v, H', J, r, q⟩ => ⟨v, H', J, r, h2 v H' q⟩⟩
def tMidT (t : TT) : TT := fun σ H Q => ∃ R : Bool → Hp → Prop, t σ H R ∧ ∀ v H', R v H' → Q v H'
theorem pt_mid {e : Expr} {t : TT} (h : PT X e t) : PT X e (tMidT t) :=
  ⟨fun pins s σ H _ I ⟨_, h1, h2⟩ => thn (h.run pins s σ H _ I h1) fun b _ ⟨H', J, q⟩ => ⟨H', J, h2 b H' q⟩⟩
theorem passF {P : Program} {w : World} {X : Cx} : Passes (CX P w) X (fun _ _ _ => False) := fun _ _ _ _ _ _ _ ⟨_, _, _, _, _, _, _, _, _, _, _, _, z⟩ => z.elim
theorem iteD {p A B : Prop} [Decidable p] (h1 : p → A) (h2 : ¬ p → B) : if decide p = true then A else B := by
  by_cases h : p
  · rw [decide_eq_true h, if_pos rfl]; exact h1 h
  · rw [decide_eq_false h, if_neg Bool.false_ne_true]; exact h2 h
theorem iteB {b : Bool} {A B : Prop} (h1 : b = true → A) (h2 : b = false → B) : if b = true then A else B := by
  cases b with
  | true => rw [if_pos rfl]; exact h1 rfl
  | false => rw [if_neg Bool.false_ne_true]; exact h2 rfl
theorem iteN {p A B : Prop} [Decidable p] (h1 : ¬ p → A) (h2 : p → B) : if (!decide p) = true then A else B := by
  by_cases h : p
  · rw [decide_eq_true h]; exact h2 h
  · rw [decide_eq_false h]; exact h1 h
end
theorem upd_old {H : Hp} {a p : Addr} {o u : HO} (h : H a = some o) (n : H p = none) : upd H p u a = some o := by
  rw [upd_ne (ne_of_none h n)]; exact h
theorem upd_oth {H : Hp} {a p : Addr} {o u : HO} (h : H a = some o) (n : a ≠ p) : upd H p u a = some o := by
  rw [upd_ne n]; exact h
theorem Same.new {H : Hp} {p : Addr} {o : HO} (n : H p = none) : Same H (upd H p o) := fun _ _ h => upd_old h n
/-- all that was tracked stands, but what stands at h -/
def But (h : Addr) (H H' : Hp) : Prop := ∀ b o, b ≠ h → H b = some o → H' b = some o
theorem But.refl (h : Addr) (H : Hp) : But h H H := fun _ _ _ e => e
theorem But.trans {h : Addr} {H H1 H2 : Hp} (a : But h H H1) (b : But h H1 H2) : But h H H2 := fun c o n e => b c o n (a c o n e)
theorem Same.but {h : Addr} {H H' : Hp} (a : Same H H') : But h H H' := fun b o _ e => a b o e
theorem But.set {h : Addr} {H : Hp} {o : HO} : But h H (upd H h o) := fun _ _ n e => upd_oth e n
theorem But.seq {K : PySem.W.Frag} {h : Addr} {H H' : Hp} {a : Addr} {xs : List V} (e : But h H H') (n : a ≠ h) (x : SqL K H a xs) : SqL K H' a xs := by
  rcases x with (x | ⟨o, x⟩) | x
  · exact .inl (.inl (e _ _ n x))
  · exact .inl (.inr ⟨o, e _ _ n x⟩)
  · exact .inr x
end L2
namespace L2
open PySem PySem.Spec PyProof.Rows
theorem bt_len : bootBuiltins ("len" : Str) = some (.builtin "len") := by kernel_rfl
theorem bt_abs : bootBuiltins ("abs" : Str) = some (.builtin "abs") := by kernel_rfl
theorem bt_min : bootBuiltins ("min" : Str) = some (.builtin "min") := by kernel_rfl
theorem bt_max : bootBuiltins ("max" : Str) = some (.builtin "max") := by kernel_rfl
theorem bt_int : bootBuiltins ("int" : Str) = some (.type "int") := by kernel_rfl
theorem bt_str : bootBuiltins ("str" : Str) = some (.type "str") := by kernel_rfl
theorem bt_bool : bootBuiltins ("bool" : Str) = some (.type "bool") := by kernel_rfl
theorem bt_range : bootBuiltins ("range" : Str) = some (.type "range") := by kernel_rfl
theorem bt_zip : bootBuiltins ("zip" : Str) = some (.type "zip") := by kernel_rfl
theorem bt_enumerate : bootBuiltins ("enumerate" : Str) = some (.type "enumerate") := by kernel_rfl
theorem bt_reversed : bootBuiltins ("reversed" : Str) = some (.type "reversed") := by kernel_rfl
theorem bt_sorted : bootBuiltins ("sorted" : Str) = some (.builtin "sorted") := by kernel_rfl
theorem bt_sum : bootBuiltins ("sum" : Str) = some (.builtin "sum") := by kernel_rfl
theorem bt_any : bootBuiltins ("any" : Str) = some (.builtin "any") := by kernel_rfl
theorem bt_all : bootBuiltins ("all" : Str) = some (.builtin "all") := by kernel_rfl
theorem bt_isinstance : bootBuiltins ("isinstance" : Str) = some (.builtin "isinstance") := by kernel_rfl
theorem bt_list : bootBuiltins ("list" : Str) = some (.type "list") := by kernel_rfl
theorem bt_tuple : bootBuiltins ("tuple" : Str) = some (.type "tuple") := by kernel_rfl
theorem bt_dict : bootBuiltins ("dict" : Str) = some (.type "dict") := by kernel_rfl
theorem bt_set : bootBuiltins ("set" : Str) = some (.type "set") := by kernel_rfl
theorem bt_ord : bootBuiltins ("ord" : Str) = some (.builtin "ord") := by kernel_rfl
theorem bt_chr : bootBuiltins ("chr" : Str) = some (.builtin "chr") := by kernel_rfl
theorem bt_divmod : bootBuiltins ("divmod" : Str) = some (.builtin "divmod") := by kernel_rfl
theorem bt_ValueError : bootBuiltins ("ValueError" : Str) = some (.type "ValueError") := by kernel_rfl
end L2
namespace RB
open PySem L2
/-- the hand at h: its cells at c, the next one, what is left of a great one, two numbers -/
def Hand (H : Hp) (h c : Addr) : Prop := ∃ (cells : List Int) (i held st k : Int), H h = some (.lst [.ref c, .int i, .int held, .int st, .int k]) ∧
  H c = some (.lst (cells.map V.int)) ∧ 0 ≤ i ∧ i ≤ cells.length ∧ (∀ z ∈ cells, 0 ≤ z) ∧ 0 ≤ held ∧ c ≠ h
/-- on from a heap with the hand at h to another one -/
def Go (h c : Addr) (H H' : Hp) : Prop := But h H H' ∧ Hand H' h c
theorem Go.trans {h c : Addr} {H H1 H2 : Hp} (a : Go h c H H1) (b : Go h c H1 H2) : Go h c H H2 := ⟨a.1.trans b.1, b.2⟩
theorem Hand.same {H H' : Hp} {h c : Addr} (x : Hand H h c) (e : Same H H') : Hand H' h c := by
  obtain ⟨cells, i, held, st, k, h1, h2, r⟩ := x
  exact ⟨cells, i, held, st, k, e _ _ h1, e _ _ h2, r⟩
theorem Hand.go {H H' : Hp} {h c : Addr} (x : Hand H h c) (e : Same H H') : Go h c H H' := ⟨e.but, x.same e⟩
theorem Hand.refl {H : Hp} {h c : Addr} (x : Hand H h c) : Go h c H H := ⟨But.refl _ _, x⟩
theorem Go.same {H H1 H2 : Hp} {h c : Addr} (x : Go h c H H1) (e : Same H1 H2) : Go h c H H2 := x.trans (x.2.go e)
/-- what is new is not the hand, nor its cells -/
theorem Hand.ne {H : Hp} {h c p : Addr} (x : Hand H h c) (n : H p = none) : p ≠ h ∧ p ≠ c := by
  obtain ⟨cells, i, held, st, k, h1, h2, _⟩ := x
  exact ⟨(ne_of_none h1 n).symm, (ne_of_none h2 n).symm⟩
theorem Hand.put {H : Hp} {h c p : Addr} {o : HO} (x : Hand H h c) (n : p ≠ h ∧ p ≠ c) : Hand (upd H p o) h c := by
  obtain ⟨cells, i, held, st, k, h1, h2, r⟩ := x
  exact ⟨cells, i, held, st, k, upd_oth h1 n.1.symm, upd_oth h2 n.2.symm, r⟩
/-- what was not there at first may change -/
theorem Go.put {H H1 : Hp} {h c p : Addr} {o : HO} (x : Hand H h c) (n : H p = none) (g : Go h c H H1) : Go h c H (upd H1 p o) :=
  ⟨fun b u nb hb => by rw [upd_ne (ne_of_none hb n)]; exact g.1 b u nb hb, g.2.put (x.ne n)⟩
theorem Go.new {H : Hp} {h c p : Addr} {o : HO} (x : Hand H h c) (n : H p = none) : Go h c H (upd H p o) := x.refl.put x n
theorem Same.mut {H H1 : Hp} {p : Addr} {o : HO} (n : H p = none) (g : Same H H1) : Same H (upd H1 p o) := fun b u hb => by
  rw [upd_ne (ne_of_none hb n)]; exact g b u hb
/-! ### promises of the law's own defs that every law has -/
/-- a draw below n -/
def sp_draw : Sp := fun vs H Q _ => ∃ (h c : Addr) (n : Int), vs = [.ref h, .int n] ∧ Hand H h c ∧ 0 < n ∧ n < 2 ^ 62 ∧ ∀ (d : Int) (H' : Hp), 0 ≤ d → d < n → Go h c H H' → Q (.int d) H'
/-- a new hand of the script -/
def sp_hand (K : PySem.W.Frag) : Sp := fun vs H Q _ => ∃ (a : Addr) (ns : List Int), vs = [.ref a] ∧ SqL K H a (ns.map V.int) ∧ ns.length ≤ 63 ∧ ∀ (h c : Addr) (H' : Hp), H h = none → Same H H' → Hand H' h c → Q (.ref h) H'
end RB
namespace L2
open PySem
theorem atI_int {α : Type} {xs : List α} {i : Int} {j : Nat} {x : α} (h0 : i = (j : Int)) (h : xs[j]? = some x) : atI xs i = some x := by
  subst h0
  have hj : j < xs.length := by
    rcases Nat.lt_or_ge j xs.length with q | q
    · exact q
    · rw [List.getElem?_eq_none q] at h; cases h
  unfold atI ixN
  rw [if_pos (by omega : (0 : Int) ≤ j), if_pos (by omega)]
  exact h
theorem log_lt {n : Int} (h : n < 2 ^ 62) (h0 : 0 < n) : n.natAbs.log2 < 9000 := by
  have h1 : n.natAbs < 2 ^ 62 := by omega
  have h2 : n.natAbs ≠ 0 := by omega
  exact Nat.lt_trans ((Nat.log2_lt h2).mpr h1) (by decide)
theorem mod_in {a n : Int} (h : 0 < n) : 0 ≤ a % n ∧ a % n < n := ⟨Int.emod_nonneg _ (by omega), Int.emod_lt_of_pos _ h⟩
theorem div_in {a n : Int} (h : 0 < n) (ha : 0 ≤ a) : 0 ≤ a / n := Int.ediv_nonneg ha (by omega)
end L2
namespace RB
open PySem L2
theorem S_nil : (Str.ofString "" : Str) = S [] := by decide +kernel
/-- whether a value is a row -/
inductive RowJ (K : PySem.W.Frag) (H : Hp) : V → Bool → Prop
  | str (l : List Nat) : RowJ K H (.str (S l)) (decide (Ls l))
  | non {x : V} {t : Value} (ty : TyX K H x t) (k : PySem.W.kitOne K t (.type "str") = some false) : RowJ K H x false
theorem kit_str {K : PySem.W.Frag} : PySem.W.kitOne K (.type "str") (.type "str") = some true := kit_ty (by decide +kernel)
theorem RowJ.row {K : PySem.W.Frag} {H : Hp} {l : List Nat} (h : Ls l) : RowJ K H (.str (S l)) true := by
  have := RowJ.str (K := K) (H := H) l
  rw [decide_eq_true h] at this
  exact this
theorem nil_L : Ls [] := fun _ h => nomatch h
theorem asc_dec {l : List Nat} : (decide (Asc l) && (decide (l ≠ []) && decide (Ls l))) = (decide (l ≠ []) && decide (Ls l)) := by
  by_cases h : Ls l
  · rw [decide_eq_true h.asc, Bool.true_and]
  · rw [decide_eq_false h, Bool.and_false, Bool.and_false]
end RB
namespace RB
open PySem L2 PyProof.Rows
theorem up1_L {c : Nat} (h : IsL c) : IsL (up1 c) := by unfold IsL at *; unfold up1; split <;> omega
theorem _root_.RB.Ls.up {l : List Nat} (h : Ls l) : Ls (l.map up1) := fun c hc => by
  obtain ⟨d, hd, e⟩ := List.mem_map.mp hc
  rw [← e]; exact up1_L (h d hd)
theorem sw_up {c : Nat} (h : 97 ≤ c ∧ c ≤ 122) : up1 c = sw c := by unfold up1 sw; simp [h]; omega
theorem sw_lo {c : Nat} (h : IsL c) (h2 : ¬ (97 ≤ c ∧ c ≤ 122)) : lo1 c = sw c := by
  unfold IsL at h; unfold lo1 sw; simp [show 65 ≤ c ∧ c ≤ 90 by omega]
theorem sum_one (l : List Nat) : ((l.map fun c => [c]).map S |>.map (·.length)).sum = l.length := by
  induction l with
  | nil => rfl
  | cons a r ih =>
    simp only [List.map_cons, List.sum_cons, List.length_cons] at *
    rw [ih]; show (S [a]).length + _ = _; rw [S_len]; simp; omega
theorem flat_one (l : List Nat) : (l.map fun c => [c]).flatten = l := by
  induction l with
  | nil => rfl
  | cons a r ih => simp [ih]
/-- the texts of one sign each -/
def ones (l : List Nat) : List V := l.map fun c => V.str (S [c])
theorem ones_eq (l : List Nat) : ones l = ((l.map fun c => [c]).map S).map V.str := by
  unfold ones; rw [List.map_map, List.map_map]; rfl
theorem ones_len (l : List Nat) : (ones l).length = l.length := List.length_map ..
theorem ones_at {l : List Nat} {i c : Nat} (h : l[i]? = some c) : (ones l)[i]? = some (.str (S [c])) := by
  unfold ones; rw [List.getElem?_map, h]; rfl
theorem nil_len : (Str.ofString "" : Str).length = 0 := by rw [S_nil, S_len]; rfl
theorem take_one {α : Type} {l : List α} {i : Nat} {x : α} (h : l[i]? = some x) : l.take (i + 1) = l.take i ++ [x] := by
  rw [List.take_add_one, h]; rfl
theorem cutV_to (xs : List V) (n : Nat) : cutV xs none (some (n : Int)) = xs.take n := by
  unfold cutV
  rw [HT.sIx_none, sIx_nat, List.drop_zero, Nat.sub_zero]
  rcases Nat.le_total n xs.length with h | h
  · rw [Nat.min_eq_left h]
  · rw [Nat.min_eq_right h, List.take_length, List.take_of_length_le h]
theorem cutV_from (xs : List V) (i : Nat) : cutV xs (some (i : Int)) none = xs.drop i := by
  unfold cutV
  rw [HT.sIx_none, sIx_nat]
  rcases Nat.le_total i xs.length with h | h
  · rw [Nat.min_eq_left h]; exact List.take_of_length_le (by rw [List.length_drop]; exact Nat.le_refl _)
  · rw [Nat.min_eq_right h, List.drop_length, List.drop_of_length_le h]; simp
end RB
namespace RB
open PySem L2 PyProof.Rows
/-- values that are no rows (the hand at h stands apart) -/
inductive Odd (H : Hp) (h : Addr) : V → Prop
  | non : Odd H h .non
  | bl (b : Bool) : Odd H h (.bl b)
  | int (i : Int) : Odd H h (.int i)
  | str {z : Str} (l : List Nat) (e : z = S l) (n : ¬ Ls l) : Odd H h (.str z)
  | lst {a : Addr} {xs : List V} (n : a ≠ h) (e : H a = some (.lst xs)) : Odd H h (.ref a)
  | tup {a : Addr} {xs : List V} (n : a ≠ h) (e : H a = some (.tup xs)) : Odd H h (.ref a)
  | dict {a : Addr} {xs : List (L2.Key × V)} (n : a ≠ h) (e : H a = some (.dK xs)) : Odd H h (.ref a)
theorem Odd.but {H H' : Hp} {h : Addr} {v : V} (x : Odd H h v) (b : But h H H') : Odd H' h v := by
  cases x with
  | non => exact .non
  | bl b => exact .bl b
  | int i => exact .int i
  | str l e n => exact .str l e n
  | lst n e => exact .lst n (b _ _ n e)
  | tup n e => exact .tup n (b _ _ n e)
  | dict n e => exact .dict n (b _ _ n e)
theorem Odd.row {K : PySem.W.Frag} {H : Hp} {h : Addr} {v : V} (x : Odd H h v) : RowJ K H v false := by
  cases x with
  | non => exact .non (.base .non) (kit_ty (by decide +kernel))
  | bl b => exact .non (.base (.bl b)) (kit_ty (by decide +kernel))
  | int i => exact .non (.base (.int i)) (kit_ty (by decide +kernel))
  | str l e n =>
    subst e
    have := RowJ.str (K := K) (H := H) l
    rw [decide_eq_false n] at this
    exact this
  | lst n e => exact .non (.base (.lst e)) (kit_ty (by decide +kernel))
  | tup n e => exact .non (.base (.tup e)) (kit_ty (by decide +kernel))
  | dict n e => exact .non (.base (.dK e)) (kit_ty (by decide +kernel))
theorem all_c {α : Type} {P : α → Prop} {a : α} {l : List α} (h : P a) (r : ∀ x ∈ l, P x) : ∀ x ∈ a :: l, P x := fun x hx => by
  rcases List.mem_cons.mp hx with e | e
  · rw [e]; exact h
  · exact r x e
theorem all_n {α : Type} {P : α → Prop} : ∀ x ∈ ([] : List α), P x := fun _ h => nomatch h
end RB
namespace RB
open PySem L2
theorem Go.free {H H1 : Hp} {h c p : Addr} (g : Go h c H H1) (n : p ≠ h) (e : H1 p = none) : H p = none := by
  cases q : H p with
  | none => rfl
  | some o =>
    rw [g.1 p o n q] at e
    cases e
theorem Go.put2 {H H1 : Hp} {h c p : Addr} {o : HO} (g : Go h c H H1) (n : p ≠ h ∧ p ≠ c) (hn : H p = none) : Go h c H (upd H1 p o) :=
  ⟨fun b u nb hb => by rw [upd_ne (ne_of_none hb hn)]; exact g.1 b u nb hb, g.2.put n⟩
end RB
namespace RB
open PySem L2
theorem RowJ.inv {K : PySem.W.Frag} {H : Hp} {v : V} {b : Bool} (j : RowJ K H v b) : ∀ l, v = .str (S l) → b = decide (Ls l) := by
  intro l e
  cases j with
  | str l' => cases S_inj (V.str.inj e); rfl
  | non ty k =>
    subst e
    cases ty with
    | base ty => cases ty; rw [kit_str] at k; cases k
end RB
namespace RB
open PySem L2 PyProof.Rows
/-- a display of numbers -/
def tInts : List Nat → TA
  | [] => tNil
  | n :: r => tCons (tC (.int n)) (tInts r)
theorem tInts_run : ∀ (ns : List Nat) (σ : L2.St) (H : Hp) (Q : List V → Hp → Prop), Q (ns.map fun n : Nat => V.int n) H → tInts ns σ H Q
  | [], _, _, _, q => q
  | n :: r, σ, H, Q, q => tInts_run r σ H (fun xs H2 => Q (V.int n :: xs) H2) q
/-- [..numbers..][a draw] -/
theorem rd_pick {K : PySem.W.Frag} {σ : L2.St} {H : Hp} {Q : VK} {E : XK} {h c : Addr} {i : Nat} {m : Int} (ns : List Nat) (hs : σ[i]? = some (some (.ref h))) (hH : Hand H h c) (hm : m = ns.length) (hz : 0 < ns.length ∧ ns.length ≤ 1000)
    (q : ∀ k ∈ ns, ∀ H', Go h c H H' → Q (.int (k : Nat)) H') : tOp (rIxL K) (tLst (tInts ns)) (tCall sp_draw [] E (tCons (tVar i) (tCons (tC (.int m)) tNil))) σ H Q := by
  refine tInts_run ns σ H _ ?_
  refine ⟨by rw [List.length_map]; exact Nat.le_trans hz.2 (by decide), fun p hp => ?_⟩
  refine ⟨_, hs, ?_⟩
  have g0 : Go h c H (upd H p (.lst (ns.map fun n : Nat => V.int n))) := Go.new hH hp
  refine ⟨h, c, m, rfl, g0.2, by omega, by omega, fun d H' d0 d1 g1 => ?_⟩
  obtain ⟨j, rfl⟩ : ∃ j : Nat, d = j := ⟨d.toNat, by omega⟩
  have hj : j < ns.length := by omega
  have hat : (ns.map fun n : Nat => V.int n)[j]? = some (.int (ns[j] : Nat)) := by rw [List.getElem?_map, List.getElem?_eq_getElem hj]; rfl
  exact ⟨p, _, _, _, rfl, rfl, SqL.of (g1.1 _ _ (hH.ne hp).1 upd_same), atI_int rfl hat, q _ (List.getElem_mem hj) H' (g0.trans g1)⟩
def alph : List Nat := List.range' 97 26
theorem alph_is : (Str.ofString "abcdefghijklmnopqrstuvwxyz" : Str) = S alph := by decide +kernel
theorem alph_L : Ls alph := by decide
theorem ne_self {v : V} : (!decide (v = v)) = false := by rw [decide_eq_true rfl]; rfl
end RB
namespace K00
open PySem PySem.Spec PyProof.Rows L2 RB
def topS (i : Nat) : Stmt := PySem.Challenge.pw_runsback_k00_nets_struck_in_any_order.main.body.getD i (.Pass ⟨0, 0, 0, 0⟩)
abbrev s_NoRow_init : Stmt := inClass (topS 2) 0
abbrev s_is_row : Stmt := topS 4
abbrev s_reduced : Stmt := topS 6
abbrev s_net : Stmt := topS 8
abbrev s_demand_row : Stmt := topS 9
abbrev s_hand : Stmt := topS 11
abbrev s_draw : Stmt := topS 12
abbrev s_undoing : Stmt := topS 13
abbrev s_back : Stmt := topS 14
abbrev s_row : Stmt := topS 15
abbrev s_odd : Stmt := topS 16
abbrev s_grown : Stmt := topS 17
abbrev s_struck : Stmt := topS 18
abbrev s_word : Stmt := topS 19
abbrev s_law : Stmt := topS 20
theorem sc_NoRow_init : FnScope ["self"] ["self"] (defScope s_NoRow_init) := ⟨rfl, rfl, rfl, by decide +kernel, rfl, by decide +kernel, by decide +kernel⟩
theorem sc_is_row : FnScope ["thing"] ["thing"] (defScope s_is_row) := ⟨rfl, rfl, rfl, by decide +kernel, rfl, by decide +kernel, by decide +kernel⟩
theorem sc_reduced : FnScope ["row", "kept", "letter"] ["row"] (defScope s_reduced) := ⟨rfl, rfl, rfl, by decide +kernel, rfl, by decide +kernel, by decide +kernel⟩
theorem sc_net : FnScope ["row"] ["row"] (defScope s_net) := ⟨rfl, rfl, rfl, by decide +kernel, rfl, by decide +kernel, by decide +kernel⟩
theorem sc_demand_row : FnScope ["thing"] ["thing"] (defScope s_demand_row) := ⟨rfl, rfl, rfl, by decide +kernel, rfl, by decide +kernel, by decide +kernel⟩
theorem sc_hand : FnScope ["_law_script", "_law_cells", "_law_cell"] ["_law_script"] (defScope s_hand) := ⟨rfl, rfl, rfl, by decide +kernel, rfl, by decide +kernel, by decide +kernel⟩
theorem sc_draw : FnScope ["_law_hand_here", "_law_many", "_law_cell", "_law_digit", "_law_number"] ["_law_hand_here", "_law_many"] (defScope s_draw) := ⟨rfl, rfl, rfl, by decide +kernel, rfl, by decide +kernel, by decide +kernel⟩
theorem sc_undoing : FnScope ["_law_letter"] ["_law_letter"] (defScope s_undoing) := ⟨rfl, rfl, rfl, by decide +kernel, rfl, by decide +kernel, by decide +kernel⟩
theorem sc_back : FnScope ["_law_row_here", "_law_letter"] ["_law_row_here"] (defScope s_back) := ⟨rfl, rfl, rfl, by decide +kernel, rfl, by decide +kernel, by decide +kernel⟩
theorem sc_row : FnScope ["_law_hand_here", "_law_deeds", "_law_many", "_law_letters", "_law_turn"] ["_law_hand_here", "_law_deeds", "_law_many"] (defScope s_row) := ⟨rfl, rfl, rfl, by decide +kernel, rfl, by decide +kernel, by decide +kernel⟩
theorem sc_odd : FnScope ["_law_hand_here", "_law_deep", "_law_turn", "_law_odd_here"] ["_law_hand_here"] (defScope s_odd) := ⟨rfl, rfl, rfl, by decide +kernel, rfl, by decide +kernel, by decide +kernel⟩
theorem sc_grown : FnScope ["_law_hand_here", "_law_deeds", "_law_row_here", "_law_pairs", "_law_turn", "_law_at", "_law_letter"] ["_law_hand_here", "_law_deeds", "_law_row_here", "_law_pairs"] (defScope s_grown) := ⟨rfl, rfl, rfl, by decide +kernel, rfl, by decide +kernel, by decide +kernel⟩
theorem sc_struck : FnScope ["_law_hand_here", "_law_row_here", "_law_left", "_law_turn", "_law_places", "_law_at"] ["_law_hand_here", "_law_row_here"] (defScope s_struck) := ⟨rfl, rfl, rfl, by decide +kernel, rfl, by decide +kernel, by decide +kernel⟩
theorem sc_word : FnScope ["_law_thing", "_law_word_here", "e"] ["_law_thing"] (defScope s_word) := ⟨rfl, rfl, rfl, by decide +kernel, rfl, by decide +kernel, by decide +kernel⟩
theorem sc_law : FnScope ["_law_script", "_law_hand_here", "_law_letters", "_law_turn", "_law_first", "_law_deeds", "_law_plain", "_law_row_here", "_law_due", "_law_told", "_law_more", "_law_at", "_law_other"] ["_law_script"] (defScope s_law) := ⟨rfl, rfl, rfl, by decide +kernel, rfl, by decide +kernel, by decide +kernel⟩
/-- where the defs and classes of the text stand -/
structure Ad where
  a_NoRow_init : Addr
  d_NoRow_init : FuncData
  a_is_row : Addr
  d_is_row : FuncData
  a_reduced : Addr
  d_reduced : FuncData
  a_net : Addr
  d_net : FuncData
  a_demand_row : Addr
  d_demand_row : FuncData
  a_hand : Addr
  d_hand : FuncData
  a_draw : Addr
  d_draw : FuncData
  a_undoing : Addr
  d_undoing : FuncData
  a_back : Addr
  d_back : FuncData
  a_row : Addr
  d_row : FuncData
  a_odd : Addr
  d_odd : FuncData
  a_grown : Addr
  d_grown : FuncData
  a_struck : Addr
  d_struck : FuncData
  a_word : Addr
  d_word : FuncData
  a_law : Addr
  d_law : FuncData
  c_RunsError : Addr
  c_NoRow : Addr
/-- what the top has written -/
structure Txt (K : PySem.W.Frag) (mg : Str → Option Value) (A : Ad) : Prop where
  F_NoRow_init : Fun K "__init__" "NoRow.__init__" s_NoRow_init A.a_NoRow_init A.d_NoRow_init
  b_NoRow_init : Binds K A.d_NoRow_init ["self"] []
  F_is_row : Fun K "is_row" "is_row" s_is_row A.a_is_row A.d_is_row
  g_is_row : mg "is_row" = some (.ref A.a_is_row)
  b_is_row : Binds K A.d_is_row ["thing"] []
  F_reduced : Fun K "reduced" "reduced" s_reduced A.a_reduced A.d_reduced
  g_reduced : mg "reduced" = some (.ref A.a_reduced)
  b_reduced : Binds K A.d_reduced ["row"] []
  F_net : Fun K "net" "net" s_net A.a_net A.d_net
  g_net : mg "net" = some (.ref A.a_net)
  b_net : Binds K A.d_net ["row"] []
  F_demand_row : Fun K "demand_row" "demand_row" s_demand_row A.a_demand_row A.d_demand_row
  g_demand_row : mg "demand_row" = some (.ref A.a_demand_row)
  b_demand_row : Binds K A.d_demand_row ["thing"] []
  F_hand : Fun K "_law_hand" "_law_hand" s_hand A.a_hand A.d_hand
  g_hand : mg "_law_hand" = some (.ref A.a_hand)
  b_hand : Binds K A.d_hand ["_law_script"] []
  F_draw : Fun K "_law_draw" "_law_draw" s_draw A.a_draw A.d_draw
  g_draw : mg "_law_draw" = some (.ref A.a_draw)
  b_draw : Binds K A.d_draw ["_law_hand_here", "_law_many"] []
  F_undoing : Fun K "_law_undoing" "_law_undoing" s_undoing A.a_undoing A.d_undoing
  g_undoing : mg "_law_undoing" = some (.ref A.a_undoing)
  b_undoing : Binds K A.d_undoing ["_law_letter"] []
  F_back : Fun K "_law_back" "_law_back" s_back A.a_back A.d_back
  g_back : mg "_law_back" = some (.ref A.a_back)
  b_back : Binds K A.d_back ["_law_row_here"] []
  F_row : Fun K "_law_row" "_law_row" s_row A.a_row A.d_row
  g_row : mg "_law_row" = some (.ref A.a_row)
  b_row : Binds K A.d_row ["_law_hand_here", "_law_deeds", "_law_many"] []
  F_odd : Fun K "_law_odd" "_law_odd" s_odd A.a_odd A.d_odd
  g_odd : mg "_law_odd" = some (.ref A.a_odd)
  b_odd : Binds K A.d_odd ["_law_hand_here"] []
  F_grown : Fun K "_law_grown" "_law_grown" s_grown A.a_grown A.d_grown
  g_grown : mg "_law_grown" = some (.ref A.a_grown)
  b_grown : Binds K A.d_grown ["_law_hand_here", "_law_deeds", "_law_row_here", "_law_pairs"] []
  F_struck : Fun K "_law_struck" "_law_struck" s_struck A.a_struck A.d_struck
  g_struck : mg "_law_struck" = some (.ref A.a_struck)
  b_struck : Binds K A.d_struck ["_law_hand_here", "_law_row_here"] []
  F_word : Fun K "_law_word" "_law_word" s_word A.a_word A.d_word
  g_word : mg "_law_word" = some (.ref A.a_word)
  b_word : Binds K A.d_word ["_law_thing"] []
  F_law : Fun K "law" "law" s_law A.a_law A.d_law
  g_law : mg "law" = some (.ref A.a_law)
  b_law : Binds K A.d_law ["_law_script"] []
  gC_RunsError : mg "RunsError" = some (.ref A.c_RunsError)
  gC_NoRow : mg "NoRow" = some (.ref A.c_NoRow)
  o_NoRow : OexC K A.c_NoRow
  i_NoRow : PySem.W.findIn K (.ref A.c_NoRow) "__init__" = some (some (.ref A.a_NoRow_init))
  t_NoRow : PySem.W.typeIn K (.ref A.a_NoRow_init) = some (.type "function")
  x_NoRow : ExcC K A.c_NoRow
  m_ValueError : mg "ValueError" = none
  m_abs : mg "abs" = none
  m_int : mg "int" = none
  m_isinstance : mg "isinstance" = none
  m_len : mg "len" = none
  m_list : mg "list" = none
  m_range : mg "range" = none
  m_str : mg "str" = none
  e_NoRow_NoRow : PySem.W.exmOne K (.ref A.c_NoRow) (.ref A.c_NoRow) = some true
  e_NoRow_RunsError : PySem.W.exmOne K (.ref A.c_NoRow) (.ref A.c_RunsError) = some true
  k_NoRow_RunsError : PySem.W.kitOne K (.ref A.c_NoRow) (.ref A.c_RunsError) = some true
  k_NoRow_ValueError : PySem.W.kitOne K (.ref A.c_NoRow) (.type "ValueError") = some true
section
variable {P : Program} {w : World} {K : PySem.W.Frag} {mg : Str → Option Value} {base : Heap} {A : Ad}
local macro_rules | `(tactic| walk_at "lk") => `(tactic| first | assumption | exact upd_same | exact upd_old (by walk_at "lk") (by assumption) | exact upd_oth (by walk_at "lk") (by assumption))
local macro_rules | `(tactic| walk_at "sq") => `(tactic| first | assumption | exact SqL.of (by walk_at "lk"))
local macro_rules | `(tactic| walk_at "v") => `(tactic| refine ⟨_, rfl, ?_⟩)
local macro_rules | `(tactic| walk_at "ii") => `(tactic| refine ⟨_, _, rfl, rfl, ?_⟩)
local macro_rules | `(tactic| walk_at "ix") => `(tactic| refine ⟨_, _, _, _, rfl, rfl, (by walk_at "sq"), (by rfl), ?_⟩)
local macro_rules | `(tactic| walk_at "set") => `(tactic| refine ⟨_, _, _, _, rfl, rfl, (by walk_at "lk"), (by rfl), ?_⟩)
local macro_rules | `(tactic| walk_at "int") => `(tactic| refine .inl ⟨_, rfl, ?_⟩)
local macro_rules | `(tactic| walk_at "len") => `(tactic| refine ⟨_, _, rfl, .inl (by walk_at "sq"), ?_⟩)
local macro_rules | `(tactic| walk_at "mul") => `(tactic| refine ⟨_, _, rfl, rfl, (show CMul _ _ from by first | exact .inr ⟨by decide, by decide⟩ | exact .inl ⟨by decide, by decide⟩ | exact .inl ⟨by omega, by omega⟩), ?_⟩)
local macro_rules | `(tactic| walk_at "mod") => `(tactic| refine ⟨_, _, rfl, rfl, (show (0 : Int) < _ from by first | decide | assumption), ?_⟩)
local macro_rules | `(tactic| walk_at "div") => `(tactic| refine ⟨_, _, rfl, rfl, (show CDivW _ _ from by first | exact ⟨by decide, by decide⟩ | exact ⟨by assumption, log_lt (by assumption) (by assumption)⟩), ?_⟩)
local macro_rules | `(tactic| walk_at "pow") => `(tactic| refine ⟨_, _, rfl, rfl, (show CPow _ _ from ⟨by decide, by decide, by decide⟩), ?_⟩)
local macro_rules | `(tactic| walk_at "go") => `(tactic| repeat (first | walk_at "ix" | walk_at "mul" | walk_at "mod" | walk_at "div" | walk_at "pow" | walk_at "ii" | walk_at "v" | walk_at "int" | walk_at "set" | walk_at "len"))
local macro_rules | `(tactic| walk_at "m0") => `(tactic| refine ⟨rfl, _, rfl, rfl, trivial, ?_⟩)
local macro_rules | `(tactic| walk_at "sz") => `(tactic| (simp only [List.length_cons, List.length_nil]; decide))
theorem ok_draw (T : Txt K mg A) : FnOk P w K mg base (CX P w) 1 A.a_draw A.d_draw ["_law_hand_here", "_law_many"] (sp_draw) := by
  refine T.F_draw.okX sc_draw (fun vs H Q E h => ?_) (fun cdv Ar outer s H vs Q E hr h => ?_)
  · obtain ⟨_, _, _, rfl, _⟩ := h
    rfl
  · obtain ⟨h, c, n, rfl, ⟨cells, i, held, st, k, hh, hc, i0, i1, cp, h0, hch⟩, n0, n1, q⟩ := h
    refine ⟨_, (C8.pss_cut (ps_if (pt_mid (PW.pt (pw_and (pt_cmpR op_eq (pe_ix (ixL (K := K) rfl) (pv 0) pe_int (fun _ _ => rfl)) pe_int (nomark _)) (pw_and1 (pt_cmpR op_lt (pe_ix (ixL (K := K) rfl) (pv 0) pe_int (fun _ _ => rfl)) (pe_callB (clen (K := K) rfl) (by rfl) T.m_len bt_len (pa_cons (pe_ix (ixL (K := K) rfl) (pv 0) pe_int (fun _ _ => rfl)) pa_nil)) (nomark _)))))) (pss_cons (ps_set (i := 2) sc_draw.nd rfl (Or.inl rfl) (pe_ix (ixL (K := K) rfl) (pe_ix (ixL (K := K) rfl) (pv 0) pe_int (fun _ _ => rfl)) (pe_ix (ixL (K := K) rfl) (pv 0) pe_int (fun _ _ => rfl)) (fun _ _ => rfl)))
      (pss_cons (ps_asg (pe_op op_add (pe_ix (ixL (K := K) rfl) (pv 0) pe_int (fun _ _ => rfl)) pe_int) (pg_sub (pv 0) pe_int set_list))
      (pss_cons (ps_asg (pe_op op_mod (pe_callTy call_int1 (by rfl) T.m_int bt_int (pa_cons (pe_op op_add (pe_op op_add (pe_op op_mul (pe_ix (ixL (K := K) rfl) (pv 0) pe_int (fun _ _ => rfl)) pe_int) (pv 2)) pe_int) pa_nil)) pe_int) (pg_sub (pv 0) pe_int set_list))
      (pss_one (ps_if (pt_cmpR op_ge (pv 2) (pe_op op_pow pe_int pe_int) (nomark _)) (pss_one (ps_asg (pv 2) (pg_sub (pv 0) pe_int set_list))) pss_nil))))) pss_nil)
      (pss_cons (ps_if (pt_cmpR op_gt (pe_ix (ixL (K := K) rfl) (pv 0) pe_int (fun _ _ => rfl)) pe_int (nomark _)) (pss_cons (ps_set (i := 3) sc_draw.nd rfl (Or.inl rfl) (pe_op op_mod (pe_callTy call_int1 (by rfl) T.m_int bt_int (pa_cons (pe_ix (ixL (K := K) rfl) (pv 0) pe_int (fun _ _ => rfl)) pa_nil)) (pv 1)))
      (pss_cons (ps_asg (pe_op op_fdivW (pe_ix (ixL (K := K) rfl) (pv 0) pe_int (fun _ _ => rfl)) (pv 1)) (pg_sub (pv 0) pe_int set_list))
      (pss_one (ps_ret (pv 3))))) pss_nil)
      (pss_cons (ps_asg (pe_op op_add (pe_ix (ixL (K := K) rfl) (pv 0) pe_int (fun _ _ => rfl)) pe_int) (pg_sub (pv 0) pe_int set_list))
      (pss_cons (ps_set (i := 4) sc_draw.nd rfl (Or.inl rfl) (pe_op op_mod (pe_callTy call_int1 (by rfl) T.m_int bt_int (pa_cons (pe_op op_mul (pe_callTy call_int1 (by rfl) T.m_int bt_int (pa_cons (pe_op op_add (pe_ix (ixL (K := K) rfl) (pv 0) pe_int (fun _ _ => rfl)) (pe_op op_mul pe_int (pe_ix (ixL (K := K) rfl) (pv 0) pe_int (fun _ _ => rfl)))) pa_nil)) pe_int) pa_nil)) pe_int))
      (pss_cons (ps_set (i := 4) sc_draw.nd rfl (Or.inl rfl) (pe_op op_mod (pe_callTy call_int1 (by rfl) T.m_int bt_int (pa_cons (pe_op op_mul (pv 4) (pe_op op_add (pe_op op_fdivW (pv 4) pe_int) pe_int)) pa_nil)) pe_int))
      (pss_cons (ps_set (i := 4) sc_draw.nd rfl (Or.inl rfl) (pe_op op_mod (pe_callTy call_int1 (by rfl) T.m_int bt_int (pa_cons (pe_op op_mul (pv 4) (pe_op op_add (pe_op op_fdivW (pv 4) pe_int) pe_int)) pa_nil)) pe_int))
      (pss_one (ps_ret (pe_op op_mod (pe_callTy call_int1 (by rfl) T.m_int bt_int (pa_cons (pe_op op_fdivW (pv 4) pe_int) pa_nil)) (pv 1)))))))))), ?_⟩
    -- if nothing is held, and there is a cell more
    refine ⟨fun σ' H' => ∃ (y2 : Option V) (i' held' st' : Int), σ' = [some (.ref h), some (.int n), y2, none, none] ∧ But h H H' ∧ H' h = some (.lst [.ref c, .int i', .int held', .int st', .int k]) ∧ 0 ≤ i' ∧ i' ≤ cells.length ∧ 0 ≤ held', ?_, ?_⟩
    · refine ⟨fun b H' => H' = H ∧ (b = true → i < cells.length), ?_, ?_⟩
      · walk_at "v"; walk_at "ix"
        refine ⟨rfl, ?_⟩; walk_at "v"
        refine iteB (fun e => ?_) (fun _ => ⟨rfl, fun z => by cases z⟩)
        walk_at "go"
        refine ⟨rfl, fun z => ?_⟩
        have z2 := of_decide_eq_true z
        rw [List.length_map] at z2
        exact z2
      · rintro b H' ⟨rfl, hb⟩
        refine iteB (fun e => ?_) (fun e => ⟨_, _, _, _, rfl, But.refl _ _, hh, i0, i1, h0⟩)
        have hi := hb e
        obtain ⟨j, rfl⟩ : ∃ j : Nat, i = j := ⟨i.toNat, by omega⟩
        have hj : j < cells.length := by omega
        have hx : (cells.map V.int)[j]? = some (.int cells[j]) := by rw [List.getElem?_map, List.getElem?_eq_getElem hj]; rfl
        have hp : 0 ≤ cells[j] := cp _ (List.getElem_mem hj)
        walk_at "v"; walk_at "ix"; walk_at "v"; walk_at "ix"
        refine ⟨_, _, _, _, rfl, rfl, (by walk_at "sq"), atI_int rfl hx, ?_⟩
        walk_at "go"
        refine iteB (fun g => ?_) (fun g => ?_)
        · walk_at "go"
          refine ⟨_, _, _, _, rfl, ?_, upd_same, by omega, by omega, hp⟩
          intro b o hb he
          rw [upd_ne hb, upd_ne hb, upd_ne hb]; exact he
        · refine ⟨_, _, _, _, rfl, ?_, upd_same, by omega, by omega, h0⟩
          intro b o hb he
          rw [upd_ne hb, upd_ne hb]; exact he
    · rintro σ' H1 ⟨y2, i', held', st', rfl, b1, hh1, i2, i3, h1⟩
      have hc1 : H1 c = some (.lst (cells.map V.int)) := b1 _ _ hch hc
      walk_at "v"; walk_at "ix"; walk_at "ii"; walk_at "v"
      refine iteB (fun e => ?_) (fun e => ?_)
      · have hp := of_decide_eq_true e
        walk_at "go"
        refine q _ _ (mod_in n0).1 (mod_in n0).2 ⟨?_, cells, i', _, _, _, upd_same, upd_oth hc1 hch, i2, i3, cp, div_in n0 (by omega), hch⟩
        exact b1.trans But.set
      · walk_at "go"
        refine q _ _ (mod_in n0).1 (mod_in n0).2 ⟨?_, cells, i', _, _, _, upd_same, upd_oth hc1 hch, i2, i3, cp, h1, hch⟩
        exact b1.trans But.set
theorem ok_NoRow_init (T : Txt K mg A) : FnOk P w K mg base (CX P w) 1 A.a_NoRow_init A.d_NoRow_init ["self"] (spPass) := by
  refine T.F_NoRow_init.okX sc_NoRow_init (fun vs H Q E h => ?_) (fun cdv Ar outer s H vs Q E hr h => ?_)
  · obtain ⟨_, rfl, _⟩ := h
    rfl
  · obtain ⟨x, rfl, q⟩ := h
    exact ⟨_, (pss_one ps_pass), q⟩
def sp_is_row (K : PySem.W.Frag) : Sp := fun vs H Q _ => ∃ v b, vs = [v] ∧ RowJ K H v b ∧ Q (.bl b) H
theorem ok_is_row (T : Txt K mg A) : FnOk P w K mg base (CX P w) 1 A.a_is_row A.d_is_row ["thing"] (sp_is_row K) := by
  refine T.F_is_row.okX sc_is_row (fun vs H Q E h => ?_) (fun cdv Ar outer s H vs Q E hr h => ?_)
  · obtain ⟨_, _, rfl, _⟩ := h
    rfl
  · obtain ⟨v, b, rfl, j, q⟩ := h
    refine ⟨_, (pss_one (ps_ret (pe_mid (pe_and (pe_callB (cisi (K := K) rfl) (by rfl) T.m_isinstance bt_isinstance (pa_cons (pv 0) (pa_cons (pe_bltn (v := .ty "str") (by rfl) T.m_str bt_str rfl) pa_nil))) (pe_one (pe_mid (pe_or (pe_cmpR op_eq (pv 0) pe_str (nomark _)) (pe_one (pe_mid (pe_and (pbm0 (K := K) rfl PySem.F.plainAttrs_str PySem.F.slot_str_isascii PySem.F.type_str_isascii mt_isascii (pv 0)) (pe_one (pbm0 (K := K) rfl PySem.F.plainAttrs_str PySem.F.slot_str_isalpha PySem.F.type_str_isalpha mt_isalpha (pv 0))))))))))))), ?_⟩
    refine ⟨fun v' H' => v' = .bl b ∧ H' = H, ?_, fun v' H' ⟨e1, e2⟩ => by subst e1 e2; exact q⟩
    cases j with
    | non ty k =>
      walk_at "v"
      refine ⟨_, _, _, _, _, rfl, .ty _, ty, k, ?_⟩
      walk_at "v"
      exact ⟨rfl, rfl⟩
    | str l =>
      walk_at "v"
      refine ⟨_, _, _, _, _, rfl, .ty _, .base (.str _), kit_str, ?_⟩
      walk_at "v"
      refine iteT ?_
      refine ⟨fun v' H' => v' = .bl (decide (Ls l)) ∧ H' = H, ?_, fun v' H' z => z⟩
      walk_at "v"
      refine ⟨rfl, ?_⟩
      walk_at "v"
      rw [S_nil, dec_eq]
      refine iteB (fun e => ?_) (fun e => ?_)
      · have e1 := of_decide_eq_true e
        subst e1
        exact ⟨by rw [decide_eq_true nil_L], rfl⟩
      · have e1 : l ≠ [] := of_decide_eq_false e
        refine ⟨fun v' H' => v' = .bl (decide (Ls l)) ∧ H' = H, ?_, fun v' H' z => z⟩
        walk_at "v"; walk_at "m0"; walk_at "v"
        rw [asc_iff]
        refine iteB (fun e => ?_) (fun e => ?_)
        · walk_at "v"; walk_at "m0"
          rw [alpha_asc (of_decide_eq_true e), decide_eq_true e1, Bool.true_and]
          exact ⟨rfl, rfl⟩
        · refine ⟨?_, rfl⟩
          rw [decide_eq_false fun z : Ls l => of_decide_eq_false e z.asc]
def sp_demand (K : PySem.W.Frag) (A : Ad) : Sp := fun vs H Q E => ∃ v b, vs = [v] ∧ RowJ K H v b ∧ (b = true → Q .non H) ∧ (b = false → E (.ref A.c_NoRow) none H)
theorem ok_demand_row (T : Txt K mg A) : FnOk P w K mg base (CX P w) 3 A.a_demand_row A.d_demand_row ["thing"] (sp_demand K A) := by
  refine T.F_demand_row.okX sc_demand_row (fun vs H Q E h => ?_) (fun cdv Ar outer s H vs Q E hr h => ?_)
  · obtain ⟨_, _, rfl, _⟩ := h
    rfl
  · obtain ⟨v, b, rfl, j, q1, q2⟩ := h
    refine ⟨_, (pss_one (ps_if (pt_not (pt_val (pe_call (ok_is_row T) (hr.mono (by decide)) (by rfl) T.g_is_row T.F_is_row.kp T.b_is_row .nil passF (pa_cons (pv 0) pa_nil)))) (pss_one (ps_raise rfl (takes_of rfl rfl rfl rfl) (pmk_oexZ T.o_NoRow T.i_NoRow T.t_NoRow (ok_NoRow_init T) (hr.mono (by decide)) T.b_NoRow_init passF (by rfl) T.gC_NoRow))) pss_nil)), ?_⟩
    walk_at "v"
    refine ⟨_, _, rfl, j, ?_⟩
    walk_at "v"
    cases b with
    | true => exact q1 rfl
    | false => exact q2 rfl
/-- the net of a row -/
def sp_reduced : Sp := fun vs H Q _ => ∃ l, vs = [.str (S l)] ∧ Ls l ∧ l.length ≤ 100000 ∧ ∀ H', Same H H' → Q (.str (S (red l))) H'
theorem ok_reduced (T : Txt K mg A) : FnOk P w K mg base (CX P w) 1 A.a_reduced A.d_reduced ["row"] (sp_reduced) := by
  refine T.F_reduced.okX sc_reduced (fun vs H Q E h => ?_) (fun cdv Ar outer s H vs Q E hr h => ?_)
  · obtain ⟨_, rfl, _⟩ := h
    rfl
  · obtain ⟨l, rfl, hl, hz, q⟩ := h
    refine ⟨_, (pss_cons (ps_set (i := 1) sc_reduced.nd rfl (Or.inl rfl) (pe_lst pa_nil))
      (pss_cons (ps_for (passes_of rfl) rfl (pi_str (pv 0)) (pg_name (i := 2) sc_reduced.nd rfl (Or.inl rfl)) (pss_one (ps_if (pt_mid (PW.pt (pw_and (ptru (K := K) rfl (pv 1) (by intro _; rfl)) (pw_and1 (pt_cmpR op_eq (pe_ix (ixL (K := K) rfl) (pv 1) (pe_un un_neg pe_int) (fun _ _ => rfl)) (pbm0 (K := K) rfl PySem.F.plainAttrs_str PySem.F.slot_str_swapcase PySem.F.type_str_swapcase mt_swapcase (pv 2)) (nomark _)))))) (pss_one (ps_expr (pbm0 (K := K) rfl PySem.F.plainAttrs_list PySem.F.slot_list_pop PySem.F.type_list_pop mt_pop (pv 1)))) (pss_one (ps_expr (pbm (K := K) rfl PySem.F.plainAttrs_list PySem.F.slot_list_append PySem.F.type_list_append mt_append (pv 1) (pa_cons (pv 2) pa_nil)))))))
      (pss_one (ps_ret (pbm (K := K) rfl PySem.F.plainAttrs_str PySem.F.slot_str_join PySem.F.type_str_join (mjoin (K := K) rfl) pe_str (pa_cons (pv 1) pa_nil)))))), ?_⟩
    refine ⟨Nat.zero_le _, fun p hp => ?_⟩
    walk_at "v"; walk_at "v"
    refine ⟨fun i m σ' H' => m = l.length - i ∧ i ≤ l.length ∧ ∃ y, σ' = [some (.str (S l)), some (.ref p), y] ∧ Same H H' ∧ H' p = some (.lst ((kst (l.take i)).reverse.map fun c => V.str (S [c]))), ⟨_, rfl, Nat.zero_le _, none, rfl, Same.new hp, upd_same⟩, ?_⟩
    rintro i m σ' H1 ⟨rfl, hi, y, rfl, s1, h1⟩
    by_cases hlt : i < l.length
    · refine .inr ⟨hlt, fun σ' H' => ∃ y, σ' = [some (.str (S l)), some (.ref p), y] ∧ Same H H' ∧ H' p = some (.lst ((kst (l.take (i + 1))).reverse.map fun c => V.str (S [c]))), fun σ' H' z => ⟨_, by omega, rfl, hlt, z⟩, ?_⟩
      rintro x H' ⟨rfl, c, hc, rfl⟩
      have hc' : l[i]? = some c := by simpa [S] using hc
      have hcl : IsL c := hl c (List.mem_of_getElem? hc')
      have et : l.take (i + 1) = l.take i ++ [c] := by rw [List.take_add_one, hc']; rfl
      have ek : kst (l.take (i + 1)) = push (kst (l.take i)) c := by rw [et, kst_app]; rfl
      have hk : Ls (kst (l.take i)) := kst_L (hl.take i)
      have hkl : (kst (l.take i)).length ≤ i := by
        have := kst_len_aux (l.take i) []
        rw [List.length_take] at this
        show (List.foldl push [] _).length ≤ i
        simp at this; omega
      refine ⟨fun b H2 => H2 = H' ∧ b = (match kst (l.take i) with | [] => false | t :: _ => decide (t = sw c)), ?_, ?_⟩
      · walk_at "v"
        refine ⟨!(List.isEmpty _), .inl ⟨_, SqL.of h1, rfl⟩, ?_⟩
        cases e : kst (l.take i) with
        | nil => exact ⟨rfl, rfl⟩
        | cons t r =>
          refine iteB (fun _ => ?_) (fun z => ?_)
          · walk_at "v"; walk_at "v"
            have g : atI ((t :: r).reverse.map fun c => V.str (S [c])) (-1) = some (.str (S [t])) := by
              rw [List.reverse_cons, List.map_append]; exact atI_last _ _
            rw [e] at h1
            refine ⟨_, _, _, _, rfl, rfl, SqL.of h1, g, ?_⟩
            walk_at "v"
            refine ⟨rfl, _, rfl, rfl, ?_, ?_⟩
            · show (S [c]).length ≤ _
              rw [S_len]; exact Nat.le_trans (by decide : 1 ≤ 100) (by decide)
            · refine ⟨rfl, ?_⟩
              walk_at "v"
              refine ⟨rfl, ?_⟩
              have e2 : Txt.swapcase ({ cps := #[c] } : Str) = S [sw c] := swap_asc (Ls.one hcl).asc
              rw [e2, dec_eq]
              simp
          · rw [List.reverse_cons, List.map_append] at z
            simp at z
      · rintro b H2 ⟨rfl, eb⟩
        subst eb
        cases e : kst (l.take i) with
        | nil =>
          refine iteF ?_
          walk_at "v"
          refine ⟨.inl ⟨rfl, _, SqL.of h1⟩, ?_⟩
          walk_at "v"
          refine ⟨_, _, _, rfl, rfl, h1, ?_, ?_⟩
          · rw [List.length_map, List.length_reverse]; exact Nat.lt_of_le_of_lt (by omega : _ ≤ 100000) (by decide)
          · refine ⟨_, rfl, fun b o hb => ?_, ?_⟩
            · rw [upd_ne (ne_of_none hb hp)]; exact s1 b o hb
            · rw [upd_same, ek, e]; rfl
        | cons t r =>
          have en : (kst (l.take (i + 1))) = if t = sw c then r else c :: t :: r := by rw [ek, e]; rfl
          refine iteB (fun z => ?_) (fun z => ?_)
          · have z1 := of_decide_eq_true z
            rw [if_pos z1] at en
            walk_at "v"
            refine ⟨.inl ⟨rfl, _, SqL.of h1⟩, ?_⟩
            rw [e, List.reverse_cons, List.map_append] at h1
            refine ⟨_, _, .str (S [t]), rfl, rfl, h1, ?_, ?_⟩
            · simp
            · refine ⟨_, rfl, fun b o hb => ?_, ?_⟩
              · rw [upd_ne (ne_of_none hb hp)]; exact s1 b o hb
              · rw [upd_same, en]; simp
          · have z1 := of_decide_eq_false z
            rw [if_neg z1] at en
            walk_at "v"
            refine ⟨.inl ⟨rfl, _, SqL.of h1⟩, ?_⟩
            walk_at "v"
            refine ⟨_, _, _, rfl, rfl, h1, ?_, ?_⟩
            · rw [List.length_map, List.length_reverse]; exact Nat.lt_of_le_of_lt (by omega : _ ≤ 100000) (by decide)
            · refine ⟨_, rfl, fun b o hb => ?_, ?_⟩
              · rw [upd_ne (ne_of_none hb hp)]; exact s1 b o hb
              · rw [upd_same, en, e]; simp; rfl
    · have ei : i = l.length := by omega
      subst ei
      rw [List.take_length] at h1
      refine .inl ⟨?_, ?_⟩
      · show (S l).cps.size ≤ _
        exact Nat.le_of_eq (S_len l)
      · refine ⟨rfl, ?_⟩
        walk_at "v"
        have ej : (kst l).reverse.map (fun c => V.str (S [c])) = (((red l).map fun c => [c]).map S).map V.str := by
          rw [List.map_map, List.map_map]; rfl
        rw [ej] at h1
        refine ⟨_, _, _, rfl, rfl, .inl (SqL.of h1), ?_, ?_⟩
        · have e0 : (Str.ofString "" : Str).length = 0 := by rw [S_nil, S_len]; rfl
          rw [e0, Nat.mul_zero, Nat.add_zero, List.map_map, List.map_map]
          have : (List.map ((Str.length ∘ S) ∘ fun c => [c]) (red l)).sum = (red l).length := by
            induction red l with
            | nil => rfl
            | cons a r ih => simp only [List.map_cons, List.sum_cons, List.length_cons, ih]; show (S [a]).length + _ = _; rw [S_len]; simp; omega
          rw [this]
          have := red_len l
          omega
        · rw [S_nil, RB.join_nil]
          have ef : ((red l).map fun c => [c]).flatten = red l := by
            induction red l with
            | nil => rfl
            | cons a r ih => simp [ih]
          rw [ef]
          exact q _ s1
def sp_net (K : PySem.W.Frag) (A : Ad) : Sp := fun vs H Q E => ∃ v b, vs = [v] ∧ RowJ K H v b ∧ (∀ l, v = .str (S l) → Ls l → l.length ≤ 100000 ∧ ∀ H', Same H H' → Q (.str (S (red l))) H') ∧ (b = false → E (.ref A.c_NoRow) none H)
theorem ok_net (T : Txt K mg A) : FnOk P w K mg base (CX P w) 4 A.a_net A.d_net ["row"] (sp_net K A) := by
  refine T.F_net.okX sc_net (fun vs H Q E h => ?_) (fun cdv Ar outer s H vs Q E hr h => ?_)
  · obtain ⟨_, _, rfl, _⟩ := h
    rfl
  · obtain ⟨v, b, rfl, j, q1, q2⟩ := h
    refine ⟨_, (pss_cons (ps_expr (pe_call (ok_demand_row T) hr (by rfl) T.g_demand_row T.F_demand_row.kp T.b_demand_row .nil (passes_call (takes_of rfl rfl rfl rfl) (fun _ _ _ _ h => h)) (pa_cons (pv 0) pa_nil)))
      (pss_one (ps_ret (pe_call (ok_reduced T) (hr.mono (by decide)) (by rfl) T.g_reduced T.F_reduced.kp T.b_reduced .nil passF (pa_cons (pv 0) pa_nil))))), ?_⟩
    walk_at "v"
    refine ⟨_, _, rfl, j, fun e => ?_, q2⟩
    walk_at "v"
    cases j with
    | non ty k => cases e
    | str l =>
      have hl := of_decide_eq_true e
      obtain ⟨h1, h2⟩ := q1 l rfl hl
      exact ⟨l, rfl, hl, h1, h2⟩
/-- the undoing of a letter -/
def sp_undoing : Sp := fun vs H Q _ => ∃ c, vs = [.str (S [c])] ∧ IsL c ∧ Q (.str (S [sw c])) H
theorem ok_undoing (T : Txt K mg A) : FnOk P w K mg base (CX P w) 1 A.a_undoing A.d_undoing ["_law_letter"] (sp_undoing) := by
  refine T.F_undoing.okX sc_undoing (fun vs H Q E h => ?_) (fun cdv Ar outer s H vs Q E hr h => ?_)
  · obtain ⟨_, rfl, _⟩ := h
    rfl
  · obtain ⟨c, rfl, hc, q⟩ := h
    have ha : c < 128 := (Ls.one hc).asc c List.mem_cons_self
    refine ⟨_, (pss_cons (ps_if (pt_val (pbm0 (K := K) rfl PySem.F.plainAttrs_str PySem.F.slot_str_islower PySem.F.type_str_islower mt_islower (pv 0))) (pss_one (ps_ret (pbm0 (K := K) rfl PySem.F.plainAttrs_str PySem.F.slot_str_upper PySem.F.type_str_upper mt_upper (pv 0)))) pss_nil)
      (pss_one (ps_ret (pbm0 (K := K) rfl PySem.F.plainAttrs_str PySem.F.slot_str_lower PySem.F.type_str_lower mt_lower (pv 0))))), ?_⟩
    walk_at "v"; walk_at "m0"; walk_at "v"
    have hz : (S [c]).length ≤ 5592405 := by rw [S_len]; exact (by decide : 1 ≤ 5592405)
    rw [islo_one ha]
    refine iteB (fun e => ?_) (fun e => ?_)
    · walk_at "v"
      refine ⟨rfl, _, rfl, rfl, hz, ?_⟩
      rw [up_asc (Ls.one hc).asc, List.map_cons, sw_up (of_decide_eq_true e)]
      exact q
    · walk_at "v"
      refine ⟨rfl, _, rfl, rfl, hz, ?_⟩
      rw [lo_asc (Ls.one hc).asc, List.map_cons, sw_lo hc (of_decide_eq_false e)]
      exact q
/-- the undoings, from the last to the first -/
def sp_back : Sp := fun vs H Q _ => ∃ l, vs = [.str (S l)] ∧ Ls l ∧ l.length ≤ 100000 ∧ ∀ H', Same H H' → Q (.str (S (inv l))) H'
theorem ok_back (T : Txt K mg A) : FnOk P w K mg base (CX P w) 2 A.a_back A.d_back ["_law_row_here"] (sp_back) := by
  refine T.F_back.okX sc_back (fun vs H Q E h => ?_) (fun cdv Ar outer s H vs Q E hr h => ?_)
  · obtain ⟨_, rfl, _⟩ := h
    rfl
  · obtain ⟨l, rfl, hl, hz, q⟩ := h
    refine ⟨_, (pss_one (ps_ret (pbm (K := K) rfl PySem.F.plainAttrs_str PySem.F.slot_str_join PySem.F.type_str_join (mjoin (K := K) rfl) pe_str (pa_cons (pe_lc (own := [("_law_letter", 1)]) (tt := tYes) rfl sc_back.nd (pi_str (pe_revS (pv 0))) (blkOk_by (N := ["_law_row_here", "_law_letter"]) (sc := defScope s_back) (by decide +kernel)) (fun _ _ _ _ _ => (pg_name (i := 1) sc_back.nd rfl (Or.inl rfl))) (fun _ _ _ _ _ => pts_nil) (fun _ _ _ _ _ => (pe_call (ok_undoing T) hr (by rfl) T.g_undoing T.F_undoing.kp T.b_undoing .nil passF (pa_cons (pv 1) pa_nil)))) pa_nil)))), ?_⟩
    refine ⟨rfl, ?_⟩
    walk_at "v"
    refine ⟨_, rfl, ?_, _, rfl, fun D hD => ?_⟩
    · rw [S_len]; exact Nat.le_trans hz (by decide)
    rw [S_rev]
    refine ⟨fun i m H' => m = l.length - i ∧ i ≤ l.length ∧ Same H H' ∧ H' D = some (.lst (ones ((l.reverse.take i).map sw))), ⟨_, rfl, Nat.zero_le _, Same.new hD, upd_same⟩, ?_⟩
    rintro i m H1 ⟨rfl, hi, s1, h1⟩
    by_cases hlt : i < l.length
    · refine .inr ⟨?_, fun H' => Same H H' ∧ H' D = some (.lst (ones ((l.reverse.take (i + 1)).map sw))), fun H' z => ⟨_, by omega, rfl, hlt, z⟩, ?_⟩
      · show i < (S l.reverse).cps.size
        have : (S l.reverse).cps.size = l.reverse.length := S_len _
        rw [this, List.length_reverse]; exact hlt
      rintro x H' ⟨rfl, c, hc, rfl⟩
      have hc' : l.reverse[i]? = some c := by simpa [S] using hc
      have hcl : IsL c := hl.rev c (List.mem_of_getElem? hc')
      refine ⟨rfl, ?_⟩
      walk_at "v"
      refine ⟨c, rfl, hcl, _, h1, ?_, ?_⟩
      · rw [ones_len, List.length_map, List.length_take]; exact Nat.lt_of_le_of_lt (by omega : _ ≤ 100000) (by decide)
      · refine ⟨fun b o hb => ?_, ?_⟩
        · rw [upd_ne (ne_of_none hb hD)]; exact s1 b o hb
        · rw [upd_same, take_one hc', List.map_append]; unfold ones; rw [List.map_append]; rfl
    · have ei : i = l.length := by omega
      subst ei
      have e2 : l.reverse.take l.length = l.reverse := List.take_of_length_le (by rw [List.length_reverse]; exact Nat.le_refl _)
      rw [e2, ones_eq, List.map_reverse] at h1
      refine .inl ⟨?_, ?_⟩
      · show (S l.reverse).cps.size ≤ _
        have : (S l.reverse).cps.size = l.reverse.length := S_len _
        rw [this, List.length_reverse]; exact Nat.le_refl _
      · refine ⟨_, _, _, rfl, rfl, .inl (SqL.of h1), ?_, ?_⟩
        · rw [nil_len, Nat.mul_zero, Nat.add_zero, sum_one, List.length_reverse, List.length_map]; omega
        · rw [S_nil, RB.join_nil, flat_one]
          exact q _ s1
/-- a row of n letters over the deeds d -/
def sp_row : Sp := fun vs H Q _ => ∃ (h c : Addr) (d : List Nat) (n : Nat), vs = [.ref h, .str (S d), .int n] ∧ Hand H h c ∧ Ls d ∧ d ≠ [] ∧ d.length ≤ 1000 ∧ n ≤ 1000 ∧
  ∀ l H', l.length = n → Ls l → (∀ c ∈ l, c ∈ d ∨ ∃ b ∈ d, c = up1 b) → Go h c H H' → Q (.str (S l)) H'
theorem ok_row (T : Txt K mg A) : FnOk P w K mg base (CX P w) 2 A.a_row A.d_row ["_law_hand_here", "_law_deeds", "_law_many"] (sp_row) := by
  refine T.F_row.okX sc_row (fun vs H Q E h => ?_) (fun cdv Ar outer s H vs Q E hr h => ?_)
  · obtain ⟨_, _, _, _, rfl, _⟩ := h
    rfl
  · obtain ⟨h, c, d, n, rfl, hH, hd, d0, dz, nz, q⟩ := h
    refine ⟨_, (pss_cons (ps_set (i := 3) sc_row.nd rfl (Or.inr rfl) (pe_op op_add_str (pv 1) (pbm0 (K := K) rfl PySem.F.plainAttrs_str PySem.F.slot_str_upper PySem.F.type_str_upper mt_upper (pv 1))))
      (pss_one (ps_ret (pbm (K := K) rfl PySem.F.plainAttrs_str PySem.F.slot_str_join PySem.F.type_str_join (mjoin (K := K) rfl) pe_str (pa_cons (pe_lc (own := [("_law_turn", 4)]) (tt := tYes) rfl sc_row.nd (pi_range1 (by rfl) T.m_range (pa_cons (pv 2) pa_nil)) (blkOk_by (N := ["_law_hand_here", "_law_deeds", "_law_many", "_law_letters", "_law_turn"]) (sc := defScope s_row) (by decide +kernel)) (fun _ _ _ _ _ => (pg_name (i := 4) sc_row.nd rfl (Or.inl rfl))) (fun _ _ _ _ _ => pts_nil) (fun _ _ _ _ _ => (pe_ix ix_str (pv 3) (pe_call (ok_draw T) hr (by rfl) T.g_draw T.F_draw.kp T.b_draw .nil passF (pa_cons (pv 0) (pa_cons (pe_callB clenS (by rfl) T.m_len bt_len (pa_cons (pv 3) pa_nil)) pa_nil))) (fun _ _ => rfl)))) pa_nil))))), ?_⟩
    walk_at "v"; walk_at "v"
    refine ⟨rfl, _, rfl, rfl, ?_, ?_⟩
    · rw [S_len]; omega
    rw [up_asc hd.asc]
    refine ⟨_, _, rfl, rfl, ?_, ?_⟩
    · rw [S_len, S_len, List.length_map]; exact Nat.le_trans (by omega : _ ≤ 2000) (by decide)
    rw [S_app]
    have hL : Ls (d ++ d.map up1) := hd.app hd.up
    have hlen : (d ++ d.map up1).length = 2 * d.length := by rw [List.length_append, List.length_map]; omega
    have hpos : 0 < d.length := List.length_pos_iff.mpr d0
    generalize eL : d ++ d.map up1 = L at hL hlen
    refine ⟨rfl, ?_⟩
    walk_at "v"
    refine ⟨_, rfl, by omega, by omega, fun D hD => ?_⟩
    refine lc_range (Pv := fun i H' => ∃ l, l.length = i ∧ (∀ c ∈ l, c ∈ L) ∧ Go h c H H' ∧ H' D = some (.lst (ones l))) ⟨[], rfl, (fun _ z => nomatch z), Go.new hH hD, upd_same⟩ ?_ ?_
    · rintro i H1 hi ⟨l, el, hl, g1, h1⟩
      have hi' : i < n := by simpa using hi
      refine ⟨rfl, ?_⟩
      walk_at "v"; walk_at "v"; walk_at "v"
      refine ⟨_, rfl, ?_, ?_⟩
      · rw [S_len]; exact Nat.le_trans (by omega : _ ≤ 2000) (by decide)
      refine ⟨h, c, _, rfl, g1.2, by rw [S_len]; omega, by rw [S_len]; omega, fun k H2 k0 k1 g2 => ?_⟩
      rw [S_len] at k1
      obtain ⟨j, rfl⟩ : ∃ j : Nat, k = j := ⟨k.toNat, by omega⟩
      have hj : j < L.length := by omega
      refine ⟨_, _, L[j], rfl, rfl, ?_, atI_int rfl (by rw [S_list]; exact List.getElem?_eq_getElem hj), ?_⟩
      · rw [S_len]; exact Nat.le_trans (by omega : _ ≤ 2000) (by decide)
      have h2 := g2.1 _ _ (hH.ne hD).1 h1
      refine ⟨_, h2, ?_, l ++ [L[j]], by rw [List.length_append, el]; rfl, ?_, (g1.trans g2).put hH hD, ?_⟩
      · rw [ones_len]; exact Nat.lt_of_le_of_lt (by omega : _ ≤ 1000) (by decide)
      · intro c hc
        rcases List.mem_append.mp hc with z | z
        · exact hl c z
        · rw [List.mem_singleton.mp z]; exact List.getElem_mem hj
      · rw [upd_same]; unfold ones; rw [List.map_append]; rfl
    · rintro H1 ⟨l, el, hl, g1, h1⟩
      have el' : l.length = n := by simpa using el
      rw [ones_eq] at h1
      refine ⟨_, _, _, rfl, rfl, .inl (SqL.of h1), ?_, ?_⟩
      · rw [nil_len, Nat.mul_zero, Nat.add_zero, sum_one]; omega
      · rw [S_nil, RB.join_nil, flat_one]
        refine q l H1 el' (fun c hc => hL c (hl c hc)) (fun c hc => ?_) g1
        have := hl c hc
        rw [← eL] at this
        rcases List.mem_append.mp this with z | z
        · exact .inl z
        · obtain ⟨b, hb, e⟩ := List.mem_map.mp z
          exact .inr ⟨b, hb, e.symm⟩
theorem ok_hand (T : Txt K mg A) : FnOk P w K mg base (CX P w) 1 A.a_hand A.d_hand ["_law_script"] (sp_hand K) := by
  refine T.F_hand.okX sc_hand (fun vs H Q E h => ?_) (fun cdv Ar outer s H vs Q E hr h => ?_)
  · obtain ⟨_, _, rfl, _⟩ := h
    rfl
  · obtain ⟨a, ns, rfl, hS, hz, q⟩ := h
    refine ⟨_, (pss_cons (ps_setLc (i := 1) (own := [("_law_cell", 2)]) (tt := tYes) rfl sc_hand.nd rfl rfl (sw_true rfl rfl rfl (by decide +kernel)) (piL (K := K) rfl (pe_slice (slL (K := K) rfl) (pv 0) po_none (po_some pe_int))) (blkOk_by (N := ["_law_script", "_law_cells", "_law_cell"]) (sc := defScope s_hand) (by decide +kernel)) (fun _ _ _ _ _ => (pg_name (i := 2) sc_hand.nd rfl (Or.inl rfl))) (fun _ _ _ _ _ => pts_nil) (fun _ _ _ _ _ => (pe_callB call_abs (by rfl) T.m_abs bt_abs (pa_cons (pe_callTy call_int1 (by rfl) T.m_int bt_int (pa_cons (pv 2) pa_nil)) pa_nil))))
      (pss_one (ps_ret (pe_lst (pa_cons (pv 1) (pa_cons pe_int (pa_cons pe_int (pa_cons (pe_op op_add pe_int (pe_callB (clen (K := K) rfl) (by rfl) T.m_len bt_len (pa_cons (pv 1) pa_nil))) (pa_cons pe_int pa_nil))))))))), ?_⟩
    walk_at "v"; walk_at "v"
    refine ⟨a, _, rfl, hS, fun p hp => ?_⟩
    have e63 : cutV (ns.map V.int) none (some 63) = ns.map V.int := by
      have := cutV_to (ns.map V.int) 63
      rw [List.take_of_length_le (by rw [List.length_map]; exact hz)] at this
      exact this
    rw [e63]
    refine ⟨p, rfl, ⟨_, SqL.of upd_same⟩, fun D hD => ?_⟩
    have npD : p ≠ D := ne_of_none upd_same hD
    refine lc_list (xs := ns.map V.int) (Pv := fun i H' => Same H H' ∧ H' p = some (.lst (ns.map V.int)) ∧ H' D = some (.lst ((ns.take i).map fun z => V.int (if z < 0 then -z else z)))) ⟨(Same.new hp).trans (Same.new hD), upd_oth upd_same npD, upd_same⟩ (fun i H' _ z => SqL.of z.2.1) ?_ ?_
    · rintro i x H1 hx ⟨s1, h1, h2⟩
      obtain ⟨z, hz', rfl⟩ : ∃ z, ns[i]? = some z ∧ x = .int z := by
        rw [List.getElem?_map] at hx
        cases e : ns[i]? with
        | none => rw [e] at hx; cases hx
        | some z => rw [e] at hx; exact ⟨z, rfl, (Option.some.inj hx).symm⟩
      refine ⟨rfl, ?_⟩
      walk_at "v"; walk_at "int"; walk_at "v"
      have nD : H D = none := Same.free (Same.new hp) hD
      refine ⟨_, h2, ?_, Same.mut nD s1, upd_oth h1 npD, ?_⟩
      · rw [List.length_map, List.length_take]; exact Nat.lt_of_le_of_lt (by omega : _ ≤ 63) (by decide)
      · rw [upd_same, take_one hz', List.map_append]; rfl
    · rintro H1 ⟨s1, h1, h2⟩
      rw [List.length_map, List.take_length] at h2
      have e3 : (ns.map fun z => V.int (if z < 0 then -z else z)) = (ns.map fun z => if z < 0 then -z else z).map V.int := by rw [List.map_map]; rfl
      rw [e3] at h2
      walk_at "v"; walk_at "v"; walk_at "len"; walk_at "ii"
      refine ⟨by walk_at "sz", fun h hh => ?_⟩
      refine q h D _ ?_ (s1.trans (Same.new hh)) ⟨_, 0, 0, _, 0, upd_same, upd_old h2 hh, by decide, by omega, ?_, by decide, ne_of_none h2 hh⟩
      · exact Same.free s1 hh
      · intro z hz2
        obtain ⟨y, _, e⟩ := List.mem_map.mp hz2
        rw [← e]; split <;> omega
/-- what is no row -/
def sp_odd : Sp := fun vs H Q _ => ∃ (h c : Addr), vs = [.ref h] ∧ Hand H h c ∧ ∀ v H', Odd H' h v → Go h c H H' → Q v H'
theorem ok_odd (T : Txt K mg A) : FnOk P w K mg base (CX P w) 2 A.a_odd A.d_odd ["_law_hand_here"] (sp_odd) := by
  refine T.F_odd.okX sc_odd (fun vs H Q E h => ?_) (fun cdv Ar outer s H vs Q E hr h => ?_)
  · obtain ⟨_, _, rfl, _⟩ := h
    rfl
  · obtain ⟨h, c, rfl, hH, q⟩ := h
    refine ⟨_, (pss_cons (ps_set (i := 1) sc_odd.nd rfl (Or.inl rfl) (pe_lst (pa_cons pe_non pa_nil)))
      (pss_cons (ps_for (passes_of rfl) rfl (pi_range1 (by rfl) T.m_range (pa_cons pe_int pa_nil)) (pg_name (i := 2) sc_odd.nd rfl (Or.inl rfl)) (pss_one (ps_set (i := 1) sc_odd.nd rfl (Or.inl rfl) (pe_lst (pa_cons (pv 1) pa_nil)))))
      (pss_cons (ps_set (i := 3) sc_odd.nd rfl (Or.inl rfl) (pe_lst (pa_cons pe_non (pa_cons pe_bl (pa_cons pe_bl (pa_cons pe_int (pa_cons pe_int (pa_cons (pe_un un_neg pe_int) (pa_cons (pe_op op_pow pe_int pe_int) (pa_cons pe_str (pa_cons pe_str (pa_cons pe_str (pa_cons pe_str (pa_cons (pe_lst (pa_cons pe_str pa_nil)) (pa_cons (pe_tup (pa_cons pe_str pa_nil)) (pa_cons (pe_disp (pps_cons pe_str pe_str pps_nil) rfl rfl (by intro z; cases z) (by decide)) (pa_cons (pe_lst pa_nil) (pa_cons (pv 1) pa_nil))))))))))))))))))
      (pss_one (ps_ret (pe_ix (ixL (K := K) rfl) (pv 3) (pe_call (ok_draw T) hr (by rfl) T.g_draw T.F_draw.kp T.b_draw .nil passF (pa_cons (pv 0) (pa_cons (pe_callB (clen (K := K) rfl) (by rfl) T.m_len bt_len (pa_cons (pv 3) pa_nil)) pa_nil))) (fun _ _ => rfl))))))), ?_⟩
    refine ⟨by walk_at "sz", fun p0 n0 => ?_⟩
    refine ⟨18, rfl, by decide, by decide, for_range (n := 18) (fun i σ' H' => ∃ d y xs, σ' = [some (.ref h), some (.ref d), y, none] ∧ Same H H' ∧ d ≠ h ∧ H' d = some (.lst xs)) ⟨p0, none, _, rfl, Same.new n0, (hH.ne n0).1, upd_same⟩ ?_ ?_⟩
    · rintro i σ' H' hi ⟨d, y, xs, rfl, s1, nd, h1⟩
      walk_at "v"
      refine ⟨by walk_at "sz", fun p hp => ?_⟩
      exact ⟨p, _, _, rfl, s1.trans (Same.new hp), ((hH.same s1).ne hp).1, upd_same⟩
    · rintro σ' H1 ⟨d, y, xs, rfl, s1, nd, h1⟩
      have g1 := hH.same s1
      walk_at "v"; walk_at "pow"
      refine ⟨by walk_at "sz", fun p1 n1 => ?_⟩
      have s2 := s1.trans (Same.new (o := .lst [.str "a"]) n1)
      have m1 := (g1.ne n1).1
      refine ⟨by walk_at "sz", fun p2 n2 => ?_⟩
      have s3 := s2.trans (Same.new (o := .tup [.str "a"]) n2)
      have m2 := ((hH.same s2).ne n2).1
      intro p3 n3
      have m3 := ((hH.same s3).ne n3).1
      refine ⟨upd_same, [(.inr "a", .str "b")], rfl, by decide, ?_⟩
      rw [upd_upd]
      have s4 := s3.trans (Same.new (o := .dK (mergeK [] [(.inr "a", .str "b")])) n3)
      refine ⟨Nat.zero_le _, fun p4 n4 => ?_⟩
      have m4 := ((hH.same s4).ne n4).1
      have s5 := s4.trans (Same.new (o := .lst []) n4)
      walk_at "v"
      refine ⟨by walk_at "sz", fun p5 n5 => ?_⟩
      have m5 := ((hH.same s5).ne n5).1
      generalize eH : upd (upd (upd (upd (upd H1 p1 (.lst [.str "a"])) p2 (.tup [.str "a"])) p3 (.dK (mergeK [] [(.inr "a", .str "b")]))) p4 (.lst [])) p5 _ = H2
      have s6 : Same H H2 := by rw [← eH]; exact s5.trans (Same.new n5)
      have k5 : H2 p5 = some (.lst [.non, .bl true, .bl false, .int 0, .int 7, .int (-1), .int (10 ^ (40 : Int).toNat), .str "a b", .str "a1", .str "-", .str "a\n", .ref p1, .ref p2, .ref p3, .ref p4, .ref d]) := by rw [← eH]; exact upd_same
      have k4 : H2 p4 = some (.lst []) := by rw [← eH]; walk_at "lk"
      have k3 : H2 p3 = some (.dK (mergeK [] [(.inr "a", .str "b")])) := by rw [← eH]; walk_at "lk"
      have k2 : H2 p2 = some (.tup [.str "a"]) := by rw [← eH]; walk_at "lk"
      have k1 : H2 p1 = some (.lst [.str "a"]) := by rw [← eH]; walk_at "lk"
      have k0 : H2 d = some (.lst xs) := by rw [← eH]; walk_at "lk"
      clear eH
      have al : ∀ x ∈ ([.non, .bl true, .bl false, .int 0, .int 7, .int (-1), .int (10 ^ (40 : Int).toNat), .str "a b", .str "a1", .str "-", .str "a\n", .ref p1, .ref p2, .ref p3, .ref p4, .ref d] : List V), Odd H2 h x := all_c Odd.non <| all_c (Odd.bl true) <| all_c (Odd.bl false) <| all_c (Odd.int 0) <| all_c (Odd.int 7) <| all_c (Odd.int (-1)) <| all_c (Odd.int (10 ^ (40 : Int).toNat)) <|
        all_c (Odd.str (z := "a b") [97, 32, 98] (by decide +kernel) (by decide)) <| all_c (Odd.str (z := "a1") [97, 49] (by decide +kernel) (by decide)) <| all_c (Odd.str (z := "-") [45] (by decide +kernel) (by decide)) <|
        all_c (Odd.str (z := "a\n") [97, 10] (by decide +kernel) (by decide)) <| all_c (Odd.lst m1 k1) <| all_c (Odd.tup m2 k2) <| all_c (Odd.dict m3 k3) <| all_c (Odd.lst m4 k4) <| all_c (Odd.lst nd k0) <| all_n
      walk_at "v"; walk_at "v"; walk_at "v"
      refine ⟨_, _, rfl, .inl (SqL.of k5), h, c, _, rfl, hH.same s6, by simp only [List.length_cons, List.length_nil]; decide, by simp only [List.length_cons, List.length_nil]; decide, fun k H3 h0 hk g3 => ?_⟩
      simp only [List.length_cons, List.length_nil] at hk
      obtain ⟨j, rfl⟩ : ∃ j : Nat, k = j := ⟨k.toNat, by omega⟩
      have k6 := g3.1 _ _ m5 k5
      generalize eL : ([.non, .bl true, .bl false, .int 0, .int 7, .int (-1), .int (10 ^ (40 : Int).toNat), .str "a b", .str "a1", .str "-", .str "a\n", .ref p1, .ref p2, .ref p3, .ref p4, .ref d] : List V) = L at al k5 k6
      have hL : L.length = 16 := by rw [← eL]; rfl
      have hj : j < L.length := by rw [hL]; omega
      refine ⟨_, _, _, L[j], rfl, rfl, SqL.of k6, atI_int rfl (List.getElem?_eq_getElem hj), ?_⟩
      exact q _ H3 ((al _ (List.getElem_mem hj)).but g3.1) ((hH.go s6).trans g3)
/-- the row with so many pairs more -/
def sp_grown : Sp := fun vs H Q _ => ∃ (h c : Addr) (d r : List Nat) (k : Nat), vs = [.ref h, .str (S d), .str (S r), .int k] ∧ Hand H h c ∧ Ls d ∧ d ≠ [] ∧ d.length ≤ 1000 ∧ Ls r ∧ r.length ≤ 1000 ∧ k ≤ 1000 ∧
  ∀ r' H', Ls r' → red r' = red r → r'.length = r.length + 2 * k → Go h c H H' → Q (.str (S r')) H'
theorem ok_grown (T : Txt K mg A) : FnOk P w K mg base (CX P w) 3 A.a_grown A.d_grown ["_law_hand_here", "_law_deeds", "_law_row_here", "_law_pairs"] (sp_grown) := by
  refine T.F_grown.okX sc_grown (fun vs H Q E h => ?_) (fun cdv Ar outer s H vs Q E hr h => ?_)
  · obtain ⟨_, _, _, _, _, rfl, _⟩ := h
    rfl
  · obtain ⟨h, c, d, r, k, rfl, hH, hd, d0, dz, hr0, rz, kz, q⟩ := h
    refine ⟨_, (pss_cons (ps_for (passes_of rfl) rfl (pi_range1 (by rfl) T.m_range (pa_cons (pv 3) pa_nil)) (pg_name (i := 4) sc_grown.nd rfl (Or.inl rfl)) (pss_cons (ps_set (i := 5) sc_grown.nd rfl (Or.inl rfl) (pe_call (ok_draw T) (hr.mono (by decide)) (by rfl) T.g_draw T.F_draw.kp T.b_draw .nil passF (pa_cons (pv 0) (pa_cons (pe_op op_add (pe_callB clenS (by rfl) T.m_len bt_len (pa_cons (pv 2) pa_nil)) pe_int) pa_nil))))
      (pss_cons (ps_set (i := 6) sc_grown.nd rfl (Or.inl rfl) (pe_call (ok_row T) hr (by rfl) T.g_row T.F_row.kp T.b_row .nil passF (pa_cons (pv 0) (pa_cons (pv 1) (pa_cons pe_int pa_nil)))))
      (pss_one (ps_set (i := 2) sc_grown.nd rfl (Or.inl rfl) (pe_op op_add_str (pe_op op_add_str (pe_op op_add_str (pe_slice sl_str (pv 2) po_none (po_some (pv 5))) (pv 6)) (pe_call (ok_undoing T) (hr.mono (by decide)) (by rfl) T.g_undoing T.F_undoing.kp T.b_undoing .nil passF (pa_cons (pv 6) pa_nil))) (pe_slice sl_str (pv 2) (po_some (pv 5)) po_none)))))))
      (pss_one (ps_ret (pv 2)))), ?_⟩
    walk_at "v"
    refine ⟨_, rfl, by omega, by omega, for_range (n := k) (fun i σ' H' => ∃ l y4 y5 y6, σ' = [some (.ref h), some (.str (S d)), some (.str (S l)), some (.int k), y4, y5, y6] ∧ Ls l ∧ red l = red r ∧ l.length = r.length + 2 * i ∧ Go h c H H') ⟨r, none, none, none, rfl, hr0, rfl, rfl, hH.refl⟩ ?_ ?_⟩
    · rintro i σ' H1 hi ⟨l, y4, y5, y6, rfl, hl, el, en, g1⟩
      have ls : (S l).length ≤ sizeLine := by rw [S_len]; exact Nat.le_trans (by omega : _ ≤ 3000) (by decide)
      walk_at "v"; walk_at "v"
      refine ⟨_, rfl, ls, ?_⟩
      walk_at "ii"
      refine ⟨h, c, _, rfl, g1.2, by omega, by rw [S_len]; omega, fun a H2 a0 a1 g2 => ?_⟩
      rw [S_len] at a1
      obtain ⟨j, rfl⟩ : ∃ j : Nat, a = j := ⟨a.toNat, by omega⟩
      have hj : j ≤ l.length := by omega
      walk_at "v"; walk_at "v"
      refine ⟨h, c, d, 1, rfl, g2.2, hd, d0, dz, by decide, fun l1 H3 e1 hl1 _ g3 => ?_⟩
      obtain ⟨x, rfl⟩ : ∃ x, l1 = [x] := by
        match l1, e1 with
        | [x], _ => exact ⟨x, rfl⟩
      have hx := hl1.head
      walk_at "v"; walk_at "v"; walk_at "v"
      refine ⟨_, rfl, ls, ?_⟩
      rw [cut_to]
      walk_at "v"
      refine ⟨_, _, rfl, rfl, ?_, ?_⟩
      · rw [S_len, S_len, List.length_take]; exact Nat.le_trans (by simp; omega : _ ≤ 4000) (by decide)
      rw [S_app]
      walk_at "v"
      refine ⟨x, rfl, hx, ?_⟩
      refine ⟨_, _, rfl, rfl, ?_, ?_⟩
      · rw [S_len, S_len, List.length_append, List.length_take]; exact Nat.le_trans (by simp; omega : _ ≤ 4000) (by decide)
      rw [S_app]
      walk_at "v"; walk_at "v"; walk_at "v"
      refine ⟨_, rfl, ls, ?_⟩
      rw [cut_from]
      refine ⟨_, _, rfl, rfl, ?_, ?_⟩
      · rw [S_len, S_len, List.length_append, List.length_append, List.length_take, List.length_drop]; exact Nat.le_trans (by simp; omega : _ ≤ 8000) (by decide)
      rw [S_app]
      refine ⟨_, _, _, _, rfl, ?_, ?_, ?_, (g1.trans g2).trans g3⟩
      · exact (((hl.take j).app (Ls.one hx)).app (Ls.one (sw_L hx))).app (hl.drop j)
      · rw [red_put hl hx]; exact el
      · rw [List.length_append, List.length_append, List.length_append, List.length_take, List.length_drop]; simp; omega
    · rintro σ' H1 ⟨l, y4, y5, y6, rfl, hl, el, en, g1⟩
      walk_at "v"
      exact q l H1 hl el en g1
/-- struck out till nothing is left to strike -/
def sp_struck : Sp := fun vs H Q _ => ∃ (h c : Addr) (r : List Nat), vs = [.ref h, .str (S r)] ∧ Hand H h c ∧ Ls r ∧ r.length ≤ 10000 ∧ ∀ H', Go h c H H' → Q (.str (S (red r))) H'
theorem ok_struck (T : Txt K mg A) : FnOk P w K mg base (CX P w) 2 A.a_struck A.d_struck ["_law_hand_here", "_law_row_here"] (sp_struck) := by
  refine T.F_struck.okX sc_struck (fun vs H Q E h => ?_) (fun cdv Ar outer s H vs Q E hr h => ?_)
  · obtain ⟨_, _, _, rfl, _⟩ := h
    rfl
  · obtain ⟨h, c, r, rfl, hH, hr0, rz, q⟩ := h
    refine ⟨_, (pss_cons (ps_set (i := 2) sc_struck.nd rfl (Or.inr rfl) (pe_callTy (call_listS rfl) (by rfl) T.m_list bt_list (pa_cons (pv 1) pa_nil)))
      (pss_cons (ps_for (passes_of rfl) rfl (pi_range1 (by rfl) T.m_range (pa_cons (pe_callB clenS (by rfl) T.m_len bt_len (pa_cons (pv 1) pa_nil)) pa_nil)) (pg_name (i := 3) sc_struck.nd rfl (Or.inl rfl)) (pss_cons (ps_setLc (i := 4) (own := [("_law_at", 5)]) rfl sc_struck.nd rfl rfl (sw_true rfl rfl rfl (by decide +kernel)) (pi_range1 (by rfl) T.m_range (pa_cons (pe_op op_sub (pe_callB (clen (K := K) rfl) (by rfl) T.m_len bt_len (pa_cons (pv 2) pa_nil)) pe_int) pa_nil)) (blkOk_by (N := ["_law_hand_here", "_law_row_here", "_law_left", "_law_turn", "_law_places", "_law_at"]) (sc := defScope s_struck) (by decide +kernel)) (fun _ _ _ _ _ => (pg_name (i := 5) sc_struck.nd rfl (Or.inl rfl))) (fun _ _ _ _ _ => (pts_one (pt_cmpR op_eq (pe_ix (ixL (K := K) rfl) (pv 2) (pe_op op_add (pv 5) pe_int) (fun _ _ => rfl)) (pe_call (ok_undoing T) hr (by rfl) T.g_undoing T.F_undoing.kp T.b_undoing .nil passF (pa_cons (pe_ix (ixL (K := K) rfl) (pv 2) (pv 5) (fun _ _ => rfl)) pa_nil)) (nomark _)))) (fun _ _ _ _ _ => (pv 5)))
      (pss_cons (ps_if (pt_cmpR op_eq (pe_callB (clen (K := K) rfl) (by rfl) T.m_len bt_len (pa_cons (pv 4) pa_nil)) pe_int (nomark _)) (pss_one (ps_ret (pbm (K := K) rfl PySem.F.plainAttrs_str PySem.F.slot_str_join PySem.F.type_str_join (mjoin (K := K) rfl) pe_str (pa_cons (pv 2) pa_nil)))) pss_nil)
      (pss_cons (ps_set (i := 5) sc_struck.nd rfl (Or.inl rfl) (pe_ix (ixL (K := K) rfl) (pv 4) (pe_call (ok_draw T) hr (by rfl) T.g_draw T.F_draw.kp T.b_draw .nil passF (pa_cons (pv 0) (pa_cons (pe_callB (clen (K := K) rfl) (by rfl) T.m_len bt_len (pa_cons (pv 4) pa_nil)) pa_nil))) (fun _ _ => rfl)))
      (pss_one (ps_set (i := 2) sc_struck.nd rfl (Or.inr rfl) (pe_op op_cat (pe_slice (slL (K := K) rfl) (pv 2) po_none (po_some (pv 5))) (pe_slice (slL (K := K) rfl) (pv 2) (po_some (pe_op op_add (pv 5) pe_int)) po_none))))))))
      (pss_one (ps_ret (pbm (K := K) rfl PySem.F.plainAttrs_str PySem.F.slot_str_join PySem.F.type_str_join (mjoin (K := K) rfl) pe_str (pa_cons (pv 2) pa_nil)))))), ?_⟩
    have rs : (S r).length ≤ sizeLine := by rw [S_len]; exact Nat.le_trans rz (by decide)
    have fin : ∀ (H1 : Hp) (p : Addr) (l : List Nat), l.length ≤ 10000 → H1 p = some (.lst (ones l)) → red l = red r → red l = l → Go h c H H1 → ∃ a p', ∃ ys : List Str, V.str (Str.ofString "") = .str a ∧ [V.ref p] = [.ref p'] ∧ (SqL K H1 p' (ys.map V.str) ∨ SqT K H1 p' (ys.map V.str)) ∧ (ys.map (·.length)).sum + ys.length * a.length ≤ 16777216 ∧ Q (.str (Txt.join a ys)) H1 := by
      intro H1 p l lz h1 e1 e2 g1
      rw [ones_eq] at h1
      refine ⟨_, _, _, rfl, rfl, .inl (SqL.of h1), ?_, ?_⟩
      · rw [nil_len, Nat.mul_zero, Nat.add_zero, sum_one]; omega
      · rw [S_nil, RB.join_nil, flat_one, ← e2, e1]
        exact q H1 g1
    walk_at "v"
    refine ⟨_, rfl, rs, fun p0 n0 => ?_⟩
    walk_at "v"
    refine ⟨_, rfl, rs, ?_⟩
    refine ⟨_, rfl, by rw [S_len]; omega, by rw [S_len]; omega, for_range (n := r.length) (fun i σ' H' => ∃ l p y3 y4 y5, σ' = [some (.ref h), some (.str (S r)), some (.ref p), y3, y4, y5] ∧ Ls l ∧ red l = red r ∧ l.length + 2 * i = r.length ∧ p ≠ h ∧ H' p = some (.lst (ones l)) ∧ Go h c H H') ⟨r, p0, none, none, none, rfl, hr0, rfl, rfl, (hH.ne n0).1, upd_same, Go.new hH n0⟩ ?_ ?_⟩
    · rintro i σ' H1 hi ⟨l, p, y3, y4, y5, rfl, hl, el, en, np, h1, g1⟩
      walk_at "v"
      refine ⟨_, _, rfl, .inl (SqL.of h1), ?_⟩
      rw [ones_len]
      walk_at "ii"
      refine ⟨_, rfl, by omega, by omega, fun D hD => ?_⟩
      have nDp : p ≠ D := ne_of_none h1 hD
      have hDh := g1.2.ne hD
      have nDH : H D = none := g1.free hDh.1 hD
      have en2 : ((l.length : Int) - 1).toNat = l.length - 1 := by omega
      rw [en2]
      refine lc_range (Pv := fun j H' => Go h c H H' ∧ H' p = some (.lst (ones l)) ∧ H' D = some (.lst (((List.range j).filter fun i => decide (l[i + 1]? = (l[i]?).map sw)).map fun i : Nat => V.int i))) ⟨g1.same (Same.new hD), upd_oth h1 nDp, upd_same⟩ ?_ ?_
      · rintro j H2 hj ⟨g2, h2, h3⟩
        have hj1 : j + 1 < l.length := by omega
        have hx : l[j]? = some l[j] := List.getElem?_eq_getElem (by omega)
        have hy : l[j + 1]? = some l[j + 1] := List.getElem?_eq_getElem hj1
        have fz : ((List.range j).filter fun i => decide (l[i + 1]? = (l[i]?).map sw)).length ≤ j := by
          have := List.length_filter_le (fun i => decide (l[i + 1]? = (l[i]?).map sw)) (List.range j)
          rwa [List.length_range] at this
        rw [Int.zero_add]
        refine ⟨rfl, ?_⟩
        walk_at "v"; walk_at "v"; walk_at "ii"
        refine ⟨_, _, _, _, rfl, rfl, SqL.of h2, atI_int (j := j + 1) rfl (ones_at hy), ?_⟩
        walk_at "v"; walk_at "v"
        refine ⟨_, _, _, _, rfl, rfl, SqL.of h2, atI_int rfl (ones_at hx), ?_⟩
        refine ⟨_, rfl, hl _ (List.getElem_mem _), ?_⟩
        refine ⟨rfl, ?_⟩
        walk_at "v"
        rw [dec_eq]
        have er : List.range (j + 1) = List.range j ++ [j] := List.range_succ
        refine iteB (fun e => ?_) (fun e => ?_)
        · have e1 : l[j + 1] = sw l[j] := by have := of_decide_eq_true e; simpa using this
          walk_at "v"
          refine ⟨_, h3, ?_, g2.put2 hDh nDH, upd_oth h2 nDp, ?_⟩
          · rw [List.length_map]; exact Nat.lt_of_le_of_lt (by omega : _ ≤ 10000) (by decide)
          · rw [upd_same, er, List.filter_append, List.map_append]
            have : List.filter (fun i => decide (l[i + 1]? = (l[i]?).map sw)) [j] = [j] := by
              simp only [List.filter_cons, List.filter_nil]
              rw [hx, hy, e1]; simp
            rw [this]; rfl
        · have e1 : ¬ l[j + 1] = sw l[j] := by have := of_decide_eq_false e; simpa using this
          refine ⟨g2, h2, ?_⟩
          rw [h3, er, List.filter_append]
          have : List.filter (fun i => decide (l[i + 1]? = (l[i]?).map sw)) [j] = [] := by
            simp only [List.filter_cons, List.filter_nil]
            rw [hx, hy]; simp [e1]
          rw [this, List.append_nil]
      · rintro H2 ⟨g2, h2, h3⟩
        have h4 : H2 D = some (.lst ((pairsAt l).map fun i : Nat => V.int i)) := h3
        clear h3
        walk_at "v"
        refine ⟨_, _, rfl, .inl (SqL.of h4), ?_⟩
        rw [List.length_map]
        refine ⟨rfl, ?_⟩
        walk_at "v"
        refine iteB (fun e => ?_) (fun e => ?_)
        · have e1 : (pairsAt l).length = 0 := by have := V.int.inj (of_decide_eq_true e); omega
          have e2 := List.length_eq_zero_iff.mp e1
          refine ⟨rfl, ?_⟩
          walk_at "v"
          exact fin H2 p l (by omega) h2 el (red_id hl (pairs_none e2)) g2
        · have e1 : (pairsAt l).length ≠ 0 := fun z => by
            have := of_decide_eq_false e
            rw [z] at this
            exact this rfl
          walk_at "v"; walk_at "v"; walk_at "v"
          have pz : (pairsAt l).length ≤ l.length := by
            unfold pairsAt
            refine Nat.le_trans (List.length_filter_le _ _) ?_
            rw [List.length_range]; omega
          refine ⟨_, _, rfl, .inl (SqL.of h4), h, c, _, rfl, g2.2, by rw [List.length_map]; omega, by rw [List.length_map]; omega, fun k H3 k0 k1 g3 => ?_⟩
          rw [List.length_map] at k1
          obtain ⟨m, rfl⟩ : ∃ m : Nat, k = m := ⟨k.toNat, by omega⟩
          have hm : m < (pairsAt l).length := by omega
          have h5 := g3.1 _ _ hDh.1 h4
          have hat : ((pairsAt l).map fun i : Nat => V.int i)[m]? = some (.int ((pairsAt l)[m] : Nat)) := by rw [List.getElem?_map, List.getElem?_eq_getElem hm]; rfl
          refine ⟨_, _, _, _, rfl, rfl, SqL.of h5, atI_int rfl hat, ?_⟩
          obtain ⟨hi1, x, hx, hy⟩ := pairs_some (List.getElem_mem hm)
          generalize eat : (pairsAt l)[m] = a at hi1 hx hy
          have h6 := g3.1 _ _ np h2
          have g4 := g2.trans g3
          walk_at "v"; walk_at "v"; walk_at "v"
          refine ⟨p, _, rfl, SqL.of h6, fun p1 n1 => ?_⟩
          rw [cutV_to]
          walk_at "v"; walk_at "v"; walk_at "ii"; walk_at "v"
          refine ⟨p, _, rfl, SqL.of (upd_old h6 n1), fun p2 n2 => ?_⟩
          have ea : ((a : Int) + 2) = ((a + 2 : Nat) : Int) := by omega
          rw [ea, cutV_from]
          refine ⟨p1, p2, _, _, rfl, rfl, upd_old upd_same n2, upd_same, ?_, fun p3 n3 => ?_⟩
          · rw [List.length_take, List.length_drop, ones_len]; exact Nat.le_trans (by omega : _ ≤ 20000) (by decide)
          have s3 : Same H3 _ := ((Same.new (o := .lst ((ones l).take a)) n1).trans (Same.new (o := .lst ((ones l).drop (a + 2))) n2)).trans (Same.new (o := .lst ((ones l).take a ++ (ones l).drop (a + 2))) n3)
          refine ⟨l.take a ++ l.drop (a + 2), p3, _, _, _, rfl, (hl.take a).app (hl.drop _), ?_, ?_, ?_, ?_, g4.same s3⟩
          · rw [red_drop hl hx hy]; exact el
          · rw [List.length_append, List.length_take, List.length_drop]; omega
          · exact (g4.2.ne (Same.free ((Same.new (o := .lst ((ones l).take a)) n1).trans (Same.new (o := .lst ((ones l).drop (a + 2))) n2)) n3)).1
          · rw [upd_same]; unfold ones; rw [List.map_append, List.map_take, List.map_drop]
    · rintro σ' H1 ⟨l, p, y3, y4, y5, rfl, hl, el, en, np, h1, g1⟩
      have e0 : l = [] := List.length_eq_zero_iff.mp (by omega)
      subst e0
      refine ⟨rfl, ?_⟩
      walk_at "v"
      exact fin H1 p [] (by decide) h1 el rfl g1
/-- the word for what net does with a thing -/
def sp_word (K : PySem.W.Frag) : Sp := fun vs H Q _ => ∃ v, vs = [v] ∧ RowJ K H v false ∧ ∀ H', Same H H' → Q (.str "row") H'
theorem ok_word (T : Txt K mg A) : FnOk P w K mg base (CX P w) 5 A.a_word A.d_word ["_law_thing"] (sp_word K) := by
  refine T.F_word.okX sc_word (fun vs H Q E h => ?_) (fun cdv Ar outer s H vs Q E hr h => ?_)
  · obtain ⟨_, rfl, _⟩ := h
    rfl
  · obtain ⟨v, rfl, j, q⟩ := h
    refine ⟨_, (pss_cons (ps_set (i := 1) sc_word.nd rfl (Or.inl rfl) pe_str)
      (pss_cons (ps_try_manyA rfl rfl (takes_of rfl rfl rfl rfl) (fun W pn xe tk hpo => (pss_one (ps_expr (pe_callS (ok_net T) hr (by rfl) T.g_net T.F_net.kp T.b_net (fun σ => passAt tk σ) (pa_cons (pv 0) pa_nil))))) (HdsA.consN (i := 2) ⟨rfl, by decide, .inl T.gC_NoRow⟩ sc_word.nd rfl rfl (fun a oe cls d pn hz hf => (pss_one (ps_set (i := 1) sc_word.nd rfl (Or.inl rfl) (pe_ix (ixL (K := K) rfl) (pe_lst (pa_cons pe_str (pa_cons pe_str pa_nil))) (pe_callTy call_int1 (by rfl) T.m_int bt_int (pa_cons (pe_mid (pe_and (pe_callB (cisE (K := K) rfl T.x_NoRow hz hf) (by rfl) T.m_isinstance bt_isinstance (pa_cons (pv 2) (pa_cons (pe_glob (v := .ref A.c_RunsError) (by rfl) T.gC_RunsError rfl) pa_nil))) (pe_one (pe_callB (cisE (K := K) rfl T.x_NoRow hz hf) (by rfl) T.m_isinstance bt_isinstance (pa_cons (pv 2) (pa_cons (pe_bltn (v := .ty "ValueError") (by rfl) T.m_ValueError bt_ValueError rfl) pa_nil)))))) pa_nil)) (fun _ _ => rfl))))) (HdsA.cons ⟨rfl, by decide, .inl T.gC_RunsError⟩ (fun a oe cls d pn hz hf => (pss_one (ps_set (i := 1) sc_word.nd rfl (Or.inl rfl) pe_str))) HdsA.nil)))
      (pss_one (ps_ret (pv 1))))), ?_⟩
    walk_at "v"
    refine ⟨v, false, rfl, j, fun l e hl => ?_, fun _ => ?_⟩
    · have := j.inv l e
      rw [decide_eq_true hl] at this
      cases this
    · refine ⟨true, T.e_NoRow_NoRow, fun _ a na => ?_, fun z => nomatch z⟩
      refine ⟨by walk_at "sz", fun p hp => ?_⟩
      refine ⟨fun v' H' => v' = .bl true ∧ H' = upd H p (.lst [.str "mixed", .str "row"]), ?_, ?_⟩
      · walk_at "v"
        refine ⟨rfl, rfl, _, _, true, rfl, fun u hu => hu, T.k_NoRow_RunsError, ?_⟩
        walk_at "v"; walk_at "v"
        refine ⟨rfl, rfl, _, _, true, rfl, fun u hu => hu, T.k_NoRow_ValueError, ?_⟩
        exact ⟨rfl, rfl⟩
      · rintro v' H' ⟨rfl, rfl⟩
        refine .inr ⟨_, rfl, ?_⟩
        refine ⟨_, _, _, _, rfl, rfl, SqL.of upd_same, (by rfl), ?_⟩
        walk_at "v"
        exact q _ (Same.new hp)
def sp_law (K : PySem.W.Frag) : Sp := fun vs H Q _ => ∃ (a : Addr) (ns : List Int), vs = [.ref a] ∧ SqL K H a (ns.map V.int) ∧ ns.length ≤ 63 ∧ ∀ H', Q (.bl true) H'
theorem hsp (K : PySem.W.Frag) (H : Hp) (a : Addr) (ns : List Int) (hl : ns.length ≤ 63) (_ : Only H) (hS : SqL K H a (ns.map V.int)) : sp_law K [.ref a] H (fun v _ => v = .bl true) fun _ _ _ => False :=
  ⟨a, ns, rfl, hS, hl, fun _ => rfl⟩
theorem ok_law (T : Txt K mg A) : FnOk P w K mg base (CX P w) 6 A.a_law A.d_law ["_law_script"] (sp_law K) := by
  refine T.F_law.okX sc_law (fun vs H Q E h => ?_) (fun cdv Ar outer s H vs Q E hr h => ?_)
  · obtain ⟨_, _, rfl, _⟩ := h
    rfl
  · obtain ⟨a, ns, rfl, hS, hlen, q⟩ := h
    refine ⟨_, (pss_cons (ps_set (i := 1) sc_law.nd rfl (Or.inl rfl) (pe_call (ok_hand T) (hr.mono (by decide)) (by rfl) T.g_hand T.F_hand.kp T.b_hand .nil passF (pa_cons (pv 0) pa_nil)))
      (pss_cons (ps_set (i := 2) sc_law.nd rfl (Or.inl rfl) pe_str)
      (pss_cons (ps_for (passes_of rfl) rfl (pi_range1 (by rfl) T.m_range (pa_cons pe_int pa_nil)) (pg_name (i := 3) sc_law.nd rfl (Or.inl rfl)) (pss_cons (ps_set (i := 4) sc_law.nd rfl (Or.inl rfl) (pe_call (ok_draw T) (hr.mono (by decide)) (by rfl) T.g_draw T.F_draw.kp T.b_draw .nil passF (pa_cons (pv 1) (pa_cons pe_int pa_nil))))
      (pss_cons (ps_set (i := 5) sc_law.nd rfl (Or.inl rfl) (pe_slice sl_str (pv 2) (po_some (pv 4)) (po_some (pe_op op_add (pe_op op_add (pv 4) pe_int) (pe_ix (ixL (K := K) rfl) (pe_lst (pa_cons pe_int (pa_cons pe_int (pa_cons pe_int (pa_cons pe_int (pa_cons pe_int (pa_cons pe_int (pa_cons pe_int pa_nil)))))))) (pe_call (ok_draw T) (hr.mono (by decide)) (by rfl) T.g_draw T.F_draw.kp T.b_draw .nil passF (pa_cons (pv 1) (pa_cons pe_int pa_nil))) (fun _ _ => rfl))))))
      (pss_cons (ps_set (i := 6) sc_law.nd rfl (Or.inl rfl) (pe_call (ok_row T) (hr.mono (by decide)) (by rfl) T.g_row T.F_row.kp T.b_row .nil passF (pa_cons (pv 1) (pa_cons (pv 5) (pa_cons (pe_ix (ixL (K := K) rfl) (pe_lst (pa_cons pe_int (pa_cons pe_int (pa_cons pe_int (pa_cons pe_int (pa_cons pe_int (pa_cons pe_int (pa_cons pe_int (pa_cons pe_int pa_nil))))))))) (pe_call (ok_draw T) (hr.mono (by decide)) (by rfl) T.g_draw T.F_draw.kp T.b_draw .nil passF (pa_cons (pv 1) (pa_cons pe_int pa_nil))) (fun _ _ => rfl)) pa_nil)))))
      (pss_cons (ps_set (i := 7) sc_law.nd rfl (Or.inl rfl) (pe_call (ok_grown T) (hr.mono (by decide)) (by rfl) T.g_grown T.F_grown.kp T.b_grown .nil passF (pa_cons (pv 1) (pa_cons (pv 5) (pa_cons (pv 6) (pa_cons (pe_ix (ixL (K := K) rfl) (pe_lst (pa_cons pe_int (pa_cons pe_int (pa_cons pe_int (pa_cons pe_int (pa_cons pe_int (pa_cons pe_int pa_nil))))))) (pe_call (ok_draw T) (hr.mono (by decide)) (by rfl) T.g_draw T.F_draw.kp T.b_draw .nil passF (pa_cons (pv 1) (pa_cons pe_int pa_nil))) (fun _ _ => rfl)) pa_nil))))))
      (pss_cons (ps_set (i := 8) sc_law.nd rfl (Or.inl rfl) (pe_call (ok_struck T) (hr.mono (by decide)) (by rfl) T.g_struck T.F_struck.kp T.b_struck .nil passF (pa_cons (pv 1) (pa_cons (pv 7) pa_nil))))
      (pss_cons (ps_set (i := 9) sc_law.nd rfl (Or.inr rfl) (pe_call (ok_net T) (hr.mono (by decide)) (by rfl) T.g_net T.F_net.kp T.b_net .nil (passes_call (takes_of rfl rfl rfl rfl) (fun _ _ _ _ h => h)) (pa_cons (pv 7) pa_nil)))
      (pss_cons (ps_if (pt_mid (PW.pt (pw_or (pt_not (pt_val (pe_callB (cisi (K := K) rfl) (by rfl) T.m_isinstance bt_isinstance (pa_cons (pv 9) (pa_cons (pe_bltn (v := .ty "str") (by rfl) T.m_str bt_str rfl) pa_nil))))) (pw_or (pt_cmpR op_ne (pv 9) (pv 8) (nomark _)) (pw_or (pt_cmpR op_ne (pe_call (ok_net T) (hr.mono (by decide)) (by rfl) T.g_net T.F_net.kp T.b_net .nil (passes_call (takes_of rfl rfl rfl rfl) (fun _ _ _ _ h => h)) (pa_cons (pv 8) pa_nil)) (pv 8) (nomark _)) (pw_or1 (pt_cmpR op_ne (pe_call (ok_net T) (hr.mono (by decide)) (by rfl) T.g_net T.F_net.kp T.b_net .nil (passes_call (takes_of rfl rfl rfl rfl) (fun _ _ _ _ h => h)) (pa_cons (pv 6) pa_nil)) (pv 8) (nomark _)))))))) (pss_one (ps_ret pe_bl)) pss_nil)
      (pss_cons (ps_set (i := 10) sc_law.nd rfl (Or.inl rfl) (pe_call (ok_row T) (hr.mono (by decide)) (by rfl) T.g_row T.F_row.kp T.b_row .nil passF (pa_cons (pv 1) (pa_cons (pv 5) (pa_cons (pe_call (ok_draw T) (hr.mono (by decide)) (by rfl) T.g_draw T.F_draw.kp T.b_draw .nil passF (pa_cons (pv 1) (pa_cons pe_int pa_nil))) pa_nil)))))
      (pss_cons (ps_set (i := 11) sc_law.nd rfl (Or.inl rfl) (pe_call (ok_draw T) (hr.mono (by decide)) (by rfl) T.g_draw T.F_draw.kp T.b_draw .nil passF (pa_cons (pv 1) (pa_cons (pe_op op_add (pe_callB clenS (by rfl) T.m_len bt_len (pa_cons (pv 7) pa_nil)) pe_int) pa_nil))))
      (pss_cons (ps_for (passes_of rfl) rfl (piL (K := K) rfl (pe_lst (pa_cons (pe_op op_add_str (pe_op op_add_str (pv 7) (pv 10)) (pe_call (ok_back T) (hr.mono (by decide)) (by rfl) T.g_back T.F_back.kp T.b_back .nil passF (pa_cons (pv 10) pa_nil))) (pa_cons (pe_op op_add_str (pe_op op_add_str (pe_call (ok_back T) (hr.mono (by decide)) (by rfl) T.g_back T.F_back.kp T.b_back .nil passF (pa_cons (pv 10) pa_nil)) (pv 10)) (pv 7)) (pa_cons (pe_op op_add_str (pe_op op_add_str (pe_op op_add_str (pe_slice sl_str (pv 7) po_none (po_some (pv 11))) (pv 10)) (pe_call (ok_back T) (hr.mono (by decide)) (by rfl) T.g_back T.F_back.kp T.b_back .nil passF (pa_cons (pv 10) pa_nil))) (pe_slice sl_str (pv 7) (po_some (pv 11)) po_none)) pa_nil))))) (pg_name (i := 12) sc_law.nd rfl (Or.inl rfl)) (pss_one (ps_if (pt_cmpR op_ne (pe_call (ok_net T) (hr.mono (by decide)) (by rfl) T.g_net T.F_net.kp T.b_net .nil (passes_call (takes_of rfl rfl rfl rfl) (fun _ _ _ _ h => h)) (pa_cons (pv 12) pa_nil)) (pv 8) (nomark _)) (pss_one (ps_ret pe_bl)) pss_nil)))
      (pss_cons (ps_if (pt_cmpR op_gt (pe_callB (clen (K := K) rfl) (by rfl) T.m_len bt_len (pa_cons (pe_lc (own := [("_law_at", 11)]) rfl sc_law.nd (pi_range1 (by rfl) T.m_range (pa_cons (pe_op op_sub (pe_callB clenS (by rfl) T.m_len bt_len (pa_cons (pv 9) pa_nil)) pe_int) pa_nil)) (blkOk_by (N := ["_law_script", "_law_hand_here", "_law_letters", "_law_turn", "_law_first", "_law_deeds", "_law_plain", "_law_row_here", "_law_due", "_law_told", "_law_more", "_law_at", "_law_other"]) (sc := defScope s_law) (by decide +kernel)) (fun _ _ _ _ _ => (pg_name (i := 11) sc_law.nd rfl (Or.inl rfl))) (fun _ _ _ _ _ => (pts_one (pt_cmpR op_eq (pe_ix ix_str (pv 9) (pv 11) (fun _ _ => rfl)) (pe_call (ok_undoing T) (hr.mono (by decide)) (by rfl) T.g_undoing T.F_undoing.kp T.b_undoing .nil passF (pa_cons (pe_ix ix_str (pv 9) (pe_op op_add (pv 11) pe_int) (fun _ _ => rfl)) pa_nil)) (nomark _)))) (fun _ _ _ _ _ => (pv 11))) pa_nil)) pe_int (nomark _)) (pss_one (ps_ret pe_bl)) pss_nil)
      (pss_one (ps_if (pt_mid (PW.pt (pw_or (pt_cmpR op_ne (pe_call (ok_word T) hr (by rfl) T.g_word T.F_word.kp T.b_word .nil passF (pa_cons (pe_call (ok_odd T) (hr.mono (by decide)) (by rfl) T.g_odd T.F_odd.kp T.b_odd .nil passF (pa_cons (pv 1) pa_nil)) pa_nil)) pe_str (nomark _)) (pw_or (pt_cmpR op_ne (pe_call (ok_word T) hr (by rfl) T.g_word T.F_word.kp T.b_word .nil passF (pa_cons (pe_op op_add_str (pv 7) pe_str) pa_nil)) pe_str (nomark _)) (pw_or1 (pt_cmpR op_ne (pe_call (ok_word T) hr (by rfl) T.g_word T.F_word.kp T.b_word .nil passF (pa_cons (pe_callTy (call_listS rfl) (by rfl) T.m_list bt_list (pa_cons (pv 7) pa_nil)) pa_nil)) pe_str (nomark _))))))) (pss_one (ps_ret pe_bl)) pss_nil))))))))))))))
      (pss_one (ps_ret (pe_cmpR op_eq (pe_call (ok_net T) (hr.mono (by decide)) (by rfl) T.g_net T.F_net.kp T.b_net .nil (passes_call (takes_of rfl rfl rfl rfl) (fun _ _ _ _ h => h)) (pa_cons pe_str pa_nil)) pe_str (nomark _))))))), ?_⟩
    walk_at "v"
    refine ⟨a, ns, rfl, hS, hlen, fun h c H0 _ s0 hH => ?_⟩
    refine ⟨3, rfl, by decide, by decide, for_range (n := 3) (fun i σ' H' => ∃ y3 y4 y5 y6 y7 y8 y9 y10 y11 y12, σ' = [some (.ref a), some (.ref h), some (.str (S alph)), y3, y4, y5, y6, y7, y8, y9, y10, y11, y12] ∧ Hand H' h c) ⟨none, none, none, none, none, none, none, none, none, none, by rw [← alph_is]; rfl, hH⟩ ?_ ?_⟩
    · rintro i σ' H1 hi ⟨y3, y4, y5, y6, y7, y8, y9, y10, y11, y12, rfl, g1⟩
      walk_at "v"
      refine ⟨h, c, 26, rfl, g1, by decide, by decide, fun f H2 f0 f1 g2 => ?_⟩
      obtain ⟨f, rfl⟩ : ∃ j : Nat, f = j := ⟨f.toNat, by omega⟩
      -- deeds
      walk_at "v"; walk_at "v"; walk_at "v"; walk_at "v"; walk_at "ii"
      refine rd_pick [0, 0, 1, 1, 2, 3, 25] rfl g2.2 rfl (by decide) fun k hk H3 g3 => ?_
      walk_at "ii"; walk_at "v"
      refine ⟨_, rfl, by rw [S_len]; decide, ?_⟩
      have ek : ((f : Int) + 1 + (k : Int)) = ((f + 1 + k : Nat) : Int) := by omega
      rw [ek, cut_mid]
      have hd : Ls ((alph.drop f).take (f + 1 + k - f)) := (alph_L.drop f).take _
      have hdz : ((alph.drop f).take (f + 1 + k - f)).length ≤ 26 := by
        rw [List.length_take, List.length_drop]; have : alph.length = 26 := rfl; omega
      have hd0 : (alph.drop f).take (f + 1 + k - f) ≠ [] := fun e => by
        have := congrArg List.length e
        rw [List.length_take, List.length_drop, List.length_nil] at this
        have : alph.length = 26 := rfl
        omega
      generalize (alph.drop f).take (f + 1 + k - f) = d at hd hdz hd0
      -- plain
      walk_at "v"; walk_at "v"
      refine rd_pick [0, 1, 2, 3, 5, 8, 20, 60] rfl g3.2 rfl (by decide) fun n hn H4 g4 => ?_
      have hn2 : n ≤ 60 := (by decide : ∀ x ∈ [0, 1, 2, 3, 5, 8, 20, 60], x ≤ 60) n hn
      refine ⟨h, c, d, n, rfl, g4.2, hd, hd0, by omega, by omega, fun l H5 el hl _ g5 => ?_⟩
      -- grown
      walk_at "v"; walk_at "v"; walk_at "v"
      refine rd_pick [0, 1, 3, 8, 20, 50] rfl g5.2 rfl (by decide) fun m hm H6 g6 => ?_
      have hm2 : m ≤ 50 := (by decide : ∀ x ∈ [0, 1, 3, 8, 20, 50], x ≤ 50) m hm
      refine ⟨h, c, d, l, m, rfl, g6.2, hd, hd0, by omega, hl, by omega, by omega, fun r H7 hr er ern g7 => ?_⟩
      have hrz : r.length ≤ 160 := by omega
      -- due, told
      walk_at "v"; walk_at "v"
      refine ⟨h, c, r, rfl, g7.2, hr, by omega, fun H8 g8 => ?_⟩
      walk_at "v"
      refine ⟨_, true, rfl, RowJ.row hr, fun l' e' _ => ?_, fun z => nomatch z⟩
      cases S_inj (V.str.inj e')
      refine ⟨(by omega), fun H9 s9 => ?_⟩
      have g9 := g8.2.same s9
      have hnL := red_L hr
      have hnz := red_len r
      have hnn := red_np hr
      have hnr := red_red hr
      generalize en : red r = t at hnL hnz hnn hnr er
      refine ⟨fun b H' => b = false ∧ Same H9 H', ?_, ?_⟩
      · walk_at "v"
        refine ⟨_, _, _, _, _, rfl, .ty _, .base (.str _), kit_str, ?_⟩
        walk_at "v"
        walk_at "v"; walk_at "v"
        refine ⟨rfl, ?_⟩
        walk_at "v"
        rw [ne_self]
        walk_at "v"
        refine ⟨_, true, rfl, RowJ.row hnL, fun l' e' _ => ?_, fun z => nomatch z⟩
        cases S_inj (V.str.inj e')
        refine ⟨(by omega), fun H10 s10 => ?_⟩
        walk_at "v"
        rw [hnr]
        refine ⟨rfl, ?_⟩
        walk_at "v"
        rw [ne_self]
        walk_at "v"
        refine ⟨_, true, rfl, RowJ.row hl, fun l' e' _ => ?_, fun z => nomatch z⟩
        cases S_inj (V.str.inj e')
        refine ⟨(by omega), fun H11 s11 => ?_⟩
        walk_at "v"
        rw [← er]
        refine ⟨rfl, ?_⟩
        walk_at "v"
        rw [ne_self]
        exact ⟨rfl, s10.trans s11⟩
      rintro b H10 ⟨rfl, s10⟩
      have g10 := g9.same s10
      clear g2 g3 g4 g5 g6 g7 g8 s9 s10 hn hm
      -- more
      walk_at "v"; walk_at "v"; walk_at "v"
      refine ⟨h, c, 4, rfl, g10, by decide, by decide, fun k4 H11 k40 k41 g11 => ?_⟩
      obtain ⟨k4, rfl⟩ : ∃ j : Nat, k4 = j := ⟨k4.toNat, by omega⟩
      refine ⟨h, c, d, k4, rfl, g11.2, hd, hd0, by omega, by omega, fun mo H12 emo hmo _ g12 => ?_⟩
      -- at
      have rs : (S r).length ≤ sizeLine := by rw [S_len]; exact Nat.le_trans (by omega : _ ≤ 1000) (by decide)
      walk_at "v"; walk_at "v"
      refine ⟨_, rfl, rs, ?_⟩
      walk_at "ii"
      refine ⟨h, c, _, rfl, g12.2, by omega, by rw [S_len]; omega, fun a1 H13 a10 a11 g13 => ?_⟩
      obtain ⟨a1, rfl⟩ : ∃ j : Nat, a1 = j := ⟨a1.toNat, by omega⟩
      have hmz : mo.length ≤ 4 := by omega
      -- the three others
      have cat : ∀ {x y : List Nat}, x.length + y.length ≤ 1000 → (S x).length + (S y).length ≤ sizeLine := fun {x y} z => by rw [S_len, S_len]; exact Nat.le_trans z (by decide)
      walk_at "v"; walk_at "v"
      refine ⟨_, _, rfl, rfl, cat (by omega), ?_⟩
      rw [S_app]
      walk_at "v"
      refine ⟨mo, rfl, hmo, by omega, fun H14 s14 => ?_⟩
      refine ⟨_, _, rfl, rfl, cat (by rw [List.length_append, inv_len]; omega), ?_⟩
      rw [S_app]
      walk_at "v"
      refine ⟨mo, rfl, hmo, by omega, fun H15 s15 => ?_⟩
      walk_at "v"
      refine ⟨_, _, rfl, rfl, cat (by rw [inv_len]; omega), ?_⟩
      rw [S_app]
      walk_at "v"
      refine ⟨_, _, rfl, rfl, cat (by rw [List.length_append, inv_len]; omega), ?_⟩
      rw [S_app]
      walk_at "v"; walk_at "v"; walk_at "v"
      refine ⟨_, rfl, rs, ?_⟩
      rw [cut_to]
      walk_at "v"
      refine ⟨_, _, rfl, rfl, cat (by rw [List.length_take]; omega), ?_⟩
      rw [S_app]
      walk_at "v"
      refine ⟨mo, rfl, hmo, by omega, fun H16 s16 => ?_⟩
      refine ⟨_, _, rfl, rfl, cat (by rw [List.length_append, List.length_take, inv_len]; omega), ?_⟩
      rw [S_app]
      walk_at "v"; walk_at "v"; walk_at "v"
      refine ⟨_, rfl, rs, ?_⟩
      rw [cut_from]
      refine ⟨_, _, rfl, rfl, cat (by rw [List.length_append, List.length_append, List.length_take, inv_len, List.length_drop]; omega), ?_⟩
      rw [S_app]
      refine ⟨by walk_at "sz", fun p hp => ?_⟩
      have s17 := ((s14.trans s15).trans s16).trans (Same.new (o := .lst [.str (S (r ++ mo ++ inv mo)), .str (S (inv mo ++ mo ++ r)), .str (S (r.take a1 ++ mo ++ inv mo ++ r.drop a1))]) hp)
      have g17 := g13.2.same s17
      have hxs : ∀ x ∈ [V.str (S (r ++ mo ++ inv mo)), .str (S (inv mo ++ mo ++ r)), .str (S (r.take a1 ++ mo ++ inv mo ++ r.drop a1))], ∃ w, x = .str (S w) ∧ Ls w ∧ w.length ≤ 1000 ∧ red w = t := by
        refine all_c ⟨_, rfl, (hr.app hmo).app hmo.inv, ?_, ?_⟩ (all_c ⟨_, rfl, (hmo.inv.app hmo).app hr, ?_, ?_⟩ (all_c ⟨_, rfl, (((hr.take _).app hmo).app hmo.inv).app (hr.drop _), ?_, ?_⟩ all_n))
        · rw [List.length_append, List.length_append, inv_len]; omega
        · have := red_turn (m := mo) (u := r) (v := []) hr hmo
          rw [List.append_nil, List.append_nil] at this
          rw [this, en]
        · rw [List.length_append, List.length_append, inv_len]; omega
        · have := red_turn' (m := mo) (u := []) (v := r) Ls.nil hmo
          rw [List.nil_append, List.nil_append] at this
          rw [this, en]
        · rw [List.length_append, List.length_append, List.length_append, List.length_take, List.length_drop, inv_len]; omega
        · rw [red_turn (hr.take a1) hmo, List.take_append_drop, en]
      refine ⟨p, rfl, ⟨_, SqL.of upd_same⟩, for_list (K := K) (xs := [V.str (S (r ++ mo ++ inv mo)), .str (S (inv mo ++ mo ++ r)), .str (S (r.take a1 ++ mo ++ inv mo ++ r.drop a1))])
        (fun i2 σ' H' => ∃ y12, σ' = [some (.ref a), some (.ref h), some (.str (S alph)), some (.int (0 + (i : Nat))), some (.int (f : Nat)), some (.str (S d)), some (.str (S l)), some (.str (S r)), some (.str (S t)), some (.str (S t)), some (.str (S mo)), some (.int (a1 : Nat)), y12] ∧ Hand H' h c ∧ H' p = some (.lst [V.str (S (r ++ mo ++ inv mo)), .str (S (inv mo ++ mo ++ r)), .str (S (r.take a1 ++ mo ++ inv mo ++ r.drop a1))])) ⟨y12, rfl, g17, upd_same⟩ (fun i σ' H' _ z => SqL.of z.choose_spec.2.2) ?_ ?_⟩
      · rintro i2 x σ' H2 hx ⟨y, rfl, g2, h2⟩
        obtain ⟨w', rfl, hw, hwz, ew⟩ := hxs x (List.mem_of_getElem? hx)
        walk_at "v"
        refine ⟨_, true, rfl, RowJ.row hw, fun l' e' _ => ?_, fun z => nomatch z⟩
        cases S_inj (V.str.inj e')
        refine ⟨by omega, fun H3 s3 => ?_⟩
        walk_at "v"
        rw [ew]
        refine ⟨rfl, ?_⟩
        walk_at "v"
        rw [ne_self]
        exact ⟨_, rfl, g2.same s3, s3 _ _ h2⟩
      · rintro σ' H2 ⟨y, rfl, g2, h2⟩
        have ts : (S t).length ≤ sizeLine := by rw [S_len]; exact Nat.le_trans (by omega : _ ≤ 1000) (by decide)
        -- no pair is left in what is told
        walk_at "v"
        refine ⟨_, rfl, ts, ?_⟩
        walk_at "ii"
        refine ⟨_, rfl, by rw [S_len]; omega, by rw [S_len]; omega, fun D hD => ?_⟩
        have nD := g2.ne hD
        refine lc_range (Pv := fun _ H' => Hand H' h c ∧ H' D = some (.lst [])) ⟨(Go.new g2 hD).2, upd_same⟩ ?_ ?_
        · rintro j H3 hj ⟨g3, h3⟩
          rw [S_len] at hj
          have hj1 : j + 1 < t.length := by omega
          have hx : t[j]? = some t[j] := List.getElem?_eq_getElem (by omega)
          have hy : t[j + 1]? = some t[j + 1] := List.getElem?_eq_getElem hj1
          rw [Int.zero_add]
          refine ⟨rfl, ?_⟩
          walk_at "v"; walk_at "v"
          refine ⟨_, _, _, rfl, rfl, ts, atI_int (j := j) rfl (by rw [S_list]; exact hx), ?_⟩
          walk_at "v"; walk_at "v"; walk_at "ii"
          refine ⟨_, _, _, rfl, rfl, ts, atI_int (j := j + 1) rfl (by rw [S_list]; exact hy), ?_⟩
          refine ⟨_, rfl, hnL _ (List.getElem_mem _), ?_⟩
          refine ⟨rfl, ?_⟩
          walk_at "v"
          refine iteB (fun e => ?_) (fun e => ⟨g3, h3⟩)
          have e1 : V.str (S [t[j]]) = V.str (S [sw t[j + 1]]) := of_decide_eq_true e
          have e2 : t[j] = sw t[j + 1] := by have := S_inj (V.str.inj e1); simpa using this
          exact absurd (by rw [e2, sw_sw (hnL _ (List.getElem_mem _))]) (np_at hnn hx hy)
        · rintro H3 ⟨g3, h3⟩
          refine ⟨_, _, rfl, .inl (SqL.of h3), ?_⟩
          walk_at "ii"; walk_at "v"
          -- what is no row
          refine ⟨fun b H' => b = false ∧ Hand H' h c, ?_, ?_⟩
          · walk_at "v"
            refine ⟨h, c, rfl, g3, fun v H4 o4 g4 => ?_⟩
            refine ⟨v, rfl, o4.row, fun H5 s5 => ?_⟩
            refine ⟨rfl, ?_⟩
            walk_at "v"
            rw [ne_self]
            walk_at "v"
            refine ⟨_, _, rfl, rfl, ?_, ?_⟩
            · rw [S_len]; exact Nat.le_trans (by show r.length + 1 ≤ 1000; omega) (by decide)
            rw [show (Str.ofString "1" : Str) = S [49] from by decide +kernel, S_app]
            have hno : ¬ Ls (r ++ [49]) := fun z => absurd (z 49 (by simp)) (by decide)
            refine ⟨_, rfl, (Odd.str (H := H5) (h := h) (r ++ [49]) rfl hno).row, fun H6 s6 => ?_⟩
            refine ⟨rfl, ?_⟩
            walk_at "v"
            rw [ne_self]
            walk_at "v"
            refine ⟨_, rfl, rs, fun p6 hp6 => ?_⟩
            have g6 := (g4.2.same s5).same s6
            refine ⟨_, rfl, (Odd.lst (g6.ne hp6).1 upd_same).row, fun H7 s7 => ?_⟩
            refine ⟨rfl, ?_⟩
            walk_at "v"
            rw [ne_self]
            exact ⟨rfl, ((Go.new g6 hp6).2).same s7⟩
          · rintro b H4 ⟨rfl, g4⟩
            exact ⟨_, _, _, _, _, _, _, _, _, _, rfl, g4⟩
    · rintro σ' H1 ⟨y3, y4, y5, y6, y7, y8, y9, y10, y11, y12, rfl, g1⟩
      rw [S_nil]
      refine ⟨_, true, rfl, RowJ.row Ls.nil, fun l' e' _ => ?_, fun z => nomatch z⟩
      cases S_inj (V.str.inj e')
      refine ⟨(by decide), fun H2 s2 => ?_⟩
      refine ⟨rfl, ?_⟩
      exact q _
end
theorem all_mk {l : PySem.W.OpenLaw} {w : World} {K : PySem.W.Frag} {h : Heap} {mg : Str → Option Value} {fa : Addr} (X : K.In h) (G : h.Ns mainGlobals mg) (hfa : mg "law" = some (.ref fa))
    {f_NoRow_init f_is_row f_reduced f_net f_demand_row f_hand f_draw f_undoing f_back f_row f_odd f_grown f_struck f_word f_law C_RunsError C_NoRow : Addr}
    {od_NoRow_init an_NoRow_init od_is_row an_is_row od_reduced an_reduced od_net an_net od_demand_row an_demand_row od_hand an_hand od_draw an_draw od_undoing an_undoing od_back an_back od_row an_row od_odd an_odd od_grown an_grown od_struck an_struck od_word an_word od_law an_law : Option Addr}
    {sl_NoRow_init sl_is_row sl_reduced sl_net sl_demand_row sl_hand sl_draw sl_undoing sl_back sl_row sl_odd sl_grown sl_struck sl_word sl_law : Array (Option Value)}
    {oc_NoRow_init kV_NoRow_init dc_NoRow_init pm_NoRow_init cd_NoRow_init ct_NoRow_init oc_is_row kV_is_row dc_is_row pm_is_row cd_is_row ct_is_row oc_reduced kV_reduced dc_reduced pm_reduced cd_reduced ct_reduced oc_net kV_net dc_net pm_net cd_net ct_net oc_demand_row kV_demand_row dc_demand_row pm_demand_row cd_demand_row ct_demand_row oc_hand kV_hand dc_hand pm_hand cd_hand ct_hand oc_draw kV_draw dc_draw pm_draw cd_draw ct_draw oc_undoing kV_undoing dc_undoing pm_undoing cd_undoing ct_undoing oc_back kV_back dc_back pm_back cd_back ct_back oc_row kV_row dc_row pm_row cd_row ct_row oc_odd kV_odd dc_odd pm_odd cd_odd ct_odd oc_grown kV_grown dc_grown pm_grown cd_grown ct_grown oc_struck kV_struck dc_struck pm_struck cd_struck ct_struck oc_word kV_word dc_word pm_word cd_word ct_word oc_law kV_law dc_law pm_law cd_law ct_law : Value}
    (a_is_row : PySem.W.nsIn K mainGlobals "is_row" = some (some (.ref f_is_row)))
    (a_reduced : PySem.W.nsIn K mainGlobals "reduced" = some (some (.ref f_reduced)))
    (a_net : PySem.W.nsIn K mainGlobals "net" = some (some (.ref f_net)))
    (a_demand_row : PySem.W.nsIn K mainGlobals "demand_row" = some (some (.ref f_demand_row)))
    (a_hand : PySem.W.nsIn K mainGlobals "_law_hand" = some (some (.ref f_hand)))
    (a_draw : PySem.W.nsIn K mainGlobals "_law_draw" = some (some (.ref f_draw)))
    (a_undoing : PySem.W.nsIn K mainGlobals "_law_undoing" = some (some (.ref f_undoing)))
    (a_back : PySem.W.nsIn K mainGlobals "_law_back" = some (some (.ref f_back)))
    (a_row : PySem.W.nsIn K mainGlobals "_law_row" = some (some (.ref f_row)))
    (a_odd : PySem.W.nsIn K mainGlobals "_law_odd" = some (some (.ref f_odd)))
    (a_grown : PySem.W.nsIn K mainGlobals "_law_grown" = some (some (.ref f_grown)))
    (a_struck : PySem.W.nsIn K mainGlobals "_law_struck" = some (some (.ref f_struck)))
    (a_word : PySem.W.nsIn K mainGlobals "_law_word" = some (some (.ref f_word)))
    (a_law : PySem.W.nsIn K mainGlobals "law" = some (some (.ref f_law)))
    (aC_RunsError : PySem.W.nsIn K mainGlobals "RunsError" = some (some (.ref C_RunsError)))
    (aC_NoRow : PySem.W.nsIn K mainGlobals "NoRow" = some (some (.ref C_NoRow)))
    (i_NoRow : PySem.W.findIn K (.ref C_NoRow) "__init__" = some (some (.ref f_NoRow_init)))
    (l_NoRow_init : K.lookup f_NoRow_init = some ⟨oc_NoRow_init, od_NoRow_init, .func (PySem.W.fnOf "__init__" "NoRow.__init__" (defArgs s_NoRow_init) (defBody s_NoRow_init) (defScope s_NoRow_init) .none kV_NoRow_init dc_NoRow_init pm_NoRow_init an_NoRow_init cd_NoRow_init ct_NoRow_init), sl_NoRow_init⟩)
    (c_NoRow_init : PySem.W.codeIn K cd_NoRow_init "NoRow.__init__" = true)
    (k_NoRow_init : PySem.W.keepIn K (.ref f_NoRow_init) = true)
    (l_is_row : K.lookup f_is_row = some ⟨oc_is_row, od_is_row, .func (PySem.W.fnOf "is_row" "is_row" (defArgs s_is_row) (defBody s_is_row) (defScope s_is_row) .none kV_is_row dc_is_row pm_is_row an_is_row cd_is_row ct_is_row), sl_is_row⟩)
    (c_is_row : PySem.W.codeIn K cd_is_row "is_row" = true)
    (k_is_row : PySem.W.keepIn K (.ref f_is_row) = true)
    (l_reduced : K.lookup f_reduced = some ⟨oc_reduced, od_reduced, .func (PySem.W.fnOf "reduced" "reduced" (defArgs s_reduced) (defBody s_reduced) (defScope s_reduced) .none kV_reduced dc_reduced pm_reduced an_reduced cd_reduced ct_reduced), sl_reduced⟩)
    (c_reduced : PySem.W.codeIn K cd_reduced "reduced" = true)
    (k_reduced : PySem.W.keepIn K (.ref f_reduced) = true)
    (l_net : K.lookup f_net = some ⟨oc_net, od_net, .func (PySem.W.fnOf "net" "net" (defArgs s_net) (defBody s_net) (defScope s_net) .none kV_net dc_net pm_net an_net cd_net ct_net), sl_net⟩)
    (c_net : PySem.W.codeIn K cd_net "net" = true)
    (k_net : PySem.W.keepIn K (.ref f_net) = true)
    (l_demand_row : K.lookup f_demand_row = some ⟨oc_demand_row, od_demand_row, .func (PySem.W.fnOf "demand_row" "demand_row" (defArgs s_demand_row) (defBody s_demand_row) (defScope s_demand_row) .none kV_demand_row dc_demand_row pm_demand_row an_demand_row cd_demand_row ct_demand_row), sl_demand_row⟩)
    (c_demand_row : PySem.W.codeIn K cd_demand_row "demand_row" = true)
    (k_demand_row : PySem.W.keepIn K (.ref f_demand_row) = true)
    (l_hand : K.lookup f_hand = some ⟨oc_hand, od_hand, .func (PySem.W.fnOf "_law_hand" "_law_hand" (defArgs s_hand) (defBody s_hand) (defScope s_hand) .none kV_hand dc_hand pm_hand an_hand cd_hand ct_hand), sl_hand⟩)
    (c_hand : PySem.W.codeIn K cd_hand "_law_hand" = true)
    (k_hand : PySem.W.keepIn K (.ref f_hand) = true)
    (l_draw : K.lookup f_draw = some ⟨oc_draw, od_draw, .func (PySem.W.fnOf "_law_draw" "_law_draw" (defArgs s_draw) (defBody s_draw) (defScope s_draw) .none kV_draw dc_draw pm_draw an_draw cd_draw ct_draw), sl_draw⟩)
    (c_draw : PySem.W.codeIn K cd_draw "_law_draw" = true)
    (k_draw : PySem.W.keepIn K (.ref f_draw) = true)
    (l_undoing : K.lookup f_undoing = some ⟨oc_undoing, od_undoing, .func (PySem.W.fnOf "_law_undoing" "_law_undoing" (defArgs s_undoing) (defBody s_undoing) (defScope s_undoing) .none kV_undoing dc_undoing pm_undoing an_undoing cd_undoing ct_undoing), sl_undoing⟩)
    (c_undoing : PySem.W.codeIn K cd_undoing "_law_undoing" = true)
    (k_undoing : PySem.W.keepIn K (.ref f_undoing) = true)
    (l_back : K.lookup f_back = some ⟨oc_back, od_back, .func (PySem.W.fnOf "_law_back" "_law_back" (defArgs s_back) (defBody s_back) (defScope s_back) .none kV_back dc_back pm_back an_back cd_back ct_back), sl_back⟩)
    (c_back : PySem.W.codeIn K cd_back "_law_back" = true)
    (k_back : PySem.W.keepIn K (.ref f_back) = true)
    (l_row : K.lookup f_row = some ⟨oc_row, od_row, .func (PySem.W.fnOf "_law_row" "_law_row" (defArgs s_row) (defBody s_row) (defScope s_row) .none kV_row dc_row pm_row an_row cd_row ct_row), sl_row⟩)
    (c_row : PySem.W.codeIn K cd_row "_law_row" = true)
    (k_row : PySem.W.keepIn K (.ref f_row) = true)
    (l_odd : K.lookup f_odd = some ⟨oc_odd, od_odd, .func (PySem.W.fnOf "_law_odd" "_law_odd" (defArgs s_odd) (defBody s_odd) (defScope s_odd) .none kV_odd dc_odd pm_odd an_odd cd_odd ct_odd), sl_odd⟩)
    (c_odd : PySem.W.codeIn K cd_odd "_law_odd" = true)
    (k_odd : PySem.W.keepIn K (.ref f_odd) = true)
    (l_grown : K.lookup f_grown = some ⟨oc_grown, od_grown, .func (PySem.W.fnOf "_law_grown" "_law_grown" (defArgs s_grown) (defBody s_grown) (defScope s_grown) .none kV_grown dc_grown pm_grown an_grown cd_grown ct_grown), sl_grown⟩)
    (c_grown : PySem.W.codeIn K cd_grown "_law_grown" = true)
    (k_grown : PySem.W.keepIn K (.ref f_grown) = true)
    (l_struck : K.lookup f_struck = some ⟨oc_struck, od_struck, .func (PySem.W.fnOf "_law_struck" "_law_struck" (defArgs s_struck) (defBody s_struck) (defScope s_struck) .none kV_struck dc_struck pm_struck an_struck cd_struck ct_struck), sl_struck⟩)
    (c_struck : PySem.W.codeIn K cd_struck "_law_struck" = true)
    (k_struck : PySem.W.keepIn K (.ref f_struck) = true)
    (l_word : K.lookup f_word = some ⟨oc_word, od_word, .func (PySem.W.fnOf "_law_word" "_law_word" (defArgs s_word) (defBody s_word) (defScope s_word) .none kV_word dc_word pm_word an_word cd_word ct_word), sl_word⟩)
    (c_word : PySem.W.codeIn K cd_word "_law_word" = true)
    (k_word : PySem.W.keepIn K (.ref f_word) = true)
    (l_law : K.lookup f_law = some ⟨oc_law, od_law, .func (PySem.W.fnOf "law" "law" (defArgs s_law) (defBody s_law) (defScope s_law) .none kV_law dc_law pm_law an_law cd_law ct_law), sl_law⟩)
    (c_law : PySem.W.codeIn K cd_law "law" = true)
    (k_law : PySem.W.keepIn K (.ref f_law) = true)
    (t_NoRow : PySem.W.typeIn K (.ref f_NoRow_init) = some (.type "function"))
    (xL_NoRow : ∃ nm q N bs bm sn sub ab col dd k0 k1 k2 k3 k5, K.lookup C_NoRow = some (excClassObj nm q C_NoRow N bs bm true sn sub ab col dd k0 k1 k2 k3 k5 "ValueError.__new__") ∧ PySem.HandSPX.refsVE bm = true)
    (sa_NoRow : PySem.W.findIn K (.ref C_NoRow) "__setattr__" = some (some (.builtin "object.__setattr__")))
    (ga_NoRow : PySem.W.findIn K (.ref C_NoRow) "__getattribute__" = some (some (.builtin "BaseException.__getattribute__")))
    (gg_NoRow : PySem.W.findIn K (.ref C_NoRow) "__getattr__" = some none)
    (kC_NoRow : PySem.W.keepIn K (.ref C_NoRow) = true)
    (eC_NoRow : PySem.W.subIn K (.ref C_NoRow) (.type "BaseException") = some true)
    (tC_NoRow : PySem.W.typeIn K (.ref C_NoRow) = some (.type "type"))
    (hC_NoRow : PySem.W.hasDictIn K C_NoRow = true)
    (ha_NoRow : PySem.W.findIn K (.ref C_NoRow) "__class__" = some (some (.builtin "object.__class__")))
    (hm_NoRow : PySem.W.mroIn K C_NoRow (.type "object") = some true)
    (hn_ : PySem.W.specialIn K (.builtin "object.__class__") "__get__" = some (some (.builtin "getset_descriptor.__get__")))
    (ht_ : PySem.W.takesIn K (.builtin "object.__class__") = some true)
    (z_e_NoRow_NoRow : PySem.W.exmOne K (.ref C_NoRow) (.ref C_NoRow) = some true)
    (z_e_NoRow_RunsError : PySem.W.exmOne K (.ref C_NoRow) (.ref C_RunsError) = some true)
    (z_k_NoRow_RunsError : PySem.W.kitOne K (.ref C_NoRow) (.ref C_RunsError) = some true)
    (z_k_NoRow_ValueError : PySem.W.kitOne K (.ref C_NoRow) (.type "ValueError") = some true)
    (m_ValueError : PySem.W.nsIn K mainGlobals "ValueError" = some none)
    (m_abs : PySem.W.nsIn K mainGlobals "abs" = some none)
    (m_int : PySem.W.nsIn K mainGlobals "int" = some none)
    (m_isinstance : PySem.W.nsIn K mainGlobals "isinstance" = some none)
    (m_len : PySem.W.nsIn K mainGlobals "len" = some none)
    (m_list : PySem.W.nsIn K mainGlobals "list" = some none)
    (m_range : PySem.W.nsIn K mainGlobals "range" = some none)
    (m_str : PySem.W.nsIn K mainGlobals "str" = some none)
    : ∃ fd : FuncData, (∀ (s : Shared) (v : Value), BindsTo s fd ⟨[v], []⟩ [("_law_script", v)]) ∧ ∀ base : Heap, K.In base → base.Ns mainGlobals mg → FnOk l.prog w K mg base (CX l.prog w) 6 fa fd ["_law_script"] (sp_law K) := by
  cases hfa.symm.trans (PySem.W.mg_of X G a_law)
  have F_NoRow_init := fun_mk (st := s_NoRow_init) l_NoRow_init c_NoRow_init k_NoRow_init
  have F_is_row := fun_mk (st := s_is_row) l_is_row c_is_row k_is_row
  have F_reduced := fun_mk (st := s_reduced) l_reduced c_reduced k_reduced
  have F_net := fun_mk (st := s_net) l_net c_net k_net
  have F_demand_row := fun_mk (st := s_demand_row) l_demand_row c_demand_row k_demand_row
  have F_hand := fun_mk (st := s_hand) l_hand c_hand k_hand
  have F_draw := fun_mk (st := s_draw) l_draw c_draw k_draw
  have F_undoing := fun_mk (st := s_undoing) l_undoing c_undoing k_undoing
  have F_back := fun_mk (st := s_back) l_back c_back k_back
  have F_row := fun_mk (st := s_row) l_row c_row k_row
  have F_odd := fun_mk (st := s_odd) l_odd c_odd k_odd
  have F_grown := fun_mk (st := s_grown) l_grown c_grown k_grown
  have F_struck := fun_mk (st := s_struck) l_struck c_struck k_struck
  have F_word := fun_mk (st := s_word) l_word c_word k_word
  have F_law := fun_mk (st := s_law) l_law c_law k_law
  have T : Txt K mg ⟨f_NoRow_init, _, f_is_row, _, f_reduced, _, f_net, _, f_demand_row, _, f_hand, _, f_draw, _, f_undoing, _, f_back, _, f_row, _, f_odd, _, f_grown, _, f_struck, _, f_word, _, fa, _, C_RunsError, C_NoRow⟩ := {
    F_NoRow_init := F_NoRow_init
    b_NoRow_init := F_NoRow_init.binds (ps := ["self"]) fun _ _ _ _ _ _ us hl => match us, hl with | [_], _ => rfl
    F_is_row := F_is_row
    g_is_row := PySem.W.mg_of X G a_is_row
    b_is_row := F_is_row.binds (ps := ["thing"]) fun _ _ _ _ _ _ us hl => match us, hl with | [_], _ => rfl
    F_reduced := F_reduced
    g_reduced := PySem.W.mg_of X G a_reduced
    b_reduced := F_reduced.binds (ps := ["row"]) fun _ _ _ _ _ _ us hl => match us, hl with | [_], _ => rfl
    F_net := F_net
    g_net := PySem.W.mg_of X G a_net
    b_net := F_net.binds (ps := ["row"]) fun _ _ _ _ _ _ us hl => match us, hl with | [_], _ => rfl
    F_demand_row := F_demand_row
    g_demand_row := PySem.W.mg_of X G a_demand_row
    b_demand_row := F_demand_row.binds (ps := ["thing"]) fun _ _ _ _ _ _ us hl => match us, hl with | [_], _ => rfl
    F_hand := F_hand
    g_hand := PySem.W.mg_of X G a_hand
    b_hand := F_hand.binds (ps := ["_law_script"]) fun _ _ _ _ _ _ us hl => match us, hl with | [_], _ => rfl
    F_draw := F_draw
    g_draw := PySem.W.mg_of X G a_draw
    b_draw := F_draw.binds (ps := ["_law_hand_here", "_law_many"]) fun _ _ _ _ _ _ us hl => match us, hl with | [_, _], _ => rfl
    F_undoing := F_undoing
    g_undoing := PySem.W.mg_of X G a_undoing
    b_undoing := F_undoing.binds (ps := ["_law_letter"]) fun _ _ _ _ _ _ us hl => match us, hl with | [_], _ => rfl
    F_back := F_back
    g_back := PySem.W.mg_of X G a_back
    b_back := F_back.binds (ps := ["_law_row_here"]) fun _ _ _ _ _ _ us hl => match us, hl with | [_], _ => rfl
    F_row := F_row
    g_row := PySem.W.mg_of X G a_row
    b_row := F_row.binds (ps := ["_law_hand_here", "_law_deeds", "_law_many"]) fun _ _ _ _ _ _ us hl => match us, hl with | [_, _, _], _ => rfl
    F_odd := F_odd
    g_odd := PySem.W.mg_of X G a_odd
    b_odd := F_odd.binds (ps := ["_law_hand_here"]) fun _ _ _ _ _ _ us hl => match us, hl with | [_], _ => rfl
    F_grown := F_grown
    g_grown := PySem.W.mg_of X G a_grown
    b_grown := F_grown.binds (ps := ["_law_hand_here", "_law_deeds", "_law_row_here", "_law_pairs"]) fun _ _ _ _ _ _ us hl => match us, hl with | [_, _, _, _], _ => rfl
    F_struck := F_struck
    g_struck := PySem.W.mg_of X G a_struck
    b_struck := F_struck.binds (ps := ["_law_hand_here", "_law_row_here"]) fun _ _ _ _ _ _ us hl => match us, hl with | [_, _], _ => rfl
    F_word := F_word
    g_word := PySem.W.mg_of X G a_word
    b_word := F_word.binds (ps := ["_law_thing"]) fun _ _ _ _ _ _ us hl => match us, hl with | [_], _ => rfl
    F_law := F_law
    g_law := PySem.W.mg_of X G a_law
    b_law := F_law.binds (ps := ["_law_script"]) fun _ _ _ _ _ _ us hl => match us, hl with | [_], _ => rfl
    gC_RunsError := PySem.W.mg_of X G aC_RunsError
    gC_NoRow := PySem.W.mg_of X G aC_NoRow
    o_NoRow := ⟨xL_NoRow, sa_NoRow, eC_NoRow, tC_NoRow, kC_NoRow⟩
    i_NoRow := i_NoRow
    t_NoRow := t_NoRow
    x_NoRow := ⟨ga_NoRow, gg_NoRow, eC_NoRow, hC_NoRow, ha_NoRow, hn_, ht_, hm_NoRow⟩
    m_ValueError := PySem.W.mg_none_of X G m_ValueError
    m_abs := PySem.W.mg_none_of X G m_abs
    m_int := PySem.W.mg_none_of X G m_int
    m_isinstance := PySem.W.mg_none_of X G m_isinstance
    m_len := PySem.W.mg_none_of X G m_len
    m_list := PySem.W.mg_none_of X G m_list
    m_range := PySem.W.mg_none_of X G m_range
    m_str := PySem.W.mg_none_of X G m_str
    e_NoRow_NoRow := z_e_NoRow_NoRow
    e_NoRow_RunsError := z_e_NoRow_RunsError
    k_NoRow_RunsError := z_k_NoRow_RunsError
    k_NoRow_ValueError := z_k_NoRow_ValueError
  }
  exact ⟨PySem.W.fnOf "law" "law" (defArgs s_law) (defBody s_law) (defScope s_law) .none kV_law dc_law pm_law an_law cd_law ct_law, fun s v => .of_eq rfl, fun base _ _ => ok_law (P := l.prog) (w := w) (base := base) T⟩
end K00
open PySem PySem.W PyProof.Rows
set_option maxRecDepth 100000 in
set_option maxHeartbeats 0 in
theorem PySem.Challenge.cw_runsback_k00_nets_struck_in_any_order_holds : PySem.Challenge.rw_runsback_k00_nets_struck_in_any_order.Holds := by
  w_on; o_law; k_head; (case hw => w_witness2)
  k_fill
  refine L2.walk_of (l := PySem.Challenge.rw_runsback_k00_nets_struck_in_any_order) (n := 63) (k := 6) (x := "_law_script") (CX := fun w => L2.CX PySem.Challenge.pw_runsback_k00_nets_struck_in_any_order w) (sp := fun w => K00.sp_law _) rfl (by decide) rfl ⟨rfl, by decide, by decide⟩ (fun w h Y => PySem.W.kIn_of Y) ?F (fun _ H a ns hl hO hS => K00.hsp _ H a ns hl hO hS) (fun _ _ _ _ _ h => by obtain ⟨_, _, _, _, _, _, _, _, _, _, _, _, z⟩ := h; exact z)
  case F =>
    intro w mg fa h KX G hmg
    refine' K00.all_mk KX G hmg ?a_is_row ?a_reduced ?a_net ?a_demand_row ?a_hand ?a_draw ?a_undoing ?a_back ?a_row ?a_odd ?a_grown ?a_struck ?a_word ?a_law ?aC_RunsError ?aC_NoRow ?i_NoRow ?l_NoRow_init ?c_NoRow_init ?k_NoRow_init ?l_is_row ?c_is_row ?k_is_row ?l_reduced ?c_reduced ?k_reduced ?l_net ?c_net ?k_net ?l_demand_row ?c_demand_row ?k_demand_row ?l_hand ?c_hand ?k_hand ?l_draw ?c_draw ?k_draw ?l_undoing ?c_undoing ?k_undoing ?l_back ?c_back ?k_back ?l_row ?c_row ?k_row ?l_odd ?c_odd ?k_odd ?l_grown ?c_grown ?k_grown ?l_struck ?c_struck ?k_struck ?l_word ?c_word ?k_word ?l_law ?c_law ?k_law ?t_NoRow ?xL_NoRow ?sa_NoRow ?ga_NoRow ?gg_NoRow ?kC_NoRow ?eC_NoRow ?tC_NoRow ?hC_NoRow ?ha_NoRow ?hm_NoRow ?hn_ ?ht_ ?z_e_NoRow_NoRow ?z_e_NoRow_RunsError ?z_k_NoRow_RunsError ?z_k_NoRow_ValueError ?m_ValueError ?m_abs ?m_int ?m_isinstance ?m_len ?m_list ?m_range ?m_str
    (case a_is_row => k_is)
    (case a_reduced => k_is)
    (case a_net => k_is)
    (case a_demand_row => k_is)
    (case a_hand => k_is)
    (case a_draw => k_is)
    (case a_undoing => k_is)
    (case a_back => k_is)
    (case a_row => k_is)
    (case a_odd => k_is)
    (case a_grown => k_is)
    (case a_struck => k_is)
    (case a_word => k_is)
    (case a_law => k_is)
    (case aC_RunsError => k_is)
    (case aC_NoRow => k_is)
    (case i_NoRow => k_is)
    (case l_NoRow_init => k_is)
    (case c_NoRow_init => k_is)
    (case k_NoRow_init => k_is)
    (case l_is_row => k_is)
    (case c_is_row => k_is)
    (case k_is_row => k_is)
    (case l_reduced => k_is)
    (case c_reduced => k_is)
    (case k_reduced => k_is)
    (case l_net => k_is)
    (case c_net => k_is)
    (case k_net => k_is)
    (case l_demand_row => k_is)
    (case c_demand_row => k_is)
    (case k_demand_row => k_is)
    (case l_hand => k_is)
    (case c_hand => k_is)
    (case k_hand => k_is)
    (case l_draw => k_is)
    (case c_draw => k_is)
    (case k_draw => k_is)
    (case l_undoing => k_is)
    (case c_undoing => k_is)
    (case k_undoing => k_is)
    (case l_back => k_is)
    (case c_back => k_is)
    (case k_back => k_is)
    (case l_row => k_is)
    (case c_row => k_is)
    (case k_row => k_is)
    (case l_odd => k_is)
    (case c_odd => k_is)
    (case k_odd => k_is)
    (case l_grown => k_is)
    (case c_grown => k_is)
    (case k_grown => k_is)
    (case l_struck => k_is)
    (case c_struck => k_is)
    (case k_struck => k_is)
    (case l_word => k_is)
    (case c_word => k_is)
    (case k_word => k_is)
    (case l_law => k_is)
    (case c_law => k_is)
    (case k_law => k_is)
    (case t_NoRow => k_is)
    (case xL_NoRow => exact ⟨_, _, _, _, [.ref _, .type "ValueError", .type "Exception", .type "BaseException", .type "object"], _, _, _, _, _, _, _, _, _, _, by k_is, by decide +kernel⟩)
    (case sa_NoRow => k_is)
    (case ga_NoRow => k_is)
    (case gg_NoRow => k_is)
    (case kC_NoRow => k_is)
    (case eC_NoRow => k_is)
    (case tC_NoRow => k_is)
    (case hC_NoRow => k_is)
    (case ha_NoRow => k_is)
    (case hm_NoRow => k_is)
    (case hn_ => k_is)
    (case ht_ => k_is)
    (case z_e_NoRow_NoRow => first | rfl | k_is)
    (case z_e_NoRow_RunsError => first | rfl | k_is)
    (case z_k_NoRow_RunsError => first | rfl | k_is)
    (case z_k_NoRow_ValueError => first | rfl | k_is)
    (case m_ValueError => k_is)
    (case m_abs => k_is)
    (case m_int => k_is)
    (case m_isinstance => k_is)
    (case m_len => k_is)
    (case m_list => k_is)
    (case m_range => k_is)
    (case m_str => k_is)
#print axioms PySem.Challenge.cw_runsback_k00_nets_struck_in_any_order_holds
