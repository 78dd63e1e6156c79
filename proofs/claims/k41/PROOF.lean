import PyProof.Rows.All
import Wide.All
import OpenK.AllK
import Wide.FinOn
import KE.KRevSl
import HandS.ForMost
import HandS.ForExc
import HandS.StrMore
import HandS.Wide
import HandS.IsInst
import HandS.ExcInit
import HandS.ExcIs
import HandS.TryMany
import HandS.Style
import HandS.Codes
import KE.LtData
import HandS.Walk
import HandS.Zip
import KE.GoesMore
import KE.GoesEnum
import KE.GoesZip
import HandS.SortInts
import HandS.DictComp
import HandS.Strs
import HandS.Conv
import HandS.Property
import HandS.OwnEq
import KE.KMathG
import KE.KEqDict
import HandS.ExcValue
import PyProof.CollectStr
import PyProof.Rows.SortStr
import PyProof.Rows.SortKeyStr
import HandS.ExcField
import PySem.Challenge.RW_runsback_k41_whole_worlds_side_by_side
set_option Elab.async false
set_option linter.all false
set_option maxRecDepth 100000
set_option maxHeartbeats 8000000
/-! Further rules over the hand layer: swapcase, text[::-1], an exception made by C(), several except clauses with names, list(text). -/
namespace L2
open PySem PySem.Spec PyProof.Rows
theorem mt_swapcase {X : Cx} : MtR X "str.swapcase" (fun x xs H Q => ∃ a, x = .str a ∧ xs = [] ∧ a.length ≤ 5592405 ∧ Q (.str (Txt.swapcase a)) H) :=
  mt0 (C := fun a => a.length ≤ 5592405) (g := fun a => .str (Txt.swapcase a)) fun a _ s _ fits go => PyProof.Rows.SCL.swapcase fits fun _ => go _ (s.toks + 1) ⟨_, rfl⟩
/-! ### text[::-1] -/
def revS (z : Str) : Str := ⟨z.cps.toList.reverse.toArray⟩
def tRevS (te : TE) : TE := fun σ H Q => te σ H fun x H1 => ∃ z, x = .str z ∧ z.length ≤ sizeLine ∧ Q (.str (revS z)) H1
theorem rev_picked (z : Str) : ((Builtin.Str.strSliceIndices none none (-1) z.length).filterMap (z.cps[·]?)).toArray = (revS z).cps := by
  have e : Builtin.Str.strSliceIndices none none (-1) z.cps.size = sliceRange ((z.cps.size : Int) - 1) (-1) (-1) := rfl
  rw [show z.length = z.cps.size from rfl, e, PySem.W.krv_sliceRange, PySem.W.krv_range, List.filterMap_reverse, PySem.W.krv_all]; rfl
theorem pe_revS {X : Cx} {e : Expr} {te : TE} {k : Nat} {p1 p2 p3 pos : Pos} (he : PE X e te) : PE X (.Subscript e (.Slice none none (some (.UnaryOp .USub (.Constant (.int 1) k p1) p2)) p3) pos) (tRevS te) := by
  constructor
  intro pins s0 σ H Q I0 hw
  apply Subscript_
  refine thn (he.run pins s0 σ H _ I0 hw) ?_
  rintro v sA ⟨x, HA, IA, rA, z, rfl, fits, goal⟩
  obtain ⟨tok, rfl⟩ := rA
  apply wpAny_Slice
  rw [evalPart_none]
  apply wpAny_pure; apply wpAny_pure
  have last : PO X (some (.UnaryOp .USub (.Constant (.int 1) k p1) p2)) (tPart (tUn (rU fun i => .int (-i)) (tC (.int 1)))) := po_some (pe_un un_neg pe_int)
  refine thn (last.run pins sA σ HA (fun o HB => o = some (-1) ∧ HB = HA) IA ⟨1, rfl, -1, rfl, rfl, rfl⟩) ?_
  rintro vs sB ⟨o, HB, IB, part, rfl, rfl⟩
  obtain ⟨st, rfl, est⟩ := IsPart.raw part
  have IC : Inv X pins σ HB { sB with heap := sB.heap.push { cls := .type "slice", data := .fields #[.none, .none, partValue st] } } :=
    IB.kept (t' := sB.toks) fun _ _ there => Heap.get?_push_of_some _ there
  match st, est with
  | some (_, stok), rfl =>
    refine tail_any (ops := [.str z tok, .ref sB.heap.objs.size]) (typeIs_str _ _ _) F.slot_str_getitem.lookup ?_ (by with_unfolding_all rfl)
    refine wpAny_getItem_str_slice (l := none) (u := none) (st := some (-1, stok)) ⟨_, Heap.get?_push_size _ rfl, rfl, rfl⟩ rfl ?_
    show Made.post (if ((-1 : Int) == 1 && _) = true then Made.val (.str z tok) else Made.str ⟨((Builtin.Str.strSliceIndices none none (-1) z.length).filterMap (z.cps[·]?)).toArray⟩) _ _
    rw [if_neg (by simp), rev_picked]
    refine ⟨?_, .str _, HB, IC.tok _, ⟨_, rfl⟩, goal⟩
    have f2 : z.cps.size ≤ sizeLine := fits
    show z.cps.toList.reverse.toArray.size ≤ sizeLine
    simpa using f2
/-! ### C(), where __init__ does nothing: the new exception is let go with nothing stored -/
section
variable {X : Cx} {pins : List (Addr × Obj)} {σ : St} {H1 : Hp} {hp hp2 h2 : Heap} {a C : Addr}
/-- what stands at a is no part of what is tracked elsewhere -/
theorem exo_apart {c : Addr} {o : HO} (ho : o ≠ exo a C none) (e : upd H1 a (exo a C none) c = some o) : c ≠ a ∧ H1 c = some o := by
  by_cases z : c = a
  · rw [z, upd_same] at e; exact absurd (Option.some.inj e).symm ho
  · rw [upd_ne z] at e; exact ⟨z, e⟩
theorem hok_without {P : Program} {w : World} (hn : H1 a = none) (ok : HOk P w (upd H1 a (exo a C none)) h2) {G : Heap} (same : ∀ b, b ≠ a → G.get? b = h2.get? b) : HOk P w H1 G := by
  intro b o tracked
  have apart : b ≠ a := ne_of_none tracked hn
  have here : upd H1 a (exo a C none) b = some o := (upd_ne apart).trans tracked
  refine (ok b o here).stay ?_ ?_ ?_
  · rintro c v (rfl | owns) there
    · exact (same _ apart).trans there
    · exact (same c (exo_apart (fun z => exo_own z.symm) owns).1).trans there
  · exact fun c owns => (exo_apart (fun z => exo_own z.symm) owns).2
  · exact fun c xs tup => (exo_apart (fun z => exo_tup z.symm) tup).2
theorem un_without {fs : List Addr} (new : hp.objs.size ≤ a) (k : ∀ b o, hp.get? b = some o → hp2.get? b = some o) (un : Un fs [] (upd H1 a (exo a C none)) (upd H1 a (exo a C none)) hp2 h2) {G : Heap} (same : ∀ b, b ≠ a → G.get? b = h2.get? b) :
    Un fs [] H1 H1 hp G := by
  have far : ∀ b o, hp.get? b = some o → b ≠ a := fun b o there z => absurd (Heap.lt_size there) (by rw [z]; exact Nat.not_lt.mpr new)
  have free : ∀ b o, hp.get? b = some o → H1 b = none → upd H1 a (exo a C none) b = none := fun b o there z => (upd_ne (far b o there)).trans z
  refine ⟨fun b o there z f x => (same b (far b o there)).trans (un.keep b o (k b o there) (free b o there z) f x), fun b o there z f x => ?_, fun _ _ _ z _ => z, fun b o there x => ?_, fun _ _ z => z, fun _ _ _ z => z, fun _ _ z => ⟨#[], by rw [z]; simp⟩⟩
  · obtain ⟨sl, e⟩ := un.slot b o (k b o there) (free b o there z) f x
    exact ⟨sl, (same b (far b o there)).trans e⟩
  · obtain ⟨o', e⟩ := un.there b o (k b o there) x
    exact ⟨o', (same b (far b o there)).trans e⟩
theorem made_plain {Q : XK} {s1 : Shared} {g2 : Array GenState} {d2 : Drawn} {t2 : Nat} {os2 : OsState} (T : Raises X (.ref C)) (I1 : Inv X pins σ H1 s1) (new : s1.heap.objs.size ≤ a) (k : ∀ b o, s1.heap.get? b = some o → hp2.get? b = some o)
    (un : Un (frs X.stack) [] (upd H1 a (exo a C none)) (upd H1 a (exo a C none)) hp2 h2) (ok : HOk X.prog X.w (upd H1 a (exo a C none)) h2) (ho : os2 = s1.os) (hb : AllBare g2) (q : Q (.ref C) none H1) : MkP X pins σ Q (.ref a) ⟨h2, g2, d2, t2, os2⟩ := by
  obtain ⟨hp1, g1, d1, t1, os1⟩ := s1
  have hn : H1 a = none := I1.hok.fresh new
  obtain ⟨t0, obj⟩ := exo_at ok (e := a) (C := C) (d := none) upd_same
  obtain ⟨G, rest, gone⟩ := restrict h2 fun b => !decide (b = a)
  have same : ∀ b, b ≠ a → G.get? b = h2.get? b := fun b z => rest b (by simp [z])
  have away : G.get? a = none := gone a (by simp)
  have J : Inv X pins σ H1 ⟨G, g2, d2, t2, os2⟩ := I1.call' (ch := []) ho (un_without new k un same) (hok_without hn ok same) hb (fun _ z => absurd z (by simp))
  refine ⟨a, _, _, _, _, _, _, rfl, J, ?_, away, obj, ⟨rfl, rfl⟩, rfl, rfl, hn, rfl, hb, T, q⟩
  intro b o there
  have z : b ≠ a := fun z => by rw [z] at there; exact nomatch away.symm.trans there
  exact (same b z).symm.trans there
end
/-- __init__ that does nothing -/
def spPass : Sp := fun vs H Q _ => ∃ x : Addr, vs = [.ref x] ∧ Q .non H
theorem pmk_oexZ {X : Cx} {CX : CXT} {x : Str} {C fI : Addr} {k : Nat} {fd : FuncData} {ps : List Str} {p pos : Pos} (T : OexC X.K C) (iC : PySem.W.findIn X.K (.ref C) "__init__" = some (some (.ref fI))) (tI : PySem.W.typeIn X.K (.ref fI) = some (.type "function"))
    (F1 : FnOk X.prog X.w X.K X.mg X.base CX k fI fd ps spPass) (hr : Room (k + 1) X.A) (hb : Binds X.K fd ps []) (hx : Passes CX X (fun _ _ _ => False)) (hg : Gl X x) (hm : X.mg x = some (.ref C)) (hdb : (x == ("__debug__" : Str)) = false := by decide) :
    PMk X (.Call (.Name x p) [] [] pos) (fun _ H Q => Q (.ref C) none H) := by
  intro pins s σ H1 Q I1 goal
  obtain ⟨hp, g, dr, tk, os⟩ := s
  obtain ⟨nm, q, N, bs, bm, sn, sub, ab, col, dd, k0, k1, k2, k3, k5, hC, hbm⟩ := T.cls
  refine wpAny_Call_Name_kw (ld_glob I1 hg hm ?_ hdb)
  refine PySem.W.callWith_K0 I1.kIn T.kC ?_
  show wpAny _ _ (call (.ref C) []) _ _ _
  -- the new exception's place, and the heap with it
  generalize en : hp.objs.size + 1 = a
  have new : hp.objs.size ≤ a := by rw [← en]; exact Nat.le_succ _
  generalize eh : (hp.push (PySem.W.kdv_tup [])).push (PySem.HandSPX.excO C hp.objs.size) = hpA
  have kept : ∀ b o, hp.get? b = some o → hpA.get? b = some o := fun b o there => by rw [← eh]; exact Heap.get?_push_of_some _ (Heap.get?_push_of_some _ there)
  have there : hpA.get? a = some (PySem.HandSPX.excO C hp.objs.size) := by rw [← eh, ← en]; heap_get
  have I2 : Inv X pins σ (upd H1 a (exo a C none)) ⟨hpA, g, dr, tk, os⟩ := I1.laid (t' := tk) kept new (exo_ok there)
  have word : spPass [.ref a] (upd H1 a (exo a C none)) (fun v H2 => v = .non ∧ H2 = upd H1 a (exo a C none)) (fun _ _ _ => False) := ⟨_, rfl, rfl, rfl⟩
  have one : Vals [V.ref a] [Value.ref a] := .cons rfl .nil
  have hl : [Value.ref a].length = ps.length := one.length.symm.trans (F1.len _ _ _ _ word)
  have bind : BindsTo ⟨hpA, g, dr, tk, os⟩ fd ⟨[Value.ref a], []⟩ (ps.zip [Value.ref a]) := by simpa using hb ⟨hpA, g, dr, tk, os⟩ [Value.ref a] I2.kIn hl
  have run := F1.run _ X.stack _ _ ⟨[Value.ref a], []⟩ [Value.ref a] _ _ (fun _ _ _ => False) (hr.make C [] []) (I2.env0.make C [] []) bind one word
  subst eh
  subst en
  refine wpAny_call (PySem.HandSPX.call_own F.excBase_ValueError (fun Y => PySem.HandSPX.refsVE_contains Y bm hbm) (I1.kIn _ _ hC) (PySem.W.looks_findIn I1.kIn iC) (fun self => PySem.W.bind_fn I1.kIn self tI) (Nat.zero_le _) (codeAny_mono run fun r s' end_ => ?_))
  match r, end_ with
  | .error er, end_ => exact hx pins σ _ _ er s' I2 end_
  | .ok .next, end_ | .ok .brk, end_ | .ok .cont, end_ => exact end_.elim
  | .ok (.ret u), ⟨v, H2, os2, bare2, un2, ok2, rv, ev, eH⟩ =>
    subst ev
    subst eH
    exact ⟨rv, made_plain (raises_own T.exC T.tyC) I1 new kept un2 ok2 os2 bare2 goal⟩
theorem vals_by : ∀ (xs : List V) (us : List Value), xs.length = us.length → (∀ (j : Nat) (x : V) (v : Value), xs[j]? = some x → us[j]? = some v → RelV x v) → Vals xs us
  | [], [], _, _ => .nil
  | [], _ :: _, e, _ => by cases e
  | _ :: _, [], e, _ => by cases e
  | x :: xs, u :: us, e, h => .cons (h 0 x u rfl rfl) (vals_by xs us (by simpa using e) fun j y v h1 h2 => h (j + 1) y v h1 h2)
/-- list(a text): a text of one sign for each -/
theorem call_listS {X : Cx} (hc : X.calm = true) : CallR X (.type "list") (fun xs H Q => ∃ z : Str, xs = [.str z] ∧ z.length ≤ sizeLine ∧ ∀ p, H p = none → Q (.ref p) (upd H p (.lst (z.cps.toList.map fun c => V.str ⟨#[c]⟩)))) := by
  intro pins s σ H xs us Q I r word
  obtain ⟨z, rfl, hz, q⟩ := word; obtain ⟨u, rfl, t, rfl⟩ := vals1 r
  refine PySem.call_list_str (I.ok.hd hc) z t (fun h' tk acc' c' kp e it => ?_) hz
  have hsz : acc'.size = z.cps.size := it.1
  have hv : Vals (z.cps.toList.map fun c => V.str ⟨#[c]⟩) acc'.toList := by
    refine vals_by _ _ (by rw [List.length_map, Array.length_toList, Array.length_toList, hsz]) fun (j : Nat) x v h1 h2 => ?_
    obtain ⟨c, w2, hc2, rfl⟩ := it.2 j v (by simpa using h2)
    rw [List.getElem?_map, show z.cps.toList[j]? = some c by simpa using hc2] at h1
    cases h1
    exact ⟨w2, rfl⟩
  have e' : h'.get? s.heap.objs.size = some { cls := .type "list", dict := none, data := .seq acc'.toList.toArray c', slots := #[] } := e
  refine ⟨.ref s.heap.objs.size, _, I.laid (t' := tk) kp (Nat.le_refl _) (o := .lst (z.cps.toList.map fun c => V.str ⟨#[c]⟩)) ⟨?_, acc'.toList, c', hv, e'⟩, rfl, q _ (I.hok.fresh (Nat.le_refl _))⟩
  rw [List.length_map]
  exact hz

/-! ### several except clauses, with names or without -/
abbrev HdT := Value × Option Nat × (Addr → Value → Option Addr → TS)
def wManyA (K : PySem.W.Frag) (Wout : WX) (D : Ends) : List HdT → WX
  | [] => Wout
  | (c, none, ts) :: r => fun cls d σ H => ∃ b, PySem.W.exmOne K cls c = some b ∧ (b = true → ∀ a, H a = none → ts a cls d D σ H) ∧ (b = false → wManyA K Wout D r cls d σ H)
  | (c, some i, ts) :: r => fun cls d σ H => ∃ b, PySem.W.exmOne K cls c = some b ∧
      (b = true → ∀ a, H a = none → ts a cls d { nx := fun τ G => D.nx (τ.set i none) G, rt := D.rt, bk := fun τ G => D.bk (τ.set i none) G, ct := fun τ G => D.ct (τ.set i none) G } (σ.set i (some (.ref a))) H) ∧ (b = false → wManyA K Wout D r cls d σ H)
/-- an exception at a over the frame: the state it came from, the heap it stands in -/
structure Aloft (X : Cx) (pins : List (Addr × Obj)) (σ : St) (H : Hp) (old now : Shared) (B : Heap) (a : Addr) (cls : Value) (d : Option Addr) : Prop where
  inv : Inv X pins σ H old
  ground : ∀ b o, old.heap.get? b = some o → b ∉ frs X.stack → B.get? b = some o
  slots : old.heap.UpToSlots now.heap
  air : HandSPX.FlyingZ B (X.env :: X.outer) a (Zc cls d) now.heap
  free : H a = none
  sys : now.os = old.os
  gens : AllBare now.gens
section
variable {X : Cx} {pins : List (Addr × Obj)} {σ : St} {H : Hp} {old now : Shared} {B : Heap} {a : Addr} {cls : Value} {d : Option Addr}
theorem Aloft.at_ (x : Aloft X pins σ H old now B a cls d) : Inv X pins σ H now := x.inv.landed (s' := now) x.ground x.air.1 x.slots x.sys x.gens
theorem Aloft.further (x : Aloft X pins σ H old now B a cls d) {h : Heap} (up : now.heap.UpToSlots h) (fl : HandSPX.FlyingZ B (X.env :: X.outer) a (Zc cls d) h) : Aloft X pins σ H old { now with heap := h } B a cls d :=
  ⟨x.inv, x.ground, x.slots.trans up, fl, x.free, x.sys, x.gens⟩
/-- the clauses' own view: the exception is held -/
theorem Aloft.held (hf : X.env.frame = some X.env.locals) (hs : X.stack = X.env :: X.outer) (x : Aloft X pins σ H old now B a cls d) :
    ∃ oe, Zc cls d oe ∧ (∃ vs, oe.data = .fields vs) ∧ now.heap.get? a = some oe ∧ Inv (X.suite a ((a, oe) :: (X.pn ++ pins))) [] σ H now := by
  obtain ⟨oe, vs, at_, kind, data⟩ := x.air.there
  have noFrame : a ∉ frs (X.env :: X.outer) := fun m => by
    obtain ⟨_, o2, at2, other⟩ := x.air.2.2.1.mem m
    cases at_.symm.trans at2
    exact other _ data
  have nL : a ≠ X.env.locals := fun z => noFrame (List.mem_filterMap.mpr ⟨_, List.mem_cons_self, hf.trans (congrArg some z.symm)⟩)
  have nF : a ∉ X.fs := fun m => by
    obtain ⟨e, me, q⟩ := List.mem_filterMap.mp m
    exact noFrame (List.mem_filterMap.mpr ⟨e, List.mem_cons_of_mem _ me, q⟩)
  exact ⟨oe, kind, ⟨vs, data⟩, at_, x.at_.suite at_ data x.free nL nF⟩
end
/-- clauses, and what they wish of an exception -/
def PH (X : Cx) (hds : List ExceptHandler) (w : Ends → WX) : Prop := ∀ {pins : List (Addr × Obj)} {σ : St} {H : Hp} {old now : Shared} {B : Heap} {a : Addr} {cls : Value} {d : Option Addr} (D : Ends),
  Aloft X pins σ H old now B a cls d → w D cls d σ H → wpAny (model X.prog X.w) X.A (handleBy (.ref a) X.env hds) (SP X pins D) X.xe now
section
variable {X : Cx} {hds : List ExceptHandler} {Wout : WX} {l : List HdT} {x n : Str} {c : Value} {ts : Addr → Value → Option Addr → TS} {b₀ : Stmt} {suite : List Stmt} {np pos' : Pos}
theorem ph_nil (hf : X.env.frame = some X.env.locals) (hs : X.stack = X.env :: X.outer) (tk : Takes X Wout) : PH X [] (fun D => wManyA X.K Wout D []) := by
  intro pins σ H old now B a cls d D x wish
  apply wpAny_handleBy_nil
  obtain ⟨_, _, _, oe, vs, T, oT, ts', at_, kind, data, first, _⟩ := id x.air
  have out : wpAny (model X.prog X.w) X.A (setFlight (.ref a) X.env.frame) (fun _ s4 => wpAny (model X.prog X.w) X.A (throw (.ref a) : Sem Flow) (SP X pins D) X.xe s4) X.xe now := by
    rw [hf]
    refine HandSPX.setFlight_upZ x.air fun h held up => ?_
    refine wpAny_throw (tk _ _ ⟨a, B, old, pins, σ, H, cls, d, rfl, x.inv, x.ground, x.slots.trans up, .inr (.inr ?_), x.free, x.sys, x.gens, wish⟩)
    rw [hs]; exact held
  unfold PySem.passOn
  refine wpAny_bind (wpAny_field at_ data first ?_)
  have notNone : (Value.ref T == Value.none) ≠ true := by simp
  rw [if_neg notNone]
  first | exact wpAny_bind out | exact wpAny_bind (wpAny_pure (wpAny_bind out))
/-- the class of a clause is looked up -/
theorem load_cls {Y : Cx} {pins : List (Addr × Obj)} {σ : St} {H : Hp} {s : Shared} (J : Inv Y pins σ H s) (hc : Names Y x c) {Q E : Value → Shared → Prop} (q : Q c s) : wpAny (model Y.prog Y.w) Y.A (eval (.Name x np) Y.env) Q E s := by
  obtain ⟨glob, dbg, own | ⟨none_, boot, named⟩⟩ := hc
  · exact ld_glob J glob own q dbg
  · exact ld_blt J glob none_ boot q named dbg
theorem ph_cons (hf : X.env.frame = some X.env.locals) (hs : X.stack = X.env :: X.outer) (ok : X.Ok) (hc : Names X x c)
    (hsu : ∀ (a : Addr) (oe : Obj) (cls : Value) (d : Option Addr) (pn : List (Addr × Obj)), Zc cls d oe → (∃ vs, oe.data = .fields vs) → PSs (X.suite a ((a, oe) :: pn)) (b₀ :: suite) (ts a cls d))
    (rest : PH X hds fun D => wManyA X.K Wout D l) : PH X (.ExceptHandler (some (.Name x np)) none (b₀ :: suite) pos' :: hds) (fun D => wManyA X.K Wout D ((c, none, ts) :: l)) := by
  intro pins σ H old now B a cls d D y wish
  obtain ⟨b, said, yes, no⟩ := wish
  obtain ⟨oe, kind, data, at_, S⟩ := y.held hf hs
  have type : PySem.W.Looks (model X.prog X.w) now.heap (typeOf (.ref a)) cls := fun _ _ _ _ keep q => wpAny_typeOf_ref (keep _ _ at_) (kind.1.symm ▸ q)
  have answer := PySem.W.exm_one (M := model X.prog X.w) y.at_.kIn type said
  refine wpAny_handleBy_cons (codeAny_handlers_test (load_cls (Y := X.suite a ((a, oe) :: (X.pn ++ pins))) S hc (answer.here ?_))) (fun q => nomatch q)
  match b, yes, no with
  | false, _, no => exact rest D y (no rfl)
  | true, yes, _ =>
    refine codeAny_handlers_suite (HandSPX.lands_againZ y.air fun h fl up => ?_)
    obtain ⟨oe2, kind2, data2, _, S2⟩ := (y.further up fl).held hf hs
    refine wpAny_mono ((hsu a oe2 cls d (X.pn ++ pins) kind2 data2).run [] _ σ H _ S2 (yes rfl a y.free)) (fun f s6 end_ => ?_) (fun _ _ z => z.elim)
    match f, end_ with
    | .next, ⟨_, _, J, q⟩ | .brk, ⟨_, _, J, q⟩ | .cont, ⟨_, _, J, q⟩ => exact ⟨_, _, J.unsuite ok, q⟩
    | .ret _, ⟨_, _, _, J, r, q⟩ => exact ⟨_, _, _, J.unsuite ok, r, q⟩
theorem ph_consN {i : Nat} (hf : X.env.frame = some X.env.locals) (hs : X.stack = X.env :: X.outer) (ok : X.Ok) (hc : Names X x c) (hN : X.N.Nodup) (hi : X.N[i]? = some n) (hln : X.env.kindOf n = some .local)
    (hsu : ∀ (a : Addr) (oe : Obj) (cls : Value) (d : Option Addr) (pn : List (Addr × Obj)), Zc cls d oe → (∃ vs, oe.data = .fields vs) → PSs (X.suite a ((a, oe) :: pn)) (b₀ :: suite) (ts a cls d))
    (rest : PH X hds fun D => wManyA X.K Wout D l) : PH X (.ExceptHandler (some (.Name x np)) (some n) (b₀ :: suite) pos' :: hds) (fun D => wManyA X.K Wout D ((c, some i, ts) :: l)) := by
  intro pins σ H old now B a cls d D y wish
  obtain ⟨b, said, yes, no⟩ := wish
  obtain ⟨oe, kind, data, at_, S⟩ := y.held hf hs
  have type : PySem.W.Looks (model X.prog X.w) now.heap (typeOf (.ref a)) cls := fun _ _ _ _ keep q => wpAny_typeOf_ref (keep _ _ at_) (kind.1.symm ▸ q)
  have answer := PySem.W.exm_one (M := model X.prog X.w) y.at_.kIn type said
  refine wpAny_handleBy_cons (codeAny_handlers_test (load_cls (Y := X.suite a ((a, oe) :: (X.pn ++ pins))) S hc (answer.here ?_))) (fun q => nomatch q)
  match b, yes, no with
  | false, _, no => exact rest D y (no rfl)
  | true, yes, _ =>
    refine codeAny_handlers_suite_as (HandSPX.lands_againZ y.air fun h fl up => ?_)
    obtain ⟨oe2, kind2, data2, _, S2⟩ := (y.further up fl).held hf hs
    refine store_ok (X := X.suite a ((a, oe2) :: (X.pn ++ pins))) (v := .ref a) S2 hN hi (.inl hln) rfl (fun s5 S5 => ?_) (.inr hln)
    refine wpAny_mono ((hsu a oe2 cls d (X.pn ++ pins) kind2 data2).run [] s5 _ H _ S5 (yes rfl a y.free)) (fun f s6 end_ => ?_) (fun _ _ z => z.elim)
    match f, end_ with
    | .next, ⟨_, _, J, q⟩ | .brk, ⟨_, _, J, q⟩ | .cont, ⟨_, _, J, q⟩ => exact gone_ok (J.unsuite ok) hN hi hln fun _ J7 => ⟨_, _, J7, q⟩
    | .ret _, ⟨_, _, _, J, r, q⟩ => exact gone_ok (J.unsuite ok) hN hi hln fun _ J7 => ⟨_, _, _, J7, r, q⟩
end
/-- the clauses of a try, one by one -/
inductive HdsA (X : Cx) : List ExceptHandler → List HdT → Prop
  | nil : HdsA X [] []
  | cons {x : Str} {c : Value} {ts : Addr → Value → Option Addr → TS} {b₀ : Stmt} {suite : List Stmt} {np pos' : Pos} {hds : List ExceptHandler} {l : List HdT} (hc : Names X x c)
      (hsu : ∀ (a : Addr) (oe : Obj) (cls : Value) (d : Option Addr) (pn : List (Addr × Obj)), Zc cls d oe → (∃ vs, oe.data = .fields vs) → PSs (X.suite a ((a, oe) :: pn)) (b₀ :: suite) (ts a cls d)) (r : HdsA X hds l) : HdsA X (.ExceptHandler (some (.Name x np)) none (b₀ :: suite) pos' :: hds) ((c, none, ts) :: l)
  | consN {x n : Str} {i : Nat} {c : Value} {ts : Addr → Value → Option Addr → TS} {b₀ : Stmt} {suite : List Stmt} {np pos' : Pos} {hds : List ExceptHandler} {l : List HdT} (hc : Names X x c) (hN : X.N.Nodup) (hi : X.N[i]? = some n) (hln : X.env.kindOf n = some .local)
      (hsu : ∀ (a : Addr) (oe : Obj) (cls : Value) (d : Option Addr) (pn : List (Addr × Obj)), Zc cls d oe → (∃ vs, oe.data = .fields vs) → PSs (X.suite a ((a, oe) :: pn)) (b₀ :: suite) (ts a cls d)) (r : HdsA X hds l) : HdsA X (.ExceptHandler (some (.Name x np)) (some n) (b₀ :: suite) pos' :: hds) ((c, some i, ts) :: l)
theorem HdsA.ph {X : Cx} {hds : List ExceptHandler} {l : List HdT} {Wout : WX} (hf : X.env.frame = some X.env.locals) (hs : X.stack = X.env :: X.outer) (ok : X.Ok) (tk : Takes X Wout) (hh : HdsA X hds l) : PH X hds fun D => wManyA X.K Wout D l := by
  induction hh with
  | nil => exact ph_nil hf hs tk
  | cons hc hsu _ ih => exact ph_cons hf hs ok hc hsu ih
  | consN hc hN hi hln hsu _ ih => exact ph_consN hf hs ok hc hN hi hln hsu ih
theorem ps_try_manyA {X : Cx} {body : List Stmt} {h₀ : ExceptHandler} {hds : List ExceptHandler} {l : List HdT} {pos : Pos} {tb : WX → TS} {Wout : WX} (hs : X.stack = X.env :: X.outer) (hf : X.env.frame = some X.env.locals) (tk : Takes X Wout)
    (hb : ∀ (W : WX) (pn : List (Addr × Obj)) (xe : Value → Shared → Prop), Takes (X.tr pn xe) W → PassesOwn (model X.prog X.w) X.A X.env xe → PSs (X.tr pn xe) body (tb W)) (hh : HdsA X (h₀ :: hds) l) :
    PS X (.Try body (h₀ :: hds) [] [] pos) (fun D σ H => tb (wManyA X.K Wout D l) D σ H) := by
  constructor
  intro pins s σ H D I wish
  apply wpAny_Try_except
  have ok := I.ok
  have clauses : PH X (h₀ :: hds) fun D => wManyA X.K Wout D l := HdsA.ph hf hs ok tk hh
  -- what is done with what the body lets out
  let xe : Value → Shared → Prop := fun e s1 => wpAny (model X.prog X.w) X.A (noteFrame e X.env) (fun _ s2 => wpAny (model X.prog X.w) X.A (setFlight e none) (fun _ s3 => wpAny (model X.prog X.w) X.A (handleBy e X.env (h₀ :: hds)) (SP X pins D) X.xe s3) X.xe s2) X.xe s1
  have takes : Takes (X.tr (X.pn ++ pins) xe) (wManyA X.K Wout D l) := by
    rintro u s1 ⟨a, B, old, pins1, τ, G, cls, d, rfl, J, ground, up, sky, free, sys, gens, w⟩
    have sky2 : Sky B (X.env :: X.outer) a (Zc cls d) X.env.locals s1.heap := by rw [← hs]; exact sky
    refine Sky.land Zc.steady (by rw [ok.frames, hs]) hf sky2 fun h fl up2 => ?_
    exact clauses D ⟨J.ofTry ok, ground, up.trans up2, fl, free, sys, gens⟩ w
  refine wpAny_mono ((hb (wManyA X.K Wout D l) (X.pn ++ pins) xe takes PassesOwn.looking).run [] s σ H D (I.toTry _) wish) (fun f s1 end_ => ?_) (fun _ _ z => z)
  match f, end_ with
  | .next, ⟨τ, G, J, q⟩ => exact wpAny_execs_nil ⟨τ, G, J.ofTry ok, q⟩
  | .brk, ⟨τ, G, J, q⟩ | .cont, ⟨τ, G, J, q⟩ => exact ⟨τ, G, J.ofTry ok, q⟩
  | .ret _, ⟨v, τ, G, J, r, q⟩ => exact ⟨v, τ, G, J.ofTry ok, r, q⟩
end L2
/-! The rules with the written part by its own name. -/
namespace L2
open PySem PySem.Spec PyProof.Rows
section
variable {X : Cx} {K : PySem.W.Frag}
theorem ixL (e : X.K = K) : IxR X (rIxL K) := e ▸ ix_list
theorem ixT (e : X.K = K) : IxR X (rIxT K) := e ▸ ix_tup
theorem ixQ (e : X.K = K) : IxR X (rIx K) := e ▸ ix_seq
theorem slL (e : X.K = K) : SlR X (rSlL K) := e ▸ sl_list
theorem slT (e : X.K = K) : SlR X (rSlT K) := e ▸ sl_tup
theorem inQ (e : X.K = K) : OpR X (compareOp .In) (rIn K false) := e ▸ op_in_seq
theorem niQ (e : X.K = K) : OpR X (compareOp .NotIn) (rIn K true) := e ▸ op_notIn_seq
theorem catT (e : X.K = K) : OpR X (binaryOp .Add) (rCatT K) := e ▸ op_catT
theorem eqD (e : X.K = K) (hu : X.A.units + 64 < cLine) : OpR X (compareOp .Eq) (rEqD K) := e ▸ op_eqD hu
theorem neD (e : X.K = K) (hu : X.A.units + 64 < cLine) : OpR X (compareOp .NotEq) (rNeD K) := e ▸ op_neD hu
def rLenQ (K : PySem.W.Frag) : List V → Hp → VK → Prop := fun xs H Q => ∃ p ys, xs = [.ref p] ∧ (SqL K H p ys ∨ SqT K H p ys) ∧ Q (.int ys.length) H
theorem clen (e : X.K = K) : CallR X (.builtin "len") (rLenQ K) := e ▸ call_len_seq
def rLenText : List V → Hp → VK → Prop := fun vs H Q => ∃ z, vs = [.str z] ∧ z.length ≤ sizeLine ∧ Q (.int z.length) H
theorem clenS : CallR X (.builtin "len") rLenText := call_len_str
def rLstQ (K : PySem.W.Frag) : List V → Hp → VK → Prop := fun xs H Q => ∃ p ys, xs = [.ref p] ∧ (SqL K H p ys ∨ SqT K H p ys) ∧ ∀ l, H l = none → Q (.ref l) (upd H l (.lst ys))
theorem clist (e : X.K = K) : CallR X (.type "list") (rLstQ K) := e ▸ call_list_of
def rTupQ (K : PySem.W.Frag) : List V → Hp → VK → Prop := fun xs H Q => ∃ p ys, xs = [.ref p] ∧ ((SqL K H p ys ∧ ∀ l, H l = none → Q (.ref l) (upd H l (.tup ys))) ∨ (SqT K H p ys ∧ Q (.ref p) H))
theorem ctuple (e : X.K = K) : CallR X (.type "tuple") (rTupQ K) := e ▸ call_tuple_of
theorem cisi (e : X.K = K) : CallR X (.builtin "isinstance") (rIsi K) := e ▸ call_isi
theorem cisiT (e : X.K = K) : CallR X (.builtin "isinstance") (rIsiT K) := e ▸ call_isiT
theorem csum (e : X.K = K) (hc : X.calm = true) : CallR X (.builtin "sum") (rSum K) := e ▸ cr_sum hc
theorem cany (e : X.K = K) (hc : X.calm = true) : CallR X (.builtin "any") (rAny K) := e ▸ cr_any hc
theorem call_ (e : X.K = K) (hc : X.calm = true) : CallR X (.builtin "all") (rAll K) := e ▸ cr_all hc
theorem cmax (e : X.K = K) (hc : X.calm = true) : CallR X (.builtin "max") (rMax K) := e ▸ cr_max hc
theorem cmin (e : X.K = K) (hc : X.calm = true) : CallR X (.builtin "min") (rMin K) := e ▸ cr_min hc
def rJoinQ (K : PySem.W.Frag) : V → List V → Hp → VK → Prop := fun x xs H Q => ∃ a p, ∃ ys : List Str, x = .str a ∧ xs = [.ref p] ∧ (SqL K H p (ys.map V.str) ∨ SqT K H p (ys.map V.str)) ∧ (ys.map (·.length)).sum + ys.length * a.length ≤ 16777216 ∧ Q (.str (Txt.join a ys)) H
theorem mjoin (e : X.K = K) : MtR X "str.join" (rJoinQ K) := e ▸ mt_join
section
variable {T name id : String} {r : V → List V → Hp → VK → Prop} {o e : Expr} {es : List Expr} {to : TE} {t : TA} {apos cpos : Pos}
theorem pbm (q : X.K = K) (pa : PlainAttrs T) (slot : Slot T name id) (hty : typeOf (.builtin id) = pure (.type "method_descriptor")) (hm : MtR X id r) (ho : PE X o to) (ha : PA X (e :: es) t)
    (hbase : attributeBase o name X.env (eval o X.env) = eval o X.env := by rfl) (hfew : ((backTo cpos (starEach (e :: es) X.env)).all (fun x => !x.1) && (backToKw cpos (keywordEach [] X.env)).all (fun x => x.1.isSome) && decide ((e :: es).length + ([] : List Keyword).length + (if ([] : List Keyword).isEmpty then 0 else 1) < 30)) = true := by rfl)
    (hline : (apos.endLine == cpos.line) = true := by rfl) (hs :
    starEach (e :: es) X.env = (false, eval e X.env) :: starEach es X.env := by rfl) (hplain : (backTo cpos (starEach es X.env)).any (·.1) = false := by rfl) :
    PE X (.Call (.Attribute o name apos) (e :: es) [] cpos) (tBM K T r to t) := q ▸ pe_bm pa slot hty hm ho ha hbase hfew hline hs hplain
theorem pbm0 (q : X.K = K) (pa : PlainAttrs T) (slot : Slot T name id) (hty : typeOf (.builtin id) = pure (.type "method_descriptor")) (hm : MtR X id r) (ho : PE X o to)
    (hbase : attributeBase o name X.env (eval o X.env) = eval o X.env := by rfl) (hline : (apos.endLine == cpos.line) = true := by rfl) :
    PE X (.Call (.Attribute o name apos) [] [] cpos) (tBM0 K T r to) := q ▸ pe_bm0 pa slot hty hm ho hbase hline
end
def tTruQ (K : PySem.W.Frag) (ta : TE) : TT := fun σ H Q => ta σ H fun x G => ∃ k, TruV K x G k ∧ Q k G
theorem ptru {a : Expr} {ta : TE} (e : X.K = K) (ha : PE X a ta) (he : ∀ whole, isTrue a X.env whole = (do let v ← whole; standAt a.pos; holding [v] (truthy v))) : PT X a (tTruQ K ta) := e ▸ pt_truth ha he
theorem piL {tg l : Expr} {tl : TE} (e : X.K = K) (h : PE X l tl) (hs : ∀ x, foldedSetIterable l X.env x = pure x := by intro _; rfl) : PI X tg l (iList K tl) := e ▸ pi_list h
theorem piT {tg l : Expr} {tl : TE} (e : X.K = K) (h : PE X l tl) : PI X tg l (iTup K tl) := e ▸ pi_tup h
theorem pgT {es : List Expr} {k : Nat} {t : TGs} {n : Nat} {pos : Pos} (e : X.K = K) (hc : X.calm = true) (h : PGs X es t) (hn : (assignEach es X.env).length = n := by rfl)
    (hst : (assignEach es X.env).findIdx? (·.1) = none := by rfl) : PG X (.Tuple es k pos) (gTup K n t) := e ▸ pg_tup hc h hn hst
theorem prevL {e : Expr} {te : TE} {k : Nat} {p1 p2 p3 pos : Pos} (q : X.K = K) (he : PE X e te) : PE X (.Subscript e (.Slice none none (some (.UnaryOp .USub (.Constant (.int 1) k p1) p2)) p3) pos) (tRevL K te) := q ▸ pe_revL he
end
end L2
namespace L2
open PySem PySem.Spec PyProof.Rows
/-- isinstance(e, c), e what the suite holds, of the class at D and without a dict -/
def rIsX (K : PySem.W.Frag) (D a : Addr) (cls : Value) (d : Option Addr) : List V → Hp → VK → Prop := fun xs H Q => cls = .ref D ∧ d = none ∧ rIsE K D a xs H Q
theorem cisE {X : Cx} {K : PySem.W.Frag} {a D : Addr} {cls : Value} {d : Option Addr} {oe : Obj} {pn : List (Addr × Obj)} (q : X.K = K) (C : ExcC K D) (hz : Zc cls d oe) (hf : ∃ vs, oe.data = .fields vs) :
    CallR (X.suite a ((a, oe) :: pn)) (.builtin "isinstance") (rIsX K D a cls d) := by
  subst q
  rintro pins s σ H vs us Q I r ⟨rfl, rfl, word⟩
  exact call_isE C hz hf pins s σ H vs us Q I r word
end L2
/-! Rows as lists of codes: undoing, dropping neighbours, nets. -/
namespace RB
/-- the undoing of a letter (other signs stay) -/
def sw (c : Nat) : Nat := if 65 ≤ c ∧ c ≤ 90 then c + 32 else if 97 ≤ c ∧ c ≤ 122 then c - 32 else c
/-- a letter a to z or A to Z -/
def IsL (c : Nat) : Prop := (65 ≤ c ∧ c ≤ 90) ∨ (97 ≤ c ∧ c ≤ 122)
instance (c : Nat) : Decidable (IsL c) := by unfold IsL; infer_instance
theorem sw_sw {c : Nat} (h : IsL c) : sw (sw c) = c := by
  unfold IsL at h; unfold sw; split <;> split <;> (try split) <;> omega
theorem sw_L {c : Nat} (h : IsL c) : IsL (sw c) := by
  unfold IsL at *; unfold sw; split <;> (try split) <;> omega
theorem sw_ne {c : Nat} (h : IsL c) : sw c ≠ c := by
  unfold IsL at h; unfold sw; split <;> (try split) <;> omega
theorem sw_eq {a b : Nat} (ha : IsL a) (hb : IsL b) : a = sw b ↔ b = sw a :=
  ⟨fun e => by rw [e, sw_sw hb], fun e => by rw [e, sw_sw ha]⟩
/-- a row -/
def Ls (l : List Nat) : Prop := ∀ c ∈ l, IsL c
instance (l : List Nat) : Decidable (Ls l) := inferInstanceAs (Decidable (∀ c ∈ l, IsL c))
theorem Ls.nil : Ls [] := fun _ h => nomatch h
theorem Ls.app {a b : List Nat} (ha : Ls a) (hb : Ls b) : Ls (a ++ b) := fun c h => by
  rcases List.mem_append.mp h with z | z
  · exact ha c z
  · exact hb c z
theorem Ls.left {a b : List Nat} (h : Ls (a ++ b)) : Ls a := fun c hc => h c (List.mem_append_left _ hc)
theorem Ls.right {a b : List Nat} (h : Ls (a ++ b)) : Ls b := fun c hc => h c (List.mem_append_right _ hc)
theorem Ls.cons {x : Nat} {b : List Nat} (hx : IsL x) (hb : Ls b) : Ls (x :: b) := fun c h => by
  rcases List.mem_cons.mp h with h | h
  · rw [h]; exact hx
  · exact hb c h
theorem Ls.head {x : Nat} {b : List Nat} (h : Ls (x :: b)) : IsL x := h x List.mem_cons_self
theorem Ls.tail {x : Nat} {b : List Nat} (h : Ls (x :: b)) : Ls b := fun c hc => h c (List.mem_cons_of_mem _ hc)
theorem Ls.one {x : Nat} (hx : IsL x) : Ls [x] := Ls.cons hx Ls.nil
theorem Ls.rev {a : List Nat} (h : Ls a) : Ls a.reverse := fun c hc => h c (List.mem_reverse.mp hc)
theorem Ls.take {a : List Nat} (h : Ls a) (n : Nat) : Ls (a.take n) := fun c hc => h c (List.mem_of_mem_take hc)
theorem Ls.drop {a : List Nat} (h : Ls a) (n : Nat) : Ls (a.drop n) := fun c hc => h c (List.mem_of_mem_drop hc)
/-- the undoings of the letters, from the last to the first -/
def inv (l : List Nat) : List Nat := (l.map sw).reverse
theorem inv_len (l : List Nat) : (inv l).length = l.length := by unfold inv; rw [List.length_reverse, List.length_map]
theorem Ls.inv {a : List Nat} (h : Ls a) : Ls (inv a) := by
  intro c hc
  unfold RB.inv at hc
  rw [List.mem_reverse, List.mem_map] at hc
  obtain ⟨d, hd, e⟩ := hc
  rw [← e]; exact sw_L (h d hd)
theorem inv_inv {a : List Nat} (h : Ls a) : inv (inv a) = a := by
  unfold inv
  rw [List.map_reverse, List.reverse_reverse, List.map_map]
  conv => rhs; rw [← List.map_id a]
  exact List.map_congr_left fun c hc => sw_sw (h c hc)
theorem inv_app (a b : List Nat) : inv (a ++ b) = inv b ++ inv a := by
  unfold inv; rw [List.map_append, List.reverse_append]
theorem inv_cons (x : Nat) (b : List Nat) : inv (x :: b) = inv b ++ [sw x] := by
  unfold inv; rw [List.map_cons, List.reverse_cons]
/-- one letter more behind what is kept (the last one first) -/
def push (st : List Nat) (c : Nat) : List Nat := match st with
  | [] => [c]
  | t :: r => if t = sw c then r else c :: t :: r
/-- what is kept of a row, the last letter first -/
def kst (l : List Nat) : List Nat := l.foldl push []
/-- the net -/
def red (l : List Nat) : List Nat := (kst l).reverse
/-- no letter stands next to its undoing (whichever way it is read) -/
def NoPair : List Nat → Prop
  | x :: y :: r => y ≠ sw x ∧ NoPair (y :: r)
  | _ => True
theorem NoPair.tail {x : Nat} {r : List Nat} (h : NoPair (x :: r)) : NoPair r := by
  cases r with
  | nil => trivial
  | cons y r => exact h.2
theorem push_L {st : List Nat} {c : Nat} (h : Ls st) (hc : IsL c) : Ls (push st c) := by
  unfold push
  cases st with
  | nil => exact Ls.one hc
  | cons t r =>
    dsimp only
    split
    · exact h.tail
    · exact Ls.cons hc h
theorem push_np {st : List Nat} {c : Nat} (hL : Ls st) (hc : IsL c) (h : NoPair st) : NoPair (push st c) := by
  unfold push
  cases st with
  | nil => trivial
  | cons t r =>
    dsimp only
    split
    · exact h.tail
    · rename_i e
      exact ⟨e, h⟩
theorem foldl_L {l st : List Nat} (h : Ls st) (hl : Ls l) : Ls (l.foldl push st) := by
  induction l generalizing st with
  | nil => exact h
  | cons c l ih => exact ih (push_L h hl.head) hl.tail
theorem foldl_np {l st : List Nat} (h : Ls st) (hl : Ls l) (n : NoPair st) : NoPair (l.foldl push st) := by
  induction l generalizing st with
  | nil => exact n
  | cons c l ih => exact ih (push_L h hl.head) hl.tail (push_np h hl.head n)
theorem kst_L {l : List Nat} (h : Ls l) : Ls (kst l) := foldl_L Ls.nil h
theorem kst_np {l : List Nat} (h : Ls l) : NoPair (kst l) := foldl_np Ls.nil h trivial
theorem push_push {st : List Nat} {c : Nat} (hL : Ls st) (hc : IsL c) (h : NoPair st) : push (push st c) (sw c) = st := by
  cases st with
  | nil =>
    show push [c] (sw c) = []
    unfold push
    dsimp only
    rw [if_pos (sw_sw hc).symm]
  | cons t r =>
    by_cases e : t = sw c
    · have e1 : push (t :: r) c = r := if_pos e
      rw [e1]
      cases r with
      | nil =>
        show [sw c] = [t]
        rw [e]
      | cons u r =>
        have n1 : u ≠ sw t := h.1
        have n2 : ¬ u = sw (sw c) := by rw [← e]; exact n1
        show (if u = sw (sw c) then r else sw c :: u :: r) = t :: u :: r
        rw [if_neg n2, e]
    · have e1 : push (t :: r) c = c :: t :: r := if_neg e
      rw [e1]
      show (if c = sw (sw c) then t :: r else _) = t :: r
      rw [if_pos (sw_sw hc).symm]
theorem kst_app (a b : List Nat) : kst (a ++ b) = b.foldl push (kst a) := List.foldl_append
theorem kst_pair {u v : List Nat} {x : Nat} (hu : Ls u) (hx : IsL x) : kst (u ++ x :: sw x :: v) = kst (u ++ v) := by
  rw [kst_app, kst_app]
  show v.foldl push (push (push (kst u) x) (sw x)) = _
  rw [push_push (kst_L hu) hx (kst_np hu)]
theorem red_pair {u v : List Nat} {x : Nat} (hu : Ls u) (hx : IsL x) : red (u ++ x :: sw x :: v) = red (u ++ v) := by
  unfold red; rw [kst_pair hu hx]
theorem red_turn {m u v : List Nat} (hu : Ls u) (hm : Ls m) : red (u ++ m ++ inv m ++ v) = red (u ++ v) := by
  induction m generalizing u v with
  | nil => simp [inv]
  | cons x m ih =>
    have h1 := ih (u := u ++ [x]) (v := sw x :: v) (hu.app (Ls.one hm.head)) hm.tail
    have e : u ++ x :: m ++ inv (x :: m) ++ v = u ++ [x] ++ m ++ inv m ++ sw x :: v := by
      rw [inv_cons]; simp
    rw [e, h1]
    have e2 : u ++ [x] ++ sw x :: v = u ++ x :: sw x :: v := by simp
    rw [e2, red_pair hu hm.head]
theorem red_turn' {m u v : List Nat} (hu : Ls u) (hm : Ls m) : red (u ++ inv m ++ m ++ v) = red (u ++ v) := by
  have h := red_turn (m := inv m) (u := u) (v := v) hu hm.inv
  rw [inv_inv hm] at h
  exact h
theorem foldl_np_id : ∀ {l st : List Nat}, Ls l → Ls st → NoPair (l.reverse ++ st) → l.foldl push st = l.reverse ++ st
  | [], _, _, _, _ => rfl
  | c :: l, st, hl, hs, h => by
    have e : (c :: l).reverse ++ st = l.reverse ++ (c :: st) := by rw [List.reverse_cons]; simp
    rw [e] at h
    have hp : push st c = c :: st := by
      cases st with
      | nil => rfl
      | cons t r =>
        have : ∀ {a b : List Nat}, NoPair (a ++ b) → NoPair b := by
          intro a
          induction a with
          | nil => intro b z; exact z
          | cons y a ih => intro b z; exact ih z.tail
        have q := this h
        exact if_neg q.1
    show l.foldl push (push st c) = _
    rw [hp, foldl_np_id hl.tail (Ls.cons hl.head hs) h, e]
theorem NoPair.app_right : ∀ {a b : List Nat}, NoPair (a ++ b) → NoPair b
  | [], _, z => z
  | _ :: a, _, z => NoPair.app_right (a := a) z.tail
theorem NoPair.app_left : ∀ {a b : List Nat}, NoPair (a ++ b) → NoPair a
  | [], _, _ => trivial
  | [_], _, _ => trivial
  | x :: y :: a, b, z => ⟨z.1, NoPair.app_left (a := y :: a) (b := b) z.2⟩
/-- joined where the ends do not undo one another -/
theorem np_join : ∀ {a b : List Nat}, NoPair a → NoPair b → (∀ x y, a.getLast? = some x → b.head? = some y → y ≠ sw x) → NoPair (a ++ b)
  | [], _, _, hb, _ => hb
  | [x], [], _, _, _ => trivial
  | [x], y :: b, _, hb, h => ⟨h x y rfl rfl, hb⟩
  | x :: y :: a, b, ha, hb, h => ⟨ha.1, np_join (a := y :: a) ha.2 hb fun p q e1 e2 => h p q (by rw [List.getLast?_cons_cons]; exact e1) e2⟩
theorem np_rev : ∀ {l : List Nat}, Ls l → NoPair l → NoPair l.reverse
  | [], _, _ => trivial
  | [x], _, _ => trivial
  | x :: y :: l, hl, h => by
    rw [List.reverse_cons]
    refine np_join (np_rev hl.tail h.2) trivial fun p q e1 e2 => ?_
    rw [List.reverse_cons, List.getLast?_append, List.getLast?_singleton] at e1
    cases e1
    cases e2
    exact fun e => h.1 (by rw [e, sw_sw hl.tail.head])
theorem red_np {l : List Nat} (h : Ls l) : NoPair (red l) := np_rev (kst_L h) (kst_np h)
theorem red_L {l : List Nat} (h : Ls l) : Ls (red l) := (kst_L h).rev
/-- a row without neighbours that undo one another is its own net -/
theorem red_id {l : List Nat} (hl : Ls l) (h : NoPair l) : red l = l := by
  unfold red kst
  rw [foldl_np_id hl Ls.nil (by rw [List.append_nil]; exact np_rev hl h), List.append_nil, List.reverse_reverse]
theorem red_red {l : List Nat} (h : Ls l) : red (red l) = red l := red_id (red_L h) (red_np h)
theorem push_len (st : List Nat) (c : Nat) : (push st c).length ≤ st.length + 1 := by
  unfold push
  cases st with
  | nil => exact Nat.le_refl _
  | cons t r => dsimp only; split <;> simp <;> omega
theorem kst_len_aux : ∀ (l st : List Nat), (l.foldl push st).length ≤ st.length + l.length
  | [], st => Nat.le_refl _
  | c :: l, st => by
    have := kst_len_aux l (push st c)
    have := push_len st c
    show (l.foldl push (push st c)).length ≤ _
    rw [List.length_cons]; omega
theorem red_len (l : List Nat) : (red l).length ≤ l.length := by
  unfold red kst; rw [List.length_reverse]; have := kst_len_aux l []; simpa using this
/-- letters that stand next to their undoings, by place -/
theorem np_at : ∀ {l : List Nat} {i x y : Nat}, NoPair l → l[i]? = some x → l[i + 1]? = some y → y ≠ sw x
  | [], i, _, _, _, h, _ => by simp at h
  | [a], 0, _, _, _, _, h => by simp at h
  | [a], i + 1, _, _, _, h, _ => by simp at h
  | a :: b :: l, 0, x, y, n, h1, h2 => by
    cases h1; cases h2; exact n.1
  | a :: b :: l, i + 1, x, y, n, h1, h2 => np_at (l := b :: l) (i := i) n.2 h1 h2
theorem np_of_at : ∀ {l : List Nat}, (∀ i x y, l[i]? = some x → l[i + 1]? = some y → y ≠ sw x) → NoPair l
  | [], _ => trivial
  | [_], _ => trivial
  | a :: b :: l, h => ⟨h 0 a b rfl rfl, np_of_at (l := b :: l) fun i x y e1 e2 => h (i + 1) x y e1 e2⟩
/-- a pair that stands at i is taken out -/
theorem red_drop {l : List Nat} {i x : Nat} (hl : Ls l) (h1 : l[i]? = some x) (h2 : l[i + 1]? = some (sw x)) : red (l.take i ++ l.drop (i + 2)) = red l := by
  have hlen : i + 1 < l.length := by
    rcases Nat.lt_or_ge (i + 1) l.length with z | z
    · exact z
    · rw [List.getElem?_eq_none z] at h2; cases h2
  have e : l = l.take i ++ x :: sw x :: l.drop (i + 2) := by
    have a1 : l.drop i = x :: l.drop (i + 1) := by
      have : l[i]'(by omega) = x := by rw [List.getElem?_eq_getElem (by omega)] at h1; exact Option.some.inj h1
      rw [← this]; exact List.drop_eq_getElem_cons (by omega)
    have a2 : l.drop (i + 1) = sw x :: l.drop (i + 2) := by
      have : l[i + 1] = sw x := by rw [List.getElem?_eq_getElem hlen] at h2; exact Option.some.inj h2
      rw [← this]; exact List.drop_eq_getElem_cons hlen
    rw [← a2, ← a1, List.take_append_drop]
  have hx : IsL x := hl x (List.mem_of_getElem? h1)
  conv => rhs; rw [e]
  rw [red_pair (hl.take i) hx]
end RB
namespace RB
/-- a pair put in at a place -/
theorem red_put {l : List Nat} {i c : Nat} (hl : Ls l) (hc : IsL c) : red (l.take i ++ [c] ++ [sw c] ++ l.drop i) = red l := by
  have e : l.take i ++ [c] ++ [sw c] ++ l.drop i = l.take i ++ c :: sw c :: l.drop i := by simp
  rw [e, red_pair (hl.take i) hc, List.take_append_drop]
/-- the places where a letter stands ahead of its undoing -/
def pairsAt (l : List Nat) : List Nat := (List.range (l.length - 1)).filter fun i => decide (l[i + 1]? = (l[i]?).map sw)
theorem pairs_none {l : List Nat} (h : pairsAt l = []) : NoPair l := by
  refine np_of_at fun i x y h1 h2 e => ?_
  have hlen : i + 1 < l.length := by
    rcases Nat.lt_or_ge (i + 1) l.length with z | z
    · exact z
    · rw [List.getElem?_eq_none z] at h2; cases h2
  have : i ∈ pairsAt l := by
    unfold pairsAt
    rw [List.mem_filter]
    refine ⟨List.mem_range.mpr (by omega), decide_eq_true ?_⟩
    rw [h1, h2, e]; rfl
  rw [h] at this
  cases this
theorem pairs_some {l : List Nat} {i : Nat} (h : i ∈ pairsAt l) : i + 1 < l.length ∧ ∃ x, l[i]? = some x ∧ l[i + 1]? = some (sw x) := by
  unfold pairsAt at h
  rw [List.mem_filter] at h
  obtain ⟨h1, h2⟩ := h
  have h3 := List.mem_range.mp h1
  have h4 := of_decide_eq_true h2
  have hlen : i < l.length := by omega
  refine ⟨by omega, l[i], List.getElem?_eq_getElem hlen, ?_⟩
  rw [h4, List.getElem?_eq_getElem hlen]; rfl
theorem np_pairs {l : List Nat} (hl : Ls l) (h : NoPair l) : pairsAt l = [] := by
  cases e : pairsAt l with
  | nil => rfl
  | cons i r =>
    obtain ⟨_, x, h1, h2⟩ := pairs_some (l := l) (i := i) (by rw [e]; exact List.mem_cons_self)
    exact absurd rfl (np_at h h1 h2)
end RB
/-! Nets put together: what may stand for what. -/
namespace RB
/-- a may stand for b within any row -/
def Eqv (a b : List Nat) : Prop := ∀ u v, Ls u → red (u ++ a ++ v) = red (u ++ b ++ v)
theorem Eqv.refl (a : List Nat) : Eqv a a := fun _ _ _ => rfl
theorem Eqv.symm {a b : List Nat} (h : Eqv a b) : Eqv b a := fun u v hu => (h u v hu).symm
theorem Eqv.trans {a b c : List Nat} (h : Eqv a b) (k : Eqv b c) : Eqv a c := fun u v hu => (h u v hu).trans (k u v hu)
theorem Eqv.red {a b : List Nat} (h : Eqv a b) : RB.red a = RB.red b := by
  have := h [] [] Ls.nil
  simpa using this
theorem Eqv.app {a b c d : List Nat} (h : Eqv a b) (k : Eqv c d) (hb : Ls b) : Eqv (a ++ c) (b ++ d) := fun u v hu => by
  have e1 := h u (c ++ v) hu
  have e2 := k (u ++ b) v (hu.app hb)
  simp only [List.append_assoc] at *
  rw [e1, e2]
theorem eqv_pair {x : Nat} (hx : IsL x) : Eqv [x, sw x] [] := fun u v hu => by
  have := red_pair (v := v) hu hx
  simpa using this
theorem eqv_pair' {x : Nat} (hx : IsL x) : Eqv [sw x, x] [] := by
  have := eqv_pair (sw_L hx)
  rw [sw_sw hx] at this
  exact this
theorem eqv_push {st : List Nat} {c : Nat} (hs : Ls st) (hc : IsL c) : Eqv (st.reverse ++ [c]) (push st c).reverse := by
  cases st with
  | nil => exact Eqv.refl _
  | cons t r =>
    by_cases e : t = sw c
    · have e1 : push (t :: r) c = r := if_pos e
      rw [e1, e]
      have : (sw c :: r).reverse ++ [c] = r.reverse ++ [sw c, c] := by simp
      rw [this]
      have k := (Eqv.refl r.reverse).app (eqv_pair' hc) hs.tail.rev
      rw [List.append_nil] at k
      exact k
    · have e1 : push (t :: r) c = c :: t :: r := if_neg e
      rw [e1]
      have : (c :: t :: r).reverse = (t :: r).reverse ++ [c] := by simp
      rw [this]
      exact Eqv.refl _
theorem eqv_fold : ∀ (l st : List Nat), Ls st → Ls l → Eqv (st.reverse ++ l) (l.foldl push st).reverse
  | [], st, _, _ => by rw [List.append_nil]; exact Eqv.refl _
  | c :: l, st, hs, hl => by
    have e : st.reverse ++ c :: l = st.reverse ++ [c] ++ l := by simp
    rw [e]
    exact ((eqv_push hs hl.head).app (Eqv.refl l) (push_L hs hl.head).rev).trans (eqv_fold l (push st c) (push_L hs hl.head) hl.tail)
/-- a row may stand for its net -/
theorem eqv_red {l : List Nat} (h : Ls l) : Eqv l (RB.red l) := eqv_fold l [] Ls.nil h
theorem eqv_of {a b : List Nat} (ha : Ls a) (hb : Ls b) (h : RB.red a = RB.red b) : Eqv a b := (eqv_red ha).trans (h ▸ (eqv_red hb).symm)
theorem Eqv.inv {a b : List Nat} (ha : Ls a) (hb : Ls b) (h : Eqv a b) : Eqv (RB.inv a) (RB.inv b) := by
  -- inv a, then a for b, then b and inv b fall away
  have h1 : Eqv (RB.inv a ++ a ++ RB.inv b) (RB.inv b) := fun u v hu => by
    have := red_turn' (m := a) (u := u) (v := RB.inv b ++ v) hu ha
    simpa using this
  have h2 : Eqv (RB.inv a ++ (b ++ RB.inv b)) (RB.inv a) := fun u v hu => by
    have := red_turn (m := b) (u := u ++ RB.inv a) (v := v) (hu.app ha.inv) hb
    simpa using this
  have h3 : Eqv (RB.inv a ++ (b ++ RB.inv b)) (RB.inv a ++ a ++ RB.inv b) := by
    rw [List.append_assoc]
    exact (Eqv.refl _).app (h.symm.app (Eqv.refl _) ha) ha.inv
  exact h2.symm.trans (h3.trans h1)
theorem eqv_inv_r {a : List Nat} (ha : Ls a) : Eqv (a ++ RB.inv a) [] := fun u v hu => by
  have := red_turn (m := a) (u := u) (v := v) hu ha
  simpa using this
theorem eqv_inv_l {a : List Nat} (ha : Ls a) : Eqv (RB.inv a ++ a) [] := fun u v hu => by
  have := red_turn' (m := a) (u := u) (v := v) hu ha
  simpa using this
/-- the row so often -/
def rep (l : List Nat) : Nat → List Nat
  | 0 => []
  | n + 1 => l ++ rep l n
theorem rep_len (l : List Nat) : ∀ n, (rep l n).length = l.length * n
  | 0 => rfl
  | n + 1 => by show (l ++ rep l n).length = _; rw [List.length_append, rep_len l n, Nat.mul_succ]; omega
theorem Ls.rep {l : List Nat} (h : Ls l) : ∀ n, Ls (rep l n)
  | 0 => Ls.nil
  | n + 1 => h.app (Ls.rep h n)
theorem rep_snoc (l : List Nat) : ∀ n, rep l (n + 1) = rep l n ++ l
  | 0 => by show l ++ [] = [] ++ l; simp
  | n + 1 => by
    show l ++ rep l (n + 1) = (l ++ rep l n) ++ l
    rw [rep_snoc l n]; simp
theorem rep_add (l : List Nat) (m : Nat) : ∀ n, rep l (m + n) = rep l m ++ rep l n
  | 0 => by show rep l m = rep l m ++ []; simp
  | n + 1 => by
    have e : m + (n + 1) = (m + n) + 1 := by omega
    rw [e, rep_snoc, rep_add l m n, rep_snoc]; simp
theorem Eqv.rep {a b : List Nat} (h : Eqv a b) (hb : Ls b) : ∀ n, Eqv (RB.rep a n) (RB.rep b n)
  | 0 => Eqv.refl _
  | n + 1 => h.app (Eqv.rep h hb n) hb
theorem rep_rep (l : List Nat) : RB.rep l 1 = l := by show l ++ [] = l; simp
theorem inv_rep (l : List Nat) : ∀ n, inv (rep l n) = rep (inv l) n
  | 0 => rfl
  | n + 1 => by
    show inv (l ++ rep l n) = _
    rw [inv_app, inv_rep l n, rep_snoc]
/-- a net: its two ends that undo one another (a of them), and the core -/
structure Cut (l : List Nat) (a : Nat) : Prop where
  small : 2 * a ≤ l.length
  ends : ∀ i x, i < a → l[i]? = some x → l[l.length - 1 - i]? = some (sw x)
/-- the core may be repeated as it stands -/
def Core (c : List Nat) : Prop := c ≠ [] ∧ ∀ x y, c.getLast? = some x → c.head? = some y → y ≠ sw x
theorem cut_eq {l : List Nat} {a : Nat} (h : Cut l a) : l = l.take a ++ (l.drop a).take (l.length - 2 * a) ++ inv (l.take a) := by
  have hs := h.small
  have e1 : l.drop (l.length - a) = inv (l.take a) := by
    apply List.ext_getElem?
    intro i
    by_cases hi : i < a
    · have hx : l[a - 1 - i]? = some l[a - 1 - i] := List.getElem?_eq_getElem (by omega)
      have := h.ends (a - 1 - i) _ (by omega) hx
      rw [List.getElem?_drop]
      have e : l.length - 1 - (a - 1 - i) = l.length - a + i := by omega
      rw [e] at this
      rw [this]
      unfold inv
      rw [List.getElem?_reverse (by rw [List.length_map, List.length_take]; omega), List.getElem?_map, List.length_map, List.length_take, List.getElem?_take]
      have e2 : min a l.length - 1 - i = a - 1 - i := by omega
      rw [e2, if_pos (by omega), hx]; rfl
    · rw [List.getElem?_eq_none (by rw [List.length_drop]; omega), List.getElem?_eq_none (by rw [inv_len, List.length_take]; omega)]
  have e2 : l.drop a = (l.drop a).take (l.length - 2 * a) ++ l.drop (l.length - a) := by
    have := (List.take_append_drop (l.length - 2 * a) (l.drop a)).symm
    rw [List.drop_drop] at this
    have e : a + (l.length - 2 * a) = l.length - a := by omega
    rw [e] at this
    exact this
  rw [← e1, List.append_assoc, ← e2, List.take_append_drop]
theorem rep_np {c : List Nat} (h : Core c) (n : NoPair c) : ∀ k, NoPair (rep c k)
  | 0 => trivial
  | k + 1 => by
    refine np_join n (rep_np h n k) fun x y e1 e2 => ?_
    cases k with
    | zero => cases e2
    | succ k =>
      have : (rep c (k + 1)).head? = c.head? := by
        show (c ++ rep c k).head? = _
        cases c with
        | nil => exact absurd rfl h.1
        | cons a r => rfl
      rw [this] at e2
      exact h.2 x y e1 e2
theorem rep_head {c : List Nat} (h : c ≠ []) (k : Nat) : (rep c (k + 1)).head? = c.head? := by
  show (c ++ rep c k).head? = _
  cases c with
  | nil => exact absurd rfl h
  | cons a r => rfl
theorem rep_last {c : List Nat} (h : c ≠ []) (k : Nat) : (rep c (k + 1)).getLast? = c.getLast? := by
  rw [rep_snoc, List.getLast?_append]
  cases e : c.getLast? with
  | none => exact absurd (List.getLast?_eq_none_iff.mp e) h
  | some x => rfl
theorem rep_ne {c : List Nat} (h : c ≠ []) (k : Nat) : rep c (k + 1) ≠ [] := by
  intro z
  have e := congrArg List.length z
  rw [rep_len, List.length_nil] at e
  have p : 0 < c.length := List.length_pos_iff.mpr h
  have : 0 < c.length * (k + 1) := Nat.mul_pos p (by omega)
  omega
/-- put a net between other ends that fit as well -/
theorem np_between {s c c' e : List Nat} (hc : c ≠ []) (hc' : c' ≠ []) (h : NoPair (s ++ c ++ e)) (n : NoPair c') (e1 : c'.head? = c.head?) (e2 : c'.getLast? = c.getLast?) : NoPair (s ++ c' ++ e) := by
  have hs : NoPair s := (h.app_left).app_left
  have he : NoPair e := NoPair.app_right (a := s ++ c) h
  have j1 : ∀ x y, s.getLast? = some x → c.head? = some y → y ≠ sw x := by
    intro x y h1 h2
    obtain ⟨s', rfl⟩ := List.getLast?_eq_some_iff.mp h1
    cases c with
    | nil => exact absurd rfl hc
    | cons a r =>
      cases h2
      have : NoPair (s' ++ ([x] ++ y :: (r ++ e))) := by simpa using h
      exact (NoPair.app_right this).1
  have j2 : ∀ x y, c.getLast? = some x → e.head? = some y → y ≠ sw x := by
    intro x y h1 h2
    obtain ⟨s', rfl⟩ := List.getLast?_eq_some_iff.mp h1
    cases e with
    | nil => cases h2
    | cons a r =>
      cases h2
      have : NoPair ((s ++ s') ++ ([x] ++ y :: r)) := by simpa using h
      exact (NoPair.app_right this).1
  refine np_join (np_join hs n fun x y h1 h2 => j1 x y h1 (e1 ▸ h2)) he fun x y h1 h2 => ?_
  rw [List.getLast?_append] at h1
  cases q : c'.getLast? with
  | none => exact absurd (List.getLast?_eq_none_iff.mp q) hc'
  | some z =>
    rw [q] at h1
    cases h1
    exact j2 x y (e2 ▸ q) h2
/-- the power of a net, by its ends and its core -/
theorem rep_cut {s c : List Nat} (hs : Ls s) (hc : Ls c) (k : Core c) (n : NoPair (s ++ c ++ inv s)) (m : Nat) : red (rep (s ++ c ++ inv s) (m + 1)) = s ++ rep c (m + 1) ++ inv s := by
  have e : ∀ m, Eqv (rep (s ++ c ++ inv s) (m + 1)) (s ++ rep c (m + 1) ++ inv s) := by
    intro m
    induction m with
    | zero => rw [rep_rep, rep_rep]; exact Eqv.refl _
    | succ m ih =>
      have h1 : Eqv (rep (s ++ c ++ inv s) (m + 1 + 1)) ((s ++ c ++ inv s) ++ (s ++ rep c (m + 1) ++ inv s)) := (Eqv.refl _).app ih ((hs.app hc).app hs.inv)
      refine h1.trans ?_
      have h2 : (s ++ c ++ inv s) ++ (s ++ rep c (m + 1) ++ inv s) = (s ++ c) ++ ((inv s ++ s) ++ (rep c (m + 1) ++ inv s)) := by simp
      have h3 : s ++ rep c (m + 1 + 1) ++ inv s = (s ++ c) ++ ([] ++ (rep c (m + 1) ++ inv s)) := by
        show s ++ (c ++ rep c (m + 1)) ++ inv s = _
        simp
      rw [h2, h3]
      exact (Eqv.refl _).app ((eqv_inv_l hs).app (Eqv.refl _) Ls.nil) (hs.app hc)
  rw [(e m).red]
  refine red_id ((hs.app (hc.rep _)).app hs.inv) ?_
  exact np_between k.1 (rep_ne k.1 m) n (rep_np k (NoPair.app_right (a := s) n.app_left) _) (rep_head k.1 m) (rep_last k.1 m)
end RB
namespace RB
/-- the ends can't be taken any further -/
def Stop (l : List Nat) (a : Nat) : Prop := ∀ x y, 2 * a + 1 < l.length → l[a]? = some x → l[l.length - 1 - a]? = some y → y ≠ sw x
def mid (l : List Nat) (a : Nat) : List Nat := (l.drop a).take (l.length - 2 * a)
theorem mid_len {l : List Nat} {a : Nat} (h : 2 * a ≤ l.length) : (mid l a).length = l.length - 2 * a := by
  unfold mid; rw [List.length_take, List.length_drop]; omega
theorem core_of {l : List Nat} {a : Nat} (hl : Ls l) (n : NoPair l) (h0 : l ≠ []) (c : Cut l a) (s : Stop l a) : Core (mid l a) := by
  have hs := c.small
  have ml := mid_len hs
  have pos : 0 < l.length := List.length_pos_iff.mpr h0
  have ne : mid l a ≠ [] := by
    intro z
    have e0 : l.length = 2 * a := by rw [z] at ml; simp at ml; omega
    have hx : l[a - 1]? = some l[a - 1] := List.getElem?_eq_getElem (by omega)
    have := c.ends (a - 1) _ (by omega) hx
    have e : l.length - 1 - (a - 1) = a - 1 + 1 := by omega
    rw [e] at this
    exact np_at n hx this rfl
  refine ⟨ne, fun x y e1 e2 => ?_⟩
  have h1 : (mid l a).head? = l[a]? := by
    rw [List.head?_eq_getElem?]
    unfold mid
    rw [List.getElem?_take, if_pos (by have := List.length_pos_iff.mpr ne; omega), List.getElem?_drop]; rfl
  have h2 : (mid l a).getLast? = l[l.length - 1 - a]? := by
    rw [List.getLast?_eq_getElem?, ml]
    unfold mid
    have := List.length_pos_iff.mpr ne
    rw [List.getElem?_take, if_pos (by omega), List.getElem?_drop]
    congr 1; omega
  rw [h1] at e2
  rw [h2] at e1
  by_cases big : 2 * a + 1 < l.length
  · intro z
    have hx : IsL x := hl x (List.mem_of_getElem? e1)
    exact s y x big e2 e1 (by rw [z, sw_sw hx])
  · have e : l.length - 1 - a = a := by have := List.length_pos_iff.mpr ne; omega
    rw [e, e2] at e1
    cases e1
    exact fun z => sw_ne (hl _ (List.mem_of_getElem? e2)) z.symm
/-- the net so often: below 0 the undone one -/
def pw (l : List Nat) (i : Int) : List Nat := if i < 0 then red (rep (inv l) (-i).toNat) else red (rep l i.toNat)
theorem cut_rep {t : List Nat} {a n : Nat} (ht : Ls t) (np : NoPair t) (h0 : t ≠ []) (c : Cut t a) (s : Stop t a) : red (rep t (n + 1)) = t.take a ++ rep (mid t a) (n + 1) ++ inv (t.take a) := by
  have e := cut_eq c
  have hm : Ls (mid t a) := (ht.drop a).take _
  have k := core_of ht np h0 c s
  have e2 : t = t.take a ++ mid t a ++ inv (t.take a) := e
  have np2 : NoPair (t.take a ++ mid t a ++ inv (t.take a)) := by rw [← e2]; exact np
  have := rep_cut (ht.take a) hm k np2 n
  rw [← e2] at this
  exact this
theorem rep_red {l : List Nat} (h : Ls l) (n : Nat) : red (rep (red l) n) = red (rep l n) := (((eqv_red h).symm).rep h n).red
theorem inv_red {l : List Nat} (h : Ls l) : red (inv (red l)) = red (inv l) := ((eqv_red h).inv h (red_L h)).symm.red
end RB
/-! Texts as lists of codes. -/
namespace RB
open PySem PySem.Builtin PySem.Builtin.Str PyProof.Rows L2
def S (l : List Nat) : Str := ⟨l.toArray⟩
theorem S_list (l : List Nat) : (S l).cps.toList = l := rfl
theorem S_len (l : List Nat) : (S l).length = l.length := by show l.toArray.size = _; simp
theorem S_inj {a b : List Nat} (h : S a = S b) : a = b := by
  have := congrArg (fun x : Str => x.cps.toList) h
  exact this
theorem S_eq {a b : List Nat} : S a = S b ↔ a = b := ⟨S_inj, fun h => by rw [h]⟩
theorem V_eq {a b : List Nat} : (V.str (S a) = V.str (S b)) ↔ a = b := ⟨fun h => S_inj (by cases h; rfl), fun h => by rw [h]⟩
theorem dec_eq {a b : List Nat} : decide (V.str (S a) = V.str (S b)) = decide (a = b) := by
  by_cases h : a = b
  · rw [decide_eq_true h, decide_eq_true (V_eq.mpr h)]
  · rw [decide_eq_false h, decide_eq_false (fun z => h (V_eq.mp z))]
theorem S_of (z : Str) : ∃ l, z = S l := ⟨z.cps.toList, by cases z; rfl⟩
theorem S_app (a b : List Nat) : S a ++ S b = S (a ++ b) := by
  show (⟨a.toArray ++ b.toArray⟩ : Str) = ⟨(a ++ b).toArray⟩
  simp
theorem S_rev (l : List Nat) : revS (S l) = S l.reverse := rfl
theorem sIx_nat (n d : Nat) (i : Nat) : HT.sIx n d (some (i : Int)) = min i n := HT.sIx_nat n d i
theorem cut_to (l : List Nat) (i : Nat) : cutS (S l) none (some (i : Int)) = S (l.take i) := by
  unfold cutS
  rw [HT.sIx_none, sIx_nat, S_len]
  show (⟨((l.drop 0).take (min i l.length - 0)).toArray⟩ : Str) = ⟨(l.take i).toArray⟩
  rw [List.drop_zero, Nat.sub_zero]
  congr 2
  rcases Nat.le_total i l.length with h | h
  · rw [Nat.min_eq_left h]
  · rw [Nat.min_eq_right h, List.take_length, List.take_of_length_le h]
theorem cut_from (l : List Nat) (i : Nat) : cutS (S l) (some (i : Int)) none = S (l.drop i) := by
  unfold cutS
  rw [HT.sIx_none, sIx_nat, S_len]
  show (⟨((l.drop (min i l.length)).take (l.length - min i l.length)).toArray⟩ : Str) = ⟨(l.drop i).toArray⟩
  congr 2
  rcases Nat.le_total i l.length with h | h
  · rw [Nat.min_eq_left h]; exact List.take_of_length_le (by rw [List.length_drop]; exact Nat.le_refl _)
  · rw [Nat.min_eq_right h, List.drop_length, List.drop_of_length_le h]; simp
theorem cut_mid (l : List Nat) (i j : Nat) : cutS (S l) (some (i : Int)) (some (j : Int)) = S ((l.drop i).take (j - i)) := by
  unfold cutS
  rw [sIx_nat, sIx_nat, S_len]
  show (⟨((l.drop (min i l.length)).take (min j l.length - min i l.length)).toArray⟩ : Str) = ⟨((l.drop i).take (j - i)).toArray⟩
  congr 2
  rcases Nat.le_total i l.length with h | h
  · rw [Nat.min_eq_left h]
    rcases Nat.le_total j l.length with h2 | h2
    · rw [Nat.min_eq_left h2]
    · rw [Nat.min_eq_right h2, List.take_of_length_le (by rw [List.length_drop]; exact Nat.le_refl _), List.take_of_length_le (by rw [List.length_drop]; omega)]
  · rw [Nat.min_eq_right h, List.drop_length, List.drop_of_length_le h]; simp
/-! ### signs of the first half -/
def Asc (l : List Nat) : Prop := ∀ c ∈ l, c < 128
instance (l : List Nat) : Decidable (Asc l) := inferInstanceAs (Decidable (∀ c ∈ l, c < 128))
theorem Ls.asc {l : List Nat} (h : Ls l) : Asc l := fun c hc => by
  have := h c hc
  unfold IsL at this
  omega
theorem up_asc {l : List Nat} (h : Asc l) : Txt.upper (S l) = S (l.map up1) := by
  rw [upper_ascii (x := S l) h]; show (⟨l.toArray.map up1⟩ : Str) = ⟨(l.map up1).toArray⟩; simp
theorem lo_asc {l : List Nat} (h : Asc l) : Txt.lower (S l) = S (l.map lo1) := by
  rw [lower_ascii (x := S l) h]; show (⟨l.toArray.map lo1⟩ : Str) = ⟨(l.map lo1).toArray⟩; simp
theorem isU_asc : ∀ c, c < 128 → Unicode.isUpper c = decide (65 ≤ c ∧ c ≤ 90) := by decide +kernel
theorem isLo_asc : ∀ c, c < 128 → Unicode.isLower c = decide (97 ≤ c ∧ c ≤ 122) := by decide +kernel
theorem isTi_asc : ∀ c, c < 128 → Unicode.isTitle c = false := by decide +kernel
theorem isAl_asc : ∀ c, c < 128 → Unicode.isAlpha c = decide (IsL c) := by decide +kernel
theorem lowerAt_asc {x : Array Nat} {i c : Nat} (h : x[i]? = some c) (hc : c < 128) : Unicode.lowerAt x i = [lo1 c] := by
  unfold Unicode.lowerAt
  rw [h]
  have e : (c == 0x3A3) = false := beq_eq_false_iff_ne.mpr (by omega)
  simp only [e, Bool.false_and, Bool.false_eq_true, if_false]
  exact lowerOf_ascii c hc
theorem swap_asc {l : List Nat} (h : Asc l) : Txt.swapcase (S l) = S (l.map sw) := by
  have e := placed_single (S l) (fun i c => if Unicode.isUpper c then Unicode.lowerAt (S l).cps i else if Unicode.isLower c then Unicode.upperOf c else [c]) sw fun i c hc => by
    have hlt : c < 128 := h c (List.mem_of_getElem? hc)
    have hx : (S l).cps[i]? = some c := by simpa [S] using hc
    rw [isU_asc c hlt, isLo_asc c hlt, lowerAt_asc hx hlt, upperOf_ascii c hlt]
    unfold sw lo1 up1
    by_cases h1 : 65 ≤ c ∧ c ≤ 90
    · simp [h1]
    · by_cases h2 : 97 ≤ c ∧ c ≤ 122
      · simp [h1, h2]
      · simp [h1, h2]
  show (⟨placed (S l) _⟩ : Str) = _
  rw [e]
  show (⟨l.toArray.map sw⟩ : Str) = ⟨(l.map sw).toArray⟩
  simp
theorem asc_iff (l : List Nat) : Txt.isascii (S l) = decide (Asc l) := by
  unfold Txt.isascii
  show l.toArray.all _ = _
  rw [List.all_toArray]
  by_cases h : Asc l
  · rw [decide_eq_true h, List.all_eq_true]
    intro c hc; exact decide_eq_true (h c hc)
  · rw [decide_eq_false h, Bool.eq_false_iff]
    intro z; rw [List.all_eq_true] at z
    exact h fun c hc => of_decide_eq_true (z c hc)
theorem alpha_asc {l : List Nat} (h : Asc l) : Txt.isalpha (S l) = (decide (l ≠ []) && decide (Ls l)) := by
  unfold Txt.isalpha
  have e : (S l).cps.all Unicode.isAlpha = decide (Ls l) := by
    show l.toArray.all _ = _
    rw [List.all_toArray]
    by_cases q : Ls l
    · rw [decide_eq_true q, List.all_eq_true]
      intro c hc; rw [isAl_asc c (h c hc)]; exact decide_eq_true (q c hc)
    · rw [decide_eq_false q, Bool.eq_false_iff]
      intro z; rw [List.all_eq_true] at z
      refine q fun c hc => ?_
      have := z c hc
      rw [isAl_asc c (h c hc)] at this
      exact of_decide_eq_true this
  rw [e, S_len]
  cases l with
  | nil => rfl
  | cons a r => simp
theorem islo_one {c : Nat} (h : c < 128) : Txt.islower (S [c]) = decide (97 ≤ c ∧ c ≤ 122) := by
  unfold Txt.islower
  show ((#[c] : Array Nat).any Unicode.isLower && !(#[c] : Array Nat).any _) = _
  have e1 : (#[c] : Array Nat).any Unicode.isLower = Unicode.isLower c := by simp
  have e2 : (#[c] : Array Nat).any (fun c => Unicode.isUpper c || Unicode.isTitle c) = (Unicode.isUpper c || Unicode.isTitle c) := by simp
  rw [e1, e2, isLo_asc c h, isU_asc c h, isTi_asc c h]
  by_cases h2 : 97 ≤ c ∧ c ≤ 122
  · have h3 : ¬ (65 ≤ c ∧ c ≤ 90) := by omega
    simp [h2, h3]
  · simp [h2]
theorem fold_nil : ∀ (ls : List (List Nat)) (acc : Array Nat), (ls.map S).foldl (fun acc p => acc ++ (S []).cps ++ p.cps) acc = acc ++ ls.flatten.toArray
  | [], acc => by simp
  | a :: r, acc => by
    rw [List.map_cons, List.foldl_cons, fold_nil r]
    show (acc ++ #[] ++ a.toArray) ++ _ = _
    simp
theorem join_nil (ls : List (List Nat)) : Txt.join (S []) (ls.map S) = S ls.flatten := by
  show glued (S []) (ls.map S) = _
  cases ls with
  | nil => rfl
  | cons a r =>
    show (⟨(r.map S).foldl (fun acc p => acc ++ (S []).cps ++ p.cps) (S a).cps⟩ : Str) = _
    rw [fold_nil]
    show (⟨a.toArray ++ r.flatten.toArray⟩ : Str) = ⟨(a :: r).flatten.toArray⟩
    simp
end RB
/-! Rules: a text so often, < of data, a loop over a list or a tuple, isinstance of what is held with several classes. -/
namespace RB
open PySem PySem.Spec PyProof.Rows L2
theorem rep_fold (l : List Nat) : ∀ (n : Nat) (acc : Array Nat), (List.replicate n (S l).cps).foldl (· ++ ·) acc = acc ++ (rep l n).toArray
  | 0, acc => by show acc = acc ++ #[]; simp
  | n + 1, acc => by
    rw [List.replicate_succ, List.foldl_cons, rep_fold l n]
    show acc ++ l.toArray ++ (rep l n).toArray = acc ++ (l ++ rep l n).toArray
    simp
/-- text * number -/
def rRepS : R2 := fun x y H Q => ∃ (l : List Nat) (n : Nat), x = .str (S l) ∧ y = .int (n : Nat) ∧ n < 2 ^ 62 ∧ l.length * n ≤ 16777216 ∧ Q (.str (S (rep l n))) H
theorem op_repS {X : Cx} : OpR X (binaryOp .Mult) rRepS := by
  rintro pins s σ H x y v u Q I rx ry ⟨l, n, rfl, rfl, hn, fits, goal⟩
  obtain ⟨t, rfl⟩ := rx
  obtain ⟨t2, rfl⟩ := ry
  have hlen : (S l).length = l.length := S_len l
  refine P.mul_str ?_ (fun h1 _ => ?_) (fun _ _ => ?_) ?_
  · have h1 : ¬ ((n : Int) < -(2 ^ 63)) := by omega
    have h2 : ¬ ((n : Int) ≥ 2 ^ 63) := by omega
    rw [decide_eq_false h1, decide_eq_false h2]; rfl
  · rw [hlen]
    refine Int.not_lt.mpr ?_
    refine (Int.le_ediv_iff_mul_le (by omega)).mpr ?_
    have : ((l.length * n : Nat) : Int) ≤ (16777216 : Nat) := Int.ofNat_le.mpr fits
    have e : ((l.length : Nat) : Int) * (n : Nat) = ((l.length * n : Nat) : Int) := (Int.natCast_mul _ _).symm
    rw [e]; omega
  · rw [hlen, Int.toNat_natCast]; exact short24 fits
  · by_cases h1 : (n : Int) < 1
    · have n0 : n = 0 := by omega
      subst n0
      rw [if_pos h1]
      exact ⟨by decide, .str _, H, I.tok _, ⟨_, rfl⟩, goal⟩
    · rw [if_neg h1]
      by_cases h2 : ((n : Int) == 1 || (S l).length == 0) = true
      · rw [if_pos h2]
        have e : rep l n = l := by
          rcases Bool.or_eq_true_iff.mp h2 with z | z
          · have : n = 1 := by have := beq_iff_eq.mp z; omega
            rw [this, rep_rep]
          · have : l.length = 0 := by have := beq_iff_eq.mp z; rw [hlen] at this; exact this
            have : l = [] := List.length_eq_zero_iff.mp this
            subst this
            refine List.length_eq_zero_iff.mp ?_
            rw [rep_len]; simp
        rw [e] at goal
        exact ⟨.str _, H, I, ⟨t, rfl⟩, goal⟩
      · rw [if_neg h2]
        have e : (⟨(List.replicate ((n : Int).toNat) (S l).cps).foldl (· ++ ·) #[]⟩ : Str) = S (rep l n) := by
          rw [show ((n : Int).toNat) = n from Int.toNat_natCast n, rep_fold]
          show (⟨#[] ++ (rep l n).toArray⟩ : Str) = ⟨(rep l n).toArray⟩
          simp
        rw [e]
        refine ⟨?_, .str _, H, I.tok _, ⟨_, rfl⟩, goal⟩
        rw [S_len, rep_len]
        exact Nat.le_trans fits (by decide)
end RB
namespace L2
open PySem PySem.Spec PyProof.Rows
/-- x < y of data of one form -/
def rLtD (K : PySem.W.Frag) : R2 := fun x y H Q => ∃ d e, Dp K H x d ∧ Dp K H y e ∧ PySem.W.alike d e = true ∧ d ≠ .none ∧ d.depth ≤ 32 ∧ Q (.bl (PySem.W.dataLt d e)) H
theorem op_ltD {X : Cx} {K : PySem.W.Frag} (q : X.K = K) (hu : X.A.units + 64 < cLine) : OpR X (compareOp .Lt) (rLtD K) := by
  subst q
  rintro pins s σ H x y v u Q I rx ry ⟨d, e, hd, he, al, nn, dep, goal⟩
  obtain ⟨as, ra⟩ := Dp.reads I d x v hd rx; obtain ⟨bs, rb⟩ := Dp.reads I e y u he ry
  exact PySem.W.rcLt_alike d e X.A s v u as bs ra rb al nn (by have := Nat.min_le_left d.depth e.depth; omega) _ _ _ _ ⟨.bl _, H, I, rfl, goal⟩
/-- over a list or a tuple -/
def iSeq (K : PySem.W.Frag) (tl : TE) : TI := fun σ H R => iList K tl σ H R ∨ iTup K tl σ H R
theorem pi_or {X : Cx} {tg l : Expr} {w1 w2 : TI} (h1 : PI X tg l w1) (h2 : PI X tg l w2) : PI X tg l (fun σ H R => w1 σ H R ∨ w2 σ H R) :=
  ⟨fun pins s σ H R I h => h.elim (h1.run pins s σ H R I) (h2.run pins s σ H R I)⟩
theorem piQ {X : Cx} {K : PySem.W.Frag} {tg l : Expr} {tl : TE} (q : X.K = K) (h : PE X l tl) : PI X tg l (iSeq K tl) := q ▸ pi_or (pi_list h) (pi_tup h)
/-- isinstance(e, (C, D)), e what the suite holds -/
def rIsXT (K : PySem.W.Frag) (D a : Addr) (cls : Value) (d : Option Addr) : List V → Hp → VK → Prop := fun xs H Q => cls = .ref D ∧ d = none ∧
  ∃ (tp : Addr) (cs : List V) (us : List Value) (b : Bool), xs = [.ref a, .ref tp] ∧ H tp = some (.tup cs) ∧ Paired ClsV cs us ∧ PySem.W.kitAny K (.ref D) us = some b ∧ Q (.bl b) H
theorem cisET {X : Cx} {K : PySem.W.Frag} {a D : Addr} {cls : Value} {d : Option Addr} {oe : Obj} {pn : List (Addr × Obj)} (q : X.K = K) (C : ExcC K D) (hz : Zc cls d oe) (hf : ∃ vs, oe.data = .fields vs) :
    CallR (X.suite a ((a, oe) :: pn)) (.builtin "isinstance") (rIsXT K D a cls d) := by
  subst q
  rintro pins s σ H vs us Q I r ⟨rfl, rfl, tp, cs, ws, b, rfl, made, classes, answer, goal⟩
  obtain ⟨x1, x2, rfl, q1, q2⟩ := vals2 r
  cases (show x1 = Value.ref a from q1); cases (show x2 = Value.ref tp from q2)
  obtain ⟨there, _⟩ := I.pin (a, oe) (List.mem_append_left _ List.mem_cons_self)
  obtain ⟨fv, data⟩ := hf
  have inst : PySem.W.InstAt s.heap a oe D none := by
    match oe, hz, data, there with
    | ⟨_, _, _, _⟩, ⟨rfl, rfl⟩, rfl, there => exact ⟨there, rfl, rfl, trivial⟩
  obtain ⟨_, its, rv, o, o1, o2, n, o3⟩ := (show ObjOk X.prog X.w H s.heap tp (.tup cs) from I.hok tp _ made)
  cases ClsV.all classes rv
  obtain ⟨oc, od, dt, sl⟩ := o
  cases (show oc = _ from o2); cases (show dt = _ from o3)
  exact PySem.W.kia_tup (PySem.W.handS_kitx_exc C.hg C.hk C.hs C.hd C.ha C.hn C.ht C.hm) I.kIn inst o1 answer (fun z => nomatch z) fun tk => ⟨.bl b, H, I.kept (t' := tk) fun _ _ z => z, rfl, goal⟩
end L2
/-! What all the laws share: words between steps, heaps, the hand that draws. -/
namespace L2
open PySem PySem.Spec PyProof.Rows
section
variable {X : Cx}
/-- a word behind a value, a test, some arguments -/
def tMidE (t : TE) : TE := fun σ H Q => ∃ R : VK, t σ H R ∧ ∀ v H', R v H' → Q v H'
theorem pe_mid {e : Expr} {t : TE} (h : PE X e t) : PE X e (tMidE t) :=
  ⟨fun pins s σ H _ I ⟨_, h1, h2⟩ => thn (h.run pins s σ H _ I h1) fun _ _ ⟨v, H', J, r, q⟩ => ⟨v, H', J, r, h2 v H' q⟩⟩
def tMidT (t : TT) : TT := fun σ H Q => ∃ R : Bool → Hp → Prop, t σ H R ∧ ∀ v H', R v H' → Q v H'
theorem pt_mid {e : Expr} {t : TT} (h : PT X e t) : PT X e (tMidT t) :=
  ⟨fun pins s σ H _ I ⟨_, h1, h2⟩ => thn (h.run pins s σ H _ I h1) fun b _ ⟨H', J, q⟩ => ⟨H', J, h2 b H' q⟩⟩
theorem passF {P : Program} {w : World} {X : Cx} : Passes (CX P w) X (fun _ _ _ => False) := fun _ _ _ _ _ _ _ ⟨_, _, _, _, _, _, _, _, _, _, _, _, z⟩ => z.elim
theorem iteD {p A B : Prop} [Decidable p] (h1 : p → A) (h2 : ¬ p → B) : if decide p = true then A else B := by
  by_cases h : p
  · rw [decide_eq_true h, if_pos rfl]; exact h1 h
  · rw [decide_eq_false h, if_neg Bool.false_ne_true]; exact h2 h
theorem iteB {b : Bool} {A B : Prop} (h1 : b = true → A) (h2 : b = false → B) : if b = true then A else B := by
  cases b with
  | true => rw [if_pos rfl]; exact h1 rfl
  | false => rw [if_neg Bool.false_ne_true]; exact h2 rfl
theorem iteN {p A B : Prop} [Decidable p] (h1 : ¬ p → A) (h2 : p → B) : if (!decide p) = true then A else B := by
  by_cases h : p
  · rw [decide_eq_true h]; exact h2 h
  · rw [decide_eq_false h]; exact h1 h
end
theorem upd_old {H : Hp} {a p : Addr} {o u : HO} (h : H a = some o) (n : H p = none) : upd H p u a = some o := by
  rw [upd_ne (ne_of_none h n)]; exact h
theorem upd_oth {H : Hp} {a p : Addr} {o u : HO} (h : H a = some o) (n : a ≠ p) : upd H p u a = some o := by
  rw [upd_ne n]; exact h
theorem Same.new {H : Hp} {p : Addr} {o : HO} (n : H p = none) : Same H (upd H p o) := fun _ _ h => upd_old h n
/-- all that was tracked stands, but what stands at h -/
def But (h : Addr) (H H' : Hp) : Prop := ∀ b o, b ≠ h → H b = some o → H' b = some o
theorem But.refl (h : Addr) (H : Hp) : But h H H := fun _ _ _ e => e
theorem But.trans {h : Addr} {H H1 H2 : Hp} (a : But h H H1) (b : But h H1 H2) : But h H H2 := fun c o n e => b c o n (a c o n e)
theorem Same.but {h : Addr} {H H' : Hp} (a : Same H H') : But h H H' := fun b o _ e => a b o e
theorem But.set {h : Addr} {H : Hp} {o : HO} : But h H (upd H h o) := fun _ _ n e => upd_oth e n
theorem But.seq {K : PySem.W.Frag} {h : Addr} {H H' : Hp} {a : Addr} {xs : List V} (e : But h H H') (n : a ≠ h) (x : SqL K H a xs) : SqL K H' a xs := by
  rcases x with (x | ⟨o, x⟩) | x
  · exact .inl (.inl (e _ _ n x))
  · exact .inl (.inr ⟨o, e _ _ n x⟩)
  · exact .inr x
end L2
namespace L2
open PySem PySem.Spec PyProof.Rows
theorem bt_len : bootBuiltins ("len" : Str) = some (.builtin "len") := by kernel_rfl
theorem bt_abs : bootBuiltins ("abs" : Str) = some (.builtin "abs") := by kernel_rfl
theorem bt_min : bootBuiltins ("min" : Str) = some (.builtin "min") := by kernel_rfl
theorem bt_max : bootBuiltins ("max" : Str) = some (.builtin "max") := by kernel_rfl
theorem bt_int : bootBuiltins ("int" : Str) = some (.type "int") := by kernel_rfl
theorem bt_str : bootBuiltins ("str" : Str) = some (.type "str") := by kernel_rfl
theorem bt_bool : bootBuiltins ("bool" : Str) = some (.type "bool") := by kernel_rfl
theorem bt_range : bootBuiltins ("range" : Str) = some (.type "range") := by kernel_rfl
theorem bt_zip : bootBuiltins ("zip" : Str) = some (.type "zip") := by kernel_rfl
theorem bt_enumerate : bootBuiltins ("enumerate" : Str) = some (.type "enumerate") := by kernel_rfl
theorem bt_reversed : bootBuiltins ("reversed" : Str) = some (.type "reversed") := by kernel_rfl
theorem bt_sorted : bootBuiltins ("sorted" : Str) = some (.builtin "sorted") := by kernel_rfl
theorem bt_sum : bootBuiltins ("sum" : Str) = some (.builtin "sum") := by kernel_rfl
theorem bt_any : bootBuiltins ("any" : Str) = some (.builtin "any") := by kernel_rfl
theorem bt_all : bootBuiltins ("all" : Str) = some (.builtin "all") := by kernel_rfl
theorem bt_isinstance : bootBuiltins ("isinstance" : Str) = some (.builtin "isinstance") := by kernel_rfl
theorem bt_list : bootBuiltins ("list" : Str) = some (.type "list") := by kernel_rfl
theorem bt_tuple : bootBuiltins ("tuple" : Str) = some (.type "tuple") := by kernel_rfl
theorem bt_dict : bootBuiltins ("dict" : Str) = some (.type "dict") := by kernel_rfl
theorem bt_set : bootBuiltins ("set" : Str) = some (.type "set") := by kernel_rfl
theorem bt_ord : bootBuiltins ("ord" : Str) = some (.builtin "ord") := by kernel_rfl
theorem bt_chr : bootBuiltins ("chr" : Str) = some (.builtin "chr") := by kernel_rfl
theorem bt_divmod : bootBuiltins ("divmod" : Str) = some (.builtin "divmod") := by kernel_rfl
theorem bt_ValueError : bootBuiltins ("ValueError" : Str) = some (.type "ValueError") := by kernel_rfl
end L2
namespace RB
open PySem L2
/-- the hand at h: its cells at c, the next one, what is left of a great one, two numbers -/
def Hand (H : Hp) (h c : Addr) : Prop := ∃ (cells : List Int) (i held st k : Int), H h = some (.lst [.ref c, .int i, .int held, .int st, .int k]) ∧
  H c = some (.lst (cells.map V.int)) ∧ 0 ≤ i ∧ i ≤ cells.length ∧ (∀ z ∈ cells, 0 ≤ z) ∧ 0 ≤ held ∧ c ≠ h
/-- on from a heap with the hand at h to another one -/
def Go (h c : Addr) (H H' : Hp) : Prop := But h H H' ∧ Hand H' h c
theorem Go.trans {h c : Addr} {H H1 H2 : Hp} (a : Go h c H H1) (b : Go h c H1 H2) : Go h c H H2 := ⟨a.1.trans b.1, b.2⟩
theorem Hand.same {H H' : Hp} {h c : Addr} (x : Hand H h c) (e : Same H H') : Hand H' h c := by
  obtain ⟨cells, i, held, st, k, h1, h2, r⟩ := x
  exact ⟨cells, i, held, st, k, e _ _ h1, e _ _ h2, r⟩
theorem Hand.go {H H' : Hp} {h c : Addr} (x : Hand H h c) (e : Same H H') : Go h c H H' := ⟨e.but, x.same e⟩
theorem Hand.refl {H : Hp} {h c : Addr} (x : Hand H h c) : Go h c H H := ⟨But.refl _ _, x⟩
theorem Go.same {H H1 H2 : Hp} {h c : Addr} (x : Go h c H H1) (e : Same H1 H2) : Go h c H H2 := x.trans (x.2.go e)
/-- what is new is not the hand, nor its cells -/
theorem Hand.ne {H : Hp} {h c p : Addr} (x : Hand H h c) (n : H p = none) : p ≠ h ∧ p ≠ c := by
  obtain ⟨cells, i, held, st, k, h1, h2, _⟩ := x
  exact ⟨(ne_of_none h1 n).symm, (ne_of_none h2 n).symm⟩
theorem Hand.put {H : Hp} {h c p : Addr} {o : HO} (x : Hand H h c) (n : p ≠ h ∧ p ≠ c) : Hand (upd H p o) h c := by
  obtain ⟨cells, i, held, st, k, h1, h2, r⟩ := x
  exact ⟨cells, i, held, st, k, upd_oth h1 n.1.symm, upd_oth h2 n.2.symm, r⟩
/-- what was not there at first may change -/
theorem Go.put {H H1 : Hp} {h c p : Addr} {o : HO} (x : Hand H h c) (n : H p = none) (g : Go h c H H1) : Go h c H (upd H1 p o) :=
  ⟨fun b u nb hb => by rw [upd_ne (ne_of_none hb n)]; exact g.1 b u nb hb, g.2.put (x.ne n)⟩
theorem Go.new {H : Hp} {h c p : Addr} {o : HO} (x : Hand H h c) (n : H p = none) : Go h c H (upd H p o) := x.refl.put x n
theorem Same.mut {H H1 : Hp} {p : Addr} {o : HO} (n : H p = none) (g : Same H H1) : Same H (upd H1 p o) := fun b u hb => by
  rw [upd_ne (ne_of_none hb n)]; exact g b u hb
/-! ### promises of the law's own defs that every law has -/
/-- a draw below n -/
def sp_draw : Sp := fun vs H Q _ => ∃ (h c : Addr) (n : Int), vs = [.ref h, .int n] ∧ Hand H h c ∧ 0 < n ∧ n < 2 ^ 62 ∧ ∀ (d : Int) (H' : Hp), 0 ≤ d → d < n → Go h c H H' → Q (.int d) H'
/-- a new hand of the script -/
def sp_hand (K : PySem.W.Frag) : Sp := fun vs H Q _ => ∃ (a : Addr) (ns : List Int), vs = [.ref a] ∧ SqL K H a (ns.map V.int) ∧ ns.length ≤ 63 ∧ ∀ (h c : Addr) (H' : Hp), H h = none → Same H H' → Hand H' h c → Q (.ref h) H'
end RB
namespace L2
open PySem
theorem atI_int {α : Type} {xs : List α} {i : Int} {j : Nat} {x : α} (h0 : i = (j : Int)) (h : xs[j]? = some x) : atI xs i = some x := by
  subst h0
  have hj : j < xs.length := by
    rcases Nat.lt_or_ge j xs.length with q | q
    · exact q
    · rw [List.getElem?_eq_none q] at h; cases h
  unfold atI ixN
  rw [if_pos (by omega : (0 : Int) ≤ j), if_pos (by omega)]
  exact h
theorem log_lt {n : Int} (h : n < 2 ^ 62) (h0 : 0 < n) : n.natAbs.log2 < 9000 := by
  have h1 : n.natAbs < 2 ^ 62 := by omega
  have h2 : n.natAbs ≠ 0 := by omega
  exact Nat.lt_trans ((Nat.log2_lt h2).mpr h1) (by decide)
theorem mod_in {a n : Int} (h : 0 < n) : 0 ≤ a % n ∧ a % n < n := ⟨Int.emod_nonneg _ (by omega), Int.emod_lt_of_pos _ h⟩
theorem div_in {a n : Int} (h : 0 < n) (ha : 0 ≤ a) : 0 ≤ a / n := Int.ediv_nonneg ha (by omega)
end L2
namespace RB
open PySem L2
theorem S_nil : (Str.ofString "" : Str) = S [] := by decide +kernel
/-- whether a value is a row -/
inductive RowJ (K : PySem.W.Frag) (H : Hp) : V → Bool → Prop
  | str (l : List Nat) : RowJ K H (.str (S l)) (decide (Ls l))
  | non {x : V} {t : Value} (ty : TyX K H x t) (k : PySem.W.kitOne K t (.type "str") = some false) : RowJ K H x false
theorem kit_str {K : PySem.W.Frag} : PySem.W.kitOne K (.type "str") (.type "str") = some true := kit_ty (by decide +kernel)
theorem RowJ.row {K : PySem.W.Frag} {H : Hp} {l : List Nat} (h : Ls l) : RowJ K H (.str (S l)) true := by
  have := RowJ.str (K := K) (H := H) l
  rw [decide_eq_true h] at this
  exact this
theorem nil_L : Ls [] := fun _ h => nomatch h
theorem asc_dec {l : List Nat} : (decide (Asc l) && (decide (l ≠ []) && decide (Ls l))) = (decide (l ≠ []) && decide (Ls l)) := by
  by_cases h : Ls l
  · rw [decide_eq_true h.asc, Bool.true_and]
  · rw [decide_eq_false h, Bool.and_false, Bool.and_false]
end RB
namespace RB
open PySem L2 PyProof.Rows
theorem up1_L {c : Nat} (h : IsL c) : IsL (up1 c) := by unfold IsL at *; unfold up1; split <;> omega
theorem _root_.RB.Ls.up {l : List Nat} (h : Ls l) : Ls (l.map up1) := fun c hc => by
  obtain ⟨d, hd, e⟩ := List.mem_map.mp hc
  rw [← e]; exact up1_L (h d hd)
theorem sw_up {c : Nat} (h : 97 ≤ c ∧ c ≤ 122) : up1 c = sw c := by unfold up1 sw; simp [h]; omega
theorem sw_lo {c : Nat} (h : IsL c) (h2 : ¬ (97 ≤ c ∧ c ≤ 122)) : lo1 c = sw c := by
  unfold IsL at h; unfold lo1 sw; simp [show 65 ≤ c ∧ c ≤ 90 by omega]
theorem sum_one (l : List Nat) : ((l.map fun c => [c]).map S |>.map (·.length)).sum = l.length := by
  induction l with
  | nil => rfl
  | cons a r ih =>
    simp only [List.map_cons, List.sum_cons, List.length_cons] at *
    rw [ih]; show (S [a]).length + _ = _; rw [S_len]; simp; omega
theorem flat_one (l : List Nat) : (l.map fun c => [c]).flatten = l := by
  induction l with
  | nil => rfl
  | cons a r ih => simp [ih]
/-- the texts of one sign each -/
def ones (l : List Nat) : List V := l.map fun c => V.str (S [c])
theorem ones_eq (l : List Nat) : ones l = ((l.map fun c => [c]).map S).map V.str := by
  unfold ones; rw [List.map_map, List.map_map]; rfl
theorem ones_len (l : List Nat) : (ones l).length = l.length := List.length_map ..
theorem ones_at {l : List Nat} {i c : Nat} (h : l[i]? = some c) : (ones l)[i]? = some (.str (S [c])) := by
  unfold ones; rw [List.getElem?_map, h]; rfl
theorem nil_len : (Str.ofString "" : Str).length = 0 := by rw [S_nil, S_len]; rfl
theorem take_one {α : Type} {l : List α} {i : Nat} {x : α} (h : l[i]? = some x) : l.take (i + 1) = l.take i ++ [x] := by
  rw [List.take_add_one, h]; rfl
theorem cutV_to (xs : List V) (n : Nat) : cutV xs none (some (n : Int)) = xs.take n := by
  unfold cutV
  rw [HT.sIx_none, sIx_nat, List.drop_zero, Nat.sub_zero]
  rcases Nat.le_total n xs.length with h | h
  · rw [Nat.min_eq_left h]
  · rw [Nat.min_eq_right h, List.take_length, List.take_of_length_le h]
theorem cutV_from (xs : List V) (i : Nat) : cutV xs (some (i : Int)) none = xs.drop i := by
  unfold cutV
  rw [HT.sIx_none, sIx_nat]
  rcases Nat.le_total i xs.length with h | h
  · rw [Nat.min_eq_left h]; exact List.take_of_length_le (by rw [List.length_drop]; exact Nat.le_refl _)
  · rw [Nat.min_eq_right h, List.drop_length, List.drop_of_length_le h]; simp
end RB
namespace RB
open PySem L2 PyProof.Rows
/-- values that are no rows (the hand at h stands apart) -/
inductive Odd (H : Hp) (h : Addr) : V → Prop
  | non : Odd H h .non
  | bl (b : Bool) : Odd H h (.bl b)
  | int (i : Int) : Odd H h (.int i)
  | str {z : Str} (l : List Nat) (e : z = S l) (n : ¬ Ls l) : Odd H h (.str z)
  | lst {a : Addr} {xs : List V} (n : a ≠ h) (e : H a = some (.lst xs)) : Odd H h (.ref a)
  | tup {a : Addr} {xs : List V} (n : a ≠ h) (e : H a = some (.tup xs)) : Odd H h (.ref a)
  | dict {a : Addr} {xs : List (L2.Key × V)} (n : a ≠ h) (e : H a = some (.dK xs)) : Odd H h (.ref a)
theorem Odd.but {H H' : Hp} {h : Addr} {v : V} (x : Odd H h v) (b : But h H H') : Odd H' h v := by
  cases x with
  | non => exact .non
  | bl b => exact .bl b
  | int i => exact .int i
  | str l e n => exact .str l e n
  | lst n e => exact .lst n (b _ _ n e)
  | tup n e => exact .tup n (b _ _ n e)
  | dict n e => exact .dict n (b _ _ n e)
theorem Odd.row {K : PySem.W.Frag} {H : Hp} {h : Addr} {v : V} (x : Odd H h v) : RowJ K H v false := by
  cases x with
  | non => exact .non (.base .non) (kit_ty (by decide +kernel))
  | bl b => exact .non (.base (.bl b)) (kit_ty (by decide +kernel))
  | int i => exact .non (.base (.int i)) (kit_ty (by decide +kernel))
  | str l e n =>
    subst e
    have := RowJ.str (K := K) (H := H) l
    rw [decide_eq_false n] at this
    exact this
  | lst n e => exact .non (.base (.lst e)) (kit_ty (by decide +kernel))
  | tup n e => exact .non (.base (.tup e)) (kit_ty (by decide +kernel))
  | dict n e => exact .non (.base (.dK e)) (kit_ty (by decide +kernel))
theorem all_c {α : Type} {P : α → Prop} {a : α} {l : List α} (h : P a) (r : ∀ x ∈ l, P x) : ∀ x ∈ a :: l, P x := fun x hx => by
  rcases List.mem_cons.mp hx with e | e
  · rw [e]; exact h
  · exact r x e
theorem all_n {α : Type} {P : α → Prop} : ∀ x ∈ ([] : List α), P x := fun _ h => nomatch h
end RB
namespace RB
open PySem L2
theorem Go.free {H H1 : Hp} {h c p : Addr} (g : Go h c H H1) (n : p ≠ h) (e : H1 p = none) : H p = none := by
  cases q : H p with
  | none => rfl
  | some o =>
    rw [g.1 p o n q] at e
    cases e
theorem Go.put2 {H H1 : Hp} {h c p : Addr} {o : HO} (g : Go h c H H1) (n : p ≠ h ∧ p ≠ c) (hn : H p = none) : Go h c H (upd H1 p o) :=
  ⟨fun b u nb hb => by rw [upd_ne (ne_of_none hb hn)]; exact g.1 b u nb hb, g.2.put n⟩
end RB
namespace RB
open PySem L2
theorem RowJ.inv {K : PySem.W.Frag} {H : Hp} {v : V} {b : Bool} (j : RowJ K H v b) : ∀ l, v = .str (S l) → b = decide (Ls l) := by
  intro l e
  cases j with
  | str l' => cases S_inj (V.str.inj e); rfl
  | non ty k =>
    subst e
    cases ty with
    | base ty => cases ty; rw [kit_str] at k; cases k
end RB
namespace RB
open PySem L2 PyProof.Rows
/-- a display of numbers -/
def tInts : List Nat → TA
  | [] => tNil
  | n :: r => tCons (tC (.int n)) (tInts r)
theorem tInts_run : ∀ (ns : List Nat) (σ : L2.St) (H : Hp) (Q : List V → Hp → Prop), Q (ns.map fun n : Nat => V.int n) H → tInts ns σ H Q
  | [], _, _, _, q => q
  | n :: r, σ, H, Q, q => tInts_run r σ H (fun xs H2 => Q (V.int n :: xs) H2) q
/-- [..numbers..][a draw] -/
theorem rd_pick {K : PySem.W.Frag} {σ : L2.St} {H : Hp} {Q : VK} {E : XK} {h c : Addr} {i : Nat} {m : Int} (ns : List Nat) (hs : σ[i]? = some (some (.ref h))) (hH : Hand H h c) (hm : m = ns.length) (hz : 0 < ns.length ∧ ns.length ≤ 1000)
    (q : ∀ k ∈ ns, ∀ H', Go h c H H' → Q (.int (k : Nat)) H') : tOp (rIxL K) (tLst (tInts ns)) (tCall sp_draw [] E (tCons (tVar i) (tCons (tC (.int m)) tNil))) σ H Q := by
  refine tInts_run ns σ H _ ?_
  refine ⟨by rw [List.length_map]; exact Nat.le_trans hz.2 (by decide), fun p hp => ?_⟩
  refine ⟨_, hs, ?_⟩
  have g0 : Go h c H (upd H p (.lst (ns.map fun n : Nat => V.int n))) := Go.new hH hp
  refine ⟨h, c, m, rfl, g0.2, by omega, by omega, fun d H' d0 d1 g1 => ?_⟩
  obtain ⟨j, rfl⟩ : ∃ j : Nat, d = j := ⟨d.toNat, by omega⟩
  have hj : j < ns.length := by omega
  have hat : (ns.map fun n : Nat => V.int n)[j]? = some (.int (ns[j] : Nat)) := by rw [List.getElem?_map, List.getElem?_eq_getElem hj]; rfl
  exact ⟨p, _, _, _, rfl, rfl, SqL.of (g1.1 _ _ (hH.ne hp).1 upd_same), atI_int rfl hat, q _ (List.getElem_mem hj) H' (g0.trans g1)⟩
def alph : List Nat := List.range' 97 26
theorem alph_is : (Str.ofString "abcdefghijklmnopqrstuvwxyz" : Str) = S alph := by decide +kernel
theorem alph_L : Ls alph := by decide
theorem ne_self {v : V} : (!decide (v = v)) = false := by rw [decide_eq_true rfl]; rfl
end RB
namespace RB
open PySem L2
theorem RowJ.yes {K : PySem.W.Frag} {H : Hp} {v : V} {b : Bool} (j : RowJ K H v b) (e : b = true) : ∃ l, v = .str (S l) ∧ Ls l := by
  cases j with
  | str l => exact ⟨l, rfl, of_decide_eq_true e⟩
  | non ty k => cases e
end RB
namespace L2
theorem atI_neg {α : Type} {xs : List α} {i : Int} {j : Nat} {x : α} (h0 : i + xs.length = (j : Int)) (h1 : i < 0) (h : xs[j]? = some x) : atI xs i = some x := by
  unfold atI ixN
  rw [if_neg (by omega), if_pos (by omega), h0]
  exact h
end L2
namespace L2
theorem dec_ints (i j : Int) : decide (V.int i = V.int j) = decide (i = j) := by
  by_cases h : i = j
  · rw [decide_eq_true h, decide_eq_true (congrArg V.int h)]
  · rw [decide_eq_false h, decide_eq_false fun z => h (V.int.inj z)]
theorem dec_int0 (n : Nat) : decide (V.int (n : Int) = V.int 0) = decide (n = 0) := by
  by_cases h : n = 0
  · subst h; rfl
  · rw [decide_eq_false h, decide_eq_false]
    intro z
    exact h (by have := V.int.inj z; omega)
end L2
/-! What the functions of rows promise. -/
namespace RB
open PySem L2 PyProof.Rows
/-- an argument that ought to be a row: ok with its letters, or the error of the class at C -/
def Row1 (K : PySem.W.Frag) (C : Addr) (E : XK) (H : Hp) (v : V) (ok : List Nat → Prop) : Prop :=
  ∃ b, RowJ K H v b ∧ (∀ l, v = .str (S l) → Ls l → ok l) ∧ (b = false → ∀ H', Same H H' → E (.ref C) none H')
theorem Row1.yes {K : PySem.W.Frag} {C : Addr} {E : XK} {H : Hp} {l : List Nat} {ok : List Nat → Prop} (hl : Ls l) (h : ok l) : Row1 K C E H (.str (S l)) ok :=
  ⟨true, RowJ.row hl, fun l' e _ => by cases S_inj (V.str.inj e); exact h, fun z => nomatch z⟩
theorem Row1.no {K : PySem.W.Frag} {C : Addr} {E : XK} {H : Hp} {v : V} {ok : List Nat → Prop} (j : RowJ K H v false) (h : ∀ H', Same H H' → E (.ref C) none H') : Row1 K C E H v ok :=
  ⟨false, j, fun l e hl => (by have := j.inv l e; rw [decide_eq_true hl] at this; cases this), fun _ => h⟩
def sp_demand (K : PySem.W.Frag) (C : Addr) : Sp := fun vs H Q E => ∃ v, vs = [v] ∧ Row1 K C E H v fun _ => Q .non H
def sp_net (K : PySem.W.Frag) (C : Addr) : Sp := fun vs H Q E => ∃ v, vs = [v] ∧ Row1 K C E H v fun l => l.length ≤ 100000 ∧ ∀ H', Same H H' → Q (.str (S (red l))) H'
def sp_undone (K : PySem.W.Frag) (C : Addr) : Sp := fun vs H Q E => ∃ v, vs = [v] ∧ Row1 K C E H v fun l => l.length ≤ 100000 ∧ ∀ H', Same H H' → Q (.str (S (red (inv l)))) H'
def sp_undoings : Sp := fun vs H Q _ => ∃ l, vs = [.str (S l)] ∧ Ls l ∧ l.length ≤ 100000 ∧ Q (.str (S (inv l))) H
def sp_split : Sp := fun vs H Q _ => ∃ l, vs = [.str (S l)] ∧ Ls l ∧ l.length ≤ 100000 ∧
  ∀ a p H', Cut l a → Stop l a → Same H H' → H p = none → H' p = some (.tup [.str (S (l.take a)), .str (S (mid l a))]) → Q (.ref p) H'
def sp_repnet : Sp := fun vs H Q _ => ∃ (t : List Nat) (n : Nat), vs = [.str (S t), .int n] ∧ Ls t ∧ NoPair t ∧ t.length ≤ 100000 ∧ t.length * n ≤ 5000000 ∧ n < 2 ^ 62 ∧ ∀ H', Same H H' → Q (.str (S (red (rep t n)))) H'
/-- whether a value is an integer -/
inductive IntJ (K : PySem.W.Frag) (H : Hp) : V → Option Int → Prop
  | int (i : Int) : IntJ K H (.int i) (some i)
  | bl (b : Bool) : IntJ K H (.bl b) none
  | non {x : V} {t : Value} (ty : TyX K H x t) (k : PySem.W.kitOne K t (.type "int") = some false) : IntJ K H x none
def sp_isint (K : PySem.W.Frag) : Sp := fun vs H Q _ => ∃ v o, vs = [v] ∧ IntJ K H v o ∧ Q (.bl o.isSome) H
def within (o : Option Int) (a b : Int) : Bool := match o with | some i => decide (a ≤ i) && decide (i ≤ b) | none => false
def sp_within (K : PySem.W.Frag) : Sp := fun vs H Q _ => ∃ v o a b, vs = [v, .int a, .int b] ∧ IntJ K H v o ∧ Q (.bl (within o a b)) H
def sp_power (K : PySem.W.Frag) (C CN : Addr) : Sp := fun vs H Q E => ∃ v w, vs = [v, w] ∧ Row1 K C E H v fun l => ∃ o, IntJ K H w o ∧ (within o (-1000) 1000 = false → ∀ H', Same H H' → E (.ref CN) none H') ∧
  (∀ i : Int, w = .int i → -1000 ≤ i → i ≤ 1000 → l.length ≤ 5000 ∧ ∀ H', Same H H' → Q (.str (S (pw l i))) H')
def sp_turned (K : PySem.W.Frag) (C : Addr) : Sp := fun vs H Q E => ∃ v w, vs = [v, w] ∧ Row1 K C E H v fun l => Row1 K C E H w fun m => l.length + 2 * m.length ≤ 100000 ∧ ∀ H', Same H H' → Q (.str (S (red (m ++ l ++ inv m)))) H'
/-- what joined is handed -/
inductive RowsJ (K : PySem.W.Frag) (H : Hp) : V → Option (List (List Nat)) → Prop
  | bad {x : V} {t : Value} (ty : TyX K H x t) (k : PySem.W.kitAny K t [.type "list", .type "tuple"] = some false) : RowsJ K H x none
  | lst {p : Addr} {xs : List V} {bs : List Bool} (e : SqL K H p xs) (j : Paired (RowJ K H) xs bs) (n : bs.all id = false) (e2 : H p = some (.lst xs)) : RowsJ K H (.ref p) none
  | tup {p : Addr} {xs : List V} {bs : List Bool} (e : SqT K H p xs) (j : Paired (RowJ K H) xs bs) (n : bs.all id = false) (e2 : H p = some (.tup xs)) : RowsJ K H (.ref p) none
  | lstY {p : Addr} {ls : List (List Nat)} (e2 : H p = some (.lst (ls.map fun l => V.str (S l)))) (h : ∀ l ∈ ls, Ls l) : RowsJ K H (.ref p) (some ls)
  | tupY {p : Addr} {ls : List (List Nat)} (e2 : H p = some (.tup (ls.map fun l => V.str (S l)))) (h : ∀ l ∈ ls, Ls l) : RowsJ K H (.ref p) (some ls)
def sp_joined (K : PySem.W.Frag) (C : Addr) : Sp := fun vs H Q E => ∃ v o, vs = [v] ∧ RowsJ K H v o ∧ (o = none → ∀ H', Same H H' → E (.ref C) none H') ∧
  (∀ ls, o = some ls → ls.flatten.length ≤ 100000 ∧ ∀ H', Same H H' → Q (.str (S (red ls.flatten))) H')
end RB
namespace RB
open PySem L2 PyProof.Rows
theorem tyOf_same {K : PySem.W.Frag} {H H' : Hp} {v : V} {t : Value} (s : Same H H') (h : TyOf K H v t) : TyOf K H' v t := by
  cases h with
  | non => exact .non
  | bl b => exact .bl b
  | int i => exact .int i
  | str x => exact .str x
  | flt x => exact .flt x
  | lst e => exact .lst (s _ _ e)
  | frz e => exact .frz (s _ _ e)
  | tup e => exact .tup (s _ _ e)
  | dK e => exact .dK (s _ _ e)
  | dT e => exact .dT (s _ _ e)
  | ins e cl ha hn htk hm => exact .ins (s _ _ e) cl ha hn htk hm
theorem tyX_same {K : PySem.W.Frag} {H H' : Hp} {v : V} {t : Value} (s : Same H H') (h : TyX K H v t) : TyX K H' v t := by
  cases h with
  | base h => exact .base (tyOf_same s h)
  | byt b => exact .byt b
  | set e => exact .set (s _ _ e)
  | kList e c => exact .kList e c
  | kTuple e c => exact .kTuple e c
  | kDict e c => exact .kDict e c
  | fTuple e => exact .fTuple (s _ _ e)
  | fDict e => exact .fDict (s _ _ e)
theorem RowJ.same {K : PySem.W.Frag} {H H' : Hp} {v : V} {b : Bool} (s : Same H H') (j : RowJ K H v b) : RowJ K H' v b := by
  cases j with
  | str l => exact .str l
  | non ty k => exact .non (tyX_same s ty) k
theorem IntJ.same {K : PySem.W.Frag} {H H' : Hp} {v : V} {o : Option Int} (s : Same H H') (j : IntJ K H v o) : IntJ K H' v o := by
  cases j with
  | int i => exact .int i
  | bl b => exact .bl b
  | non ty k => exact .non (tyX_same s ty) k
theorem paired_at {α β : Type} {R : α → β → Prop} : ∀ {xs : List α} {bs : List β}, Paired R xs bs → ∀ {i : Nat} {x : α}, xs[i]? = some x → ∃ b, bs[i]? = some b ∧ R x b
  | _, _, .nil, _, _, h => by simp at h
  | _, _, .cons r _, 0, _, h => by cases h; exact ⟨_, rfl, r⟩
  | _, _, .cons _ p, i + 1, _, h => paired_at p (i := i) h
theorem paired_len {α β : Type} {R : α → β → Prop} : ∀ {xs : List α} {bs : List β}, Paired R xs bs → xs.length = bs.length
  | _, _, .nil => rfl
  | _, _, .cons _ p => by rw [List.length_cons, List.length_cons, paired_len p]
theorem all_at {bs : List Bool} (h : ∀ (i : Nat) (b : Bool), bs[i]? = some b → b = true) : bs.all id = true := by
  rw [List.all_eq_true]
  intro b hb
  obtain ⟨k0, hk0, e⟩ := List.getElem_of_mem hb
  exact h k0 b (by rw [List.getElem?_eq_getElem hk0, e])
/-! ### the order of rows -/
def posL (c : Nat) : Int := if 97 ≤ c then 2 * ((c : Int) - 97) else 2 * ((c : Int) - 65) + 1
def LETS : Str := "aAbBcCdDeEfFgGhHiIjJkKlLmMnNoOpPqQrRsStTuUvVwWxXyYzZ"
theorem find_let : ∀ c, c < 123 → IsL c → Txt.find LETS (S [c]) = posL c := by decide +kernel
def plD (l : List Nat) : PyData := .tuple [.int l.length, .list (l.map fun c => PyData.int (posL c))]
def earl (l m : List Nat) : Bool := PySem.W.dataLt (plD l) (plD m)
theorem dpAll_ints {K : PySem.W.Frag} {H : Hp} : ∀ ns : List Int, DpAll K H (ns.map V.int) (ns.map PyData.int)
  | [] => .nil
  | n :: r => .cons (.int n) (dpAll_ints r)
theorem alike_ints : ∀ ns ms : List Int, PySem.W.alikeAll (ns.map PyData.int) (ms.map PyData.int) = true
  | [], _ => by unfold PySem.W.alikeAll; rfl
  | _ :: _, [] => by unfold PySem.W.alikeAll; rfl
  | n :: r, m :: r2 => by
    show (PySem.W.alike (.int n) (.int m) && PySem.W.alikeAll (r.map PyData.int) (r2.map PyData.int)) = true
    rw [alike_ints r r2]; rfl
theorem pl_alike (l m : List Nat) : PySem.W.alike (plD l) (plD m) = true := by
  have h := alike_ints (l.map posL) (m.map posL)
  rw [List.map_map, List.map_map] at h
  simp only [plD, PySem.W.alike, PySem.W.alikeAll, Bool.true_and, Bool.and_true]
  exact h
def sp_place : Sp := fun vs H Q _ => ∃ l, vs = [.str (S l)] ∧ Ls l ∧ l.length ≤ 100000 ∧
  ∀ p q H', Same H H' → H' p = some (.tup [.int l.length, .ref q]) → H' q = some (.lst ((l.map posL).map V.int)) → Q (.ref p) H'
def sp_earlier (K : PySem.W.Frag) (C : Addr) : Sp := fun vs H Q E => ∃ v w, vs = [v, w] ∧ Row1 K C E H v fun l => Row1 K C E H w fun m => l.length ≤ 100000 ∧ m.length ≤ 100000 ∧ ∀ H', Same H H' → Q (.bl (earl l m)) H'
/-! ### roots -/
/-- the row looks like itself again d letters on -/
def Turn (c : List Nat) (d : Nat) : Prop := ((c ++ c).drop d).take c.length = c ∧ d ≤ c.length
def Per (c : List Nat) (d : Nat) : Prop := 1 ≤ d ∧ Turn c d ∧ ∀ k, 1 ≤ k → k < d → ¬ Turn c k
theorem at_turn (c : List Nat) (k : Nat) : PySem.StrLaws.At (S (c ++ c)) (S c) (S (c ++ c)).length k ↔ Turn c k := by
  unfold PySem.StrLaws.At Builtin.Str.subAt Turn
  rw [S_len, S_len, List.length_append]
  have e : ((S (c ++ c)).cps.extract k (k + c.length) == (S c).cps) = decide (((c ++ c).drop k).take c.length = c) := by
    show ((c ++ c).toArray.extract k (k + c.length) == c.toArray) = _
    have e1 : (c ++ c).toArray.extract k (k + c.length) = (((c ++ c).drop k).take c.length).toArray := by
      rw [List.extract_toArray, List.extract_eq_take_drop, Nat.add_sub_cancel_left]
    rw [e1]
    by_cases h : ((c ++ c).drop k).take c.length = c
    · rw [h, decide_eq_true rfl]; simp
    · rw [decide_eq_false h]
      rw [beq_eq_false_iff_ne]
      intro z
      exact h (by simpa using z)
  rw [e, decide_eq_true_iff]
  constructor
  · exact fun ⟨h1, h2⟩ => ⟨h2, by omega⟩
  · exact fun ⟨h1, h2⟩ => ⟨by omega, h1⟩
theorem find_per {c : List Nat} (h : c ≠ []) : ∃ d : Nat, Txt.find3 (S (c ++ c)) (S c) 1 = d ∧ Per c d := by
  have hl : 0 < c.length := List.length_pos_iff.mpr h
  have full : Turn c c.length := ⟨by rw [List.drop_left]; exact List.take_length .., Nat.le_refl _⟩
  unfold Txt.find3
  have ef : fromIndex (S (c ++ c)).length 1 = 1 := rfl
  rw [ef]
  rcases PySem.StrLaws.occ_head_from (S (c ++ c)) (S c) 1 1 (Nat.le_refl _) with ⟨_, hn⟩ | ⟨i, r, e, h1, ha, hn⟩
  · exact absurd ((at_turn c c.length).mpr full) (hn _ hl)
  · rw [e]
    exact ⟨i, rfl, h1, (at_turn c i).mp ha, fun k k1 k2 z => hn k k1 k2 ((at_turn c k).mpr z)⟩
def sp_rootnet : Sp := fun vs H Q _ => ∃ t : List Nat, vs = [.str (S t)] ∧ Ls t ∧ NoPair t ∧ t ≠ [] ∧ t.length ≤ 100000 ∧ ∀ a d p H', Cut t a → Stop t a → Per (mid t a) d → Same H H' → H p = none →
  H' p = some (.tup [.str (S (t.take a ++ (mid t a).take d ++ inv (t.take a))), .int ((mid t a).length / d : Nat)]) → Q (.ref p) H'
def sp_root (K : PySem.W.Frag) (C CR : Addr) : Sp := fun vs H Q E => ∃ v, vs = [v] ∧ Row1 K C E H v fun l => l.length ≤ 100000 ∧ (red l = [] → ∀ H', Same H H' → E (.ref CR) none H') ∧
  (red l ≠ [] → ∀ a d p H', Cut (red l) a → Stop (red l) a → Per (mid (red l) a) d → Same H H' → H p = none →
    H' p = some (.tup [.str (S ((red l).take a ++ (mid (red l) a).take d ++ inv ((red l).take a))), .int ((mid (red l) a).length / d : Nat)]) → Q (.ref p) H')
end RB
namespace RB
open PySem L2 PyProof.Rows
theorem kit_lst {K : PySem.W.Frag} : PySem.W.kitAny K (.type "list") [.type "list", .type "tuple"] = some true :=
  kitAny_cons (b := true) (kit_ty (by decide +kernel)) (fun z => nomatch z) (fun _ => rfl)
theorem kit_tup {K : PySem.W.Frag} : PySem.W.kitAny K (.type "tuple") [.type "list", .type "tuple"] = some true :=
  kitAny_cons (b := false) (kit_ty (by decide +kernel)) (fun _ => kitAny_cons (b := true) (kit_ty (by decide +kernel)) (fun z => nomatch z) (fun _ => rfl)) (fun z => nomatch z)
theorem sum_S (ls : List (List Nat)) : ((ls.map S).map (·.length)).sum = ls.flatten.length := by
  induction ls with
  | nil => rfl
  | cons a r ih => simp only [List.map_cons, List.sum_cons, List.flatten_cons, List.length_append, ih, S_len]
theorem map_S (ls : List (List Nat)) : (ls.map fun l => V.str (S l)) = (ls.map S).map V.str := by rw [List.map_map]; rfl
end RB
namespace RB
open PySem L2
theorem depths_ints : ∀ ns : List Int, PyData.depthAll (ns.map PyData.int) = 0
  | [] => (by simp [PyData.depthAll] : _ = 0)
  | n :: r => by
    have := depths_ints r
    simp only [List.map_cons, PyData.depth, PyData.depthAll]
    omega
theorem pl_depth (l : List Nat) : (plD l).depth ≤ 32 := by
  have h := depths_ints (l.map posL)
  rw [List.map_map] at h
  simp only [plD, PyData.depth, PyData.depthAll]
  have : PyData.depthAll (l.map fun c => PyData.int (posL c)) = 0 := h
  omega
end RB
namespace RB
open PySem L2
theorem alph_at {j : Nat} (h : j < 26) : alph[j]? = some (97 + j) := by
  unfold alph; rw [List.getElem?_range' h]; simp
theorem alph_len : alph.length = 26 := rfl
/-- deeds, ascending -/
structure Deeds (d : List Nat) : Prop where
  low : ∀ x ∈ d, 97 ≤ x ∧ x ≤ 122
  up : List.Pairwise (· < ·) d
theorem Deeds.L {d : List Nat} (h : Deeds d) : Ls d := fun c hc => .inr (h.low c hc)
theorem asc_len : ∀ (l : List Nat) (a : Nat), List.Pairwise (· < ·) l → (∀ x ∈ l, a ≤ x ∧ x ≤ 122) → l.length ≤ 123 - a
  | [], a, _, _ => Nat.zero_le (123 - a)
  | x :: r, a, p, h => by
    have h1 := h x List.mem_cons_self
    have p2 := List.pairwise_cons.mp p
    have := asc_len r (x + 1) p2.2 fun y hy => ⟨p2.1 y hy, (h y (List.mem_cons_of_mem _ hy)).2⟩
    rw [List.length_cons]; omega
theorem Deeds.len {d : List Nat} (h : Deeds d) : d.length ≤ 26 := asc_len d 97 h.up h.low
def sp_deeds : Sp := fun vs H Q _ => ∃ (h c : Addr) (n : Nat), vs = [.ref h, .int n] ∧ Hand H h c ∧ 1 ≤ n ∧ n ≤ 26 ∧ ∀ d H', Deeds d → d ≠ [] → d.length ≤ n → Go h c H H' → Q (.str (S d)) H'
end RB
namespace RB
open PySem L2
theorem within_yes {i a b : Int} (h1 : a ≤ i) (h2 : i ≤ b) : within (some i) a b = true := by
  show (decide (a ≤ i) && decide (i ≤ b)) = true
  rw [decide_eq_true h1, decide_eq_true h2]; rfl
theorem kit_int {K : PySem.W.Frag} : PySem.W.kitOne K (.type "int") (.type "int") = some true := kit_ty (by decide +kernel)
theorem IntJ.inv {K : PySem.W.Frag} {H : Hp} {v : V} {o : Option Int} (j : IntJ K H v o) : ∀ i, v = .int i → o = some i := by
  intro i e
  cases j with
  | int k => cases e; rfl
  | bl b => cases e
  | non ty k =>
    subst e
    cases ty with
    | base ty => cases ty; rw [kit_int] at k; cases k
end RB
/-! Lists of texts and of numbers compared. -/
namespace RB
open PySem L2 PyProof.Rows
theorem lay_strs : ∀ xs : List Str, (∀ x ∈ xs, PyData.strOk x = true) → PyData.canLayAll0 (xs.map PyData.str) = true
  | [], _ => by simp only [List.map_nil, PyData.canLayAll0]
  | x :: r, h => by
    have h1 := lay_strs r fun y hy => h y (List.mem_cons_of_mem _ hy)
    have h2 := h x List.mem_cons_self
    simp only [List.map_cons, PyData.canLayAll0, PyData.canLay0, h1, h2, Bool.and_self]
theorem deep_strs : ∀ xs : List Str, PyData.depthAll (xs.map PyData.str) = 0
  | [] => by simp only [List.map_nil, PyData.depthAll]
  | x :: r => by
    have := deep_strs r
    simp only [List.map_cons, PyData.depth, PyData.depthAll, this, Nat.max_self]
theorem sh_strs (xs : List Str) (h : ∀ x ∈ xs, PyData.strOk x = true) : SeqAt.shaped (.list (xs.map PyData.str)) = true := by
  have h1 := lay_strs xs h
  have h2 := deep_strs xs
  simp only [SeqAt.shaped, PyData.canLay0, PyData.depth, h1, h2, Bool.true_and]; decide
theorem sh_strsT (xs : List Str) (h : ∀ x ∈ xs, PyData.strOk x = true) : SeqAt.shaped (.tuple (xs.map PyData.str)) = true := by
  have h1 := lay_strs xs h
  have h2 := deep_strs xs
  simp only [SeqAt.shaped, PyData.canLay0, PyData.depth, h1, h2, Bool.true_and]; decide
theorem eqvAll_strs : ∀ xs ys : List Str, PyData.eqvAll (xs.map PyData.str) (ys.map PyData.str) = decide (xs = ys)
  | [], [] => by simp only [List.map_nil, PyData.eqvAll, decide_true]
  | [], y :: t => by simp only [List.map_nil, List.map_cons, PyData.eqvAll]; rw [decide_eq_false]; exact fun z => nomatch z
  | x :: r, [] => by simp only [List.map_nil, List.map_cons, PyData.eqvAll]; rw [decide_eq_false]; exact fun z => nomatch z
  | x :: r, y :: t => by
    have := eqvAll_strs r t
    simp only [List.map_cons, PyData.eqvAll, PyData.eqv, this]
    by_cases h : x = y <;> by_cases h2 : r = t <;> simp [h, h2]
theorem eqv_strsL (xs ys : List Str) : PyData.eqv (.list (xs.map PyData.str)) (.list (ys.map PyData.str)) = decide (xs = ys) := by
  have := eqvAll_strs xs ys
  simp only [PyData.eqv, this]
theorem dp_strs {K : PySem.W.Frag} {H : Hp} : ∀ xs : List Str, DpAll K H (xs.map V.str) (xs.map PyData.str)
  | [] => .nil
  | x :: r => .cons (.str x) (dp_strs r)
/-- two lists of texts, == and != -/
theorem ne_strs {K : PySem.W.Frag} {H : Hp} {Q : VK} {p q : Addr} {xs ys : List Str} (hp : SqL K H p (xs.map V.str)) (hq : SqL K H q (ys.map V.str)) (hx : ∀ x ∈ xs, PyData.strOk x = true) (hy : ∀ x ∈ ys, PyData.strOk x = true) (h : Q (.bl (!decide (xs = ys))) H) : rNeD K (.ref p) (.ref q) H Q :=
  ⟨_, _, .lst hp (dp_strs xs), .lst hq (dp_strs ys), sh_strs xs hx, sh_strs ys hy, by rw [eqv_strsL]; exact h⟩
theorem eq_strs {K : PySem.W.Frag} {H : Hp} {Q : VK} {p q : Addr} {xs ys : List Str} (hp : SqL K H p (xs.map V.str)) (hq : SqL K H q (ys.map V.str)) (hx : ∀ x ∈ xs, PyData.strOk x = true) (hy : ∀ x ∈ ys, PyData.strOk x = true) (h : Q (.bl (decide (xs = ys))) H) : rEqD K (.ref p) (.ref q) H Q :=
  ⟨_, _, .lst hp (dp_strs xs), .lst hq (dp_strs ys), sh_strs xs hx, sh_strs ys hy, by rw [eqv_strsL]; exact h⟩
theorem ok_S {l : List Nat} (h : Ls l) : PyData.strOk (S l) = true := by
  show l.toArray.all (fun c => decide (c < 0x110000)) = true
  rw [List.all_toArray, List.all_eq_true]
  intro c hc
  have := h.asc c hc
  exact decide_eq_true (by omega)
theorem ok_map {ls : List (List Nat)} (h : ∀ l ∈ ls, Ls l) : ∀ x ∈ ls.map S, PyData.strOk x = true := fun x hx => by
  obtain ⟨l, hl, e⟩ := List.mem_map.mp hx
  rw [← e]; exact ok_S (h l hl)
/-! ### the net of a row so often, by whole numbers -/
theorem zmix {l : List Nat} (h : Ls l) (a b : Nat) : Eqv (rep l a ++ rep (inv l) b) (if b ≤ a then rep l (a - b) else rep (inv l) (b - a)) := by
  by_cases q : b ≤ a
  · rw [if_pos q]
    have e : rep l a = rep l (a - b) ++ rep l b := by rw [← rep_add]; congr 1; omega
    have k : Eqv (rep l b ++ rep (inv l) b) [] := by
      have := eqv_inv_r (h.rep b)
      rw [inv_rep] at this
      exact this
    have := (Eqv.refl (rep l (a - b))).app k (h.rep _)
    rw [e, List.append_assoc]
    rw [List.append_nil] at this
    exact this
  · rw [if_neg q]
    have e : rep (inv l) b = rep (inv l) a ++ rep (inv l) (b - a) := by rw [← rep_add]; congr 1; omega
    have k : Eqv (rep l a ++ rep (inv l) a) [] := by
      have := eqv_inv_r (h.rep a)
      rw [inv_rep] at this
      exact this
    have := k.app (Eqv.refl (rep (inv l) (b - a))) Ls.nil
    rw [e, ← List.append_assoc]
    exact this
theorem pw_of {l : List Nat} (i : Int) : pw l i = red (if i < 0 then rep (inv l) (-i).toNat else rep l i.toNat) := by unfold pw; split <;> rfl
theorem zz_L {l : List Nat} (h : Ls l) (i : Int) : Ls (if i < 0 then rep (inv l) (-i).toNat else rep l i.toNat) := by
  split
  · exact h.inv.rep _
  · exact h.rep _
theorem pw_L {l : List Nat} (h : Ls l) (i : Int) : Ls (pw l i) := by rw [pw_of]; exact red_L (zz_L h i)
theorem pw_eqv {l : List Nat} (h : Ls l) (i : Int) : Eqv (pw l i) (if i < 0 then rep (inv l) (-i).toNat else rep l i.toNat) := by
  rw [pw_of]; exact (eqv_red (zz_L h i)).symm
theorem pw_add {l : List Nat} (h : Ls l) (i j : Int) : red (pw l i ++ pw l j) = pw l (i + j) := by
  have e := (pw_eqv h i).app (pw_eqv h j) (zz_L h i)
  rw [e.red, pw_of (i + j)]
  by_cases hi : i < 0 <;> by_cases hj : j < 0
  · rw [if_pos hi, if_pos hj, if_pos (by omega), ← rep_add]
    congr 2; omega
  · rw [if_pos hi, if_neg hj]
    have z := zmix h.inv (-i).toNat j.toNat
    rw [inv_inv h] at z
    rw [z.red]
    by_cases q : j.toNat ≤ (-i).toNat
    · rw [if_pos q]
      by_cases q2 : i + j < 0
      · rw [if_pos q2]; congr 2; omega
      · rw [if_neg q2]
        have e1 : (-i).toNat - j.toNat = 0 := by omega
        have e2 : (i + j).toNat = 0 := by omega
        rw [e1, e2]; rfl
    · rw [if_neg q, if_neg (by omega)]; congr 2; omega
  · rw [if_neg hi, if_pos hj]
    have z := zmix h i.toNat (-j).toNat
    rw [z.red]
    by_cases q : (-j).toNat ≤ i.toNat
    · rw [if_pos q, if_neg (by omega)]; congr 2; omega
    · rw [if_neg q, if_pos (by omega)]; congr 2; omega
  · rw [if_neg hi, if_neg hj, if_neg (by omega), ← rep_add]
    congr 2; omega
theorem pw_one (l : List Nat) : pw l 1 = red l := by
  rw [pw_of, if_neg (by decide)]
  show red (rep l 1) = _
  rw [rep_rep]
theorem pw_back (l : List Nat) : pw l (-1) = red (inv l) := by
  rw [pw_of, if_pos (by decide)]
  show red (rep (inv l) 1) = _
  rw [rep_rep]
theorem pw_len (l : List Nat) (i : Int) : (pw l i).length ≤ l.length * i.natAbs := by
  rw [pw_of]
  refine Nat.le_trans (red_len _) ?_
  split
  · rw [rep_len, inv_len]; exact Nat.le_of_eq (by congr 1; omega)
  · rw [rep_len]; exact Nat.le_of_eq (by congr 1; omega)
end RB
/-! Roots: what turns look like, the shortest one, and the greatest power. -/
namespace RB
/-- the row gone round, letter by letter -/
def cy (c : List Nat) (i : Nat) : Option Nat := c[i % c.length]?
theorem cy_low {c : List Nat} {i : Nat} (h : i < c.length) : cy c i = c[i]? := by unfold cy; rw [Nat.mod_eq_of_lt h]
theorem cy_len (c : List Nat) (i : Nat) : cy c (i + c.length) = cy c i := by unfold cy; rw [Nat.add_mod_right]
theorem two_at {c : List Nat} {i : Nat} (h : i < 2 * c.length) : (c ++ c)[i]? = cy c i := by
  by_cases q : i < c.length
  · rw [List.getElem?_append_left q, cy_low q]
  · have e : i = (i - c.length) + c.length := by omega
    rw [List.getElem?_append_right (by omega)]
    rw [e, cy_len, cy_low (by omega)]
    congr 1
    omega
theorem turn_at {c : List Nat} {d : Nat} : Turn c d ↔ d ≤ c.length ∧ ∀ i, i < c.length → cy c (i + d) = cy c i := by
  unfold Turn
  constructor
  · rintro ⟨h, hd⟩
    refine ⟨hd, fun i hi => ?_⟩
    have e : (((c ++ c).drop d).take c.length)[i]? = c[i]? := by rw [h]
    rw [List.getElem?_take, if_pos hi, List.getElem?_drop, Nat.add_comm, two_at (by omega)] at e
    rw [e, cy_low hi]
  · rintro ⟨hd, h⟩
    refine ⟨?_, hd⟩
    apply List.ext_getElem?
    intro i
    by_cases hi : i < c.length
    · rw [List.getElem?_take, if_pos hi, List.getElem?_drop, Nat.add_comm, two_at (by omega), h i hi, cy_low hi]
    · rw [List.getElem?_eq_none (by rw [List.length_take]; omega), List.getElem?_eq_none (by omega)]
theorem cy_mod (c : List Nat) (i : Nat) : cy c (i % c.length) = cy c i := by unfold cy; rw [Nat.mod_mod]
theorem turn_all {c : List Nat} {d : Nat} (h0 : c ≠ []) (h : Turn c d) (i : Nat) : cy c (i + d) = cy c i := by
  have pos := List.length_pos_iff.mpr h0
  have := (turn_at.mp h).2 (i % c.length) (Nat.mod_lt _ pos)
  rw [cy_mod] at this
  rw [← this]
  unfold cy
  rw [Nat.mod_add_mod]
theorem turn_mul {c : List Nat} {d : Nat} (h0 : c ≠ []) (h : Turn c d) (i : Nat) : ∀ k, cy c (i + d * k) = cy c i
  | 0 => rfl
  | k + 1 => by
    have e : i + d * (k + 1) = (i + d * k) + d := by rw [Nat.mul_succ]; omega
    rw [e, turn_all h0 h, turn_mul h0 h i k]
/-- the shortest turn divides the length -/
theorem per_dvd {c : List Nat} {d : Nat} (h0 : c ≠ []) (h : Per c d) : d ∣ c.length := by
  obtain ⟨h1, ht, hm⟩ := h
  apply Nat.dvd_of_mod_eq_zero
  by_cases z : c.length % d = 0
  · exact z
  · exfalso
    have lt := Nat.mod_lt c.length (by omega : d > 0)
    refine hm (c.length % d) (by omega) lt (turn_at.mpr ⟨Nat.mod_le _ _, fun i _ => ?_⟩)
    have e := turn_mul h0 ht (i + c.length % d) (c.length / d)
    have e2 : i + c.length % d + d * (c.length / d) = i + c.length := by have := Nat.mod_add_div c.length d; omega
    rw [e2, cy_len] at e
    exact e.symm
theorem rep_at {u : List Nat} : ∀ {n i : Nat}, i < n * u.length → (rep u n)[i]? = u[i % u.length]?
  | 0, i, h => by omega
  | n + 1, i, h => by
    show (u ++ rep u n)[i]? = _
    by_cases q : i < u.length
    · rw [List.getElem?_append_left q, Nat.mod_eq_of_lt q]
    · rw [List.getElem?_append_right (by omega), rep_at (by rw [Nat.succ_mul] at h; omega)]
      congr 1
      have e : i = (i - u.length) + u.length := by omega
      conv => rhs; rw [e]
      rw [Nat.add_mod_right]
/-- the row is its first letters so often -/
theorem per_rep {c : List Nat} {d : Nat} (h0 : c ≠ []) (hd : 1 ≤ d) (ht : Turn c d) (hv : d ∣ c.length) : rep (c.take d) (c.length / d) = c := by
  have dl : (c.take d).length = d := by rw [List.length_take]; have := ht.2; omega
  have ml : c.length / d * d = c.length := Nat.div_mul_cancel hv
  apply List.ext_getElem?
  intro i
  by_cases hi : i < c.length
  · rw [rep_at (by rw [dl, ml]; exact hi), dl, List.getElem?_take, if_pos (Nat.mod_lt _ (by omega))]
    have e := turn_mul h0 ht (i % d) (i / d)
    rw [Nat.mod_add_div, cy_low hi] at e
    have hlt : i % d < c.length := by have := Nat.mod_lt i (by omega : d > 0); have := ht.2; omega
    rw [cy_low hlt] at e
    exact e.symm
  · have : (rep (c.take d) (c.length / d)).length = c.length := by rw [rep_len, dl, Nat.mul_comm, ml]
    rw [List.getElem?_eq_none (by omega), List.getElem?_eq_none (by omega)]
/-- what is put together of so many alike turns by one of them -/
theorem rep_turn {u : List Nat} {n : Nat} (h0 : u ≠ []) (hn : 1 ≤ n) : Turn (rep u n) u.length := by
  have pos := List.length_pos_iff.mpr h0
  have hl : (rep u n).length = n * u.length := by rw [rep_len, Nat.mul_comm]
  have hle : u.length ≤ n * u.length := Nat.le_mul_of_pos_left _ hn
  refine turn_at.mpr ⟨by omega, fun i hi => ?_⟩
  have at_ : ∀ j, cy (rep u n) j = u[j % u.length]? := fun j => by
    unfold cy
    rw [hl, rep_at (Nat.mod_lt _ (by omega)), Nat.mod_mod_of_dvd _ (Nat.dvd_mul_left _ _)]
  rw [at_, at_, Nat.add_mod_right]
/-- a turn of the one is a turn of all -/
theorem turn_up {u : List Nat} {n k : Nat} (h0 : u ≠ []) (hn : 1 ≤ n) (h : Turn u k) : Turn (rep u n) k := by
  have pos := List.length_pos_iff.mpr h0
  have hl : (rep u n).length = n * u.length := by rw [rep_len, Nat.mul_comm]
  have hle : u.length ≤ n * u.length := Nat.le_mul_of_pos_left _ hn
  have hk := h.2
  refine turn_at.mpr ⟨by omega, fun i hi => ?_⟩
  have at_ : ∀ j, cy (rep u n) j = cy u j := fun j => by
    unfold cy
    rw [hl, rep_at (Nat.mod_lt _ (by omega)), Nat.mod_mod_of_dvd _ (Nat.dvd_mul_left _ _)]
  rw [at_, at_, turn_all h0 h]
/-- the ends of a net can be taken in one way only -/
theorem cut_one {t : List Nat} {a b : Nat} (ca : Cut t a) (sa : Stop t a) (cb : Cut t b) (sb : Stop t b) : a = b := by
  have key : ∀ {a b : Nat}, Cut t b → Stop t a → ¬ a < b := fun {a b} cb sa lt => by
    have hs := cb.small
    have hx : t[a]? = some t[a] := List.getElem?_eq_getElem (by omega)
    have hy := cb.ends a _ lt hx
    exact sa _ _ (by omega) hx hy rfl
  rcases Nat.lt_trichotomy a b with h | h | h
  · exact absurd h (key cb sa)
  · exact h
  · exact absurd h (key ca sb)
/-! a row that loses nothing is a net -/
theorem push_lt {st : List Nat} {c : Nat} : (push st c).length = st.length + 1 → push st c = c :: st := by
  cases st with
  | nil => intro _; rfl
  | cons t r =>
    intro h
    by_cases e : t = sw c
    · have e1 : push (t :: r) c = r := if_pos e
      rw [e1] at h
      simp at h; omega
    · exact if_neg e
theorem fold_full : ∀ (l st : List Nat), (l.foldl push st).length = st.length + l.length → l.foldl push st = l.reverse ++ st
  | [], st, _ => rfl
  | c :: l, st, h => by
    have h1 := kst_len_aux l (push st c)
    have h2 := push_len st c
    have h3 : (l.foldl push (push st c)).length = st.length + (l.length + 1) := h
    have h4 : (push st c).length = st.length + 1 := by omega
    have e := push_lt h4
    have h5 := fold_full l (push st c) (by omega)
    show l.foldl push (push st c) = _
    rw [h5, e]; simp
theorem red_full {l : List Nat} (h : (red l).length = l.length) : red l = l := by
  have h1 : (l.foldl push []).length = ([] : List Nat).length + l.length := by
    have : (red l).length = (kst l).length := by unfold red; rw [List.length_reverse]
    rw [h] at this
    show (kst l).length = _
    rw [← this]; simp
  have := fold_full l [] h1
  unfold red kst
  rw [this]; simp
/-- the ends may be dropped from both -/
theorem eqv_drop {s x y : List Nat} (hs : Ls s) (hx : Ls x) (hy : Ls y) (h : Eqv (s ++ x ++ inv s) (s ++ y ++ inv s)) : Eqv x y := by
  have f : ∀ {z : List Nat}, Ls z → Eqv (inv s ++ ((s ++ z ++ inv s) ++ s)) z := fun {z} hz => by
    have e : inv s ++ ((s ++ z ++ inv s) ++ s) = (inv s ++ s) ++ (z ++ (inv s ++ s)) := by simp
    rw [e]
    have k := (eqv_inv_l hs).app ((Eqv.refl z).app (eqv_inv_l hs) hz) Ls.nil
    rw [List.nil_append, List.append_nil] at k
    exact k
  exact (f hx).symm.trans (((Eqv.refl (inv s)).app (h.app (Eqv.refl s) ((hs.app hy).app hs.inv)) hs.inv).trans (f hy))
theorem rep_side {s u : List Nat} (hs : Ls s) (hu : Ls u) : ∀ n, Eqv (rep (s ++ u ++ inv s) (n + 1)) (s ++ rep u (n + 1) ++ inv s)
  | 0 => by rw [rep_rep, rep_rep]; exact Eqv.refl _
  | n + 1 => by
    have h1 : Eqv (rep (s ++ u ++ inv s) (n + 1 + 1)) ((s ++ u ++ inv s) ++ (s ++ rep u (n + 1) ++ inv s)) := (Eqv.refl _).app (rep_side hs hu n) ((hs.app hu).app hs.inv)
    refine h1.trans ?_
    have h2 : (s ++ u ++ inv s) ++ (s ++ rep u (n + 1) ++ inv s) = (s ++ u) ++ ((inv s ++ s) ++ (rep u (n + 1) ++ inv s)) := by simp
    have h3 : s ++ rep u (n + 1 + 1) ++ inv s = (s ++ u) ++ ([] ++ (rep u (n + 1) ++ inv s)) := by
      show s ++ (u ++ rep u (n + 1)) ++ inv s = _
      simp
    rw [h2, h3]
    exact (Eqv.refl _).app ((eqv_inv_l hs).app (Eqv.refl _) Ls.nil) (hs.app hu)
end RB
namespace RB
theorem core_ends {t : List Nat} {a : Nat} (c : Cut t a) : t.drop (t.length - a) = inv (t.take a) ∧ t = t.take a ++ mid t a ++ inv (t.take a) := by
  have e := cut_eq c
  have hs := c.small
  have e2 : t = t.take a ++ mid t a ++ inv (t.take a) := e
  refine ⟨?_, e2⟩
  have hl : (t.take a ++ mid t a).length = t.length - a := by
    rw [List.length_append, List.length_take, mid_len hs]; omega
  conv => lhs; rw [e2]
  have : t.length - a = (t.take a ++ mid t a).length := hl.symm
  rw [← e2, this]
  conv => lhs; arg 2; rw [e2]
  rw [List.drop_left]
theorem core_first {t : List Nat} {a e : Nat} (h : e ≤ t.length - 2 * a) : t.take (a + e) = t.take a ++ (mid t a).take e := by
  unfold mid
  rw [List.take_take, Nat.min_eq_left h, List.take_add]
/-- what the law tries, at k times -/
theorem root_test {t : List Nat} {a k : Nat} (ht : Ls t) (np : NoPair t) (h0 : t ≠ []) (c : Cut t a) (s : Stop t a) (hk : k ∣ (mid t a).length) (k1 : 1 ≤ k) :
    red (rep (t.take a ++ (mid t a).take ((mid t a).length / k) ++ inv (t.take a)) k) = t ↔ Turn (mid t a) ((mid t a).length / k) := by
  have hm : Ls (mid t a) := (ht.drop a).take _
  have hs := ht.take a
  have co := core_of ht np h0 c s
  have e2 := (core_ends c).2
  obtain ⟨n, rfl⟩ : ∃ n, k = n + 1 := ⟨k - 1, by omega⟩
  generalize hc : mid t a = m at *
  generalize he : m.length / (n + 1) = e
  have hu : Ls (m.take e) := hm.take e
  have ek : e * (n + 1) = m.length := by rw [← he]; exact Nat.div_mul_cancel hk
  have mpos : 0 < m.length := List.length_pos_iff.mpr co.1
  have e1 : 1 ≤ e := by
    rcases Nat.eq_zero_or_pos e with z | z
    · rw [z] at ek; omega
    · exact z
  have em : e ≤ m.length := by rw [← ek]; exact Nat.le_mul_of_pos_right _ (by omega)
  have ul : (m.take e).length = e := by rw [List.length_take]; omega
  have rl : (rep (m.take e) (n + 1)).length = m.length := by rw [rep_len, ul, ek]
  have side := rep_side hs hu n
  constructor
  · intro h
    have q1 : Eqv (t.take a ++ rep (m.take e) (n + 1) ++ inv (t.take a)) (t.take a ++ m ++ inv (t.take a)) := by
      refine eqv_of ((hs.app (hu.rep _)).app hs.inv) ((hs.app hm).app hs.inv) ?_
      rw [← side.red, h, ← e2, red_id ht np]
    have q2 := eqv_drop hs (hu.rep _) hm q1
    have npm : NoPair m := by
      have : NoPair (t.take a ++ m ++ inv (t.take a)) := by rw [← e2]; exact np
      exact NoPair.app_right (a := t.take a) this.app_left
    have q3 : red (rep (m.take e) (n + 1)) = m := by rw [q2.red, red_id hm npm]
    have q4 : rep (m.take e) (n + 1) = m := (red_full (by rw [q3, rl])).symm.trans q3
    have ne : m.take e ≠ [] := fun z => by rw [z] at ul; simp at ul; omega
    have := rep_turn (n := n + 1) ne (by omega)
    rw [q4, ul] at this
    exact this
  · intro h
    have hv : e ∣ m.length := ⟨n + 1, ek.symm⟩
    have q := per_rep co.1 e1 h hv
    have dv : m.length / e = n + 1 := by rw [← ek]; exact Nat.mul_div_cancel_left _ (by omega)
    rw [dv] at q
    rw [side.red, q, ← e2, red_id ht np]
/-- at the root's times it is the whole -/
theorem root_whole {t : List Nat} {a d : Nat} (ht : Ls t) (np : NoPair t) (h0 : t ≠ []) (c : Cut t a) (s : Stop t a) (p : Per (mid t a) d) :
    red (rep (t.take a ++ (mid t a).take d ++ inv (t.take a)) ((mid t a).length / d)) = t := by
  have co := core_of ht np h0 c s
  have hv := per_dvd co.1 p
  have mpos : 0 < (mid t a).length := List.length_pos_iff.mpr co.1
  have k1 : 1 ≤ (mid t a).length / d := Nat.div_pos p.2.1.2 p.1
  have kd : (mid t a).length / d * d = (mid t a).length := Nat.div_mul_cancel hv
  have e : (mid t a).length / ((mid t a).length / d) = d := by
    conv => lhs; arg 1; rw [← kd]
    exact Nat.mul_div_cancel_left _ k1
  have := (root_test (k := (mid t a).length / d) ht np h0 c s ⟨d, kd.symm⟩ k1).mpr (by rw [e]; exact p.2.1)
  rw [e] at this
  exact this
/-- above them it is not -/
theorem root_above {t : List Nat} {a d k : Nat} (ht : Ls t) (np : NoPair t) (h0 : t ≠ []) (c : Cut t a) (s : Stop t a) (p : Per (mid t a) d) (hk : k ∣ (mid t a).length) (gt : (mid t a).length / d < k) :
    red (rep (t.take a ++ (mid t a).take ((mid t a).length / k) ++ inv (t.take a)) k) ≠ t := by
  intro h
  have kpos : 0 < k := Nat.lt_of_le_of_lt (Nat.zero_le _) gt
  have co := core_of ht np h0 c s
  have mpos : 0 < (mid t a).length := List.length_pos_iff.mpr co.1
  have hv := per_dvd co.1 p
  have ht2 := (root_test ht np h0 c s hk kpos).mp h
  obtain ⟨e, ee⟩ := hk
  have eq : (mid t a).length / k = e := by rw [ee]; exact Nat.mul_div_cancel_left _ kpos
  rw [eq] at ht2
  have e1 : 1 ≤ e := by
    rcases Nat.eq_zero_or_pos e with z | z
    · rw [z] at ee; omega
    · exact z
  refine p.2.2 e e1 ?_ ht2
  have kd : (mid t a).length / d * d = (mid t a).length := Nat.div_mul_cancel hv
  rcases Nat.lt_or_ge e d with q | q
  · exact q
  · exfalso
    have h1 : ((mid t a).length / d) * d < k * d := Nat.mul_lt_mul_of_pos_right gt (by have := p.1; omega)
    have h2 : k * d ≤ k * e := Nat.mul_le_mul_left k q
    omega
/-- the root: its ends are those of the whole, and what is between is no power -/
theorem root_root {t : List Nat} {a d : Nat} (ht : Ls t) (np : NoPair t) (h0 : t ≠ []) (c : Cut t a) (s : Stop t a) (p : Per (mid t a) d) :
    ∃ r, r = t.take a ++ (mid t a).take d ++ inv (t.take a) ∧ Ls r ∧ NoPair r ∧ r ≠ [] ∧ Cut r a ∧ Stop r a ∧ r.take a = t.take a ∧ mid r a = (mid t a).take d ∧ (∀ e, Per ((mid t a).take d) e → e = d) ∧ ((mid t a).take d).length = d := by
  have hm : Ls (mid t a) := (ht.drop a).take _
  have hs := ht.take a
  have co := core_of ht np h0 c s
  have e2 := (core_ends c).2
  have cs := c.small
  have ml := mid_len cs
  have hv := per_dvd co.1 p
  have kd : (mid t a).length / d * d = (mid t a).length := Nat.div_mul_cancel hv
  have k1 : 1 ≤ (mid t a).length / d := Nat.div_pos p.2.1.2 p.1
  have rp := per_rep co.1 p.1 p.2.1 hv
  obtain ⟨n, en⟩ : ∃ n, (mid t a).length / d = n + 1 := ⟨(mid t a).length / d - 1, by omega⟩
  rw [en] at rp
  have ul : ((mid t a).take d).length = d := by rw [List.length_take]; have := p.2.1.2; omega
  have une : (mid t a).take d ≠ [] := fun z => by rw [z] at ul; have := p.1; simp at ul; omega
  have uL : Ls ((mid t a).take d) := hm.take d
  have hh : ((mid t a).take d).head? = (mid t a).head? := by rw [← rep_head une n, rp]
  have hl : ((mid t a).take d).getLast? = (mid t a).getLast? := by rw [← rep_last une n, rp]
  have np2 : NoPair (t.take a ++ mid t a ++ inv (t.take a)) := by rw [← e2]; exact np
  have npm : NoPair (mid t a) := NoPair.app_right (a := t.take a) np2.app_left
  have npu : NoPair ((mid t a).take d) := by
    have : (mid t a).take d ++ (mid t a).drop d = mid t a := List.take_append_drop _ _
    rw [← this] at npm
    exact npm.app_left
  have npr := np_between co.1 une np2 npu hh hl
  have tl : (t.take a).length = a := by rw [List.length_take]; omega
  refine ⟨_, rfl, (hs.app uL).app hs.inv, npr, ?_, ?_, ?_, ?_, ?_, ?_, ul⟩
  · intro z
    have := congrArg List.length z
    have d1 := p.1
    simp only [List.length_append, ul, List.length_nil] at this
    omega
  · refine ⟨by rw [List.length_append, List.length_append, inv_len, ul, tl]; omega, fun i x hi hx => ?_⟩
    rw [List.append_assoc, List.getElem?_append_left (by omega)] at hx
    have hx2 : t[i]? = some x := by rw [List.getElem?_take, if_pos hi] at hx; exact hx
    have := c.ends i x hi hx2
    have el : (t.take a ++ (mid t a).take d ++ inv (t.take a)).length - 1 - i = (t.take a ++ (mid t a).take d).length + (a - 1 - i) := by
      simp only [List.length_append, inv_len, ul, tl]; omega
    rw [el, List.getElem?_append_right (by omega), Nat.add_sub_cancel_left]
    have el2 : t.length - 1 - i = (t.length - a) + (a - 1 - i) := by omega
    rw [el2, ← List.getElem?_drop, (core_ends c).1] at this
    exact this
  · intro x y big hx hy
    have ll : (t.take a ++ (mid t a).take d ++ inv (t.take a)).length = 2 * a + d := by
      simp only [List.length_append, inv_len, ul, tl]; omega
    rw [ll] at big
    have hx2 : t[a]? = some x := by
      rw [List.append_assoc, List.getElem?_append_right (by omega), tl, Nat.sub_self, List.getElem?_append_left (by omega)] at hx
      rw [List.getElem?_take, if_pos (by omega)] at hx
      unfold mid at hx
      rw [List.getElem?_take, if_pos (by have := p.2.1.2; omega), List.getElem?_drop] at hx
      exact hx
    have hy2 : t[t.length - 1 - a]? = some y := by
      have el : (t.take a ++ (mid t a).take d ++ inv (t.take a)).length - 1 - a = a + (d - 1) := by omega
      rw [el, List.append_assoc, List.getElem?_append_right (by omega), tl, Nat.add_sub_cancel_left, List.getElem?_append_left (by omega)] at hy
      have g : ((mid t a).take d).getLast? = some y := by rw [List.getLast?_eq_getElem?, ul]; exact hy
      rw [hl, List.getLast?_eq_getElem?, ml] at g
      unfold mid at g
      have dm := p.2.1.2
      rw [List.getElem?_take, if_pos (by omega), List.getElem?_drop] at g
      rw [← g]; congr 1; omega
    exact s x y (by have := p.2.1.2; omega) hx2 hy2
  · rw [List.append_assoc, List.take_left' tl]
  · unfold mid
    rw [List.append_assoc, List.drop_left' tl]
    have el : (t.take a ++ ((t.drop a).take (t.length - 2 * a)).take d ++ inv (t.take a)).length - 2 * a = (((t.drop a).take (t.length - 2 * a)).take d).length := by
      simp only [List.length_append, inv_len, tl]; omega
    rw [← List.append_assoc, el, List.take_left]
  · intro e pe
    have et := turn_up (n := n + 1) une (by omega) pe.2.1
    rw [rp] at et
    have le := pe.2.1.2
    rw [ul] at le
    rcases Nat.lt_or_ge e d with q | q
    · exact absurd et (p.2.2 e pe.1 q)
    · omega
end RB
namespace RB
open PySem L2
/-! ### the order of rows, letter by letter -/
def lexI (xs ys : List Int) : Bool := PyProof.Rows.lexLt PyProof.Rows.itemOrd (PySem.W.keyToksAll (xs.map PyData.int)) (PySem.W.keyToksAll (ys.map PyData.int))
theorem lexI_nil : lexI [] [] = false := by
  unfold lexI
  simp only [List.map_nil, PySem.W.keyToksAll]
  rfl
theorem lexI_same (x : Int) (xs ys : List Int) : lexI (x :: xs) (x :: ys) = lexI xs ys :=
  PySem.W.dataLt_all_yes (x := .int x) (y := .int x) rfl (by simp [PyData.eqv])
theorem lexI_ne {x y : Int} (h : x ≠ y) (xs ys : List Int) : lexI (x :: xs) (y :: ys) = decide (x < y) := by
  have := PySem.W.dataLt_all_no (x := .int x) (y := .int y) (xs := xs.map PyData.int) (ys := ys.map PyData.int) rfl (by simp [PyData.eqv, h])
  rw [PySem.W.dataLt_int] at this
  exact this
theorem al_int (i j : Int) : PySem.W.alike (.int i) (.int j) = true := by simp only [PySem.W.alike]
theorem earl_len {l m : List Nat} (h : l.length ≠ m.length) : earl l m = decide (l.length < m.length) := by
  unfold earl plD
  have e1 : PyData.eqv (.int (l.length : Nat)) (.int (m.length : Nat)) = false := by simp [PyData.eqv]; omega
  rw [PySem.W.dataLt_tuple, PySem.W.dataLt_all_no (al_int _ _) e1, PySem.W.dataLt_int]
  by_cases q : l.length < m.length
  · rw [decide_eq_true q, decide_eq_true (by omega)]
  · rw [decide_eq_false q, decide_eq_false (by omega)]
theorem alike_lists (ns ms : List Int) : PySem.W.alike (.list (ns.map PyData.int)) (.list (ms.map PyData.int)) = true := by
  have := alike_ints ns ms
  simp only [PySem.W.alike, this]
theorem map_ints (l : List Nat) : (l.map fun c => PyData.int (posL c)) = (l.map posL).map PyData.int := by rw [List.map_map]; rfl
theorem eqv_intsAll : ∀ ns ms : List Int, PyData.eqvAll (ns.map PyData.int) (ms.map PyData.int) = decide (ns = ms)
  | [], [] => by simp [PyData.eqvAll]
  | [], b :: t => by simp [PyData.eqvAll]
  | a :: r, [] => by simp [PyData.eqvAll]
  | a :: r, b :: t => by
    have ih := eqv_intsAll r t
    simp only [List.map_cons, PyData.eqvAll, PyData.eqv, ih]
    by_cases h : a = b <;> by_cases h2 : r = t <;> simp [h, h2]
theorem lexI_self : ∀ ns : List Int, lexI ns ns = false
  | [] => lexI_nil
  | n :: r => by rw [lexI_same]; exact lexI_self r
theorem earl_same {l m : List Nat} (h : l.length = m.length) : earl l m = lexI (l.map posL) (m.map posL) := by
  unfold earl plD
  have e1 : PyData.eqv (.int (l.length : Nat)) (.int (m.length : Nat)) = true := by simp [PyData.eqv, h]
  rw [PySem.W.dataLt_tuple, PySem.W.dataLt_all_yes (al_int _ _) e1, map_ints, map_ints]
  cases q : PyData.eqv (.list ((l.map posL).map PyData.int)) (.list ((m.map posL).map PyData.int)) with
  | false => rw [PySem.W.dataLt_all_no (alike_lists _ _) q, PySem.W.dataLt_list]; rfl
  | true =>
    rw [PySem.W.dataLt_all_yes (alike_lists _ _) q]
    have e2 := eqv_intsAll (l.map posL) (m.map posL)
    simp only [PyData.eqv] at q
    rw [e2] at q
    rw [of_decide_eq_true q, lexI_self]
    exact lexI_nil
theorem posL_inj {x y : Nat} (hx : IsL x) (hy : IsL y) (h : posL x = posL y) : x = y := by
  unfold IsL at hx hy
  unfold posL at h
  split at h <;> split at h <;> omega
theorem drop_at {l : List Nat} {i x : Nat} (h : l[i]? = some x) : l.drop i = x :: l.drop (i + 1) := by
  have hlt : i < l.length := by
    rcases Nat.lt_or_ge i l.length with q | q
    · exact q
    · rw [List.getElem?_eq_none q] at h; cases h
  rw [List.drop_eq_getElem_cons hlt]
  congr 1
  rw [List.getElem?_eq_getElem hlt] at h
  exact Option.some.inj h
end RB
namespace RB
open PySem L2
theorem per_one {c : List Nat} {d e : Nat} (h : Per c d) (k : Per c e) : d = e := by
  rcases Nat.lt_trichotomy d e with q | q | q
  · exact absurd h.2.1 (k.2.2 d h.1 q)
  · exact q
  · exact absurd k.2.1 (h.2.2 e k.1 q)
theorem sh_rt {l : List Nat} (h : Ls l) (i : Int) : SeqAt.shaped (.tuple [.str (S l), .int i]) = true := by
  have := ok_S h
  simp only [SeqAt.shaped, PyData.canLay0, PyData.canLayAll0, PyData.depth, PyData.depthAll, this]; rfl
theorem eq_rt (l : List Nat) (i : Int) : PyData.eqv (.tuple [.str (S l), .int i]) (.tuple [.str (S l), .int i]) = true := by
  simp [PyData.eqv, PyData.eqvAll]
theorem dp_rt {K : PySem.W.Frag} {H : Hp} {p : Addr} {l : List Nat} {i : Int} (h : H p = some (.tup [.str (S l), .int i])) : Dp K H (.ref p) (.tuple [.str (S l), .int i]) :=
  .tup (SqT.of h) (.cons (.str _) (.cons (.int _) .nil))
/-- a root and its times compared with another one -/
theorem ne_rt {K : PySem.W.Frag} {H : Hp} {Q : VK} {p q : Addr} {l : List Nat} {i : Int} (hl : Ls l) (hp : H p = some (.tup [.str (S l), .int i])) (hq : H q = some (.tup [.str (S l), .int i])) (h : Q (.bl false) H) : rNeD K (.ref p) (.ref q) H Q :=
  ⟨_, _, dp_rt hp, dp_rt hq, sh_rt hl i, sh_rt hl i, by rw [eq_rt]; exact h⟩
theorem eq_rts {K : PySem.W.Frag} {H : Hp} {Q : VK} {p q : Addr} {l : List Nat} {i : Int} (hl : Ls l) (hp : H p = some (.tup [.str (S l), .int i])) (hq : H q = some (.tup [.str (S l), .int i])) (h : Q (.bl true) H) : rEqD K (.ref p) (.ref q) H Q :=
  ⟨_, _, dp_rt hp, dp_rt hq, sh_rt hl i, sh_rt hl i, by rw [eq_rt]; exact h⟩
end RB
/-! Rules: enumerate over a tuple, zip of two texts. -/
namespace L2
open PySem PySem.Spec PyProof.Rows
/-- number and item, a new pair each, of the tuple at t -/
def IteT (K : PySem.W.Frag) (t : Addr) : It :=
  ⟨fun i G => ∃ (ys : List V) (y : V), SqT K G t ys ∧ ys[i]? = some y,
   fun i G v G' => ∃ T y, v = .ref T ∧ G T = none ∧ G' = upd G T (.tup [.int (i : Nat), y]) ∧ ∀ ys, SqT K G t ys → ys[i]? = some y,
   fun i G => ∃ ys : List V, SqT K G t ys ∧ ys.length = i⟩
theorem turn_enumT {P : Program} {w : World} {K : PySem.W.Frag} {es : List Expr} {kk : Nat} {tp : Pos} {t e it : Addr} (nt : t ≠ it) (ne : t ≠ e) (nei : e ≠ it) :
    Turn P w K (.Tuple es kk tp) (IteT K t) [e, it] e (fun i h => (∃ old, IsEnum h e it ((i : Nat) : Int) old) ∧ h.IsTupleIter it t i) where
  mem := List.mem_cons_self
  obj := fun i h st b hb => by
    obtain ⟨⟨old, he⟩, o, ho, hc, hd⟩ := st
    rcases List.mem_cons.mp hb with z | z
    · subst z; exact ⟨_, he, fun v q => nomatch q⟩
    · rw [List.mem_singleton.mp z]
      exact ⟨o, ho, fun v q => by rw [hd] at q; cases q⟩
  keep := fun i h h' st k => ⟨⟨st.1.choose, k e List.mem_cons_self _ st.1.choose_spec⟩, st.2.at fun o q => k it (by simp) o q⟩
  item := by
    intro X hP hw hK hc i pins s σ G E I hf st hg
    subst hP hw hK
    obtain ⟨⟨old, he⟩, hit⟩ := st
    obtain ⟨ys, y, hq, hy⟩ := hg
    obtain ⟨its, rv, p, hz⟩ := I.tuple hq
    obtain ⟨u, hu, ru⟩ := rv.get hy
    have pt : s.heap.IsTuple t its.toArray := p
    have el : e < s.heap.objs.size := Heap.lt_size he
    have il : it < s.heap.objs.size := by obtain ⟨_, q, _⟩ := hit; exact Heap.lt_size q
    have il' : i < its.toArray.size := by
      rcases Nat.lt_or_ge i its.length with q | q
      · simpa using q
      · rw [List.getElem?_eq_none q] at hu; cases hu
    refine wpAny_pyNext_enum_itemD (Draws.tuple (A := X.A.in1) (I.ok.hd hc) it t nt its.toArray) he ⟨hit, pt⟩ il' nei (by simp [nei, ne.symm]) fun x h' tk hx ho hst hT hsz hk => ?_
    obtain rfl : u = x := by
      have hx2 : its[i]? = some x := by simpa using hx
      rw [hu] at hx2; exact Option.some.inj hx2
    refine ⟨_, rfl, wpAny_letOwnedTupleGo_enum (s := { s with heap := h', toks := tk + 1 }) ho fun h2 he2 sb => ?_⟩
    have hT2 : h2.get? s.heap.objs.size = some { cls := .type "tuple", data := .seq #[.int i tk, u] } := (sb.2 _ (Nat.ne_of_gt el)).trans hT
    have fresh : ObjOk X.prog X.w (upd G s.heap.objs.size (.tup [.int (i : Nat), y])) h2 s.heap.objs.size (.tup [.int (i : Nat), y]) :=
      ⟨by show 2 ≤ sizeLine; decide, [.int i tk, u], .cons ⟨tk, rfl⟩ (.cons ru .nil), ⟨_, hT2, rfl, _, rfl⟩⟩
    have J : Inv X pins σ (upd G s.heap.objs.size (.tup [.int (i : Nat), y])) { s with heap := h2, toks := tk + 1 } :=
      I.turnedNew (t' := tk + 1) (ch := [e, it]) (fun b o nb q => (sb.2 b (fun z => nb (by simp [z]))).trans (hk b o (fun z => nb (by simp [z])) (fun z => nb (by simp [z])) q)) hf (Nat.le_refl _) fresh
    refine ⟨.ref s.heap.objs.size, _, J, rfl, ⟨_, y, rfl, I.hok.fresh (Nat.le_refl _), rfl, fun zs hzs => by rw [I.tuple_inj hzs hq]; exact hy⟩, ⟨⟨u, ?_⟩, hst.1.at fun o q => (sb.2 it nei.symm).trans q⟩, fun b hb => ?_⟩
    · rw [show ((i + 1 : Nat) : Int) = (i : Int) + 1 by omega]; exact he2
    · have bl : b < s.heap.objs.size := by
        rcases List.mem_cons.mp hb with z | z
        · rw [z]; exact el
        · rw [List.mem_singleton.mp z]; exact il
      rw [upd_ne (Nat.ne_of_lt bl)]; exact (hf b hb).1
  done := by
    intro X hP hw hK hc i pins s σ G E I hf st hg
    subst hP hw hK
    obtain ⟨⟨old, he⟩, hit⟩ := st
    obtain ⟨ys, hq, hy⟩ := hg
    obtain ⟨its, rv, p, hz⟩ := I.tuple hq
    obtain ⟨f0, f1, f2, f3, f4, f5⟩ := hf it (by simp)
    have hl : its.toArray.size = i := by rw [List.size_toArray, ← rv.length]; exact hy
    subst hl
    exact wpAny_pyNext_enum_endD (Draws.tuple (A := X.A.in1) (I.ok.hd hc) it t nt its.toArray) he ⟨hit, p⟩ fun h' eb => ⟨rfl, I.turned (t' := s.toks) (fun b o nb q => eb b o nb q) f0 f1 f3 f4 f5⟩
  self := fun A i s Q E st h => wpAny_pyIter_enum st.1.choose_spec h
set_option maxHeartbeats 1000000 in
theorem meets_enum_tuple {v : Value} {o : Obj} {Z : Heap → Prop} (B : Begins v o Z) :
    Meets (Builtin.«enumerate.__new__» ⟨[.type "enumerate", v], []⟩) (fun _ R s => Z s.heap ∧
      R (.ok (.ret (.ref (s.heap.push o).objs.size))) { s with heap := (s.heap.push o).push { cls := .type "enumerate", data := .fields #[.none, .bool false, .ref s.heap.objs.size, rawInt 0, .none, .none] } }) :=
  .of_wp fun pr wo A R s hyp => by
    obtain ⟨hp, gs, dr, tk, sy⟩ := s
    obtain ⟨z1, fin⟩ := hyp
    have hsub := sub_enumerate
    have it1 : ∀ {A' : Around} {E : Value → Shared → Prop} {Q : Value → Shared → Prop}, Q (.ref hp.objs.size) ⟨hp.push o, gs, dr, tk, sy⟩ → wpAny (model pr wo) A' (pyIter v) Q E ⟨hp, gs, dr, tk, sy⟩ :=
      fun q => B.iter pr wo _ _ ⟨hp, gs, dr, tk, sy⟩ _ z1 q
    wp_walk using it1
    refine wpAny_stack_any fun st => wpAny_pure ?_
    split
    · rename_i c _ _ _ _ _
      cases (c == Value.type "enumerate") <;> (wp_walk using it1; exact ⟨_, rfl, fin⟩)
    · wp_walk using it1
      exact ⟨_, rfl, fin⟩
theorem call_enum_begins {prog : Program} {w : World} {A : Around} {E : Value → Shared → Prop} {s : Shared} {v : Value} {o : Obj} {Z : Heap → Prop} {Q : Value → Shared → Prop} (B : Begins v o Z) (z : Z s.heap)
    (fin : ∀ h', IsEnum h' (s.heap.objs.size + 1) s.heap.objs.size 0 .none → h'.get? s.heap.objs.size = some o → (∀ b u, s.heap.get? b = some u → h'.get? b = some u) → Q (.ref (s.heap.objs.size + 1)) { s with heap := h' }) :
    wpAny (model prog w) A (call (.type "enumerate") [v]) Q E s := by
  refine callType_new F.called_enumerate (by decide) (F.typeCall_enumerate_1 _) (F.newCall_enumerate_1 _) (fun ob => F.args_object_init_2 ob _) F.entry_enumerate_new (meets_enum_tuple B) ⟨z, ?_⟩
  have sz : (s.heap.push o).objs.size = s.heap.objs.size + 1 := Heap.size_push ..
  show _ ∧ _
  rw [sz]
  have new : IsEnum ((s.heap.push o).push { cls := .type "enumerate", data := .fields #[.none, .bool false, .ref s.heap.objs.size, rawInt 0, .none, .none] }) (s.heap.objs.size + 1) s.heap.objs.size 0 .none := by
    have q := Heap.get?_push_size (s.heap.push o) (o := { cls := .type "enumerate", data := .fields #[.none, .bool false, .ref s.heap.objs.size, rawInt 0, .none, .none] }) rfl
    rw [sz] at q; exact q
  exact ⟨⟨_, new, rfl⟩, fin _ new (Heap.get?_push_of_some _ (Heap.get?_push_size _ B.free)) fun b u x => Heap.get?_push_of_some _ (Heap.get?_push_of_some _ x)⟩
def iEnumT (K : PySem.W.Frag) (ta : TA) : TI := fun σ G R => ta σ G fun vs G1 => ∃ t ys, vs = [.ref t] ∧ SqT K G1 t ys ∧ R (IteT K t) G1
theorem pi_enumT {X : Cx} {K : PySem.W.Frag} (eK : X.K = K) {x : Expr} {ta : TA} {p cp tp : Pos} {es : List Expr} {kk : Nat} (hg : Gl X "enumerate") (hm : X.mg "enumerate" = none) (ha : PA X [x] ta) (hs : starEach [x] X.env = [(false, eval x X.env)] := by rfl) :
    PI X (.Tuple es kk tp) (.Call (.Name "enumerate" p) [x] [] cp) (iEnumT K ta) := by
  subst eK
  refine ⟨fun pins s σ G R I h => ?_⟩
  refine Call_ (ld_blt I hg hm boot_enumerate (PyProof.Rows.callWith_type1 (thn (ha.run cp pins s σ G _ I h) fun us s1 ⟨vs, G1, I1, r1, q1⟩ => ?_) hs rfl))
  obtain ⟨t, ys, ex, hq, q⟩ := q1
  subst ex
  obtain ⟨u1, rfl, r⟩ := vals1 r1
  cases r
  obtain ⟨its, rv, pt, hz⟩ := I1.tuple hq
  have pt' : s1.heap.IsTuple t its.toArray := pt
  have tl : t < s1.heap.objs.size := by obtain ⟨o, ho, _⟩ := pt'; exact Heap.lt_size ho
  refine call_enum_begins (begins_tuple t its.toArray) pt' fun h' he hit hk => wpAny_pyIter_enum he ?_
  have I2 : Inv X pins σ G1 { s1 with heap := h' } := I1.kept (t' := s1.toks) hk
  refine ⟨s1.heap.objs.size + 1, [s1.heap.objs.size + 1, s1.heap.objs.size], _, _, G1, rfl, I2, turn_enumT (Nat.ne_of_lt tl) (Nat.ne_of_lt (Nat.lt_succ_of_lt tl)) (Nat.succ_ne_self _), ⟨⟨.none, he⟩, ⟨_, hit, rfl, rfl⟩⟩, fun b hb => ?_, q⟩
  have le : s1.heap.objs.size ≤ b := by
    rcases List.mem_cons.mp hb with z | z
    · rw [z]; exact Nat.le_add_right _ _
    · rw [List.mem_singleton.mp z]; exact Nat.le_refl _
  exact I1.fpOk le (I1.hok.fresh le)
theorem walk_enumT {K : PySem.W.Frag} {t : Addr} {ys : List V} : Walk (IteT K t) ys.length (fun G => SqT K G t ys) (YPair (fun i => some (.int (i : Nat))) (fun i => ys[i]?)) := by
  refine ⟨fun i _ hi q => ⟨ys, ys[i], q, by simp [hi]⟩, fun _ q => ⟨ys, q, rfl⟩, fun i G v G' _ q z => ?_⟩
  obtain ⟨T, y, h1, h2, h3, h4⟩ := z
  exact ⟨T, .int (i : Nat), y, h1, h2, h3, rfl, h4 ys q⟩
/-! ### zip of two texts -/
def ItzS (x y : Str) : It :=
  ⟨fun i _ => i < x.cps.size ∧ i < y.cps.size,
   fun i G v G' => ∃ T c d, v = .ref T ∧ G T = none ∧ G' = upd G T (.tup [.str ⟨#[c]⟩, .str ⟨#[d]⟩]) ∧ x.cps[i]? = some c ∧ y.cps[i]? = some d,
   fun i _ => i = min x.cps.size y.cps.size⟩
theorem turn_zipS {P : Program} {w : World} {K : PySem.W.Frag} {es : List Expr} {kk : Nat} {tp : Pos} {x y : Str} {t u : Tok} {z a b i1 i2 : Addr} (D : ZipSep2 z a b i1 i2 [i1] [i2]) :
    Turn P w K (.Tuple es kk tp) (ItzS x y) [z, a, b, i1, i2] z (fun i h => IsZip h z a b .none ∧ IsTupOf2 h a (.ref i1) (.ref i2) ∧ (∃ p q, IsTupOf2 h b p q) ∧ h.IsStrIter i1 (strIterType x) x t i ∧ h.IsStrIter i2 (strIterType y) y u i) where
  mem := List.mem_cons_self
  obj := fun i h st c hc => by
    obtain ⟨hz, ha, ⟨p, q, hb⟩, ⟨o1, e1, _, d1⟩, ⟨o2, e2, _, d2⟩⟩ := st
    simp only [List.mem_cons, List.not_mem_nil, or_false] at hc
    rcases hc with k | k | k | k | k <;> subst k
    · exact ⟨_, hz, fun v q => nomatch q⟩
    · exact ⟨_, ha, fun v q => nomatch q⟩
    · exact ⟨_, hb, fun v q => nomatch q⟩
    · exact ⟨o1, e1, fun v q => by rw [d1] at q; cases q⟩
    · exact ⟨o2, e2, fun v q => by rw [d2] at q; cases q⟩
  keep := fun i h h' st k => by
    obtain ⟨hz, ha, ⟨p, q, hb⟩, ⟨o1, e1, r1⟩, ⟨o2, e2, r2⟩⟩ := st
    exact ⟨k z (by simp) _ hz, k a (by simp) _ ha, ⟨p, q, k b (by simp) _ hb⟩, ⟨o1, k i1 (by simp) o1 e1, r1⟩, ⟨o2, k i2 (by simp) o2 e2, r2⟩⟩
  item := by
    intro X hP hw hK hc i pins s σ G E I hf st hg
    subst hP hw hK
    obtain ⟨hz, ha, ⟨p, q, hb⟩, h1, h2⟩ := st
    have zl : z < s.heap.objs.size := Heap.lt_size hz
    refine wpAny_pyNext_zipD2_item D (Draws.text (A := X.A.in1) (I.ok.hd hc) i1 x t) (Draws.text (A := X.A.in1) (I.ok.hd hc) i2 y u) hz ha hb h1 h2 hg.1 hg.2 fun x1 x2 h' tk p1 p2 hz' hb' h1' h2' hT hsz hk => ?_
    obtain ⟨c, k1, hc1, rfl⟩ := p1
    obtain ⟨d, k2, hd1, rfl⟩ := p2
    refine ⟨_, rfl, wpAny_letOwnedTupleGo_zip (s := { s with heap := h', toks := tk }) hz' fun h3 hz3 sb => ?_⟩
    have hT2 : h3.get? s.heap.objs.size = some { cls := .type "tuple", data := .seq #[.str ⟨#[c]⟩ k1, .str ⟨#[d]⟩ k2] } := (sb.2 _ (Nat.ne_of_gt zl)).trans hT
    have fresh : ObjOk X.prog X.w (upd G s.heap.objs.size (.tup [.str ⟨#[c]⟩, .str ⟨#[d]⟩])) h3 s.heap.objs.size (.tup [.str ⟨#[c]⟩, .str ⟨#[d]⟩]) :=
      ⟨by show 2 ≤ sizeLine; decide, [.str ⟨#[c]⟩ k1, .str ⟨#[d]⟩ k2], .cons ⟨k1, rfl⟩ (.cons ⟨k2, rfl⟩ .nil), ⟨_, hT2, rfl, _, rfl⟩⟩
    have J : Inv X pins σ (upd G s.heap.objs.size (.tup [.str ⟨#[c]⟩, .str ⟨#[d]⟩])) { s with heap := h3, toks := tk } :=
      I.turnedNew (t' := tk) (ch := [z, a, b, i1, i2]) (fun m o nb q => (sb.2 m (fun e => nb (by simp [e]))).trans (hk m o (fun e => nb (by simp [e])) (fun e => nb (by simp [e])) (fun e => nb (by simp [e])) (fun e => nb (by simp [e])) q)) hf (Nat.le_refl _) fresh
    refine ⟨.ref s.heap.objs.size, _, J, rfl, ⟨_, c, d, rfl, I.hok.fresh (Nat.le_refl _), rfl, hc1, hd1⟩, ⟨hz3, ?_, ⟨_, _, (sb.2 _ D.TOz).trans hb'⟩, ?_, ?_⟩, fun m hm => ?_⟩
    · exact (sb.2 _ D.TIz).trans (hk _ _ D.TIz D.TITO D.TIi1 D.TIi2 ha)
    · obtain ⟨o, e, r⟩ := h1'; exact ⟨o, (sb.2 _ D.zi1.symm).trans e, r⟩
    · obtain ⟨o, e, r⟩ := h2'; exact ⟨o, (sb.2 _ D.zi2.symm).trans e, r⟩
    · have lt : m < s.heap.objs.size := by
        simp only [List.mem_cons, List.not_mem_nil, or_false] at hm
        rcases hm with k | k | k | k | k <;> subst k
        · exact zl
        · exact Heap.lt_size ha
        · exact Heap.lt_size hb
        · obtain ⟨_, e1, _⟩ := h1; exact Heap.lt_size e1
        · obtain ⟨_, e2, _⟩ := h2; exact Heap.lt_size e2
      rw [upd_ne (Nat.ne_of_lt lt)]; exact (hf m hm).1
  done := by
    intro X hP hw hK hc i pins s σ G E I hf st hg
    subst hP hw hK
    obtain ⟨hz, ha, ⟨p, q, hb⟩, h1, h2⟩ := st
    have hg' : i = min x.cps.size y.cps.size := hg
    exact wpAny_pyNext_zipD2_end D (Draws.text (A := X.A.in1) (I.ok.hd hc) i1 x t) (Draws.text (A := X.A.in1) (I.ok.hd hc) i2 y u) hz ha hb h1 h2 (by omega) (by omega) (by omega) fun h' tk hk => ⟨rfl, I.turnedL (t' := tk) (ch := [z, a, b, i1, i2]) (fun m o nb q => hk m o (fun e => nb (by simp [e])) (fun e => nb (by simp [e])) (fun e => nb (by simp [e])) (fun e => nb (by simp [e])) q) hf⟩
  self := fun A i s Q E st h => wpAny_pyIter_zip st.1 h
def iZipS (ta : TA) : TI := fun σ G R => ta σ G fun vs G1 => ∃ x y, vs = [.str x, .str y] ∧ R (ItzS x y) G1
theorem ne1 {a b : Nat} (h : a ≠ b) : a ∉ [b] := fun z => h (List.mem_singleton.mp z)
theorem sep_new (n : Nat) : ZipSep2 (n + 4) (n + 2) (n + 3) n (n + 1) [n] [n + 1] where
  TIz := show (n + 2 : Nat) ≠ n + 4 by omega
  TOz := show (n + 3 : Nat) ≠ n + 4 by omega
  TITO := show (n + 2 : Nat) ≠ n + 3 by omega
  TIi1 := show (n + 2 : Nat) ≠ n by omega
  mem1 := List.mem_singleton_self _
  zf1 := ne1 (show (n + 4 : Nat) ≠ n by omega)
  Tf1 := ne1 (show (n + 3 : Nat) ≠ n by omega)
  TIi2 := show (n + 2 : Nat) ≠ n + 1 by omega
  mem2 := List.mem_singleton_self _
  zf2 := ne1 (show (n + 4 : Nat) ≠ n + 1 by omega)
  Tf2 := ne1 (show (n + 3 : Nat) ≠ n + 1 by omega)
  sep1_2 := ne1 (show (n : Nat) ≠ n + 1 by omega)
  sep2_1 := ne1 (show (n + 1 : Nat) ≠ n by omega)
theorem pi_zipS {X : Cx} {x x2 : Expr} {ta : TA} {p cp tp : Pos} {es : List Expr} {kk : Nat} (hg : Gl X "zip") (hm : X.mg "zip" = none) (ha : PA X [x, x2] ta)
    (hs : starEach [x, x2] X.env = (false, eval x X.env) :: starEach [x2] X.env := by rfl) (hpl : (backTo cp (starEach [x2] X.env)).any (·.1) = false := by rfl) :
    PI X (.Tuple es kk tp) (.Call (.Name "zip" p) [x, x2] [] cp) (iZipS ta) := by
  refine ⟨fun pins s σ G R I h => ?_⟩
  refine Call_ (ld_blt I hg hm PyProof.Rows.boot_zip (PyProof.Rows.callWith_type1 (thn (ha.run cp pins s σ G _ I h) fun us s1 ⟨vs, G1, I1, r1, q1⟩ => ?_) hs hpl))
  obtain ⟨z1, z2, ex, q⟩ := q1
  subst ex
  obtain ⟨u1, u2, rfl, r, r'⟩ := vals2 r1
  obtain ⟨t1, rfl⟩ := r
  obtain ⟨t2, rfl⟩ := r'
  refine zip_begins2 (begins_text z1 t1) (begins_text z2 t2) trivial trivial fun h' hz ha hb h1 h2 hsz hk => wpAny_pyIter_zip hz ?_
  have I2 : Inv X pins σ G1 { s1 with heap := h' } := I1.kept (t' := s1.toks) hk
  refine ⟨s1.heap.objs.size + 4, [s1.heap.objs.size + 4, s1.heap.objs.size + 2, s1.heap.objs.size + 3, s1.heap.objs.size, s1.heap.objs.size + 1], _, _, G1, rfl, I2, turn_zipS (t := t1) (u := t2) (sep_new _), ⟨hz, ha, ⟨_, _, hb⟩, ⟨_, h1, rfl, rfl⟩, ⟨_, h2, rfl, rfl⟩⟩, fun c hc => ?_, q⟩
  have le : s1.heap.objs.size ≤ c := by
    simp only [List.mem_cons, List.not_mem_nil, or_false] at hc
    rcases hc with k | k | k | k | k <;> subst k
    · exact Nat.le_add_right _ _
    · exact Nat.le_add_right _ _
    · exact Nat.le_add_right _ _
    · exact Nat.le_refl _
    · exact Nat.le_add_right _ _
  exact I1.fpOk le (I1.hok.fresh le)
theorem walk_zipS {x y : Str} {n : Nat} (hn : n = min x.cps.size y.cps.size) : Walk (ItzS x y) n (fun _ => True)
    (fun i G v G' => ∃ T c d, v = .ref T ∧ G T = none ∧ G' = upd G T (.tup [.str ⟨#[c]⟩, .str ⟨#[d]⟩]) ∧ x.cps[i]? = some c ∧ y.cps[i]? = some d) :=
  ⟨fun i _ hi _ => ⟨by omega, by omega⟩, fun _ _ => hn, fun _ _ _ _ _ _ z => z⟩
end L2
/-! Rules: sorted of a tuple, the place of a number in a tuple, lcm, dicts of data compared. -/
namespace L2
open PySem PySem.Spec PyProof.Rows
section
variable {prog : Program} {w : World} {A : Around} {E : Value → Shared → Prop} {s : Shared}
/-- the list that is gathered of a tuple -/
def gath (h : Heap) (vs : List Value) : Heap := (h.push (seqObj "list" #[] 0)).update h.objs.size (Obj.mapSeq (· ++ vs.toArray))
theorem gath_size (h : Heap) (vs : List Value) : (gath h vs).objs.size = h.objs.size + 1 := by unfold gath; rw [Heap.size_update, size_push']
theorem collect_tup {t : Addr} {vs : List Value} {Q : List Value → Shared → Prop} (ht : s.heap.IsTuple t vs.toArray) (fin : Q vs { s with heap := gath s.heap vs }) (sz : vs.length ≤ sizeLine) :
    wpAny (model prog w) A (collect (.ref t)) Q E s := by
  obtain ⟨o, ho, hc, n, hd⟩ := id ht
  unfold collect
  refine wpAny_bind (wpAny_runValue (codeAny_builtin entry_proto_collect' ?_))
  show wpAny _ _ (do again (.builtin "list.__iadd__" ⟨[← newList [], .ref t], []⟩)) _ _ s
  refine wpAny_bind (wpAny_newList (wpAny_pure ⟨Code.quiet_builtin _ (by decide +kernel), codeAny_builtin entry_list_iadd' ?_⟩))
  show wpAny _ _ (Builtin.List.listExtendWith (.ref s.heap.objs.size) (.ref t) (.ref s.heap.objs.size)) _ _ { s with heap := s.heap.push (seqObj "list" #[] 0) }
  unfold Builtin.List.listExtendWith
  have ho2 : (s.heap.push (seqObj "list" #[] 0)).get? t = some o := Heap.get?_push_of_some _ ho
  refine wpAny_bind (wpAny_typeOf (T := "tuple") ⟨o, ho2, hc⟩ ?_)
  rw [if_pos (by rw [show (Value.type "tuple" == Value.type "tuple") = true from rfl]; simp)]
  refine wpAny_bind (listItems_at ho2 hd ?_)
  refine wpAny_bind (listItems_at (n := 0) (xs := #[]) (Heap.get?_push_size _ rfl) rfl ?_)
  rw [if_neg (by simp)]
  refine wpAny_bind (listUpdate_at (n := 0) (xs := #[]) (Heap.get?_push_size _ rfl) rfl ?_ (Nat.zero_le _) (by show (#[] ++ vs.toArray).size ≤ sizeLine + 1; rw [Array.size_append, List.size_toArray]; simp; omega))
  refine wpAny_pure ?_
  show wpAny (model prog w) A (do
      let ob ← load s.heap.objs.size
      match ob.data with
      | .seq xs _ => pure xs.toList
      | _ => unsupported "internal:collect") Q E { s with heap := gath s.heap vs }
  refine wpAny_bind (wpAny_load (get?_update_seq (Heap.get?_push_size _ rfl) _) ?_)
  show wpAny _ _ (pure ((#[] : Array Value) ++ vs.toArray).toList) Q E _
  rw [show ((#[] : Array Value) ++ vs.toArray).toList = vs by simp]
  exact wpAny_pure fin
theorem sorted_tup {t : Addr} {vs : List Value} {lt : Value → Value → Bool} {Q : Value → Shared → Prop} (O : SrtO.Swo lt) (ht : s.heap.IsTuple t vs.toArray) (sz : vs.length ≤ sizeLine)
    (can : 2 ≤ vs.length → ∀ (h₁ : Heap) (a : Addr), SrtO.SortableO prog w A.in1.in1 { s with heap := h₁ } a vs lt)
    (fin : ∀ out : List Value, SrtO.Srtd lt out → SrtO.Stb lt out vs → Q (.ref (s.heap.objs.size + 1)) { s with heap := sortedAll s.heap vs out.toArray }) :
    wpAny (model prog w) A (call (.builtin "sorted") [.ref t]) Q E s := by
  refine Calls.call_function_entry kind_sorted plain_sorted entry_sorted (args_sorted1 _) ?_
  unfold Builtin.«sorted»
  refine wpAny_bind (m := checkCount "sorted" 1 1 _) (wpAny_pure ?_)
  refine wpAny_bind (collect_tup ht ?_ sz)
  refine wpAny_bind (wpAny_newList ?_ sz)
  have here : ((gath s.heap vs).push (seqObj "list" vs.toArray 0)).get? (s.heap.objs.size + 1) = some (seqObj "list" vs.toArray 0) := by
    rw [← gath_size s.heap vs]; exact Heap.get?_push_size _ rfl
  show wpAny _ _ _ _ _ { s with heap := (gath s.heap vs).push (seqObj "list" vs.toArray 0) }
  rw [gath_size]
  refine wpAny_bind (wpAny_holding (wpAny_call_entry slot_list_sort ⟨_, here, rfl⟩ entry_list_sort (SrtO.list_sort_ord O here sz (fun two => can two _ _) fun out z1 z2 => ⟨_, rfl, ?_⟩) (args_list_sort _)))
  exact wpAny_pure ⟨_, rfl, fin out z1 z2⟩
end
/-- sorted(t), t a tuple of numbers -/
def rSortedTI (K : PySem.W.Frag) : List V → Hp → VK → Prop := fun vs H Q => ∃ (t : Addr) (ns : List Int), vs = [V.ref t] ∧ SqT K H t (ns.map V.int) ∧
  ∀ (ms : List Int) (p : Addr), ms.Perm ns → ms.Pairwise (· ≤ ·) → H p = none → Q (.ref p) (upd H p (.lst (ms.map V.int)))
section
variable {X : Cx} {K : PySem.W.Frag}
theorem csortedTI (eK : X.K = K) : CallR X (.builtin "sorted") (rSortedTI K) := by
  subst eK
  intro pins s σ H vs us Q I r h
  obtain ⟨t, ns, rfl, hs, q⟩ := h
  obtain ⟨its, rv, pl, hz⟩ := I.tuple hs
  rw [Vals.ref1 r]
  have hints := rv.ints
  refine sorted_tup SrtO.swo_int (show s.heap.IsTuple t its.toArray from pl) (by rw [← rv.length]; exact hz) (fun two h₁ a => SrtO.ints_sortable hints two) fun out z1 z2 => ?_
  obtain ⟨k1, k2, k3⟩ := SrtO.ints_out hints z1 z2
  obtain ⟨ep, at_⟩ := PyProof.Rows.sortedAll_at s.heap its out.toArray
  have size : ((out.map SrtO.iv).map V.int).length ≤ sizeLine := by
    rw [List.length_map, k2.length_eq]
    rw [List.length_map] at hz
    exact hz
  exact ⟨.ref _, upd H (s.heap.objs.size + 1) (.lst ((out.map SrtO.iv).map V.int)), I.laid (t' := s.toks) (fun _ _ => PyProof.Rows.sortedAll_old) (Nat.le_succ _) ⟨size, out, ep, vals_of_ints k1, at_⟩, rfl, q _ _ k2 k3 (I.hok.fresh (Nat.le_succ _))⟩
/-! ### the place of a number in a tuple -/
def rTupIx (K : PySem.W.Frag) : V → List V → Hp → VK → Prop := fun x xs H Q => ∃ (p : Addr) (ns : List Int) (z : Int) (j : Nat), x = .ref p ∧ xs = [.int z] ∧ SqT K H p (ns.map V.int) ∧ ns[j]? = some z ∧ (∀ m, m < j → ns[m]? ≠ some z) ∧ Q (.int (j : Nat)) H
theorem flat_ints (ns : List Int) : (ns.map V.int).all flatV = true := by
  induction ns with
  | nil => rfl
  | cons n r ih => rw [List.map_cons, List.all_cons, ih]; rfl
theorem mtupix (eK : X.K = K) : MtR X "tuple.index" (rTupIx K) := by
  subst eK
  intro pins s σ H x xs v us Q I rx rs h
  obtain ⟨p, ns, z, j, rfl, rfl, hq, hy, no, q⟩ := h
  cases rx
  obtain ⟨u, rfl, tz, rfl⟩ := vals1 rs
  obtain ⟨its, r, pl, hz⟩ := I.tuple hq
  obtain ⟨⟨cls, dd, dt, sl⟩, ho, hc, n, hd⟩ := pl
  simp only at hc hd
  subst hc; subst hd
  have sz : its.toArray.size = ns.length := by rw [List.size_toArray, ← r.length, List.length_map]
  have jl : j < its.toArray.size := by rw [sz]; exact (List.getElem?_eq_some_iff.mp hy).1
  have item : ∀ (m : Nat) (hm : m < its.toArray.size), ∃ y t2, ns[m]? = some y ∧ its.toArray[m] = Value.int y t2 := fun m hm => by
    have hm2 : m < ns.length := by rw [← sz]; exact hm
    obtain ⟨w, hw, t2, hw2⟩ := r.get (i := m) (x := .int ns[m]) (by simp [hm2])
    refine ⟨ns[m], t2, List.getElem?_eq_getElem hm2, ?_⟩
    have e := (List.getElem?_eq_some_iff.mp hw).2
    rw [← hw2, ← e]
    simp
  refine call_meets PySem.F.slot_tuple_index ⟨_, ho, rfl⟩ PySem.F.entry_tuple_index (PySem.F.args_tuple_index_2 _ _) (TI.tuple_indexAt p its.toArray n dd sl (.int z tz) (eqU (.int z)) j jl ?_ ?_)
    ⟨ho, fun w hw => mem_eqAt (x := .int z) ⟨tz, rfl⟩ rfl r (flat_ints ns) w (by simpa using hw), ⟨.int (j : Nat), H, I.tok _, ⟨_, rfl⟩, q⟩⟩
  · obtain ⟨y, t2, e1, e2⟩ := item j jl
    rw [hy] at e1
    cases e1
    rw [e2]
    exact beq_self_eq_true z
  · intro m hm lt
    obtain ⟨y, t2, e1, e2⟩ := item m hm
    rw [e2]
    exact beq_eq_false_iff_ne.mpr fun e => no m lt (e ▸ e1)
/-! ### lcm -/
/-- f(x, ..), f a name of the module that holds a built-in function -/
theorem pe_callG {x : Str} {p pos : Pos} {e : Expr} {es : List Expr} {t : TA} {id : String} {r : List V → Hp → VK → Prop} (hc : CallR X (.builtin id) r) (hg : Gl X x) (hm : X.mg x = some (.builtin id)) (ha : PA X (e :: es) t)
    (hdb : (x == ("__debug__" : Str)) = false := by decide) (he : starEach (e :: es) X.env = (false, eval e X.env) :: starEach es X.env := by rfl) (hpl : (backTo pos (starEach es X.env)).any (·.1) = false := by rfl) :
    PE X (.Call (.Name x p) (e :: es) [] pos) (tCB r t) := by
  refine ⟨fun pins s σ H Q I h => wpAny_Call_Name_kw (ld_glob I hg hm ?_ hdb)⟩
  exact PyProof.Rows.callWith_builtin1 (thn (ha.run pos pins s σ H _ I h) fun us s1 ⟨vs, H1, I1, r1, q1⟩ => hc pins s1 σ H1 vs us Q I1 r1 q1) he hpl
def rLcm : List V → Hp → VK → Prop := fun xs H Q => ∃ a b : Nat, xs = [.int a, .int b] ∧ 0 < a ∧ 0 < b ∧ a < 2 ^ 63 ∧ b < 2 ^ 63 ∧ Q (.int (Nat.lcm a b : Nat)) H
theorem call_lcm : CallR X (.builtin "math.lcm") rLcm := by
  intro pins s σ H xs us Q I r h
  obtain ⟨a, b, rfl, a0, b0, a1, b1, q⟩ := h
  obtain ⟨u1, u2, rfl, ⟨t1, rfl⟩, ⟨t2, rfl⟩⟩ := vals2 r
  have e : ((Nat.lcm 1 (a : Int).natAbs).lcm (b : Int).natAbs) = Nat.lcm a b := by
    rw [Int.natAbs_natCast, Int.natAbs_natCast, Nat.lcm_one_left]
  have up : Nat.lcm a b < 2 ^ 126 := by
    have h1 : Nat.lcm a b ≤ a * b := Nat.div_le_self _ _
    have h2 : a * b ≤ 2 ^ 63 * b := Nat.mul_le_mul_right b (Nat.le_of_lt a1)
    have h3 : 2 ^ 63 * b < 2 ^ 63 * 2 ^ 63 := Nat.mul_lt_mul_of_pos_left b1 (by decide)
    calc Nat.lcm a b ≤ a * b := h1
      _ ≤ 2 ^ 63 * b := h2
      _ < 2 ^ 63 * 2 ^ 63 := h3
      _ = 2 ^ 126 := by decide
  have pos : Nat.lcm a b ≠ 0 := Nat.ne_of_gt (Nat.lcm_pos a0 b0)
  refine PySem.W.mg_lcm (a := (a : Int)) (t := t1) (b := (b : Int)) (u := t2) (by omega) (by omega) ?_ ?_
  · rw [e, Int.natAbs_natCast, bitsLine_eq]
    exact Nat.lt_trans ((Nat.log2_lt pos).mpr up) (by decide)
  · rw [e]
    exact ⟨.int (Nat.lcm a b : Nat), H, I.tok _, ⟨_, rfl⟩, q⟩
/-! ### dicts of data compared -/
def dEq (f : V → PyData) (ks ls : List (L2.Key × V)) : Bool :=
  ks.length == ls.length && ks.all fun p => match valV ls p.1 with | none => false | some y => PyData.eqv (f p.2) (f y)
def rEqDK (K : PySem.W.Frag) : R2 := fun x y H Q => ∃ (a b : Addr) (ks ls : List (L2.Key × V)) (f : V → PyData), x = .ref a ∧ y = .ref b ∧ Rd H a (.dK ks) ∧ Rd H b (.dK ls) ∧
  (∀ p ∈ ks, Dp K H p.2 (f p.2) ∧ SeqAt.shaped (f p.2) = true) ∧ (∀ p ∈ ls, Dp K H p.2 (f p.2) ∧ SeqAt.shaped (f p.2) = true) ∧ Q (.bl (dEq f ks ls)) H
def rNeDK (K : PySem.W.Frag) : R2 := fun x y H Q => rEqDK K x y H fun v H' => ∃ b, v = .bl b ∧ Q (.bl (!b)) H'
theorem valV_mem {ls : List (L2.Key × V)} {k : L2.Key} {y : V} (h : valV ls k = some y) : (k, y) ∈ ls := by
  unfold valV at h
  obtain ⟨p, hp, e⟩ := Option.map_eq_some_iff.mp h
  have h1 := List.mem_of_find?_eq_some hp
  have h2 : p.1 = k := by have := List.find?_some hp; simpa using this
  rw [← h2, ← e]; exact h1
theorem un1 {A : Around} {k : Nat} (hr : Room k A) : A.in1.units + 64 < cLine := by have := hr.un; show A.units + 1 + 64 < cLine; omega
theorem hits_data {pins : List (Addr × Obj)} {σ : L2.St} {H : Hp} {s : Shared} {f : V → PyData} {ls : List (L2.Key × V)} {vb : List (L2.Key × Value)} (I : Inv X pins σ H s) (hu : X.A.in1.units + 64 < cLine) (rb : L2.KV ls vb)
    (hl : ∀ p ∈ ls, Dp X.K H p.2 (f p.2) ∧ SeqAt.shaped (f p.2) = true) : ∀ {ks : List (L2.Key × V)} {va : List (L2.Key × Value)}, L2.KV ks va → (∀ p ∈ ks, Dp X.K H p.2 (f p.2) ∧ SeqAt.shaped (f p.2) = true) →
    PySem.W.KeqHits X.A.in1 s vb va (ks.all fun p => match valV ls p.1 with | none => false | some y => PyData.eqv (f p.2) (f y)) := by
  intro ks va ra
  unfold L2.KV at ra
  induction ra with
  | nil => intro _; exact .nil
  | @cons p q l1 l2 pq t ih =>
    intro hk
    obtain ⟨k, v⟩ := p
    obtain ⟨k2, u⟩ := q
    obtain ⟨e1, ru⟩ := pq
    cases (show k = k2 from e1)
    have rest := ih fun p hp => hk p (List.mem_cons_of_mem _ hp)
    have rel := rb.val k
    rw [List.all_cons]
    cases hv : valV ls k with
    | none =>
      rw [hv] at rel
      cases hw : valueAt vb k with
      | none => exact .miss hw
      | some w => rw [hw] at rel; exact rel.elim
    | some y =>
      rw [hv] at rel
      cases hw : valueAt vb k with
      | none => rw [hw] at rel; exact rel.elim
      | some w =>
        rw [hw] at rel
        obtain ⟨d1, s1⟩ := hk (k, v) List.mem_cons_self
        obtain ⟨d2, s2⟩ := hl (k, y) (valV_mem hv)
        obtain ⟨as, r1⟩ := Dp.reads I _ v u d1 ru
        obtain ⟨bs, r2⟩ := Dp.reads I _ y w d2 rel
        exact .hit hw (PySem.W.keq_at r1 r2 s1 s2 hu) rest
theorem eq_dk {k : Nat} (eK : X.K = K) (hr : Room k X.A) : OpR X (compareOp .Eq) (rEqDK K) := by
  subst eK
  intro pins s σ H x y v u Q I rx ry h
  obtain ⟨a, b, ks, ls, f, rfl, rfl, ea, eb, hk, hl, q⟩ := h
  cases (show v = Value.ref a from rx)
  cases (show u = Value.ref b from ry)
  obtain ⟨_, ya, va, ra, da⟩ := dk_rd I.hok ea
  obtain ⟨_, yb, vb, rb, db⟩ := dk_rd I.hok eb
  refine PySem.W.keq_eq (knd := mixKind X.prog X.w) ya yb da db hr.units0 (fun _ => hits_data I (un1 hr) rb hl ra hk) (fin_bl I q ?_)
  unfold dEq
  rw [ra.length, rb.length]
theorem ne_dk {k : Nat} (eK : X.K = K) (hr : Room k X.A) : OpR X (compareOp .NotEq) (rNeDK K) := by
  subst eK
  intro pins s σ H x y v u Q I rx ry h
  obtain ⟨a, b, ks, ls, f, rfl, rfl, ea, eb, hk, hl, bb, eb2, q⟩ := h
  cases (show v = Value.ref a from rx)
  cases (show u = Value.ref b from ry)
  obtain ⟨_, ya, va, ra, da⟩ := dk_rd I.hok ea
  obtain ⟨_, yb, vb, rb, db⟩ := dk_rd I.hok eb
  refine PySem.W.keq_ne (knd := mixKind X.prog X.w) ya yb da db hr.units0 (fun _ => hits_data I (un1 hr) rb hl ra hk) (fin_bl I q ?_)
  have e2 := V.bl.inj eb2
  rw [← e2]
  unfold dEq
  rw [ra.length, rb.length]
end
section
variable {X : Cx} {K : PySem.W.Frag}
/-- tuple(a list): the new tuple as the object that it is -/
def rTupF (K : PySem.W.Frag) : List V → Hp → VK → Prop := fun xs H Q => ∃ (p : Addr) (ys : List V), xs = [.ref p] ∧ SqL K H p ys ∧ ∀ (l : Addr) (o : Obj), H l = none → o.cls = .type "tuple" → o.dict = none → Q (.ref l) (upd H l (.frz o (.tup ys)))
theorem ctupF (eK : X.K = K) : CallR X (.type "tuple") (rTupF K) := by
  subst eK
  intro pins s σ H xs us Q I r h
  obtain ⟨p, ys, rfl, hq, q⟩ := h
  obtain ⟨u, rfl, rx⟩ := vals1 r
  cases rx
  obtain ⟨its, rr, pl, hz⟩ := I.list hq
  have hl := rr.length
  refine call_tuple_list pl.isList (fun h' kp => ?_) (by rw [List.size_toArray]; omega)
  have J : Inv X pins σ H { s with heap := h' } := I.kept (t' := s.toks) kp
  have J2 : Inv X pins σ (upd H h'.objs.size (.frz { cls := .type "tuple", data := .seq its.toArray } (.tup ys))) { s with heap := h'.push { cls := .type "tuple", data := .seq its.toArray } } :=
    J.laid (t' := s.toks) (fun b o e => Heap.get?_push_of_some _ e) (Nat.le_refl _) (show ObjOk X.prog X.w _ _ _ (.frz _ (.tup ys)) from ⟨Heap.get?_push_size _ rfl, hz, its, rr, IsTup.new _ _⟩)
  exact ⟨.ref h'.objs.size, _, J2, rfl, q _ _ (J.hok.fresh (Nat.le_refl _)) rfl rfl⟩
/-- a tuple whose object is known to have no attributes -/
def tyF (x : V) (H : Hp) : Prop := match x with
  | .ref p => ∃ (o : Obj) (ys : List V), H p = some (.frz o (.tup ys)) ∧ o.cls = .type "tuple" ∧ o.dict = none
  | _ => False
def tBMF (r : V → List V → Hp → VK → Prop) (to : TE) (t : TA) : TE := fun σ H Q => to σ H fun x H1 => tyF x H1 ∧ t σ H1 fun xs H2 => r x xs H2 Q
theorem pbmF {name id : String} {r : V → List V → Hp → VK → Prop} {o e : Expr} {es : List Expr} {to : TE} {t : TA} {apos cpos : Pos} (pa : PlainAttrs "tuple") (slot : Slot "tuple" name id) (hty : typeOf (.builtin id) = pure (.type "method_descriptor")) (hm : MtR X id r) (ho : PE X o to) (ha : PA X (e :: es) t)
    (hbase : attributeBase o name X.env (eval o X.env) = eval o X.env := by rfl) (hfew : ((backTo cpos (starEach (e :: es) X.env)).all (fun x => !x.1) && (backToKw cpos (keywordEach [] X.env)).all (fun x => x.1.isSome) && decide ((e :: es).length + ([] : List Keyword).length + (if ([] : List Keyword).isEmpty then 0 else 1) < 30)) = true := by rfl)
    (hline : (apos.endLine == cpos.line) = true := by rfl) (hs : starEach (e :: es) X.env = (false, eval e X.env) :: starEach es X.env := by rfl) (hplain : (backTo cpos (starEach es X.env)).any (·.1) = false := by rfl) :
    PE X (.Call (.Attribute o name apos) (e :: es) [] cpos) (tBMF r to t) := by
  refine ⟨fun pins s σ H Q I h => wpAny_Call_method_late hbase hfew hline rfl (thn (ho.run pins s σ H _ I h) fun v s1 ⟨x, H1, I1, r1, ty, q1⟩ => ?_)⟩
  have z : s1.TypeIs v "tuple" ∧ ∀ a, v = .ref a → ∃ ob, s1.heap.get? a = some ob ∧ ob.dict = none := by
    cases x with
    | ref p =>
      obtain ⟨ob, ys, e, c, dn⟩ := ty
      cases r1
      obtain ⟨at_, _⟩ := (show ObjOk X.prog X.w H1 s1.heap p (.frz ob (.tup ys)) from I1.hok p _ e)
      refine ⟨⟨ob, at_, c⟩, fun a ea => ?_⟩
      cases ea
      exact ⟨ob, at_, dn⟩
    | _ => exact False.elim ty
  refine ⟨"tuple", id, pa, slot, hty, z.1, z.2, ?_⟩
  have args := ha.run cpos pins s1 σ H1 _ I1 q1
  rw [hs] at args ⊢
  refine Calls.callWith_builtin (by show (false || (backTo cpos (starEach es X.env)).any (·.1)) = false; rw [hplain] <;> rfl) (Calls.evalArgs_plain (thn args fun us s2 ⟨vs, H2, I2, r2, q2⟩ => hm pins s2 σ H2 x vs v us Q I2 r1 r2 q2))
end
end L2
/-! Moves: lists that lead 0 to n - 1 one to one; how often each is gone until it is back. -/
namespace MV
/-- where the move m leads s -/
def go1 (m : List Nat) (s : Nat) : Nat := m.getD s 0
theorem go1_at {m : List Nat} {s : Nat} (h : s < m.length) : m[s]? = some (go1 m s) := by
  unfold go1; rw [List.getD_eq_getElem?_getD, List.getElem?_eq_getElem h]; rfl
theorem go1_map {m : List Nat} {f : Nat → Nat} {s : Nat} (h : s < m.length) : go1 (m.map f) s = f (go1 m s) := by
  have h1 := go1_at (m := m.map f) (s := s) (by simpa using h)
  rw [List.getElem?_map, go1_at h] at h1
  exact (Option.some.inj h1).symm
theorem go1_range {n s : Nat} (h : s < n) : go1 (List.range n) s = s := by
  have h1 := go1_at (m := List.range n) (s := s) (by simpa using h)
  rw [List.getElem?_range h] at h1
  exact (Option.some.inj h1).symm
/-- m leads 0 to n - 1, r leads back -/
structure Bk (n : Nat) (m r : List Nat) : Prop where
  lm : m.length = n
  lr : r.length = n
  hm : ∀ s, s < n → go1 m s < n
  hr : ∀ s, s < n → go1 r s < n
  rm : ∀ s, s < n → go1 r (go1 m s) = s
  mr : ∀ s, s < n → go1 m (go1 r s) = s
theorem Bk.flip {n : Nat} {m r : List Nat} (b : Bk n m r) : Bk n r m := ⟨b.lr, b.lm, b.hr, b.hm, b.mr, b.rm⟩
theorem Bk.inj {n : Nat} {m r : List Nat} (b : Bk n m r) {s t : Nat} (hs : s < n) (ht : t < n) (e : go1 m s = go1 m t) : s = t := by
  rw [← b.rm s hs, e, b.rm t ht]
theorem Bk.id (n : Nat) : Bk n (List.range n) (List.range n) :=
  ⟨List.length_range, List.length_range, fun s h => by rw [go1_range h]; exact h, fun s h => by rw [go1_range h]; exact h, fun s h => by rw [go1_range h, go1_range h], fun s h => by rw [go1_range h, go1_range h]⟩
/-- the one and then the other -/
def fol (a b : List Nat) : List Nat := a.map (go1 b)
theorem fol_go {n : Nat} {a b : List Nat} {s : Nat} (ha : a.length = n) (h : s < n) : go1 (fol a b) s = go1 b (go1 a s) := go1_map (by omega)
theorem Bk.fol {n : Nat} {a ra b rb : List Nat} (x : Bk n a ra) (y : Bk n b rb) : Bk n (fol a b) (MV.fol rb ra) := by
  refine ⟨by unfold MV.fol; rw [List.length_map]; exact x.lm, by unfold MV.fol; rw [List.length_map]; exact y.lr, fun s h => ?_, fun s h => ?_, fun s h => ?_, fun s h => ?_⟩
  · rw [fol_go x.lm h]; exact y.hm _ (x.hm s h)
  · rw [fol_go y.lr h]; exact x.hr _ (y.hr s h)
  · rw [fol_go x.lm h, fol_go y.lr (y.hm _ (x.hm s h)), y.rm _ (x.hm s h), x.rm s h]
  · rw [fol_go y.lr h, fol_go x.lm (x.hr _ (y.hr s h)), x.mr _ (y.hr s h), y.mr s h]
theorem mv_ext {n : Nat} {a b : List Nat} (ha : a.length = n) (hb : b.length = n) (h : ∀ s, s < n → go1 a s = go1 b s) : a = b := by
  refine List.ext_getElem? fun i => ?_
  rcases Nat.lt_or_ge i n with q | q
  · rw [go1_at (by omega), go1_at (by omega), h i q]
  · rw [List.getElem?_eq_none (by omega), List.getElem?_eq_none (by omega)]
theorem Bk.one {n : Nat} {m r r' : List Nat} (x : Bk n m r) (y : Bk n m r') : r = r' :=
  mv_ext x.lr y.lr fun s h => by
    have := x.rm (go1 r' s) (y.hr s h)
    rw [y.mr s h] at this
    exact this
/-- the first place -/
theorem Bk.first {n : Nat} {m r : List Nat} (b : Bk n m r) {s : Nat} (h : s < n) : m[go1 r s]? = some s ∧ ∀ j, j < go1 r s → m[j]? ≠ some s := by
  refine ⟨?_, fun j hj e => ?_⟩
  · rw [go1_at (by rw [b.lm]; exact b.hr s h), b.mr s h]
  · have hl : j < n := Nat.lt_trans hj (b.hr s h)
    rw [go1_at (by rw [b.lm]; exact hl)] at e
    have e1 := Option.some.inj e
    have := b.rm j hl
    rw [e1] at this
    omega
/-- of a list that is told by the numbers below n in another order -/
theorem bk_perm {n : Nat} {m : List Nat} (p : m.Perm (List.range n)) : ∃ r, Bk n m r := by
  have nd : m.Nodup := p.nodup_iff.mpr List.nodup_range
  have lm : m.length = n := by rw [p.length_eq, List.length_range]
  have mem : ∀ s, s < n → s ∈ m := fun s h => p.mem_iff.mpr (List.mem_range.mpr h)
  have il : ∀ s, s < n → m.idxOf s < n := fun s h => by have := List.idxOf_lt_length_of_mem (mem s h); omega
  have gi : ∀ s, s < n → go1 m (m.idxOf s) = s := fun s h => by
    have h1 := go1_at (m := m) (s := m.idxOf s) (by rw [lm]; exact il s h)
    rw [List.getElem?_eq_getElem (by rw [lm]; exact il s h), List.getElem_idxOf] at h1
    exact (Option.some.inj h1).symm
  have gl : ∀ s, s < n → go1 m s < n := fun s h => by
    have h1 := go1_at (m := m) (s := s) (by omega)
    exact List.mem_range.mp (p.mem_iff.mp (List.mem_of_getElem? h1))
  have rl : ∀ s, s < n → go1 ((List.range n).map fun s => m.idxOf s) s = m.idxOf s := fun s h => by
    rw [go1_map (by simpa using h), go1_range h]
  refine ⟨(List.range n).map fun s => m.idxOf s, lm, by rw [List.length_map, List.length_range], gl, fun s h => by rw [rl s h]; exact il s h, fun s h => ?_, fun s h => by rw [rl s h]; exact gi s h⟩
  rw [rl _ (gl s h)]
  have e := gi _ (gl s h)
  have h1 := go1_at (m := m) (s := s) (by omega)
  have h2 := go1_at (m := m) (s := m.idxOf (go1 m s)) (by rw [lm]; exact il _ (gl s h))
  rw [e] at h2
  have hs : s < m.length := by omega
  exact ((List.getElem?_inj hs nd).mp (h1.trans h2.symm)).symm
/-! ### round and round -/
/-- k times -/
def it (m : List Nat) : Nat → Nat → Nat
  | 0, s => s
  | k + 1, s => go1 m (it m k s)
theorem it_lt {n : Nat} {m r : List Nat} (b : Bk n m r) {s : Nat} (h : s < n) : ∀ k, it m k s < n
  | 0 => h
  | k + 1 => b.hm _ (it_lt b h k)
theorem it_add (m : List Nat) (j : Nat) (s : Nat) : ∀ k, it m (k + j) s = it m k (it m j s)
  | 0 => by rw [Nat.zero_add]; rfl
  | k + 1 => by rw [Nat.add_right_comm]; exact congrArg (go1 m) (it_add m j s k)
theorem it_canc {n : Nat} {m r : List Nat} (b : Bk n m r) {s t : Nat} (hs : s < n) (ht : t < n) : ∀ k, it m k s = it m k t → s = t
  | 0, e => e
  | k + 1, e => it_canc b hs ht k (b.inj (it_lt b hs k) (it_lt b ht k) e)
theorem pig : ∀ (n : Nat) (l : List Nat), l.Nodup → (∀ x ∈ l, x < n) → l.length ≤ n
  | 0, [], _, _ => Nat.le_refl _
  | 0, x :: l, _, h => absurd (h x List.mem_cons_self) (Nat.not_lt_zero _)
  | n + 1, l, nd, h => by
    by_cases hn : n ∈ l
    · have h1 := pig n (l.erase n) (nd.erase n) fun x hx => by
        have h2 := (nd.mem_erase_iff).mp hx
        have h3 := h x h2.2
        have h4 : x ≠ n := h2.1
        omega
      rw [List.length_erase_of_mem hn] at h1
      omega
    · have h1 := pig n l nd fun x hx => by
        have h3 := h x hx
        have h4 : x ≠ n := fun e => hn (e ▸ hx)
        omega
      omega
theorem back_some {n : Nat} {m r : List Nat} (b : Bk n m r) {s : Nat} (h : s < n) : ∃ k, 0 < k ∧ k ≤ n ∧ it m k s = s := by
  apply Classical.byContradiction
  intro no
  have nd : ((List.range (n + 1)).map fun k => it m k s).Nodup := by
    refine List.pairwise_map.mpr ((List.pairwise_lt_range).imp_of_mem fun {i j} hi hj lt e => ?_)
    have hj' := List.mem_range.mp hj
    refine no ⟨j - i, by omega, by omega, ?_⟩
    have e2 : it m j s = it m i (it m (j - i) s) := by rw [← it_add]; congr 1; omega
    rw [e2] at e
    exact (it_canc b h (it_lt b h _) i e).symm
  have := pig n _ nd fun x hx => by
    obtain ⟨k, _, e⟩ := List.mem_map.mp hx
    rw [← e]; exact it_lt b h k
  rw [List.length_map, List.length_range] at this
  omega
/-- p is how often s is gone until it is back -/
structure Rd1 (m : List Nat) (s p : Nat) : Prop where
  pos : 0 < p
  back : it m p s = s
  no : ∀ k, 0 < k → k < p → it m k s ≠ s
theorem rd1_some {n : Nat} {m r : List Nat} (b : Bk n m r) {s : Nat} (h : s < n) : ∃ p, p ≤ n ∧ Rd1 m s p := by
  obtain ⟨k, k0, kn, e⟩ := back_some b h
  induction k using Nat.strongRecOn with
  | ind k ih =>
    by_cases q : ∃ j, 0 < j ∧ j < k ∧ it m j s = s
    · obtain ⟨j, j0, jk, ej⟩ := q
      exact ih j jk j0 (by omega) ej
    · exact ⟨k, kn, k0, e, fun j j0 jk ej => q ⟨j, j0, jk, ej⟩⟩
theorem Rd1.one {m : List Nat} {s p q : Nat} (x : Rd1 m s p) (y : Rd1 m s q) : p = q := by
  rcases Nat.lt_trichotomy p q with h | h | h
  · exact absurd x.back (y.no p x.pos h)
  · exact h
  · exact absurd y.back (x.no q y.pos h)
/-- the round's other standings have as many -/
theorem Rd1.on {n : Nat} {m r : List Nat} (b : Bk n m r) {s p : Nat} (h : s < n) (x : Rd1 m s p) (j : Nat) : Rd1 m (it m j s) p := by
  have comm : ∀ k, it m k (it m j s) = it m j (it m k s) := fun k => by rw [← it_add, ← it_add, Nat.add_comm]
  refine ⟨x.pos, by rw [comm, x.back], fun k k0 kp e => x.no k k0 kp ?_⟩
  rw [comm] at e
  exact it_canc b (it_lt b h k) h j e
theorem it_rev {n : Nat} {m r : List Nat} (b : Bk n m r) {s : Nat} (h : s < n) : ∀ k, it r k (it m k s) = s
  | 0 => rfl
  | k + 1 => by
    have e : it r (k + 1) (it m (k + 1) s) = it r k (it r 1 (it m (k + 1) s)) := it_add r 1 _ k
    rw [e]
    show it r k (go1 r (go1 m (it m k s))) = s
    rw [b.rm _ (it_lt b h k)]; exact it_rev b h k
theorem Rd1.rev {n : Nat} {m r : List Nat} (b : Bk n m r) {s p : Nat} (h : s < n) (x : Rd1 m s p) : Rd1 r s p := by
  refine ⟨x.pos, ?_, fun k k0 kp e => x.no k k0 kp ?_⟩
  · have := it_rev b h p
    rw [x.back] at this; exact this
  · have := it_rev b.flip h k
    rw [e] at this; exact this
/-! ### the least common multiple of all rounds -/
def lcmA (l : List Nat) : Nat := l.foldl Nat.lcm 1
theorem lcmA_dvd (l : List Nat) (k : Nat) : ∀ a, l.foldl Nat.lcm a ∣ k ↔ a ∣ k ∧ ∀ x ∈ l, x ∣ k := by
  induction l with
  | nil => intro a; simp
  | cons y l ih =>
    intro a
    rw [List.foldl_cons, ih]
    constructor
    · rintro ⟨h1, h2⟩
      refine ⟨Nat.dvd_trans (Nat.dvd_lcm_left a y) h1, fun x hx => ?_⟩
      rcases List.mem_cons.mp hx with e | e
      · rw [e]; exact Nat.dvd_trans (Nat.dvd_lcm_right a y) h1
      · exact h2 x e
    · rintro ⟨h1, h2⟩
      exact ⟨Nat.lcm_dvd h1 (h2 y List.mem_cons_self), fun x hx => h2 x (List.mem_cons_of_mem _ hx)⟩
theorem lcmA_iff {l : List Nat} {k : Nat} : lcmA l ∣ k ↔ ∀ x ∈ l, x ∣ k := by
  unfold lcmA
  rw [lcmA_dvd]
  exact ⟨fun h => h.2, fun h => ⟨Nat.one_dvd _, h⟩⟩
theorem lcmA_app (l : List Nat) (x : Nat) : lcmA (l ++ [x]) = Nat.lcm (lcmA l) x := by unfold lcmA; rw [List.foldl_append]; rfl
theorem lcmA_eq {l l' : List Nat} (h1 : ∀ x ∈ l, ∃ y ∈ l', x ∣ y) (h2 : ∀ x ∈ l', ∃ y ∈ l, x ∣ y) : lcmA l = lcmA l' := by
  refine Nat.dvd_antisymm (lcmA_iff.mpr fun x hx => ?_) (lcmA_iff.mpr fun x hx => ?_)
  · obtain ⟨y, hy, d⟩ := h1 x hx
    exact Nat.dvd_trans d (lcmA_iff.mp (Nat.dvd_refl _) y hy)
  · obtain ⟨y, hy, d⟩ := h2 x hx
    exact Nat.dvd_trans d (lcmA_iff.mp (Nat.dvd_refl _) y hy)
def big : Nat := 5342931457063200
theorem big_dvd : ∀ x, x ≤ 40 → 0 < x → x ∣ big := by
  have h : ∀ x, x < 41 → 0 < x → x ∣ big := by decide
  exact fun x hx => h x (by omega)
theorem lcmA_le {l : List Nat} (h : ∀ x ∈ l, x ≤ 40 ∧ 0 < x) : 0 < lcmA l ∧ lcmA l ≤ big := by
  have d : lcmA l ∣ big := lcmA_iff.mpr fun x hx => big_dvd x (h x hx).1 (h x hx).2
  have b0 : 0 < big := by decide
  exact ⟨Nat.pos_of_dvd_of_pos d b0, Nat.le_of_dvd b0 d⟩
/-- N is the least common multiple of the rounds of 0 to n - 1 -/
structure Ord (n : Nat) (m : List Nat) (N : Nat) : Prop where
  all : ∀ s p, s < n → Rd1 m s p → p ∣ N
  least : ∀ k, (∀ s p, s < n → Rd1 m s p → p ∣ k) → N ∣ k
theorem Ord.one {n : Nat} {m : List Nat} {N M : Nat} (x : Ord n m N) (y : Ord n m M) : N = M := Nat.dvd_antisymm (x.least M y.all) (y.least N x.all)
theorem Ord.rev {n : Nat} {m r : List Nat} {N : Nat} (b : Bk n m r) (x : Ord n m N) : Ord n r N :=
  ⟨fun s p h y => x.all s p h (y.rev b.flip h), fun k hk => x.least k fun s p h y => hk s p h (y.rev b h)⟩
/-- the least multiple, found by adding -/
theorem lcm_step {f q t : Nat} (f0 : 0 < f) (q0 : 0 < q) (ht : f * t ≤ Nat.lcm f q) (t0 : 0 < t) : (f * t % q = 0 ↔ f * t = Nat.lcm f q) := by
  constructor
  · intro h
    have d : Nat.lcm f q ∣ f * t := Nat.lcm_dvd (Nat.dvd_mul_right _ _) (Nat.dvd_of_mod_eq_zero h)
    have := Nat.le_of_dvd (Nat.mul_pos f0 t0) d
    omega
  · intro h
    rw [h]; exact Nat.mod_eq_zero_of_dvd (Nat.dvd_lcm_right f q)
end MV
/-! Worlds as they stand in the heap, and the promises of what is said of them. -/
namespace RB
open PySem L2 PyProof.Rows MV
/-! ### the pot that draws -/
/-- all that was tracked stands, but what stands at h and g -/
def BG (h g : Addr) (H H' : Hp) : Prop := ∀ b o, b ≠ h ∧ b ≠ g → H b = some o → H' b = some o
theorem BG.refl (h g : Addr) (H : Hp) : BG h g H H := fun _ _ _ e => e
theorem BG.trans {h g : Addr} {H H1 H2 : Hp} (a : BG h g H H1) (b : BG h g H1 H2) : BG h g H H2 := fun c o n e => b c o n (a c o n e)
theorem _root_.L2.Same.bg {h g : Addr} {H H' : Hp} (a : Same H H') : BG h g H H' := fun b o _ e => a b o e
theorem BG.s1 {h g : Addr} {H H1 : Hp} {o : HO} (a : BG h g H H1) : BG h g H (upd H1 h o) := fun b u n e => by rw [upd_ne n.1]; exact a b u n e
theorem BG.s2 {h g : Addr} {H H1 : Hp} {o : HO} (a : BG h g H H1) : BG h g H (upd H1 g o) := fun b u n e => by rw [upd_ne n.2]; exact a b u n e
/-- the pot at h: its great numbers at g, its small ones, how often one has drawn, a number -/
def Pot (H : Hp) (h g : Addr) : Prop := ∃ (s : Addr) (gs ss : List Int) (t k : Int), H h = some (.lst [.ref g, .ref s, .int t, .int k]) ∧ H g = some (.lst (gs.map V.int)) ∧ H s = some (.lst (ss.map V.int)) ∧
  ss ≠ [] ∧ ss.length ≤ 1000 ∧ 0 ≤ t ∧ (∀ z ∈ gs, 0 ≤ z) ∧ (∀ z ∈ ss, 0 ≤ z) ∧ 0 ≤ k ∧ g ≠ h ∧ s ≠ h ∧ s ≠ g
/-- the small numbers stay where they are -/
def Stay (h g : Addr) (H H' : Hp) : Prop := ∀ s z, H h = some (.lst (.ref g :: .ref s :: z)) → ∃ z', H' h = some (.lst (.ref g :: .ref s :: z'))
def PG2 (h g : Addr) (H H' : Hp) : Prop := BG h g H H' ∧ Pot H' h g ∧ Stay h g H H'
theorem PG2.trans {h g : Addr} {H H1 H2 : Hp} (a : PG2 h g H H1) (b : PG2 h g H1 H2) : PG2 h g H H2 := ⟨a.1.trans b.1, b.2.1, fun s z e => by
  obtain ⟨z1, e1⟩ := a.2.2 s z e
  exact b.2.2 s z1 e1⟩
theorem Pot.same {H H' : Hp} {h g : Addr} (x : Pot H h g) (e : Same H H') : Pot H' h g := by
  obtain ⟨s, gs, ss, t, k, h1, h2, h3, r⟩ := x
  exact ⟨s, gs, ss, t, k, e _ _ h1, e _ _ h2, e _ _ h3, r⟩
theorem PG2.same {H H1 H2 : Hp} {h g : Addr} (x : PG2 h g H H1) (e : Same H1 H2) : PG2 h g H H2 := x.trans ⟨e.bg, x.2.1.same e, fun s z k => ⟨z, e _ _ k⟩⟩
theorem Pot.refl {H : Hp} {h g : Addr} (x : Pot H h g) : PG2 h g H H := ⟨BG.refl _ _ _, x, fun s z k => ⟨z, k⟩⟩
theorem Pot.go {H H' : Hp} {h g : Addr} (x : Pot H h g) (e : Same H H') : PG2 h g H H' := x.refl.same e
theorem Pot.ne {H : Hp} {h g p : Addr} (x : Pot H h g) (n : H p = none) : p ≠ h ∧ p ≠ g := by
  obtain ⟨s, gs, ss, t, k, h1, h2, _⟩ := x
  exact ⟨(ne_of_none h1 n).symm, (ne_of_none h2 n).symm⟩
/-- what was not there at first may change -/
theorem PG2.put {H H1 : Hp} {h g p : Addr} {o : HO} (a : Pot H h g) (x : PG2 h g H H1) (hn : H p = none) : PG2 h g H (upd H1 p o) := by
  have pn := a.ne hn
  obtain ⟨s0, gs0, ss0, t0, k0, a1, a2, a3, ar⟩ := a
  have ps : p ≠ s0 := (ne_of_none a3 hn).symm
  obtain ⟨b, ⟨s, gs, ss, t, k, h1, h2, h3, r⟩, st⟩ := x
  obtain ⟨z', e⟩ := st s0 _ a1
  rw [h1] at e
  cases e
  exact ⟨fun c u nc hc => by rw [upd_ne (ne_of_none hc hn)]; exact b c u nc hc, ⟨s0, gs, ss, t, k, upd_oth h1 pn.1.symm, upd_oth h2 pn.2.symm, upd_oth h3 ps.symm, r⟩, fun s z e => by
    rw [a1] at e; cases e
    exact ⟨_, upd_oth h1 pn.1.symm⟩⟩
theorem PG2.free {H H1 : Hp} {h g p : Addr} (x : PG2 h g H H1) (n : H1 p = none) : H p = none := by
  cases e : H p with
  | none => rfl
  | some o =>
    have pn := x.2.1.ne n
    rw [x.1 p o pn e] at n; cases n
def sp_pdraw : Sp := fun vs H Q _ => ∃ (h g : Addr) (n : Int), vs = [.ref h, .int n] ∧ Pot H h g ∧ 0 < n ∧ n < 2 ^ 62 ∧ ∀ (d : Int) (H' : Hp), 0 ≤ d → d < n → PG2 h g H H' → Q (.int d) H'
def sp_pot (K : PySem.W.Frag) : Sp := fun vs H Q _ => ∃ (a : Addr) (ns : List Int), vs = [.ref a] ∧ SqL K H a (ns.map V.int) ∧ ns.length ≤ 63 ∧ ∀ (h g : Addr) (H' : Hp), Same H H' → Pot H' h g → H h = none → H g = none → Q (.ref h) H'
def sp_pany (K : PySem.W.Frag) : Sp := fun vs H Q _ => ∃ (h g p : Addr) (xs : List V), vs = [.ref h, .ref p] ∧ Pot H h g ∧ (SqL K H p xs ∨ SqT K H p xs) ∧ p ≠ h ∧ p ≠ g ∧ xs ≠ [] ∧ xs.length ≤ 1000000 ∧
  ∀ (i : Nat) (x : V) (H' : Hp), xs[i]? = some x → PG2 h g H H' → Q x H'
theorem BG.sqL {K : PySem.W.Frag} {h g : Addr} {H H' : Hp} {a : Addr} {xs : List V} (e : BG h g H H') (n : a ≠ h ∧ a ≠ g) (x : SqL K H a xs) : SqL K H' a xs := by
  rcases x with (x | ⟨o, x⟩) | x
  · exact .inl (.inl (e _ _ n x))
  · exact .inl (.inr ⟨o, e _ _ n x⟩)
  · exact .inr x
theorem BG.sqT {K : PySem.W.Frag} {h g : Addr} {H H' : Hp} {a : Addr} {xs : List V} (e : BG h g H H') (n : a ≠ h ∧ a ≠ g) (x : SqT K H a xs) : SqT K H' a xs := by
  rcases x with (x | ⟨o, x⟩) | x
  · exact .inl (.inl (e _ _ n x))
  · exact .inl (.inr ⟨o, e _ _ n x⟩)
  · exact .inr x
/-- deeds as they are passed -/
structure Dds (d : List Nat) : Prop where
  de : Deeds d
  ne : d ≠ []
  le : d.length ≤ 4
def sp_pdeeds : Sp := fun vs H Q _ => ∃ (h g : Addr) (n : Nat), vs = [.ref h, .int n] ∧ Pot H h g ∧ 1 ≤ n ∧ n ≤ 4 ∧ ∀ d H', Dds d → d.length ≤ n → (∀ c ∈ d, c ≤ 120) → PG2 h g H H' → Q (.str (S d)) H'
/-! ### rows over deeds -/
def OverD (d l : List Nat) : Prop := ∀ c ∈ l, lo1 c ∈ d
instance (d l : List Nat) : Decidable (OverD d l) := inferInstanceAs (Decidable (∀ c ∈ l, lo1 c ∈ d))
/-- whether a value is a row over the deeds -/
inductive OvJ (K : PySem.W.Frag) (H : Hp) (d : List Nat) : V → Option (List Nat) → Prop
  | yes {l : List Nat} (hl : Ls l) (hz : l.length ≤ 100000) (o : OverD d l) : OvJ K H d (.str (S l)) (some l)
  | not {l : List Nat} (hl : Ls l) (hz : l.length ≤ 100000) (o : ¬ OverD d l) : OvJ K H d (.str (S l)) none
  | bad {v : V} (j : RowJ K H v false) : OvJ K H d v none
def sp_rowover (K : PySem.W.Frag) : Sp := fun vs H Q _ => ∃ d v o, vs = [.str (S d), v] ∧ Deeds d ∧ OvJ K H d v o ∧ ∀ H', Same H H' → Q (.bl o.isSome) H'
def sp_dover (K : PySem.W.Frag) (C : Addr) : Sp := fun vs H Q E => ∃ d v o, vs = [.str (S d), v] ∧ Deeds d ∧ OvJ K H d v o ∧ (o = none → ∀ H', Same H H' → E (.ref C) none H') ∧ (o ≠ none → ∀ H', Same H H' → Q .non H')
theorem OvJ.same {K : PySem.W.Frag} {H H' : Hp} {d : List Nat} {v : V} {o : Option (List Nat)} (s : Same H H') (j : OvJ K H d v o) : OvJ K H' d v o := by
  cases j with
  | yes a b c => exact .yes a b c
  | not a b c => exact .not a b c
  | bad j => exact .bad (j.same s)
theorem islow_all {l : List Nat} (h : ∀ c ∈ l, 97 ≤ c ∧ c ≤ 122) (n : l ≠ []) : Txt.islower (S l) = true := by
  unfold Txt.islower
  show (l.toArray.any Unicode.isLower && !l.toArray.any _) = true
  rw [List.any_toArray, List.any_toArray]
  have e1 : l.any Unicode.isLower = true := by
    cases l with
    | nil => exact absurd rfl n
    | cons a r =>
      have q := h a List.mem_cons_self
      rw [List.any_cons, isLo_asc a (by omega), decide_eq_true q, Bool.true_or]
  have e2 : (l.any fun c => Unicode.isUpper c || Unicode.isTitle c) = false := by
    rw [List.any_eq_false]
    intro c hc
    have q := h c hc
    rw [isU_asc c (by omega), isTi_asc c (by omega), decide_eq_false (by omega)]
    simp
  rw [e1, e2]; rfl
/-! ### moves and worlds -/
def iv (m : List Nat) : List Int := m.map fun k : Nat => (k : Int)
def mv (m : List Nat) : List V := (iv m).map V.int
theorem iv_len (m : List Nat) : (iv m).length = m.length := List.length_map ..
theorem mv_len (m : List Nat) : (mv m).length = m.length := by unfold mv; rw [List.length_map, iv_len]
theorem mv_at {m : List Nat} {s : Nat} (h : s < m.length) : (mv m)[s]? = some (.int (go1 m s : Nat)) := by
  unfold mv iv; rw [List.getElem?_map, List.getElem?_map, go1_at h]; rfl
theorem iv_at {m : List Nat} {s : Nat} (h : s < m.length) : (iv m)[s]? = some (go1 m s : Nat) := by
  unfold iv; rw [List.getElem?_map, go1_at h]; rfl
/-- the dict of moves as the law has it -/
def dct (d : List Nat) (a : Nat → Addr) : List (L2.Key × V) := d.map fun c => (Sum.inr (S [c]), .ref (a c))
theorem val_dct (d : List Nat) (a : Nat → Addr) (k : L2.Key) : valV (dct d a) k = (d.find? fun c => decide ((Sum.inr (S [c]) : L2.Key) = k)).map fun c => V.ref (a c) := by
  unfold dct
  induction d with
  | nil => rfl
  | cons b d ih =>
    rw [List.map_cons, List.find?_cons]
    by_cases e : (Sum.inr (S [b]) : L2.Key) = k
    · rw [valV_pos e, decide_eq_true e]; rfl
    · rw [valV_neg e, decide_eq_false e]; exact ih
theorem val_in {d : List Nat} (a : Nat → Addr) {c : Nat} (h : c ∈ d) : valV (dct d a) (Sum.inr (S [c])) = some (.ref (a c)) := by
  rw [val_dct]
  induction d with
  | nil => cases h
  | cons b d ih =>
    rw [List.find?_cons]
    by_cases e : b = c
    · subst e; rw [decide_eq_true rfl]; rfl
    · have ne : ¬ ((Sum.inr (S [b]) : L2.Key) = Sum.inr (S [c])) := fun q => e (by have := S_inj (Sum.inr.inj q); cases this; rfl)
      rw [decide_eq_false ne]
      exact ih ((List.mem_cons.mp h).resolve_left fun q => e q.symm)
theorem val_out {d : List Nat} (a : Nat → Addr) {k : L2.Key} (h : ∀ c ∈ d, (Sum.inr (S [c]) : L2.Key) ≠ k) : valV (dct d a) k = none := by
  rw [val_dct]
  rw [List.find?_eq_none.mpr fun c hc => by simpa using h c hc]; rfl
theorem put_dct {d : List Nat} {a : Nat → Addr} {c : Nat} (v : V) (h : c ∉ d) : putK (dct d a) (Sum.inr (S [c])) v = dct d a ++ [(Sum.inr (S [c]), v)] :=
  putK_new v (val_out a fun b hb e => h (by have := S_inj (Sum.inr.inj e); cases this; exact hb))
theorem d_take {d : List Nat} (hd : Deeds d) {i c : Nat} (h : d[i]? = some c) : ∀ x ∈ d.take i, x < c := fun x hx => by
  obtain ⟨j, hj⟩ := List.mem_iff_getElem?.mp hx
  rw [List.getElem?_take] at hj
  split at hj
  · rename_i ji
    obtain ⟨hl1, e1⟩ := List.getElem?_eq_some_iff.mp hj
    obtain ⟨hl2, e2⟩ := List.getElem?_eq_some_iff.mp h
    have := (List.pairwise_iff_getElem.mp hd.up) j i hl1 hl2 ji
    omega
  · cases hj
theorem rg_mv (n : Nat) : rgV 0 ((n : Nat) : Int) = mv (List.range n) := by
  unfold rgV mv iv
  rw [show (((n : Nat) : Int) - 0).toNat = n by omega, List.map_map]
  refine List.map_congr_left fun i _ => ?_
  show V.int (0 + (i : Nat)) = V.int (i : Nat)
  rw [Int.zero_add]
theorem mv_set (l : List Nat) (j k : Nat) : (mv l).set j (.int (k : Nat)) = mv (l.set j k) := by unfold mv iv; rw [List.map_set, List.map_set]
theorem go1_set {l : List Nat} {j x s : Nat} (hs : s < l.length) (hj : j < l.length) : go1 (l.set j x) s = if s = j then x else go1 l s := by
  have h1 := go1_at (m := l.set j x) (s := s) (by simpa using hs)
  rw [List.getElem?_set] at h1
  by_cases e : s = j
  · subst e
    rw [if_pos rfl, if_pos hs] at h1
    rw [if_pos rfl]; exact (Option.some.inj h1).symm
  · rw [if_neg (fun q => e q.symm), go1_at hs] at h1
    rw [if_neg e]; exact (Option.some.inj h1).symm
/-- what is told of the way back behind i turns -/
def bkl (n : Nat) (r : List Nat) (i : Nat) : List Nat := (List.range n).map fun s => if go1 r s < i then go1 r s else 0
theorem bkl_len (n : Nat) (r : List Nat) (i : Nat) : (bkl n r i).length = n := by unfold bkl; rw [List.length_map, List.length_range]
theorem bkl_go {n : Nat} {r : List Nat} {i s : Nat} (h : s < n) : go1 (bkl n r i) s = if go1 r s < i then go1 r s else 0 := by
  unfold bkl; rw [go1_map (by simpa using h), go1_range h]
theorem rep0 : ∀ n : Nat, List.replicate n (V.int 0) = (List.replicate n [V.int 0]).flatten
  | 0 => rfl
  | n + 1 => by rw [List.replicate_succ, List.replicate_succ, List.flatten_cons, ← rep0 n]; rfl
theorem bkl_zero (n : Nat) (r : List Nat) : mv (bkl n r 0) = (List.replicate n [V.int 0]).flatten := by
  have e : bkl n r 0 = List.replicate n 0 := mv_ext (n := n) (bkl_len _ _ _) List.length_replicate fun s h => by
    rw [bkl_go h, if_neg (Nat.not_lt_zero _)]
    have := go1_at (m := List.replicate n 0) (s := s) (by simpa using h)
    rw [List.getElem?_replicate, if_pos h] at this
    exact Option.some.inj this
  rw [e]
  unfold mv iv
  rw [List.map_replicate, List.map_replicate]
  exact rep0 n
theorem bkl_set {n : Nat} {m r : List Nat} (b : Bk n m r) {i : Nat} (h : i < n) : (bkl n r i).set (go1 m i) i = bkl n r (i + 1) := by
  refine mv_ext (n := n) (by rw [List.length_set, bkl_len]) (bkl_len _ _ _) fun s hs => ?_
  rw [go1_set (by rw [bkl_len]; exact hs) (by rw [bkl_len]; exact b.hm i h), bkl_go hs, bkl_go hs]
  by_cases e : s = go1 m i
  · rw [if_pos e, e, b.rm i h, if_pos (Nat.lt_succ_self i)]
  · rw [if_neg e]
    have ne : go1 r s ≠ i := fun q => e (by rw [← q, b.mr s hs])
    by_cases lt : go1 r s < i
    · rw [if_pos lt, if_pos (by omega)]
    · rw [if_neg lt, if_neg (by omega)]
theorem bkl_all {n : Nat} {m r : List Nat} (b : Bk n m r) : bkl n r n = r :=
  mv_ext (n := n) (bkl_len _ _ _) b.lr fun s hs => by rw [bkl_go hs, if_pos (b.hr s hs)]
theorem ix_nat {l : Nat} {k : Nat} (h : k < l) : ixN l (k : Int) = some k := by
  unfold ixN
  rw [if_pos (by omega), if_pos (by omega)]
  rfl
/-- the flags of 0 to n - 1 -/
def bls (n : Nat) (f : Nat → Bool) : List V := (List.range n).map fun s => V.bl (f s)
theorem bls_len (n : Nat) (f : Nat → Bool) : (bls n f).length = n := by unfold bls; rw [List.length_map, List.length_range]
theorem bls_at {n s : Nat} {f : Nat → Bool} (h : s < n) : (bls n f)[s]? = some (.bl (f s)) := by unfold bls; rw [List.getElem?_map, List.getElem?_range h]; rfl
theorem bls_set {n j : Nat} {f : Nat → Bool} : (bls n f).set j (.bl true) = bls n fun s => decide (s = j) || f s := by
  refine List.ext_getElem? fun s => ?_
  rw [List.getElem?_set]
  rcases Nat.lt_or_ge s n with h | h
  · rw [bls_at h, bls_at h, bls_len]
    by_cases e : j = s
    · subst e; rw [if_pos rfl, if_pos h, decide_eq_true rfl, Bool.true_or]
    · rw [if_neg e, decide_eq_false (fun q => e q.symm), Bool.false_or]
  · have h1 : (bls n f)[s]? = none := List.getElem?_eq_none (by rw [bls_len]; exact h)
    have h2 : (bls n fun s => decide (s = j) || f s)[s]? = none := List.getElem?_eq_none (by rw [bls_len]; exact h)
    rw [h1, h2, bls_len]
    by_cases e : j = s
    · rw [if_pos e, if_neg (by omega)]
    · rw [if_neg e]
theorem bls0 : ∀ n : Nat, (List.replicate n [V.bl false]).flatten = bls n fun _ => false := fun n => by
  unfold bls
  have e : ∀ k : Nat, (List.replicate k [V.bl false]).flatten = List.replicate k (V.bl false) := fun k => by
    induction k with
    | zero => rfl
    | succ k ih => rw [List.replicate_succ, List.replicate_succ, List.flatten_cons, ih]; rfl
  rw [e]
  refine List.ext_getElem? fun s => ?_
  rw [List.getElem?_replicate, List.getElem?_map]
  rcases Nat.lt_or_ge s n with h | h
  · rw [if_pos h, List.getElem?_range h]; rfl
  · rw [if_neg (by omega), List.getElem?_eq_none (by simpa using h)]; rfl
/-- what has been seen is whole rounds -/
structure Cl (n : Nat) (m : List Nat) (f : Nat → Bool) (i : Nat) (ls : List Nat) : Prop where
  fw : ∀ s, s < n → f s = true → f (go1 m s) = true
  bw : ∀ s, s < n → f (go1 m s) = true → f s = true
  up : ∀ s, s < i → f s = true
  l1 : ∀ p ∈ ls, ∃ s, s < n ∧ Rd1 m s p
  l2 : ∀ s p, s < n → f s = true → Rd1 m s p → p ∈ ls
def Orb (m : List Nat) (i j : Nat) (f f' : Nat → Bool) : Prop := ∀ s, f' s = true ↔ f s = true ∨ ∃ t, t < j ∧ it m t i = s
theorem orb0 {m : List Nat} {i : Nat} {f : Nat → Bool} : Orb m i 0 f f := fun s => ⟨.inl, fun h => h.elim id fun ⟨_, z, _⟩ => absurd z (Nat.not_lt_zero _)⟩
theorem orb_step {m : List Nat} {i j : Nat} {f f' : Nat → Bool} (o : Orb m i j f f') : Orb m i (j + 1) f fun s => decide (s = it m j i) || f' s := fun s => by
  rw [Bool.or_eq_true, decide_eq_true_iff, o s]
  constructor
  · rintro (h | h | ⟨t, h1, h2⟩)
    · exact .inr ⟨j, Nat.lt_succ_self j, h.symm⟩
    · exact .inl h
    · exact .inr ⟨t, by omega, h2⟩
  · rintro (h | ⟨t, h1, h2⟩)
    · exact .inr (.inl h)
    · by_cases e : t = j
      · subst e; exact .inl h2.symm
      · exact .inr (.inr ⟨t, by omega, h2⟩)
theorem cl_back {n : Nat} {m r : List Nat} (b : Bk n m r) {f : Nat → Bool} {i : Nat} {ls : List Nat} (c : Cl n m f i ls) {s : Nat} (h : s < n) : ∀ k, f (it m k s) = true → f s = true
  | 0, e => e
  | k + 1, e => cl_back b c h k (c.bw _ (it_lt b h k) e)
theorem orb_stop {n : Nat} {m r : List Nat} (b : Bk n m r) {f f' : Nat → Bool} {i j p : Nat} {ls : List Nat} (c : Cl n m f i ls) (h : i < n) (nf : f i = false) (x : Rd1 m i p) (o : Orb m i j f f') (jp : j ≤ p) : f' (it m j i) = true ↔ j = p := by
  rw [o]
  constructor
  · rintro (q | ⟨t, tj, e⟩)
    · rw [cl_back b c h j q] at nf; cases nf
    · apply Classical.byContradiction
      intro ne
      refine x.no (j - t) (by omega) (by omega) ?_
      have e2 : it m j i = it m t (it m (j - t) i) := by rw [← it_add]; congr 1; omega
      rw [e2] at e
      exact (it_canc b h (it_lt b h _) t e).symm
  · intro e
    subst e
    exact .inr ⟨0, x.pos, x.back.symm⟩
theorem cl_seen {n : Nat} {m : List Nat} {f : Nat → Bool} {i : Nat} {ls : List Nat} (c : Cl n m f i ls) (s : f i = true) : Cl n m f (i + 1) ls :=
  ⟨c.fw, c.bw, fun k hk => by
    by_cases e : k = i
    · rw [e]; exact s
    · exact c.up k (by omega), c.l1, c.l2⟩
theorem cl_new {n : Nat} {m r : List Nat} (b : Bk n m r) {f f' : Nat → Bool} {i p : Nat} {ls : List Nat} (c : Cl n m f i ls) (h : i < n) (x : Rd1 m i p) (o : Orb m i p f f') : Cl n m f' (i + 1) (ls ++ [p]) := by
  refine ⟨fun s hs e => ?_, fun s hs e => ?_, fun k hk => ?_, fun q hq => ?_, fun s q hs e y => ?_⟩
  · rw [o] at e ⊢
    rcases e with e | ⟨t, tp, e⟩
    · exact .inl (c.fw s hs e)
    · by_cases z : t + 1 = p
      · refine .inr ⟨0, x.pos, ?_⟩
        rw [← e]
        show i = it m (t + 1) i
        rw [z, x.back]
      · exact .inr ⟨t + 1, by omega, by rw [← e]; rfl⟩
  · rw [o] at e ⊢
    rcases e with e | ⟨t, tp, e⟩
    · exact .inl (c.bw s hs e)
    · right
      cases t with
      | zero =>
        refine ⟨p - 1, by omega, b.inj (it_lt b h _) hs ?_⟩
        rw [← e]
        have := x.back
        rw [show p = (p - 1) + 1 by have := x.pos; omega] at this
        exact this
      | succ t => exact ⟨t, by omega, b.inj (it_lt b h _) hs e⟩
  · rw [o]
    by_cases e : k = i
    · exact .inr ⟨0, x.pos, e.symm⟩
    · exact .inl (c.up k (by omega))
  · rcases List.mem_append.mp hq with z | z
    · exact c.l1 q z
    · rw [List.mem_singleton.mp z]; exact ⟨i, h, x⟩
  · rw [o] at e
    rcases e with e | ⟨t, tp, e⟩
    · exact List.mem_append_left _ (c.l2 s q hs e y)
    · have z := x.on b h t
      rw [e] at z
      rw [y.one z]
      exact List.mem_append_right _ (List.mem_singleton_self _)
theorem cl_ord {n : Nat} {m r : List Nat} (b : Bk n m r) {f : Nat → Bool} {ls : List Nat} (c : Cl n m f n ls) : MV.Ord n m (lcmA ls) :=
  ⟨fun s p h x => lcmA_iff.mp (Nat.dvd_refl _) p (c.l2 s p h (c.up s h) x), fun k hk => lcmA_iff.mpr fun p hp => by
    obtain ⟨s, h, x⟩ := c.l1 p hp
    exact hk s p h x⟩
/-- so many times yes -/
def yes (n : Nat) : List V := (List.replicate n true).map V.bl
theorem yes_succ (n : Nat) : yes n ++ [V.bl true] = yes (n + 1) := by unfold yes; rw [List.replicate_succ', List.map_append]; rfl
theorem yes_len (n : Nat) : (yes n).length = n := by unfold yes; rw [List.length_map, List.length_replicate]
theorem all_rep (n : Nat) : (List.replicate n true).all id = true := List.all_eq_true.mpr fun x hx => by rw [List.eq_of_mem_replicate hx]; rfl
theorem lt_one {c e : Nat} (h : c < e) : ([c] : List Nat) < [e] := List.Lex.rel h
/-- what leads back -/
def rv (n : Nat) (m : List Nat) : List Nat := (List.range n).map fun s => m.idxOf s
theorem bk_rv {n : Nat} {m r : List Nat} (b : Bk n m r) : Bk n m (rv n m) := by
  have e : rv n m = r := mv_ext (n := n) (by unfold rv; rw [List.length_map, List.length_range]) b.lr fun s h => by
    unfold rv
    rw [go1_map (by simpa using h), go1_range h]
    have f := b.first h
    have mem : s ∈ m := List.mem_of_getElem? f.1
    have il : m.idxOf s < m.length := List.idxOf_lt_length_of_mem mem
    have ge := go1_at il
    rw [List.getElem?_eq_getElem il, List.getElem_idxOf] at ge
    have q := b.rm (m.idxOf s) (by rw [← b.lm]; exact il)
    rw [← Option.some.inj ge] at q
    exact q.symm
  rw [e]; exact b
/-- the move of a letter -/
def A1 (n : Nat) (M : Nat → List Nat) (x : Nat) : List Nat := if 97 ≤ x then M x else rv n (M (lo1 x))
def Mok (n : Nat) (d : List Nat) (M : Nat → List Nat) : Prop := ∀ c ∈ d, ∃ r, Bk n (M c) r
theorem lo1_low {c : Nat} (h : 97 ≤ c) : lo1 c = c := by unfold lo1; rw [if_neg (by omega)]
theorem A1_bk {n : Nat} {d : List Nat} {M : Nat → List Nat} (k : Mok n d M) {x : Nat} (h : lo1 x ∈ d) : ∃ r, Bk n (A1 n M x) r := by
  obtain ⟨r, b⟩ := k _ h
  unfold A1
  split
  · rename_i q; rw [lo1_low q] at b; exact ⟨r, b⟩
  · exact ⟨_, (bk_rv b).flip⟩
/-- letters that undo one another lead there and back -/
theorem A1_sw {n : Nat} {d : List Nat} {M : Nat → List Nat} (k : Mok n d M) {x : Nat} (hx : IsL x) (h : lo1 x ∈ d) : Bk n (A1 n M x) (A1 n M (sw x)) := by
  obtain ⟨r, b⟩ := k _ h
  unfold IsL at hx
  unfold A1
  rcases hx with q | q
  · have e1 : sw x = x + 32 := by unfold sw; rw [if_pos (by omega)]
    have e2 : lo1 x = x + 32 := by unfold lo1; rw [if_pos (by omega)]
    rw [if_neg (by omega), if_pos (by omega), e1]
    rw [e2] at b ⊢
    exact (bk_rv b).flip
  · have e1 : sw x = x - 32 := by unfold sw; rw [if_neg (by omega), if_pos (by omega)]
    have e2 : lo1 (x - 32) = x := by unfold lo1; rw [if_pos (by omega)]; omega
    rw [if_pos (by omega), if_neg (by omega), e1, e2]
    rw [lo1_low (by omega)] at b
    exact bk_rv b
/-- where a row leads -/
def wk (A : Nat → List Nat) (l : List Nat) (s : Nat) : Nat := l.foldl (fun s x => go1 (A x) s) s
def rowMv (A : Nat → List Nat) (n : Nat) (l : List Nat) : List Nat := l.foldl (fun m x => fol m (A x)) (List.range n)
theorem rowMv_app (A : Nat → List Nat) (n : Nat) (l : List Nat) (x : Nat) : rowMv A n (l ++ [x]) = fol (rowMv A n l) (A x) := by unfold rowMv; rw [List.foldl_append]; rfl
theorem wk_app (A : Nat → List Nat) (l m : List Nat) (s : Nat) : wk A (l ++ m) s = wk A m (wk A l s) := by unfold wk; rw [List.foldl_append]
def AllBk (n : Nat) (A : Nat → List Nat) (l : List Nat) : Prop := ∀ x ∈ l, ∃ r, Bk n (A x) r
theorem rowMv_bk {n : Nat} {A : Nat → List Nat} : ∀ {l : List Nat}, AllBk n A l → ∃ r, Bk n (rowMv A n l) r := by
  intro l
  rw [← List.reverse_reverse l]
  induction l.reverse with
  | nil => intro _; exact ⟨_, Bk.id n⟩
  | cons x l ih =>
    rw [List.reverse_cons]
    intro h
    obtain ⟨r, b⟩ := ih fun y hy => h y (List.mem_append_left _ hy)
    obtain ⟨r2, b2⟩ := h x (List.mem_append_right _ (List.mem_singleton_self _))
    rw [rowMv_app]
    exact ⟨_, b.fol b2⟩
theorem rowMv_len {n : Nat} {A : Nat → List Nat} (l : List Nat) : (rowMv A n l).length = n := by
  rw [← List.reverse_reverse l]
  induction l.reverse with
  | nil => exact List.length_range
  | cons x l ih => rw [List.reverse_cons, rowMv_app]; unfold fol; rw [List.length_map]; exact ih
theorem rowMv_wk {n : Nat} {A : Nat → List Nat} (l : List Nat) {s : Nat} (h : s < n) : go1 (rowMv A n l) s = wk A l s := by
  rw [← List.reverse_reverse l]
  induction l.reverse with
  | nil => exact go1_range h
  | cons x l ih => rw [List.reverse_cons, rowMv_app, fol_go (rowMv_len _) h, ih, wk_app]; rfl
theorem wk_lt {n : Nat} {A : Nat → List Nat} : ∀ {l : List Nat} {s : Nat}, AllBk n A l → s < n → wk A l s < n
  | [], _, _, h => h
  | x :: l, s, k, h => by
    obtain ⟨r, b⟩ := k x List.mem_cons_self
    exact wk_lt (l := l) (fun y hy => k y (List.mem_cons_of_mem _ hy)) (b.hm s h)
/-- the net leads as the row -/
theorem wk_red {n : Nat} {A : Nat → List Nat} {l : List Nat} (k : ∀ x ∈ l, Bk n (A x) (A (sw x))) {s : Nat} (h : s < n) : wk A (red l) s = wk A l s := by
  have key : ∀ (l st : List Nat), (∀ x ∈ l, Bk n (A x) (A (sw x))) → AllBk n A st.reverse → wk A (l.foldl push st).reverse s = wk A (st.reverse ++ l) s := by
    intro l
    induction l with
    | nil => intro st _ _; rw [List.append_nil]; rfl
    | cons x l ih =>
      intro st hl hst
      have b := hl x List.mem_cons_self
      have hx : ∃ r, Bk n (A x) r := ⟨_, b⟩
      have hl2 : ∀ y ∈ l, Bk n (A y) (A (sw y)) := fun y hy => hl y (List.mem_cons_of_mem _ hy)
      rw [List.foldl_cons]
      cases st with
      | nil =>
        have one : AllBk n A [x].reverse := fun y hy => by
          have q : y = x := by simpa using hy
          rw [q]; exact hx
        have := ih [x] hl2 one
        exact this
      | cons t r =>
        have hr : AllBk n A r.reverse := fun y hy => hst y (by rw [List.reverse_cons]; exact List.mem_append_left _ hy)
        by_cases e : t = sw x
        · rw [show push (t :: r) x = r by unfold push; simp [e], ih r hl2 hr, List.reverse_cons, List.append_assoc, wk_app, wk_app, wk_app]
          have lt := wk_lt hr h
          have e2 : wk A [t] (wk A r.reverse s) = go1 (A t) (wk A r.reverse s) := rfl
          have e3 : wk A (x :: l) (wk A [t] (wk A r.reverse s)) = wk A l (go1 (A x) (go1 (A t) (wk A r.reverse s))) := rfl
          rw [e3, e, b.mr _ lt]
        · rw [show push (t :: r) x = x :: t :: r by unfold push; simp [e], ih _ hl2 (fun y hy => by
            rw [List.reverse_cons] at hy
            rcases List.mem_append.mp hy with q | q
            · exact hst y q
            · rw [List.mem_singleton.mp q]; exact hx)]
          rw [List.reverse_cons, List.append_assoc]; rfl
  have := key l [] k (fun _ hy => nomatch hy)
  simpa [red, kst] using this
/-- a move at t: a tuple, whether new or made so that no attribute hides its methods -/
def TP (H : Hp) (t : Addr) (m : List Nat) : Prop := ∃ u, H t = some u ∧ (u = .tup (mv m) ∨ ∃ o : Obj, u = .frz o (.tup (mv m)) ∧ o.cls = .type "tuple" ∧ o.dict = none)
theorem TP.of {H : Hp} {t : Addr} {m : List Nat} (h : H t = some (.tup (mv m))) : TP H t m := ⟨_, h, .inl rfl⟩
theorem TP.sq {K : PySem.W.Frag} {H : Hp} {t : Addr} {m : List Nat} (h : TP H t m) : SqT K H t (mv m) := by
  obtain ⟨u, e, rfl | ⟨o, rfl, _⟩⟩ := h
  · exact .inl (.inl e)
  · exact .inl (.inr ⟨o, e⟩)
theorem TP.same {H H' : Hp} {t : Addr} {m : List Nat} (h : TP H t m) (s : Same H H') : TP H' t m := by
  obtain ⟨u, e, r⟩ := h; exact ⟨u, s _ _ e, r⟩
theorem TP.old {H : Hp} {t p : Addr} {m : List Nat} {o : HO} (h : TP H t m) (n : H p = none) : TP (upd H p o) t m := by
  obtain ⟨u, e, r⟩ := h; exact ⟨u, upd_old e n, r⟩
theorem TP.oth {H : Hp} {t p : Addr} {m : List Nat} {o : HO} (h : TP H t m) (n : t ≠ p) : TP (upd H p o) t m := by
  obtain ⟨u, e, r⟩ := h; exact ⟨u, upd_oth e n, r⟩
theorem TP.bg {H H' : Hp} {t a b : Addr} {m : List Nat} (h : TP H t m) (s : BG a b H H') (n : t ≠ a ∧ t ≠ b) : TP H' t m := by
  obtain ⟨u, e, r⟩ := h; exact ⟨u, s _ _ n e, r⟩
theorem TP.but {H H' : Hp} {t a : Addr} {m : List Nat} (h : TP H t m) (s : But a H H') (n : t ≠ a) : TP H' t m := by
  obtain ⟨u, e, r⟩ := h; exact ⟨u, s _ _ n e, r⟩
theorem TP.nn {H : Hp} {t p : Addr} {m : List Nat} (h : TP H t m) (n : H p = none) : t ≠ p := by
  obtain ⟨u, e, r⟩ := h; exact ne_of_none e n
theorem TP.nk {H : Hp} {t p : Addr} {m : List Nat} {kvs : List (L2.Key × V)} (h : TP H t m) (n : H p = some (.dK kvs)) : t ≠ p := by
  obtain ⟨u, e, rfl | ⟨o, rfl, _⟩⟩ := h
  · exact ne_of e n (by intro q; cases q)
  · exact ne_of e n (by intro q; cases q)
theorem TP.nf {H : Hp} {t p : Addr} {m : List Nat} {o2 : Obj} {kvs : List (L2.Key × V)} (h : TP H t m) (n : H p = some (.frz o2 (.dK kvs))) : t ≠ p := by
  obtain ⟨u, e, rfl | ⟨o, rfl, _⟩⟩ := h
  · exact ne_of e n (by intro q; cases q)
  · exact ne_of e n (by intro q; cases q)
theorem TP.ni {H : Hp} {t p C dx : Addr} {m : List Nat} {fs : List (Str × V)} (h : TP H t m) (n : H p = some (.ins C dx fs)) : t ≠ p := by
  obtain ⟨u, e, rfl | ⟨o, rfl, _⟩⟩ := h
  · exact ne_of e n (by intro q; cases q)
  · exact ne_of e n (by intro q; cases q)
theorem TP.ty {K : PySem.W.Frag} {H : Hp} {t : Addr} {m : List Nat} (h : TP H t m) : TyX K H (.ref t) (.type "tuple") := by
  obtain ⟨u, e, rfl | ⟨o, rfl, _⟩⟩ := h
  · exact .base (.tup e)
  · exact .fTuple e
/-- a move that the law has made -/
def TF (H : Hp) (t : Addr) (m : List Nat) : Prop := ∃ o : Obj, H t = some (.frz o (.tup (mv m))) ∧ o.cls = .type "tuple" ∧ o.dict = none
theorem TF.tp {H : Hp} {t : Addr} {m : List Nat} (h : TF H t m) : TP H t m := by
  obtain ⟨o, e, r⟩ := h; exact ⟨_, e, .inr ⟨o, rfl, r⟩⟩
theorem TF.same {H H' : Hp} {t : Addr} {m : List Nat} (h : TF H t m) (s : Same H H') : TF H' t m := by
  obtain ⟨o, e, r⟩ := h; exact ⟨o, s _ _ e, r⟩
theorem TF.bg {H H' : Hp} {t a b : Addr} {m : List Nat} (h : TF H t m) (s : BG a b H H') (n : t ≠ a ∧ t ≠ b) : TF H' t m := by
  obtain ⟨o, e, r⟩ := h; exact ⟨o, s _ _ n e, r⟩
theorem TF.old {H : Hp} {t p : Addr} {m : List Nat} {o : HO} (h : TF H t m) (n : H p = none) : TF (upd H p o) t m := by
  obtain ⟨u, e, r⟩ := h; exact ⟨u, upd_old e n, r⟩
theorem TF.oth {H : Hp} {t p : Addr} {m : List Nat} {o : HO} (h : TF H t m) (n : t ≠ p) : TF (upd H p o) t m := by
  obtain ⟨u, e, r⟩ := h; exact ⟨u, upd_oth e n, r⟩
/-- a world in the heap -/
def WorldAt (C : Addr) (H : Hp) (p : Addr) (d : List Nat) (n : Nat) (M : Nat → List Nat) : Prop := ∃ (dx q : Addr) (a : Nat → Addr),
  H p = some (.ins C dx [("deeds", .str (S d)), ("size", .int n), ("_moves", .ref q)]) ∧ H q = some (.dK (dct d a)) ∧ ∀ c ∈ d, TP H (a c) (M c)
theorem WorldAt.same {C : Addr} {H H' : Hp} {p : Addr} {d : List Nat} {n : Nat} {M : Nat → List Nat} (x : WorldAt C H p d n M) (s : Same H H') : WorldAt C H' p d n M := by
  obtain ⟨dx, q, a, h1, h2, h3⟩ := x
  exact ⟨dx, q, a, s _ _ h1, s _ _ h2, fun c hc => (h3 c hc).same s⟩
/-- what the dict of all letters' moves holds -/
def LM (H : Hp) (d : List Nat) (n : Nat) (A : Nat → List Nat) (kvs : List (L2.Key × V)) : Prop :=
  (∀ l v, valV kvs (Sum.inr (S l)) = some v → ∃ t, v = .ref t ∧ TP H t (rowMv A n l)) ∧ valV kvs (Sum.inr (S [])) ≠ none ∧ (∀ x, IsL x → lo1 x ∈ d → valV kvs (Sum.inr (S [x])) ≠ none)
theorem rowMv_one {n : Nat} {A : Nat → List Nat} {x : Nat} (h : (A x).length = n) : rowMv A n [x] = A x :=
  mv_ext (n := n) (rowMv_len _) h fun s hs => by rw [rowMv_wk _ hs]; rfl
theorem lm_mono {H H' : Hp} {d : List Nat} {n : Nat} {A : Nat → List Nat} {kvs : List (L2.Key × V)} (h : ∀ t m, TP H t m → TP H' t m) (x : LM H d n A kvs) : LM H' d n A kvs :=
  ⟨fun l v e => by obtain ⟨t, e1, e2⟩ := x.1 l v e; exact ⟨t, e1, h _ _ e2⟩, x.2⟩
theorem put_some {kvs : List (L2.Key × V)} {k j : L2.Key} {v : V} (h : valV kvs j ≠ none) : valV (putK kvs k v) j ≠ none := by
  rw [valV_put]; split
  · exact fun z => nomatch z
  · exact h
theorem lm_put {H : Hp} {d : List Nat} {n : Nat} {A : Nat → List Nat} {kvs : List (L2.Key × V)} {l : List Nat} {t : Addr} (x : LM H d n A kvs) (h : TP H t (rowMv A n l)) : LM H d n A (putK kvs (Sum.inr (S l)) (.ref t)) := by
  refine ⟨fun l2 v e => ?_, put_some x.2.1, fun y h1 h2 => put_some (x.2.2 y h1 h2)⟩
  rw [valV_put] at e
  split at e
  · rename_i q
    have := S_inj (Sum.inr.inj q)
    subst this
    exact ⟨t, (Option.some.inj e).symm, h⟩
  · exact x.1 l2 v e
theorem lm_two {H : Hp} {d : List Nat} {n c : Nat} {A : Nat → List Nat} {kvs : List (L2.Key × V)} (x : LM H d n A kvs) (hc : 97 ≤ c ∧ c ≤ 122) (h1 : valV kvs (Sum.inr (S [c])) ≠ none) (h2 : valV kvs (Sum.inr (S [up1 c])) ≠ none) : LM H (d ++ [c]) n A kvs := by
  refine ⟨x.1, x.2.1, fun y hy e => ?_⟩
  rcases List.mem_append.mp e with q | q
  · exact x.2.2 y hy q
  · have e2 := List.mem_singleton.mp q
    unfold IsL at hy
    rcases hy with k | k
    · have e3 : lo1 y = y + 32 := by unfold lo1; rw [if_pos (by omega)]
      have e4 : up1 c = y := by unfold up1; rw [if_pos hc]; omega
      rw [← e4]; exact h2
    · rw [lo1_low k.1] at e2
      rw [e2]; exact h1
theorem put_here {kvs : List (L2.Key × V)} {k : L2.Key} {v : V} : valV (putK kvs k v) k ≠ none := by
  rw [valV_put, if_pos rfl]; exact fun z => nomatch z
theorem A1_low {n : Nat} {M : Nat → List Nat} {c : Nat} (h : 97 ≤ c) : A1 n M c = M c := by unfold A1; rw [if_pos h]
theorem A1_up {n : Nat} {M : Nat → List Nat} {c : Nat} (h : 97 ≤ c ∧ c ≤ 122) : A1 n M (up1 c) = rv n (M c) := by
  have e : up1 c = c - 32 := by unfold up1; rw [if_pos h]
  have e2 : lo1 (c - 32) = c := by unfold lo1; rw [if_pos (by omega)]; omega
  unfold A1
  rw [e, if_neg (by omega), e2]
theorem rv_len (n : Nat) (m : List Nat) : (rv n m).length = n := by unfold rv; rw [List.length_map, List.length_range]
end RB
/-! Numbers compared: lists and tuples of them, pairs of a word and a number, a move, or None. -/
namespace RB
open PySem L2 PyProof.Rows MV
theorem lay_ints : ∀ ns : List Int, PyData.canLayAll0 (ns.map PyData.int) = true
  | [] => by simp only [List.map_nil, PyData.canLayAll0]
  | n :: r => by
    have := lay_ints r
    simp only [List.map_cons, PyData.canLayAll0, PyData.canLay0, this, Bool.true_and]
theorem eqvAll_ints : ∀ xs ys : List Int, PyData.eqvAll (xs.map PyData.int) (ys.map PyData.int) = decide (xs = ys)
  | [], [] => by simp only [List.map_nil, PyData.eqvAll, decide_true]
  | [], y :: t => by simp only [List.map_nil, List.map_cons, PyData.eqvAll]; rw [decide_eq_false]; exact fun z => nomatch z
  | x :: r, [] => by simp only [List.map_nil, List.map_cons, PyData.eqvAll]; rw [decide_eq_false]; exact fun z => nomatch z
  | x :: r, y :: t => by
    have := eqvAll_ints r t
    simp only [List.map_cons, PyData.eqvAll, PyData.eqv, this]
    by_cases h : x = y <;> by_cases h2 : r = t <;> simp [h, h2]
theorem sh_intsL (ns : List Int) : SeqAt.shaped (.list (ns.map PyData.int)) = true := by
  have h1 := lay_ints ns
  have h2 := depths_ints ns
  simp only [SeqAt.shaped, PyData.canLay0, PyData.depth, h1, h2, Bool.true_and]; decide
theorem sh_intsT (ns : List Int) : SeqAt.shaped (.tuple (ns.map PyData.int)) = true := by
  have h1 := lay_ints ns
  have h2 := depths_ints ns
  simp only [SeqAt.shaped, PyData.canLay0, PyData.depth, h1, h2, Bool.true_and]; decide
/-- lists of numbers, == -/
theorem eq_ints {K : PySem.W.Frag} {H : Hp} {Q : VK} {p q : Addr} {xs ys : List Int} (hp : SqL K H p (xs.map V.int)) (hq : SqL K H q (ys.map V.int)) (h : Q (.bl (decide (xs = ys))) H) : rEqD K (.ref p) (.ref q) H Q :=
  ⟨_, _, .lst hp (dpAll_ints xs), .lst hq (dpAll_ints ys), sh_intsL xs, sh_intsL ys, by simp only [PyData.eqv, eqvAll_ints]; exact h⟩
/-- moves, != -/
theorem ne_mvs {K : PySem.W.Frag} {H : Hp} {Q : VK} {p q : Addr} {m r : List Nat} (hp : SqT K H p (mv m)) (hq : SqT K H q (mv r)) (h : Q (.bl (!decide (iv m = iv r))) H) : rNeD K (.ref p) (.ref q) H Q :=
  ⟨_, _, .tup hp (dpAll_ints (iv m)), .tup hq (dpAll_ints (iv r)), sh_intsT _, sh_intsT _, by simp only [PyData.eqv, eqvAll_ints]; exact h⟩
theorem iv_inj {m r : List Nat} (h : iv m = iv r) : m = r := by
  have := congrArg (List.map Int.toNat) h
  unfold iv at this
  rw [List.map_map, List.map_map] at this
  have e : (Int.toNat ∘ fun k : Nat => (k : Int)) = id := funext fun k => by simp
  rw [e, List.map_id, List.map_id] at this
  exact this
theorem iv_dec (m r : List Nat) : decide (iv m = iv r) = decide (m = r) := by
  by_cases h : m = r
  · subst h; rw [decide_eq_true rfl, decide_eq_true rfl]
  · rw [decide_eq_false h, decide_eq_false fun z => h (iv_inj z)]
/-- what the law's question tells -/
inductive Tel (K : PySem.W.Frag) (H : Hp) : V → PyData → Prop
  | int (k : Int) : Tel K H (.int k) (.int k)
  | non : Tel K H .non .none
  | mv {p : Addr} {m : List Nat} (h : SqT K H p (mv m)) : Tel K H (.ref p) (.tuple ((iv m).map PyData.int))
theorem Tel.dp {K : PySem.W.Frag} {H : Hp} {v : V} {d : PyData} (t : Tel K H v d) : Dp K H v d := by
  cases t with
  | int k => exact .int k
  | non => exact .non
  | mv h => exact .tup h (dpAll_ints _)
theorem Tel.sh {K : PySem.W.Frag} {H : Hp} {v : V} {d : PyData} {z : Str} (hz : PyData.strOk z = true) (t : Tel K H v d) : SeqAt.shaped (.tuple [.str z, d]) = true := by
  cases t with
  | int k => simp only [SeqAt.shaped, PyData.canLay0, PyData.canLayAll0, PyData.depth, PyData.depthAll, hz, Bool.true_and]; rfl
  | non => simp only [SeqAt.shaped, PyData.canLay0, PyData.canLayAll0, PyData.depth, PyData.depthAll, hz, Bool.true_and]; rfl
  | @mv p m h =>
    have h1 := lay_ints (iv m)
    have h2 := depths_ints (iv m)
    simp only [SeqAt.shaped, PyData.canLay0, PyData.canLayAll0, PyData.depth, PyData.depthAll, hz, h1, h2, Bool.true_and]; decide
/-- pairs of a word and what is told, != : alike -/
theorem ne_tel {K : PySem.W.Frag} {H : Hp} {Q : VK} {p q : Addr} {z : Str} {v u : V} {d e : PyData} (hz : PyData.strOk z = true) (hp : SqT K H p [.str z, v]) (hq : SqT K H q [.str z, u]) (tv : Tel K H v d) (tu : Tel K H u e) (eq : PyData.eqv d e = true) (h : Q (.bl false) H) : rNeD K (.ref p) (.ref q) H Q := by
  refine ⟨.tuple [.str z, d], .tuple [.str z, e], .tup hp (.cons (.str z) (.cons tv.dp .nil)), .tup hq (.cons (.str z) (.cons tu.dp .nil)), tv.sh hz, tu.sh hz, ?_⟩
  have e2 : PyData.eqv (.tuple [.str z, d]) (.tuple [.str z, e]) = true := by
    simp only [PyData.eqv, PyData.eqvAll, eq, Bool.and_true]
    exact beq_self_eq_true z
  rw [e2]; exact h
theorem eqv_mv (m : List Nat) : PyData.eqv (.tuple ((iv m).map PyData.int)) (.tuple ((iv m).map PyData.int)) = true := by
  simp only [PyData.eqv, eqvAll_ints, decide_true]
theorem eqv_int (k : Int) : PyData.eqv (.int k) (.int k) = true := by simp [PyData.eqv]
theorem sorted_iv {n : Nat} {m : List Nat} {ms : List Int} (pm : m.Perm (List.range n)) (p : ms.Perm (iv m)) (s : ms.Pairwise (· ≤ ·)) : ms = iv (List.range n) := by
  have p2 : ms.Perm (iv (List.range n)) := p.trans (pm.map _)
  have s2 : (iv (List.range n)).Pairwise (· ≤ ·) := by
    unfold iv
    refine List.pairwise_map.mpr ((List.pairwise_lt_range).imp fun {a b} h => ?_)
    omega
  exact List.Perm.eq_of_pairwise (fun a b _ _ h1 h2 => Int.le_antisymm h1 h2) s s2 p2
/-- the data of a move that stands in the heap -/
def datI : V → PyData
  | .int i => .int i
  | _ => .none
def datV (H : Hp) : V → PyData
  | .ref t => match H t with
    | some (.tup xs) => .tuple (xs.map datI)
    | some (.frz _ (.tup xs)) => .tuple (xs.map datI)
    | _ => .none
  | _ => .none
theorem dat_mv {H : Hp} {t : Addr} {m : List Nat} (h : TP H t m) : datV H (.ref t) = .tuple ((iv m).map PyData.int) := by
  have e0 : (mv m).map datI = (iv m).map PyData.int := by unfold mv; rw [List.map_map]; rfl
  obtain ⟨u, e, rfl | ⟨o, rfl, _⟩⟩ := h
  · simp only [datV, e, e0]
  · simp only [datV, e, e0]
theorem deq_dct {H : Hp} {d : List Nat} {a b : Nat → Addr} {M : Nat → List Nat} (h1 : ∀ c ∈ d, TP H (a c) (M c)) (h2 : ∀ c ∈ d, TP H (b c) (M c)) : dEq (datV H) (dct d a) (dct d b) = true := by
  unfold dEq
  have e : (dct d a).length = (dct d b).length := by unfold dct; rw [List.length_map, List.length_map]
  rw [e, Bool.and_eq_true]
  refine ⟨beq_self_eq_true _, List.all_eq_true.mpr fun p hp => ?_⟩
  unfold dct at hp
  obtain ⟨c, hc, rfl⟩ := List.mem_map.mp hp
  dsimp only
  rw [val_in b hc]
  dsimp only
  rw [dat_mv (h1 c hc), dat_mv (h2 c hc)]
  exact eqv_mv _
theorem dp_dct {K : PySem.W.Frag} {H : Hp} {d : List Nat} {a : Nat → Addr} {M : Nat → List Nat} (h : ∀ c ∈ d, TP H (a c) (M c)) : ∀ p ∈ dct d a, Dp K H p.2 (datV H p.2) ∧ SeqAt.shaped (datV H p.2) = true := fun p hp => by
  unfold dct at hp
  obtain ⟨c, hc, rfl⟩ := List.mem_map.mp hp
  dsimp only
  rw [dat_mv (h c hc)]
  exact ⟨.tup (h c hc).sq (dpAll_ints _), sh_intsT _⟩
def WEq (C : Addr) (a b : Addr) (H : Hp) : Prop := ∃ d n M, WorldAt C H a d n M ∧ WorldAt C H b d n M
theorem Pot.apart {H : Hp} {h g p : Addr} {u : HO} (x : Pot H h g) (e : H p = some u) (nl : ∀ xs, u ≠ .lst xs) : p ≠ h ∧ p ≠ g := by
  obtain ⟨s, gs, ss, t, k, h1, h2, _⟩ := x
  exact ⟨ne_of e h1 (nl _), ne_of e h2 (nl _)⟩
/-- the pot, the world and the moves of which it is made -/
structure LW (C : Addr) (H : Hp) (h g w q : Addr) (d : List Nat) (n : Nat) (M : Nat → List Nat) (a : Nat → Addr) : Prop where
  pot : Pot H h g
  wld : WorldAt C H w d n M
  dic : H q = some (.dK (dct d a))
  mvs : ∀ c ∈ d, TF H (a c) (M c)
theorem LW.same {C : Addr} {H H' : Hp} {h g w q : Addr} {d : List Nat} {n : Nat} {M : Nat → List Nat} {a : Nat → Addr} (x : LW C H h g w q d n M a) (s : Same H H') : LW C H' h g w q d n M a :=
  ⟨x.pot.same s, x.wld.same s, s _ _ x.dic, fun c hc => (x.mvs c hc).same s⟩
theorem TF.apart {H : Hp} {h g t : Addr} {m : List Nat} (x : Pot H h g) (e : TF H t m) : t ≠ h ∧ t ≠ g := by
  obtain ⟨o, e, _⟩ := e
  exact x.apart e fun xs z => nomatch z
theorem TP.apart {H : Hp} {h g t : Addr} {m : List Nat} (x : Pot H h g) (e : TP H t m) : t ≠ h ∧ t ≠ g := by
  obtain ⟨u, e, rfl | ⟨o, rfl, _⟩⟩ := e
  · exact x.apart e fun xs z => nomatch z
  · exact x.apart e fun xs z => nomatch z
theorem LW.go {C : Addr} {H H' : Hp} {h g w q : Addr} {d : List Nat} {n : Nat} {M : Nat → List Nat} {a : Nat → Addr} (x : LW C H h g w q d n M a) (s : PG2 h g H H') : LW C H' h g w q d n M a := by
  refine ⟨s.2.1, ?_, s.1 _ _ (x.pot.apart x.dic fun xs z => nomatch z) x.dic, fun c hc => (x.mvs c hc).bg s.1 ((x.mvs c hc).apart x.pot)⟩
  obtain ⟨dx, qq, b, h1, h2, h3⟩ := x.wld
  exact ⟨dx, qq, b, s.1 _ _ (x.pot.apart h1 fun xs z => nomatch z) h1, s.1 _ _ (x.pot.apart h2 fun xs z => nomatch z) h2, fun c hc => (h3 c hc).bg s.1 ((h3 c hc).apart x.pot)⟩
theorem mem_rep {l : List Nat} {c : Nat} : ∀ n, c ∈ rep l n → c ∈ l
  | 0, h => by cases h
  | n + 1, h => by
    rcases List.mem_append.mp h with z | z
    · exact z
    · exact mem_rep n z
theorem wk_row {A : Nat → List Nat} {n : Nat} {l : List Nat} : (List.range n).map (wk A l) = rowMv A n l :=
  mv_ext (n := n) (by rw [List.length_map, List.length_range]) (rowMv_len l) fun s hs => by rw [go1_map (by simpa using hs), go1_range hs, rowMv_wk l hs]
theorem push_mem : ∀ (l st : List Nat) (c : Nat), c ∈ l.foldl push st → c ∈ l ∨ c ∈ st
  | [], st, c, h => .inr h
  | x :: l, st, c, h => by
    rcases push_mem l (push st x) c h with q | q
    · exact .inl (List.mem_cons_of_mem _ q)
    · have : c = x ∨ c ∈ st := by
        cases st with
        | nil => exact .inl (by simpa [push] using q)
        | cons t r =>
          by_cases e : t = sw x
          · rw [show push (t :: r) x = r by unfold push; simp [e]] at q
            exact .inr (List.mem_cons_of_mem _ q)
          · rw [show push (t :: r) x = x :: t :: r by unfold push; simp [e]] at q
            rcases List.mem_cons.mp q with z | z
            · exact .inl z
            · exact .inr z
      rcases this with z | z
      · exact .inl (z ▸ List.mem_cons_self)
      · exact .inr z
theorem red_mem {l : List Nat} {c : Nat} (h : c ∈ red l) : c ∈ l := by
  unfold red kst at h
  rcases push_mem l [] c (List.mem_reverse.mp h) with q | q
  · exact q
  · cases q
theorem wk_inv {n : Nat} {A : Nat → List Nat} : ∀ {l : List Nat} {s : Nat}, (∀ x ∈ l, Bk n (A x) (A (sw x))) → s < n → wk A (inv l) (wk A l s) = s
  | [], s, _, _ => rfl
  | x :: l, s, k, h => by
    have b := k x List.mem_cons_self
    rw [inv_cons, wk_app]
    have e : wk A (x :: l) s = wk A l (go1 (A x) s) := rfl
    rw [e, wk_inv (fun y hy => k y (List.mem_cons_of_mem _ hy)) (b.hm s h)]
    exact b.rm s h
theorem wk_inv2 {n : Nat} {A : Nat → List Nat} : ∀ {l : List Nat} {s : Nat}, (∀ x ∈ l, Bk n (A x) (A (sw x))) → s < n → wk A (inv l) s < n ∧ wk A l (wk A (inv l) s) = s
  | [], s, _, h => ⟨h, rfl⟩
  | x :: l, s, k, h => by
    have b := k x List.mem_cons_self
    obtain ⟨h1, h2⟩ := wk_inv2 (fun y hy => k y (List.mem_cons_of_mem _ hy)) h
    rw [inv_cons, wk_app]
    have e : ∀ z, wk A [sw x] z = go1 (A (sw x)) z := fun z => rfl
    have e2 : ∀ z, wk A (x :: l) z = wk A l (go1 (A x) z) := fun z => rfl
    rw [e, e2, b.mr _ h1]
    exact ⟨b.hr _ h1, h2⟩
theorem rowMv_back {n : Nat} {A : Nat → List Nat} {l : List Nat} (k : ∀ x ∈ l, Bk n (A x) (A (sw x))) : Bk n (rowMv A n l) (rowMv A n (inv l)) := by
  have lt : ∀ s, s < n → wk A l s < n := fun s h => wk_lt (fun x hx => ⟨_, k x hx⟩) h
  refine ⟨rowMv_len _, rowMv_len _, fun s h => by rw [rowMv_wk _ h]; exact lt s h, fun s h => by rw [rowMv_wk _ h]; exact (wk_inv2 k h).1, fun s h => ?_, fun s h => ?_⟩
  · rw [rowMv_wk _ h, rowMv_wk _ (lt s h)]; exact wk_inv k h
  · rw [rowMv_wk _ h, rowMv_wk _ (wk_inv2 k h).1]; exact (wk_inv2 k h).2
theorem sw_over {d : List Nat} {x : Nat} (hx : IsL x) (h : lo1 x ∈ d) : lo1 (sw x) ∈ d := by
  unfold IsL at hx
  rcases hx with q | q
  · have e1 : sw x = x + 32 := by unfold sw; rw [if_pos (by omega)]
    have e2 : lo1 x = x + 32 := by unfold lo1; rw [if_pos (by omega)]
    rw [e1, lo1_low (by omega), ← e2]; exact h
  · have e1 : sw x = x - 32 := by unfold sw; rw [if_neg (by omega), if_pos (by omega)]
    have e2 : lo1 (x - 32) = x := by unfold lo1; rw [if_pos (by omega)]; omega
    rw [e1, e2, ← lo1_low q.1]; exact h
theorem inv_over {d l : List Nat} (hl : Ls l) (h : OverD d l) : OverD d (inv l) := fun c hc => by
  unfold inv at hc
  have : ∃ b ∈ l, sw b = c := by simpa using hc
  obtain ⟨b, hb, rfl⟩ := this
  exact sw_over (hl b hb) (h b hb)
/-- what is no row over the deeds, none of it being the pot's -/
inductive NoR (H : Hp) (d : List Nat) (h g : Addr) : V → Prop
  | non : NoR H d h g .non
  | bl (b : Bool) : NoR H d h g (.bl b)
  | int (i : Int) : NoR H d h g (.int i)
  | str {z : Str} (l : List Nat) (e : z = S l) (n : ¬ Ls l) : NoR H d h g (.str z)
  | ov {z : Str} (l : List Nat) (e : z = S l) (y : Ls l) (s : l.length ≤ 100000) (n : ¬ OverD d l) : NoR H d h g (.str z)
  | lst {a : Addr} {xs : List V} (n : a ≠ h ∧ a ≠ g) (e : H a = some (.lst xs)) : NoR H d h g (.ref a)
  | tup {a : Addr} {xs : List V} (n : a ≠ h ∧ a ≠ g) (e : H a = some (.tup xs)) : NoR H d h g (.ref a)
  | dict {a : Addr} {xs : List (L2.Key × V)} (n : a ≠ h ∧ a ≠ g) (e : H a = some (.dK xs)) : NoR H d h g (.ref a)
theorem NoR.bg {H H' : Hp} {d : List Nat} {h g : Addr} {v : V} (x : NoR H d h g v) (b : BG h g H H') : NoR H' d h g v := by
  cases x with
  | non => exact .non
  | bl b => exact .bl b
  | int i => exact .int i
  | str l e n => exact .str l e n
  | ov l e y s n => exact .ov l e y s n
  | lst n e => exact .lst n (b _ _ n e)
  | tup n e => exact .tup n (b _ _ n e)
  | dict n e => exact .dict n (b _ _ n e)
theorem NoR.ovj {K : PySem.W.Frag} {H : Hp} {d : List Nat} {h g : Addr} {v : V} (x : NoR H d h g v) : OvJ K H d v none := by
  cases x with
  | non => exact .bad (.non (.base .non) (kit_ty (by decide +kernel)))
  | bl b => exact .bad (.non (.base (.bl b)) (kit_ty (by decide +kernel)))
  | int i => exact .bad (.non (.base (.int i)) (kit_ty (by decide +kernel)))
  | str l e n =>
    subst e
    have := RowJ.str (K := K) (H := H) l
    rw [decide_eq_false n] at this
    exact .bad this
  | ov l e y s n => subst e; exact .not y s n
  | lst n e => exact .bad (.non (.base (.lst e)) (kit_ty (by decide +kernel)))
  | tup n e => exact .bad (.non (.base (.tup e)) (kit_ty (by decide +kernel)))
  | dict n e => exact .bad (.non (.base (.dK e)) (kit_ty (by decide +kernel)))
/-- what is no standing below n -/
inductive NoS (H : Hp) (n : Nat) (h g : Addr) : V → Prop
  | non : NoS H n h g .non
  | bl (b : Bool) : NoS H n h g (.bl b)
  | int {i : Int} (w : i < 0 ∨ (n : Int) ≤ i) : NoS H n h g (.int i)
  | str (z : Str) : NoS H n h g (.str z)
  | lst {a : Addr} {xs : List V} (k : a ≠ h ∧ a ≠ g) (e : H a = some (.lst xs)) : NoS H n h g (.ref a)
  | tup {a : Addr} {xs : List V} (k : a ≠ h ∧ a ≠ g) (e : H a = some (.tup xs)) : NoS H n h g (.ref a)
  | dict {a : Addr} {xs : List (L2.Key × V)} (k : a ≠ h ∧ a ≠ g) (e : H a = some (.dK xs)) : NoS H n h g (.ref a)
theorem NoS.bg {H H' : Hp} {n : Nat} {h g : Addr} {v : V} (x : NoS H n h g v) (b : BG h g H H') : NoS H' n h g v := by
  cases x with
  | non => exact .non
  | bl b => exact .bl b
  | int i => exact .int i
  | str z => exact .str z
  | lst n e => exact .lst n (b _ _ n e)
  | tup n e => exact .tup n (b _ _ n e)
  | dict n e => exact .dict n (b _ _ n e)
theorem NoS.ij {K : PySem.W.Frag} {H : Hp} {n : Nat} {h g : Addr} {v : V} (x : NoS H n h g v) : ∃ o, IntJ K H v o ∧ within o 0 ((n : Nat) - 1) = false := by
  cases x with
  | non => exact ⟨none, .non (.base .non) (kit_ty (by decide +kernel)), rfl⟩
  | bl b => exact ⟨none, .bl b, rfl⟩
  | @int i w =>
    refine ⟨some i, .int i, ?_⟩
    show (decide ((0 : Int) ≤ i) && decide (i ≤ (n : Int) - 1)) = false
    rw [Bool.and_eq_false_iff]
    rcases w with w | w
    · exact .inl (decide_eq_false (by omega))
    · exact .inr (decide_eq_false (by omega))
  | str z => exact ⟨none, .non (.base (.str z)) (kit_ty (by decide +kernel)), rfl⟩
  | lst n e => exact ⟨none, .non (.base (.lst e)) (kit_ty (by decide +kernel)), rfl⟩
  | tup n e => exact ⟨none, .non (.base (.tup e)) (kit_ty (by decide +kernel)), rfl⟩
  | dict n e => exact ⟨none, .non (.base (.dK e)) (kit_ty (by decide +kernel)), rfl⟩
end RB
/-! Pairs of standings: the pair move, its walk, its order, three side by side. -/
namespace RB
open PySem L2 PyProof.Rows MV
/-- the pair move: s * n2 + t -/
def pm (n2 : Nat) (m k : List Nat) : List Nat := m.flatMap fun g => k.map fun s => g * n2 + s
theorem pm_len (n2 : Nat) (k : List Nat) : ∀ m : List Nat, (pm n2 m k).length = m.length * k.length
  | [] => by rw [List.length_nil, Nat.zero_mul]; rfl
  | g :: m => by
    have := pm_len n2 k m
    unfold pm at this ⊢
    rw [List.flatMap_cons, List.length_append, List.length_map, this, List.length_cons, Nat.add_mul, Nat.one_mul, Nat.add_comm]
theorem pm_one (n2 : Nat) (m k : List Nat) (g : Nat) : pm n2 (m ++ [g]) k = pm n2 m k ++ k.map fun s => g * n2 + s := by
  unfold pm; rw [List.flatMap_append]; simp
def pms (n2 : Nat) (M M2 : Nat → List Nat) : Nat → List Nat := fun c => pm n2 (M c) (M2 c)
theorem pm_get {n2 : Nat} {k : List Nat} (lk : k.length = n2) {t : Nat} (ht : t < n2) : ∀ {m : List Nat} {s : Nat}, s < m.length → (pm n2 m k)[s * n2 + t]? = some (go1 m s * n2 + go1 k t)
  | [], s, h => absurd h (Nat.not_lt_zero _)
  | g :: m, 0, _ => by
    show ((k.map fun s => g * n2 + s) ++ pm n2 m k)[0 * n2 + t]? = _
    rw [List.getElem?_append_left (by rw [List.length_map]; omega), Nat.zero_mul, Nat.zero_add, List.getElem?_map, go1_at (by omega)]
    rfl
  | g :: m, s + 1, h => by
    show ((k.map fun s => g * n2 + s) ++ pm n2 m k)[(s + 1) * n2 + t]? = _
    have e : (s + 1) * n2 + t = n2 + (s * n2 + t) := by rw [Nat.add_mul, Nat.one_mul]; omega
    rw [e, List.getElem?_append_right (by rw [List.length_map]; omega), List.length_map, lk, Nat.add_sub_cancel_left, pm_get lk ht (Nat.lt_of_succ_lt_succ h)]
    rfl
theorem pm_at {n2 : Nat} {m k : List Nat} {s t : Nat} (lk : k.length = n2) (hs : s < m.length) (ht : t < n2) : go1 (pm n2 m k) (s * n2 + t) = go1 m s * n2 + go1 k t := by
  unfold go1
  rw [List.getD_eq_getElem?_getD, pm_get lk ht hs]; rfl
theorem pair_lt {n n2 s t : Nat} (hs : s < n) (ht : t < n2) : s * n2 + t < n * n2 := by
  have : (s + 1) * n2 ≤ n * n2 := Nat.mul_le_mul_right _ hs
  rw [Nat.add_mul, Nat.one_mul] at this
  omega
theorem pair_of {n n2 x : Nat} (h : x < n * n2) : ∃ s t, s < n ∧ t < n2 ∧ x = s * n2 + t := by
  have z : 0 < n2 := by
    rcases Nat.eq_zero_or_pos n2 with q | q
    · rw [q, Nat.mul_zero] at h; omega
    · exact q
  exact ⟨x / n2, x % n2, (Nat.div_lt_iff_lt_mul z).mpr h, Nat.mod_lt _ z, by rw [Nat.mul_comm]; exact (Nat.div_add_mod x n2).symm⟩
theorem pair_inj {n2 s t s' t' : Nat} (ht : t < n2) (ht' : t' < n2) (e : s * n2 + t = s' * n2 + t') : s = s' ∧ t = t' := by
  have z : 0 < n2 := by omega
  have e1 : s = s' := by
    have h := congrArg (· / n2) e
    rw [Nat.mul_comm s, Nat.mul_comm s', Nat.mul_add_div z, Nat.mul_add_div z, Nat.div_eq_of_lt ht, Nat.div_eq_of_lt ht'] at h
    omega
  subst e1
  exact ⟨rfl, by omega⟩
theorem pm_bk {n n2 : Nat} {m r k q : List Nat} (b : Bk n m r) (c : Bk n2 k q) : Bk (n * n2) (pm n2 m k) (pm n2 r q) := by
  refine ⟨by rw [pm_len, b.lm, c.lm], by rw [pm_len, b.lr, c.lr], fun x h => ?_, fun x h => ?_, fun x h => ?_, fun x h => ?_⟩
  all_goals obtain ⟨s, t, hs, ht, rfl⟩ := pair_of h
  · rw [pm_at c.lm (by rw [b.lm]; exact hs) ht]; exact pair_lt (b.hm s hs) (c.hm t ht)
  · rw [pm_at c.lr (by rw [b.lr]; exact hs) ht]; exact pair_lt (b.hr s hs) (c.hr t ht)
  · rw [pm_at c.lm (by rw [b.lm]; exact hs) ht, pm_at c.lr (by rw [b.lr]; exact b.hm s hs) (c.hm t ht), b.rm s hs, c.rm t ht]
  · rw [pm_at c.lr (by rw [b.lr]; exact hs) ht, pm_at c.lm (by rw [b.lm]; exact b.hr s hs) (c.hr t ht), b.mr s hs, c.mr t ht]
theorem pms_ok {n n2 : Nat} {d : List Nat} {M M2 : Nat → List Nat} (k : Mok n d M) (k2 : Mok n2 d M2) : Mok (n * n2) d (pms n2 M M2) := fun c hc => by
  obtain ⟨r, b⟩ := k c hc
  obtain ⟨q, b2⟩ := k2 c hc
  exact ⟨_, pm_bk b b2⟩
theorem A1_pm {n n2 : Nat} {d : List Nat} {M M2 : Nat → List Nat} (k : Mok n d M) (k2 : Mok n2 d M2) {x : Nat} (h : lo1 x ∈ d) : A1 (n * n2) (pms n2 M M2) x = pm n2 (A1 n M x) (A1 n2 M2 x) := by
  unfold A1
  split
  · rfl
  · obtain ⟨r, b⟩ := k _ h
    obtain ⟨q, b2⟩ := k2 _ h
    exact (bk_rv (pm_bk b b2)).one (pm_bk (bk_rv b) (bk_rv b2))
theorem wk_pm {n n2 : Nat} {d : List Nat} {M M2 : Nat → List Nat} (k : Mok n d M) (k2 : Mok n2 d M2) : ∀ {l : List Nat} {s t : Nat}, OverD d l → s < n → t < n2 →
    wk (A1 (n * n2) (pms n2 M M2)) l (s * n2 + t) = wk (A1 n M) l s * n2 + wk (A1 n2 M2) l t
  | [], s, t, _, _, _ => rfl
  | x :: l, s, t, ov, hs, ht => by
    have hx := ov x List.mem_cons_self
    obtain ⟨r, b⟩ := A1_bk k hx
    obtain ⟨q, b2⟩ := A1_bk k2 hx
    show wk _ l (go1 (A1 (n * n2) (pms n2 M M2) x) (s * n2 + t)) = wk _ l (go1 (A1 n M x) s) * n2 + wk _ l (go1 (A1 n2 M2 x) t)
    rw [A1_pm k k2 hx, pm_at b2.lm (by rw [b.lm]; exact hs) ht]
    exact wk_pm k k2 (fun c hc => ov c (List.mem_cons_of_mem _ hc)) (b.hm s hs) (b2.hm t ht)
theorem rowMv_pm {n n2 : Nat} {d : List Nat} {M M2 : Nat → List Nat} (k : Mok n d M) (k2 : Mok n2 d M2) {l : List Nat} (ov : OverD d l) :
    rowMv (A1 (n * n2) (pms n2 M M2)) (n * n2) l = pm n2 (rowMv (A1 n M) n l) (rowMv (A1 n2 M2) n2 l) := by
  refine mv_ext (n := n * n2) (rowMv_len _) (by rw [pm_len, rowMv_len, rowMv_len]) fun x h => ?_
  obtain ⟨s, t, hs, ht, rfl⟩ := pair_of h
  rw [rowMv_wk _ h, wk_pm k k2 ov hs ht, pm_at (rowMv_len _) (by rw [rowMv_len]; exact hs) ht, rowMv_wk _ hs, rowMv_wk _ ht]
/-! ### orders -/
theorem it_mul {m : List Nat} {s p : Nat} (e : it m p s = s) : ∀ j, it m (j * p) s = s
  | 0 => by rw [Nat.zero_mul]; rfl
  | j + 1 => by rw [Nat.add_mul, Nat.one_mul, it_add, e]; exact it_mul e j
theorem rd_dvd {m : List Nat} {s p k : Nat} (x : Rd1 m s p) : p ∣ k ↔ it m k s = s := by
  constructor
  · rintro ⟨j, rfl⟩
    rw [Nat.mul_comm]; exact it_mul x.back j
  · intro e
    have h : it m (k % p + k / p * p) s = s := by
      have := Nat.div_add_mod k p
      rw [show k % p + k / p * p = k by rw [Nat.mul_comm (k / p)]; omega]; exact e
    rw [it_add, it_mul x.back] at h
    rcases Nat.eq_zero_or_pos (k % p) with z | z
    · exact Nat.dvd_of_mod_eq_zero z
    · exact absurd h (x.no _ z (Nat.mod_lt _ x.pos))
theorem ord_it {n : Nat} {m r : List Nat} {N : Nat} (b : Bk n m r) (o : Ord n m N) (k : Nat) : N ∣ k ↔ ∀ s, s < n → it m k s = s := by
  constructor
  · intro h s hs
    obtain ⟨p, _, x⟩ := rd1_some b hs
    exact (rd_dvd x).mp (Nat.dvd_trans (o.all s p hs x) h)
  · exact fun h => o.least k fun s p hs x => (rd_dvd x).mpr (h s hs)
theorem it_pm {n n2 : Nat} {m r k q : List Nat} (b : Bk n m r) (c : Bk n2 k q) {s t : Nat} (hs : s < n) (ht : t < n2) : ∀ j, it (pm n2 m k) j (s * n2 + t) = it m j s * n2 + it k j t
  | 0 => rfl
  | j + 1 => by
    show go1 (pm n2 m k) (it (pm n2 m k) j (s * n2 + t)) = _
    rw [it_pm b c hs ht j, pm_at c.lm (by rw [b.lm]; exact it_lt b hs j) (it_lt c ht j)]
    rfl
theorem ord_pm {n n2 : Nat} {m r k q : List Nat} {N N1 N2 : Nat} (b : Bk n m r) (c : Bk n2 k q) (n0 : 0 < n) (n20 : 0 < n2) (o1 : Ord n m N1) (o2 : Ord n2 k N2) (o : Ord (n * n2) (pm n2 m k) N) : N = Nat.lcm N1 N2 := by
  have key : ∀ j, N ∣ j ↔ N1 ∣ j ∧ N2 ∣ j := fun j => by
    rw [ord_it (pm_bk b c) o, ord_it b o1, ord_it c o2]
    constructor
    · intro h
      refine ⟨fun s hs => ?_, fun t ht => ?_⟩
      · have := h _ (pair_lt hs n20)
        rw [it_pm b c hs n20] at this
        exact (pair_inj (it_lt c n20 j) n20 this).1
      · have := h _ (pair_lt n0 ht)
        rw [it_pm b c n0 ht] at this
        exact (pair_inj (it_lt c ht j) ht this).2
    · rintro ⟨h1, h2⟩ x hx
      obtain ⟨s, t, hs, ht, rfl⟩ := pair_of hx
      rw [it_pm b c hs ht, h1 s hs, h2 t ht]
  refine Nat.dvd_antisymm ((key _).mpr ⟨Nat.dvd_lcm_left _ _, Nat.dvd_lcm_right _ _⟩) ?_
  have := (key N).mp (Nat.dvd_refl _)
  exact Nat.lcm_dvd this.1 this.2
/-- three side by side, either way -/
theorem pm_three (n2 n3 : Nat) (m k q : List Nat) : pm (n2 * n3) m (pm n3 k q) = pm n3 (pm n2 m k) q := by
  unfold pm
  rw [List.flatMap_assoc]
  congr 1
  funext g
  rw [List.map_flatMap, List.flatMap_map]
  congr 1
  funext s
  rw [List.map_map]
  congr 1
  funext t
  show g * (n2 * n3) + (s * n3 + t) = (g * n2 + s) * n3 + t
  rw [Nat.add_mul, Nat.mul_assoc, Nat.add_assoc]
end RB
/-! Rule: sorted of a text. -/
namespace SrtO
open PySem PyProof.Rows Srt
section
variable {prog : Program} {w : World} {A : Around} {E : Value → Shared → Prop} {s : Shared}
/-- the sign of a text of one sign -/
def sg : Value → Nat
  | .str z _ => z.cps.toList.headD 0
  | _ => 0
def ltSg (v u : Value) : Bool := decide (sg v < sg u)
theorem swo_sg : Swo ltSg :=
  ⟨fun x y h => decide_eq_false (Nat.lt_asymm (of_decide_eq_true h)), fun x y z h1 h2 => decide_eq_false (Nat.not_lt.mpr (Nat.le_trans (Nat.not_lt.mp (of_decide_eq_false h1)) (Nat.not_lt.mp (of_decide_eq_false h2))))⟩
def Signs (vs : List Value) : Prop := ∀ v ∈ vs, ∃ c t, v = Value.str ⟨#[c]⟩ t
theorem signs_are : ∀ {vs : List Value}, Signs vs → ∃ ss, StrsAre vs ss
  | [], _ => ⟨[], .nil⟩
  | v :: vs, h => by
    obtain ⟨c, t, rfl⟩ := h v List.mem_cons_self
    obtain ⟨ss, k⟩ := signs_are (vs := vs) fun u hu => h u (List.mem_cons_of_mem _ hu)
    exact ⟨_, .cons _ t k⟩
theorem sign_lt (c d : Nat) : decide ((⟨#[c]⟩ : PySem.Str).cps.toList < (⟨#[d]⟩ : PySem.Str).cps.toList) = decide (c < d) := by
  have e : ((⟨#[c]⟩ : PySem.Str).cps.toList < (⟨#[d]⟩ : PySem.Str).cps.toList) ↔ c < d := by
    show [c] < [d] ↔ c < d
    rw [List.cons_lt_cons_iff]
    simp
  by_cases h : c < d
  · rw [decide_eq_true h, decide_eq_true (e.mpr h)]
  · rw [decide_eq_false h, decide_eq_false fun z => h (e.mp z)]
theorem signs_sort {a : Addr} {vs : List Value} (g : Signs vs) (two : 2 ≤ vs.length) : SortableO prog w A s a vs ltSg := by
  intro h' _
  refine ⟨oneType', fun Q E fin => ?_, fun p q hp hq => ?_⟩
  · obtain ⟨ss, k⟩ := signs_are g
    match vs, k, two with
    | v1 :: v2 :: rest, k, _ => rw [keyKind_strs k]; exact wpAny_pure fin
    | [], _, z => exact absurd z (by decide)
    | [v], _, z => exact absurd z (by simp)
  · obtain ⟨c, t, e1⟩ := g _ hp
    obtain ⟨d, u, e2⟩ := g _ hq
    show wpAny (model prog w) A (keyLt' oneType' p.1 q.1) (fun r s' => s' = { s with heap := h' } ∧ r = ltSg p.1 q.1) (fun _ _ => False) { s with heap := h' }
    rw [e1, e2, keyLt'_oneType]
    exact oneLt_str ⟨rfl, sign_lt c d⟩
end
end SrtO
namespace L2
open PySem PySem.Spec PyProof.Rows
/-- sorted(z), z a text -/
def rSortTxt (xs : List V) (H : Hp) (Q : VK) : Prop := ∃ z : Str, xs = [.str z] ∧ z.length ≤ sizeLine ∧
  ∀ (l : List Nat) (p : Addr), l.Perm z.cps.toList → l.Pairwise (· ≤ ·) → H p = none → Q (.ref p) (upd H p (.lst (l.map fun c => V.str ⟨#[c]⟩)))
theorem vals_signs : ∀ {vs : List Value}, SrtO.Signs vs → Vals ((vs.map SrtO.sg).map fun c => V.str ⟨#[c]⟩) vs
  | [], _ => .nil
  | v :: vs, h => by
    obtain ⟨c, t, rfl⟩ := h v List.mem_cons_self
    exact .cons ⟨t, rfl⟩ (vals_signs fun u hu => h u (List.mem_cons_of_mem _ hu))
section
variable {X : Cx}
theorem csortedS (hc : X.calm = true) : CallR X (.builtin "sorted") rSortTxt := by
  intro pins s σ H xs us Q I r word
  obtain ⟨z, rfl, hz, q⟩ := word
  obtain ⟨u, rfl, t, rfl⟩ := vals1 r
  refine Calls.call_function_entry kind_sorted plain_sorted entry_sorted (args_sorted1 _) ?_
  unfold Builtin.«sorted»
  refine wpAny_bind (m := checkCount "sorted" 1 1 _) (wpAny_pure ?_)
  refine wpAny_bind (wpAny_collect_str (A := X.A.in1) (hn := hz) (show X.A.in1.handled = none from I.ok.hd hc) z t fun s2 acc kept gens drawn os items => ?_)
  obtain ⟨hp, g2, d2, tk, o2⟩ := s2
  dsimp only at gens drawn os kept
  subst gens drawn os
  have good : SrtO.Signs acc.toList := fun v hv => by
    obtain ⟨j, hj⟩ := List.getElem?_of_mem hv
    obtain ⟨c, u, _, e⟩ := items.2 j v (by simpa using hj)
    exact ⟨c, u, e⟩
  have same : acc.toList.map SrtO.sg = z.cps.toList := by
    refine List.ext_getElem? fun i => ?_
    rw [List.getElem?_map]
    cases e : acc.toList[i]? with
    | none =>
      have : z.cps.toList.length ≤ i := by
        have h1 := List.getElem?_eq_none_iff.mp e
        rw [Array.length_toList] at h1 ⊢
        rw [← items.1]; exact h1
      rw [List.getElem?_eq_none this]; rfl
    | some v =>
      obtain ⟨c, u, h1, rfl⟩ := items.2 i v (by simpa using e)
      rw [show z.cps.toList[i]? = some c by simpa using h1]
      rfl
  have sz : acc.toList.length ≤ sizeLine := by rw [Array.length_toList, items.1]; exact hz
  have free : s.heap.get? hp.objs.size = none := by
    cases e : s.heap.get? hp.objs.size with
    | none => rfl
    | some o => exact absurd (Heap.lt_size (kept _ _ e)) (Nat.lt_irrefl _)
  have new : H hp.objs.size = none := (I.hok.kept kept).fresh (Nat.le_refl _)
  refine wpAny_bind (wpAny_newList ?_ sz)
  have here : (hp.push (seqObj "list" acc.toList.toArray 0)).get? hp.objs.size = some (seqObj "list" acc.toList.toArray 0) := Heap.get?_push_size _ rfl
  refine wpAny_bind (wpAny_holding (wpAny_call_entry slot_list_sort ⟨_, here, rfl⟩ entry_list_sort (SrtO.list_sort_ord SrtO.swo_sg here sz (fun two => SrtO.signs_sort good two) fun out z1 z2 => ⟨_, rfl, ?_⟩) (args_list_sort _)))
  have p : (out.map SrtO.sg).Perm z.cps.toList := by rw [← same]; exact z2.perm.map _
  have gout : SrtO.Signs out := fun v hv => good v (z2.perm.mem_iff.mp hv)
  have srt : (out.map SrtO.sg).Pairwise (· ≤ ·) := List.pairwise_map.mpr (z1.imp fun {x y} h => Nat.not_lt.mp (of_decide_eq_false (p := SrtO.sg y < SrtO.sg x) h))
  obtain ⟨ep, at_⟩ := PyProof.Rows.sortedHeap_at (vs := acc.toList) (out := out.toArray) here
  refine wpAny_pure ⟨_, rfl, .ref hp.objs.size, upd H hp.objs.size (.lst ((out.map SrtO.sg).map fun c => V.str ⟨#[c]⟩)), I.laidN (t' := tk) (fun b o hb => ?_) free new ⟨?_, out, ep, vals_signs gout, at_⟩, rfl, q _ _ p srt new⟩
  · have h1 := kept _ _ hb
    have h2 := Heap.lt_size h1
    rw [PyProof.Rows.sortedHeap_old (Nat.ne_of_lt h2) (by rw [size_push']; exact Nat.lt_succ_of_lt h2)]
    exact Heap.get?_push_of_some _ h1
  · rw [List.length_map, p.length_eq]; exact hz
end
end L2
/-! Rules: a comprehension within a comprehension's block, a dict comprehension over any walk, a list comprehension of two fors. -/
namespace L2
open PySem PySem.Spec PyProof.Rows
/-- what a block looks up that is free or a cell outside is so within the block's own names -/
theorem relabel_free {env : Env} : ∀ {names : List (Str × NameKind)} {x : Str}, (names.lookup x = some .cell ∨ names.lookup x = some .free) →
    ((names.map fun (n, k) => if (k == .free && env.scope.kind == .function && env.kindOf n == some .cell) then (n, NameKind.cell) else (n, k)).lookup x = some .cell ∨
      (names.map fun (n, k) => if (k == .free && env.scope.kind == .function && env.kindOf n == some .cell) then (n, NameKind.cell) else (n, k)).lookup x = some .free)
  | [], x, h => by rcases h with h | h <;> cases h
  | (n, k) :: r, x, h => by
    have ih := relabel_free (env := env) (names := r) (x := x)
    rw [List.map_cons]
    dsimp only
    cases hx : x == n with
    | true =>
      rw [List.lookup_cons, hx] at h
      split
      · rw [List.lookup_cons, hx]; exact .inl rfl
      · rw [List.lookup_cons, hx]; exact h
    | false =>
      rw [List.lookup_cons, hx] at h
      split
      · rw [List.lookup_cons, hx]; exact ih h
      · rw [List.lookup_cons, hx]; exact ih h
/-- the names of a block within a block -/
theorem blk_in {N : List Str} {sc scope : Scope} {env : Env} {own : List (Str × Nat)} (h : blkC N sc scope own = true) : BlkOk N (relabel sc env) scope own := by
  have b := blkOk_by h
  exact { kind := b.kind, uniq := b.uniq, ix := b.ix, own := b.own, free := fun y hy e => relabel_free (b.free y hy e) }
section
variable {J J1 : It} {n : Nat} {G : Hp → Prop} {Y : Nat → Hp → V → Hp → Prop}
/-- a dict comprehension over a walk -/
theorem dc_it (w : Walk J n G Y) {g : TG} {tt : TT} {tk tv : TE} {vs : List Nat} {σ : St} {H1 : Hp} {D : Addr} {Qd : Hp → Prop} (Pv : Nat → Hp → Prop) (z : Pv 0 (upd H1 D (.dK []))) (keeps : ∀ i H, i ≤ n → Pv i H → G H)
    (turn : ∀ i x H H', i < n → Pv i H → Y i H x H' → g x (wipe σ vs) H' fun σ2 H2 => wipe σ2 vs = wipe σ vs ∧ tt σ2 H2 fun b H3 =>
      if b = true then tk σ2 H3 fun y H4 => tv σ2 H4 fun u H5 => ∃ kvs k, y = kV k ∧ H5 D = some (.dK kvs) ∧ kvs.length < sizeLine ∧ Pv (i + 1) (upd H5 D (.dK (putK kvs k u))) else Pv (i + 1) H3)
    (fin : ∀ H, Pv n H → Qd H) :
    ∃ W : Nat → Nat → Hp → Prop, (∃ m, W 0 m (upd H1 D (.dK []))) ∧ ∀ i m H, W i m H →
      (J.stop i H ∧ Qd H) ∨ (J.go i H ∧ ∃ Nx : Hp → Prop, (∀ H', Nx H' → ∃ m', m' < m ∧ W (i + 1) m' H') ∧ ∀ x H', J.yld i H x H' → g x (wipe σ vs) H' fun σ2 H2 => wipe σ2 vs = wipe σ vs ∧ tt σ2 H2 fun b H3 =>
        if b = true then tk σ2 H3 fun y H4 => tv σ2 H4 fun u H5 => ∃ kvs k, y = kV k ∧ H5 D = some (.dK kvs) ∧ kvs.length < sizeLine ∧ Nx (upd H5 D (.dK (putK kvs k u))) else Nx H3) := by
  refine ⟨fun i m H => i + m = n ∧ Pv i H, ⟨n, Nat.zero_add n, z⟩, fun i m H ⟨e, p⟩ => ?_⟩
  have here := keeps i H (by omega) p
  cases m with
  | zero =>
    have : i = n := by omega
    subst this
    exact .inl ⟨w.stops H here, fin H p⟩
  | succ m =>
    have less : i < n := by omega
    exact .inr ⟨w.goes i H less here, Pv (i + 1), fun H' p' => ⟨m, by omega, by omega, p'⟩, fun x H' y => turn i x H H' less p (w.yields i H x H' less here y)⟩
/-- the inner for of a comprehension of two -/
theorem lc2_in {n1 : Nat} {G1 : Hp → Prop} {Y1 : Nat → Hp → V → Hp → Prop} (w : Walk J1 n1 G1 Y1) {g1 : TG} {tt1 : TT} {te : TE} {vs1 : List Nat} {σ2 : St} {D : Addr} {H4 : Hp} {Nx : Hp → Prop} (Pv : Nat → Hp → Prop) (z : Pv 0 H4) (keeps : ∀ i H, i ≤ n1 → Pv i H → G1 H)
    (turn : ∀ i x H H', i < n1 → Pv i H → Y1 i H x H' → g1 x (wipe σ2 vs1) H' fun σ3 H5 => wipe σ3 vs1 = wipe σ2 vs1 ∧ tt1 σ3 H5 fun b H6 =>
      if b = true then te σ3 H6 fun y H7 => ∃ acc, H7 D = some (.lst acc) ∧ acc.length < sizeLine ∧ Pv (i + 1) (upd H7 D (.lst (acc ++ [y]))) else Pv (i + 1) H6)
    (fin : ∀ H, Pv n1 H → Nx H) :
    ∃ W1 : Nat → Nat → Hp → Prop, (∃ m, W1 0 m H4) ∧ ∀ j k H, W1 j k H →
      (J1.stop j H ∧ Nx H) ∨ (J1.go j H ∧ ∃ Nx1 : Hp → Prop, (∀ H', Nx1 H' → ∃ k', k' < k ∧ W1 (j + 1) k' H') ∧ ∀ x H', J1.yld j H x H' → g1 x (wipe σ2 vs1) H' fun σ3 H5 => wipe σ3 vs1 = wipe σ2 vs1 ∧ tt1 σ3 H5 fun b H6 =>
        if b = true then te σ3 H6 fun y H7 => ∃ acc, H7 D = some (.lst acc) ∧ acc.length < sizeLine ∧ Nx1 (upd H7 D (.lst (acc ++ [y]))) else Nx1 H6) := by
  refine ⟨fun i m H => i + m = n1 ∧ Pv i H, ⟨n1, Nat.zero_add n1, z⟩, fun i m H ⟨e, p⟩ => ?_⟩
  have here := keeps i H (by omega) p
  cases m with
  | zero =>
    have : i = n1 := by omega
    subst this
    exact .inl ⟨w.stops H here, fin H p⟩
  | succ m =>
    have less : i < n1 := by omega
    exact .inr ⟨w.goes i H less here, Pv (i + 1), fun H' p' => ⟨m, by omega, by omega, p'⟩, fun x H' y => turn i x H H' less p (w.yields i H x H' less here y)⟩
/-- the outer for of a comprehension of two -/
theorem lc2_out (w : Walk J n G Y) {wi1 : TI} {g g1 : TG} {tt tt1 : TT} {te : TE} {vs vs1 : List Nat} {σ : St} {H1 : Hp} {D : Addr} {Qd : Hp → Prop} (Pv : Nat → Hp → Prop) (z : Pv 0 (upd H1 D (.lst []))) (keeps : ∀ i H, i ≤ n → Pv i H → G H)
    (turn : ∀ i x H H', i < n → Pv i H → Y i H x H' → g x (wipe σ vs) H' fun σ2 H2 => wipe σ2 vs = wipe σ vs ∧ tt σ2 H2 fun b H3 =>
      if b = true then wi1 σ2 H3 fun J1 H4 => ∃ W1 : Nat → Nat → Hp → Prop, (∃ m, W1 0 m H4) ∧ ∀ j k H, W1 j k H →
        (J1.stop j H ∧ Pv (i + 1) H) ∨ (J1.go j H ∧ ∃ Nx1 : Hp → Prop, (∀ H', Nx1 H' → ∃ k', k' < k ∧ W1 (j + 1) k' H') ∧ ∀ x H', J1.yld j H x H' → g1 x (wipe σ2 vs1) H' fun σ3 H5 => wipe σ3 vs1 = wipe σ2 vs1 ∧ tt1 σ3 H5 fun b H6 =>
          if b = true then te σ3 H6 fun y H7 => ∃ acc, H7 D = some (.lst acc) ∧ acc.length < sizeLine ∧ Nx1 (upd H7 D (.lst (acc ++ [y]))) else Nx1 H6)
      else Pv (i + 1) H3)
    (fin : ∀ H, Pv n H → Qd H) :
    ∃ W : Nat → Nat → Hp → Prop, (∃ m, W 0 m (upd H1 D (.lst []))) ∧ ∀ i m H, W i m H →
      (J.stop i H ∧ Qd H) ∨ (J.go i H ∧ ∃ Nx : Hp → Prop, (∀ H', Nx H' → ∃ m', m' < m ∧ W (i + 1) m' H') ∧ ∀ x H', J.yld i H x H' → g x (wipe σ vs) H' fun σ2 H2 => wipe σ2 vs = wipe σ vs ∧ tt σ2 H2 fun b H3 =>
        if b = true then wi1 σ2 H3 fun J1 H4 => ∃ W1 : Nat → Nat → Hp → Prop, (∃ m, W1 0 m H4) ∧ ∀ j k H, W1 j k H →
          (J1.stop j H ∧ Nx H) ∨ (J1.go j H ∧ ∃ Nx1 : Hp → Prop, (∀ H', Nx1 H' → ∃ k', k' < k ∧ W1 (j + 1) k' H') ∧ ∀ x H', J1.yld j H x H' → g1 x (wipe σ2 vs1) H' fun σ3 H5 => wipe σ3 vs1 = wipe σ2 vs1 ∧ tt1 σ3 H5 fun b H6 =>
            if b = true then te σ3 H6 fun y H7 => ∃ acc, H7 D = some (.lst acc) ∧ acc.length < sizeLine ∧ Nx1 (upd H7 D (.lst (acc ++ [y]))) else Nx1 H6)
        else Nx H3) := by
  refine ⟨fun i m H => i + m = n ∧ Pv i H, ⟨n, Nat.zero_add n, z⟩, fun i m H ⟨e, p⟩ => ?_⟩
  have here := keeps i H (by omega) p
  cases m with
  | zero =>
    have : i = n := by omega
    subst this
    exact .inl ⟨w.stops H here, fin H p⟩
  | succ m =>
    have less : i < n := by omega
    exact .inr ⟨w.goes i H less here, Pv (i + 1), fun H' p' => ⟨m, by omega, by omega, p'⟩, fun x H' y => turn i x H H' less p (w.yields i H x H' less here y)⟩
end
section
variable {X : Cx}
/-- name = {k: v for ..}, the name a local, both on one line -/
theorem ps_setDc {i : Nat} {y : Str} {py : Pos} {kx vx tg iter : Expr} {ifs : List Expr} {scope : Scope} {own : List (Str × Nat)} {pos spos : Pos} {wi : TI} {g : TG} {tt : TT} {tk tv : TE} (hc : X.calm = true) (nd : X.N.Nodup) (at_ : X.N[i]? = some y) (loc : X.env.scope.names.lookup y = some .local)
    (sw : swapsWith (.DictComp kx vx [⟨tg, iter, ifs, 0⟩] scope pos) (some (.Name y py)) spos.line X.env = pure true) (hi : PI X tg iter wi) (ok : BlkOk X.N X.env.scope scope own)
    (pg : ∀ (s : Shared) (H : Hp) (C : Addr) (cl : List (Str × Addr)) (fp : List Addr), PG (X.blk s H scope (compEnvC scope cl C X.env) fp) tg g) (pt : ∀ (s : Shared) (H : Hp) (C : Addr) (cl : List (Str × Addr)) (fp : List Addr), PTs (X.blk s H scope (compEnvC scope cl C X.env) fp) ifs tt)
    (pk : ∀ (s : Shared) (H : Hp) (C : Addr) (cl : List (Str × Addr)) (fp : List Addr), PE (X.blk s H scope (compEnvC scope cl C X.env) fp) kx tk)
    (pv : ∀ (s : Shared) (H : Hp) (C : Addr) (cl : List (Str × Addr)) (fp : List Addr), PE (X.blk s H scope (compEnvC scope cl C X.env) fp) vx tv) (hs : ∀ x, foldedSetIterable iter X.env x = pure x := by intro _; rfl) :
    PS X (.Assign [.Name y py] (.DictComp kx vx [⟨tg, iter, ifs, 0⟩] scope pos) spos) (tAsg (tDc wi g tt tk tv (own.map (·.2))) (gName i)) := by
  constructor
  intro pins s σ H D I h
  have h : tDc wi g tt tk tv (own.map (·.2)) σ H (fun x G => gName i x σ G D.nx) := h
  rw [exec_Assign_Name_used _ _ _ _ sw]
  refine wpAny_bind (wpAny_standAt (wpAny_bind ?_))
  show wpAny _ X.A (do let _ ← comprehension (.DictComp kx vx [⟨tg, iter, ifs, 0⟩] scope pos) scope X.env (firstIterPos [⟨tg, iter, ifs, 0⟩] pos) newDict false (eval iter X.env) (some (assign (.Name y py) X.env))) _ _ s
  refine wpAny_bind (thn (dc_core (Qf := fun _ u => SP X pins D .next u) hc nd I hi ok pg pt pk pv hs h fun L C u m G J q ns fp => ?_) fun _ u e => wpAny_pure (wpAny_pure e))
  obtain ⟨p0, p1, p2, p3, p4, p5⟩ := fp
  show wpAny _ _ (assign (.Name y py) X.env (.ref L)) _ _ _
  refine wpAny_assign_Name (store_ok2 (v := V.ref L) J nd at_ (.inl loc) rfl (fun v J2 ⟨a, same, where_⟩ => ?_) (.inr loc))
  have apart : C ≠ a := where_.elim (fun z => z ▸ p1) fun z e => p4 y a z e.symm
  exact ⟨m, ns.sameBut same apart, fun h3 but => ⟨_, G, J2.turned (t' := v.toks) (fun b o hb e => (but.2 b hb).trans e) p0 p1 p3 p4 p5, q⟩⟩
theorem sw_dc {kx vx : Expr} {gs : List Comprehension} {scope : Scope} {pos py : Pos} {y : Str} {l : Nat} {env : Env} (kind : env.scope.kind = .function) (loc : env.scope.names.lookup y = some .local) (line : (py.line == pos.line) = true)
    (not_own : (scope.names.any fun (n, k) => n == y && (k == .local || k == .cell)) = false) : swapsWith (.DictComp kx vx gs scope pos) (some (.Name y py)) l env = pure true := by
  have k1 : env.kindOf y = some .local := loc
  have k2 : env.blockKind = .function := by unfold Env.blockKind; rw [kind]; rfl
  unfold swapsWith
  simp only [k1, k2, not_own, Expr.pos, line]
  rfl
/-- a field of an own object, the written part by name -/
theorem pe_fldK {K : PySem.W.Frag} {e : Expr} {ta : TE} {f : Str} {pos : Pos} (eK : X.K = K) (he : PE X e ta) (hb : attributeBase e f X.env (eval e X.env) = eval e X.env) : PE X (.Attribute e f pos) (tFld K ta f) := by
  subst eK; exact pe_fld he hb
end
end L2
/-! == and != of own objects by their own __eq__, whatever it answers. -/
namespace OW
open PySem PySem.Spec PyProof.Rows
section
variable {M : Model} {prog : Program} {w : World} {A : Around} {E : Value → Shared → Prop} {s : Shared} {K : PySem.W.Frag} {x y C f : Addr} {ox : Obj} {od : Option Obj}
theorem bound_ne {args : List Value} {Q : Option Value → Shared → Prop} (X : K.In s.heap) (I : PySem.W.InstAt s.heap x ox C od) (hs : PySem.W.findIn K (.ref C) "__ne__" = some (some (.builtin "object.__ne__")))
    (h : wpAny M A (call (.builtin "object.__ne__") (.ref x :: args)) (fun v => Q (some v)) E s) : wpAny M A (callSpecialIfBound? (.ref x) "__ne__" args) Q E s := by
  simp only [callSpecialIfBound?, bindSpecialIfBound?]
  refine wpAny_holding (wpAny_bind (wpAny_bind (wpAny_bind (I.type.here ((PySem.W.looks_findIn X hs).here ?_)))))
  refine wpAny_bind (wpAny_askSetting (wpAny_ite ?_))
  have fin : wpAny M A (call (.builtin "object.__ne__") ([.ref x] ++ args) >>= fun v => pure (some v)) Q E s := wpAny_bind (wpAny_mono h (fun v s' h' => wpAny_pure h') fun _ _ h' => h')
  split
  · exact wpAny_bind (wpAny_of_eq (F.cmp_object.ne.bind _) (wpAny_pure (by exact fin)))
  · exact wpAny_tryCatch (wpAny_bind (wpAny_of_eq (F.cmp_object.ne.bind _) (wpAny_pure (by exact fin))))
theorem entry_ne {b : Value} {Q : Fin → Shared → Prop} (X : K.In s.heap) (I : PySem.W.InstAt s.heap x ox C od) (hs : PySem.W.findIn K (.ref C) "__eq__" = some (some (.ref f))) (hf : PySem.W.isFn K (.ref f) = true) (hu : A.units < cLine)
    (h : wpAny M A (call (.ref f) [.ref x, b]) (fun v s' => ∃ k, v = .bool k ∧ Q (.done (.ret (.bool (!k)))) s') E s) : wpAny M A (Builtin.«object.__ne__» ⟨[.ref x, b], []⟩) Q E s := by
  unfold Builtin.«object.__ne__»
  repeat (first
    | with_reducible refine wpAny_cRoomFor hu ?_
    | (refine wpAny_bind (m := callSpecialIfBound? (.ref x) (Str.ofString "__eq__") [b])
        (PySem.W.ifBound_K X I hs hf (wpAny_mono h (fun v s' hr => by
          obtain ⟨k, rfl, hq⟩ := hr
          repeat (first | exact hq | exact wpAny_pure hq | exact wpAny_truthy_bool hq | (refine wpAny_bind (m := truthy (.bool _)) (wpAny_truthy_bool ?_)) | wp_step)) fun _ _ e => e)))
    | wp_step)
theorem call_ne {b : Value} {Q : Value → Shared → Prop} (X : K.In s.heap) (I : PySem.W.InstAt s.heap x ox C od) (hm : PySem.W.mroIn K C (.type "object") = some true) (hs : PySem.W.findIn K (.ref C) "__eq__" = some (some (.ref f))) (hf : PySem.W.isFn K (.ref f) = true) (hu : A.units + 1 < cLine)
    (h : wpAny (model prog w) A.in1 (call (.ref f) [.ref x, b]) (fun v s' => ∃ k, v = .bool k ∧ Q (.bool (!k)) s') E s) : wpAny (model prog w) A (call (.builtin "object.__ne__") [.ref x, b]) Q E s :=
  wpAny_call (codeAny_call_builtin F.cmp_object.ne.plain F.cmpEntry_ne (PySem.W.check_slot F.cmpKind_ne F.cmpSplit_ne (I.type.andThen (PySem.W.looks_mroIn X hm)) (F.cmpArgs_ne _ _) (entry_ne X I hs hf hu h)))
theorem cmp_ne {b tb : Value} {Q : Value → Shared → Prop} (hu : A.units + 1 < cLine) (X : K.In s.heap) (I : PySem.W.InstAt s.heap x ox C od) (hb : PySem.W.Looks (model prog w) s.heap (typeOf b) tb) (hn : PySem.W.notFirst K C tb = true) (hm : PySem.W.mroIn K C (.type "object") = some true)
    (hs : PySem.W.findIn K (.ref C) "__eq__" = some (some (.ref f))) (hf : PySem.W.isFn K (.ref f) = true) (hne : PySem.W.findIn K (.ref C) "__ne__" = some (some (.builtin "object.__ne__")))
    (h : wpAny (model prog w) A.in1 (call (.ref f) [.ref x, b]) (fun v s' => ∃ k, v = .bool k ∧ Q (.bool (!k)) s') E s) : wpAny (model prog w) A (richCompare .NotEq (.ref x) b) Q E s := by
  have one : wpAny (model prog w) A (tryCompare (.ref x) "__ne__" b) (fun r s' => ∃ v, r = some v ∧ Q v s') E s := by
    unfold tryCompare
    refine wpAny_bind (bound_ne X I hne (call_ne X I hm hs hf hu (wpAny_mono h (fun v s' hv => ?_) fun _ _ e => e)))
    obtain ⟨k, rfl, hq⟩ := hv
    exact ⟨k, rfl, wpAny_pure ⟨_, rfl, hq⟩⟩
  unfold richCompare
  simp only [oneThing_ref]
  refine wpAny_holding (wpAny_bind (wpAny_cRoomFor (Nat.lt_of_succ_lt hu) ?_))
  rw [cmpInfo_NotEq]
  dsimp only
  refine wpAny_bind (I.type.here (wpAny_bind (hb.here ?_)))
  split
  · rename_i q
    have e : PySem.W.subIn K tb (.ref C) = some false := by
      rcases Bool.or_eq_true_iff.mp hn with e | e
      · rw [beq_iff_eq.mp e] at q; simp at q
      · exact beq_iff_eq.mp e
    refine wpAny_bind ((PySem.W.looks_subIn X e).here ?_)
    simp only [Bool.false_eq_true, if_false]
    refine wpAny_bind (wpAny_mono one (fun r s' z => ?_) fun _ _ e => e)
    obtain ⟨v, rfl, hq⟩ := z
    exact wpAny_pure hq
  · refine wpAny_bind (wpAny_pure ?_)
    simp only [Bool.false_eq_true, if_false]
    refine wpAny_bind (wpAny_mono one (fun r s' z => ?_) fun _ _ e => e)
    obtain ⟨v, rfl, hq⟩ := z
    exact wpAny_pure hq
end
end OW
namespace L2
open PySem PySem.Spec PyProof.Rows
/-- what an own == promises, of either outcome -/
def spEqB (R : Addr → Addr → Bool → Hp → Prop) : Sp := fun vs H Q _ => ∃ a b r, vs = [.ref a, .ref b] ∧ R a b r H ∧ ∀ H', Ext H H' → Q (.bl r) H'
/-- == and != of two instances of the class at C -/
def rOwn (C : Addr) (R : Addr → Addr → Bool → Hp → Prop) (g : Bool → Bool) : R2 := fun x y H Q => ∃ a b dx dy fs gs r, x = .ref a ∧ y = .ref b ∧ H a = some (.ins C dx fs) ∧ H b = some (.ins C dy gs) ∧ R a b r H ∧ ∀ H', Ext H H' → Q (.bl (g r)) H'
section
variable {X : Cx} {CX : CXT} {C f : Addr} {n : Nat} {fd : FuncData} {ps : List Str} {R : Addr → Addr → Bool → Hp → Prop} {E : XK} {K : PySem.W.Frag}
theorem own_call {A : Around} {pins : List (Addr × Obj)} {σ : St} {H : Hp} {s : Shared} {a b : Addr} {r : Bool} {Q : Value → Shared → Prop} (F : FnOk X.prog X.w X.K X.mg X.base CX n f fd ps (spEqB R)) (hb : Binds X.K fd ps []) (hx : Passes CX X E)
    (sb : Sub X n A) (I : Inv X pins σ H s) (hr : R a b r H) (q : ∀ s' H', Inv X pins σ H' s' → Ext H H' → Q (.bool r) s') : wpAny (model X.prog X.w) A (call (.ref f) [.ref a, .ref b]) Q X.xe s := by
  have hsp : spEqB R [.ref a, .ref b] H (fun v H' => v = .bl r ∧ Ext H H') E := ⟨a, b, r, rfl, hr, fun H' e => ⟨rfl, e⟩⟩
  have e0 : Env0 X.prog X.w X.K X.mg X.base A X.stack s H := by
    have e := I.env0
    exact ⟨by rw [sb.fr]; exact e.frames, e.mod, e.bs, e.bsz, e.funs, e.frf, e.hok, e.bare⟩
  have hl := F.len _ _ _ _ hsp
  have r2 : Vals [V.ref a, V.ref b] [Value.ref a, Value.ref b] := .cons rfl (.cons rfl .nil)
  refine wpAny_call (codeAny_mono (F.run A X.stack s H ⟨[.ref a, .ref b], []⟩ [.ref a, .ref b] [.ref a, .ref b] _ E sb.room e0 (by
    have := hb s [.ref a, .ref b] I.kIn (by simpa using hl)
    simpa using this) r2 hsp) fun r s' hq => ?_)
  cases r with
  | error e => exact hx pins σ H s e s' I hq
  | ok fl =>
    cases fl with
    | ret w =>
      obtain ⟨z, H', I', rz, ez, ex⟩ := I.after hq
      subst ez
      cases rz
      exact q s' H' I' ex
    | next => exact False.elim hq
    | brk => exact False.elim hq
    | cont => exact False.elim hq
theorem op_own_eq (q : X.K = K) (F : FnOk X.prog X.w X.K X.mg X.base CX n f fd ps (spEqB R)) (hs : PySem.W.findIn K (.ref C) "__eq__" = some (some (.ref f))) (hf : PySem.W.isFn K (.ref f) = true) (hb : Binds K fd ps []) (hx : Passes CX X E) (hr : Room n X.A) :
    OpR X (compareOp .Eq) (rOwn C R fun r => r) := by
  subst q
  intro pins s σ H x y v u Q I rx ry hq
  obtain ⟨a, b, dx, dy, fs, gs, r, rfl, rfl, ha, hb', hR, go⟩ := hq
  cases rx
  cases ry
  obtain ⟨mA, J, _⟩ := ins_get I.hok ha
  obtain ⟨mB, J', _⟩ := ins_get I.hok hb'
  obtain ⟨od, J, _⟩ := J.look
  obtain ⟨od', J', _⟩ := J'.look
  obtain ⟨m, hF⟩ := I.fr
  show wpAny (model X.prog X.w) X.A (richCompare .Eq (.ref a) (.ref b)) (EP X pins σ Q) X.xe s
  refine PySem.W.cmp_K (op := .Eq) (tb := .ref C) hr.units0 hF I.ok.mod.kin J J'.type (by simp [PySem.W.notFirst]) hs hf (own_call F hb hx ⟨hr, rfl⟩ I hR fun s' H' I' ex => ?_)
  exact ⟨.bl r, H', I', rfl, go H' ex⟩
theorem op_own_ne (q : X.K = K) (F : FnOk X.prog X.w X.K X.mg X.base CX n f fd ps (spEqB R)) (hs : PySem.W.findIn K (.ref C) "__eq__" = some (some (.ref f))) (hf : PySem.W.isFn K (.ref f) = true) (hne : PySem.W.findIn K (.ref C) "__ne__" = some (some (.builtin "object.__ne__")))
    (hm : PySem.W.mroIn K C (.type "object") = some true) (hb : Binds K fd ps []) (hx : Passes CX X E) (hr : Room (n + 1) X.A) :
    OpR X (compareOp .NotEq) (rOwn C R fun r => !r) := by
  subst q
  intro pins s σ H x y v u Q I rx ry hq
  obtain ⟨a, b, dx, dy, fs, gs, r, rfl, rfl, ha, hb', hR, go⟩ := hq
  cases rx
  cases ry
  obtain ⟨mA, J, _⟩ := ins_get I.hok ha
  obtain ⟨mB, J', _⟩ := ins_get I.hok hb'
  obtain ⟨od, J, _⟩ := J.look
  obtain ⟨od', J', _⟩ := J'.look
  show wpAny (model X.prog X.w) X.A (richCompare .NotEq (.ref a) (.ref b)) (EP X pins σ Q) X.xe s
  refine OW.cmp_ne (tb := .ref C) (by have := hr.un; omega) I.kIn J J'.type (by simp [PySem.W.notFirst]) hm hs hf hne ?_
  refine own_call F hb hx ⟨hr.in1, rfl⟩ I hR fun s' H' I' ex => ?_
  exact ⟨r, rfl, .bl (!r), H', I', rfl, go H' ex⟩
end
end L2
namespace K41
open PySem PySem.Spec PyProof.Rows L2 RB MV
def topS (i : Nat) : Stmt := PySem.Challenge.pw_runsback_k41_whole_worlds_side_by_side.main.body.getD i (.Pass ⟨0, 0, 0, 0⟩)
abbrev s_NoRow_init : Stmt := inClass (topS 3) 0
abbrev s_TooLarge_init : Stmt := inClass (topS 4) 0
abbrev s_OtherDeeds_init : Stmt := inClass (topS 5) 0
abbrev s_BadWorld_init : Stmt := inClass (topS 6) 0
abbrev s_NoStanding_init : Stmt := inClass (topS 7) 0
abbrev s_is_integer : Stmt := topS 9
abbrev s_is_integer_within : Stmt := topS 10
abbrev s_is_small_word : Stmt := topS 11
abbrev s_is_deeds : Stmt := topS 12
abbrev s_is_row : Stmt := topS 13
abbrev s_is_row_over : Stmt := topS 14
abbrev s_demand_row_over : Stmt := topS 16
abbrev s_demand_same_deeds : Stmt := topS 17
abbrev s_standing_still : Stmt := topS 19
abbrev s_followed : Stmt := topS 20
abbrev s_turned_back : Stmt := topS 21
abbrev s_rounds_of : Stmt := topS 22
abbrev s_order_of : Stmt := topS 23
abbrev s_letter_moves : Stmt := topS 24
abbrev s_row_move : Stmt := topS 25
abbrev s_World_init : Stmt := inClass (topS 29) 0
abbrev s_World_moves : Stmt := inClass (topS 29) 1
abbrev s_World__eq_ : Stmt := inClass (topS 29) 2
abbrev s_world_of : Stmt := topS 30
abbrev s_led : Stmt := topS 31
abbrev s_move_of : Stmt := topS 32
abbrev s_order : Stmt := topS 33
abbrev s_beside : Stmt := topS 34
abbrev s_demand_standing : Stmt := topS 35
abbrev s_are_moves : Stmt := topS 36
abbrev s_is_move : Stmt := topS 37
abbrev s_pot : Stmt := topS 39
abbrev s_draw : Stmt := topS 40
abbrev s_any : Stmt := topS 41
abbrev s_deeds : Stmt := topS 42
abbrev s_letters : Stmt := topS 43
abbrev s_row : Stmt := topS 44
abbrev s_mixed : Stmt := topS 45
abbrev s_moves : Stmt := topS 46
abbrev s_step : Stmt := topS 47
abbrev s_lled : Stmt := topS 48
abbrev s_pairs : Stmt := topS 49
abbrev s_asked : Stmt := topS 50
abbrev s_least : Stmt := topS 51
abbrev s_law : Stmt := topS 52
theorem sc_NoRow_init : FnScope ["self"] ["self"] (defScope s_NoRow_init) := ⟨rfl, rfl, rfl, by decide +kernel, rfl, by decide +kernel, by decide +kernel⟩
theorem sc_TooLarge_init : FnScope ["self", "most"] ["self", "most"] (defScope s_TooLarge_init) := ⟨rfl, rfl, rfl, by decide +kernel, rfl, by decide +kernel, by decide +kernel⟩
theorem sc_OtherDeeds_init : FnScope ["self"] ["self"] (defScope s_OtherDeeds_init) := ⟨rfl, rfl, rfl, by decide +kernel, rfl, by decide +kernel, by decide +kernel⟩
theorem sc_BadWorld_init : FnScope ["self", "part"] ["self", "part"] (defScope s_BadWorld_init) := ⟨rfl, rfl, rfl, by decide +kernel, rfl, by decide +kernel, by decide +kernel⟩
theorem sc_NoStanding_init : FnScope ["self"] ["self"] (defScope s_NoStanding_init) := ⟨rfl, rfl, rfl, by decide +kernel, rfl, by decide +kernel, by decide +kernel⟩
theorem sc_is_integer : FnScope ["thing"] ["thing"] (defScope s_is_integer) := ⟨rfl, rfl, rfl, by decide +kernel, rfl, by decide +kernel, by decide +kernel⟩
theorem sc_is_integer_within : FnScope ["thing", "least", "most"] ["thing", "least", "most"] (defScope s_is_integer_within) := ⟨rfl, rfl, rfl, by decide +kernel, rfl, by decide +kernel, by decide +kernel⟩
theorem sc_is_small_word : FnScope ["thing"] ["thing"] (defScope s_is_small_word) := ⟨rfl, rfl, rfl, by decide +kernel, rfl, by decide +kernel, by decide +kernel⟩
theorem sc_is_deeds : FnScope ["thing", "one", "two"] ["thing"] (defScope s_is_deeds) := ⟨rfl, rfl, rfl, by decide +kernel, rfl, by decide +kernel, by decide +kernel⟩
theorem sc_is_row : FnScope ["thing"] ["thing"] (defScope s_is_row) := ⟨rfl, rfl, rfl, by decide +kernel, rfl, by decide +kernel, by decide +kernel⟩
theorem sc_is_row_over : FnScope ["deeds", "thing", "letter"] ["deeds", "thing"] (defScope s_is_row_over) := ⟨rfl, rfl, rfl, by decide +kernel, rfl, by decide +kernel, by decide +kernel⟩
theorem sc_demand_row_over : FnScope ["deeds", "thing"] ["deeds", "thing"] (defScope s_demand_row_over) := ⟨rfl, rfl, rfl, by decide +kernel, rfl, by decide +kernel, by decide +kernel⟩
theorem sc_demand_same_deeds : FnScope ["one", "other"] ["one", "other"] (defScope s_demand_same_deeds) := ⟨rfl, rfl, rfl, by decide +kernel, rfl, by decide +kernel, by decide +kernel⟩
theorem sc_standing_still : FnScope ["size"] ["size"] (defScope s_standing_still) := ⟨rfl, rfl, rfl, by decide +kernel, rfl, by decide +kernel, by decide +kernel⟩
theorem sc_followed : FnScope ["one", "other", "standing"] ["one", "other"] (defScope s_followed) := ⟨rfl, rfl, rfl, by decide +kernel, rfl, by decide +kernel, by decide +kernel⟩
theorem sc_turned_back : FnScope ["move", "back", "standing", "goal"] ["move"] (defScope s_turned_back) := ⟨rfl, rfl, rfl, by decide +kernel, rfl, by decide +kernel, by decide +kernel⟩
theorem sc_rounds_of : FnScope ["move", "seen", "found", "start", "chain", "standing"] ["move"] (defScope s_rounds_of) := ⟨rfl, rfl, rfl, by decide +kernel, rfl, by decide +kernel, by decide +kernel⟩
theorem sc_order_of : FnScope ["move", "found", "chain"] ["move"] (defScope s_order_of) := ⟨rfl, rfl, rfl, by decide +kernel, rfl, by decide +kernel, by decide +kernel⟩
theorem sc_letter_moves : FnScope ["world", "moves", "told", "deed"] ["world"] (defScope s_letter_moves) := ⟨rfl, rfl, rfl, by decide +kernel, rfl, by decide +kernel, by decide +kernel⟩
theorem sc_row_move : FnScope ["moves", "row", "move", "letter"] ["moves", "row"] (defScope s_row_move) := ⟨rfl, rfl, rfl, by decide +kernel, rfl, by decide +kernel, by decide +kernel⟩
theorem sc_World_init : FnScope ["self", "deeds", "moves"] ["self", "deeds", "moves"] (defScope s_World_init) := ⟨rfl, rfl, rfl, by decide +kernel, rfl, by decide +kernel, by decide +kernel⟩
theorem sc_World_moves : FnScope ["self"] ["self"] (defScope s_World_moves) := ⟨rfl, rfl, rfl, by decide +kernel, rfl, by decide +kernel, by decide +kernel⟩
theorem sc_World__eq_ : FnScope ["self", "other"] ["self", "other"] (defScope s_World__eq_) := ⟨rfl, rfl, rfl, by decide +kernel, rfl, by decide +kernel, by decide +kernel⟩
theorem sc_world_of : FnScope ["deeds", "moves", "world", "deed"] ["deeds", "moves"] (defScope s_world_of) := ⟨rfl, rfl, rfl, by decide +kernel, rfl, by decide +kernel, by decide +kernel⟩
theorem sc_led : FnScope ["world", "standing", "row", "moves", "at", "letter"] ["world", "standing", "row"] (defScope s_led) := ⟨rfl, rfl, rfl, by decide +kernel, rfl, by decide +kernel, by decide +kernel⟩
theorem sc_move_of : FnScope ["world", "row"] ["world", "row"] (defScope s_move_of) := ⟨rfl, rfl, rfl, by decide +kernel, rfl, by decide +kernel, by decide +kernel⟩
theorem sc_order : FnScope ["world", "row"] ["world", "row"] (defScope s_order) := ⟨rfl, rfl, rfl, by decide +kernel, rfl, by decide +kernel, by decide +kernel⟩
theorem sc_beside : FnScope ["one", "other", "here", "there", "moves", "deed", "goal", "second"] ["one", "other"] (defScope s_beside) := ⟨rfl, rfl, rfl, by decide +kernel, rfl, by decide +kernel, by decide +kernel⟩
theorem sc_demand_standing : FnScope ["world", "thing"] ["world", "thing"] (defScope s_demand_standing) := ⟨rfl, rfl, rfl, by decide +kernel, rfl, by decide +kernel, by decide +kernel⟩
theorem sc_are_moves : FnScope ["deeds", "thing", "deed"] ["deeds", "thing"] (defScope s_are_moves) := ⟨rfl, rfl, rfl, by decide +kernel, rfl, by decide +kernel, by decide +kernel⟩
theorem sc_is_move : FnScope ["thing", "standing"] ["thing"] (defScope s_is_move) := ⟨rfl, rfl, rfl, by decide +kernel, rfl, by decide +kernel, by decide +kernel⟩
theorem sc_pot : FnScope ["_law_script", "_law_cells", "_law_greats", "_law_smalls", "_law_cell"] ["_law_script"] (defScope s_pot) := ⟨rfl, rfl, rfl, by decide +kernel, rfl, by decide +kernel, by decide +kernel⟩
theorem sc_draw : FnScope ["_law_pot_here", "_law_many", "_law_turn", "_law_number", "_law_seed"] ["_law_pot_here", "_law_many"] (defScope s_draw) := ⟨rfl, rfl, rfl, by decide +kernel, rfl, by decide +kernel, by decide +kernel⟩
theorem sc_any : FnScope ["_law_pot_here", "_law_items"] ["_law_pot_here", "_law_items"] (defScope s_any) := ⟨rfl, rfl, rfl, by decide +kernel, rfl, by decide +kernel, by decide +kernel⟩
theorem sc_deeds : FnScope ["_law_pot_here", "_law_most", "_law_at", "_law_deeds_here", "_law_k"] ["_law_pot_here", "_law_most"] (defScope s_deeds) := ⟨rfl, rfl, rfl, by decide +kernel, rfl, by decide +kernel, by decide +kernel⟩
theorem sc_letters : FnScope ["_law_deeds_here", "_law_letters_here", "_law_deed"] ["_law_deeds_here"] (defScope s_letters) := ⟨rfl, rfl, rfl, by decide +kernel, rfl, by decide +kernel, by decide +kernel⟩
theorem sc_row : FnScope ["_law_pot_here", "_law_deeds_here", "_law_most", "_law_k"] ["_law_pot_here", "_law_deeds_here", "_law_most"] (defScope s_row) := ⟨rfl, rfl, rfl, by decide +kernel, rfl, by decide +kernel, by decide +kernel⟩
theorem sc_mixed : FnScope ["_law_pot_here", "_law_items", "_law_line", "_law_k", "_law_at"] ["_law_pot_here", "_law_items"] (defScope s_mixed) := ⟨rfl, rfl, rfl, by decide +kernel, rfl, by decide +kernel, by decide +kernel⟩
theorem sc_moves : FnScope ["_law_pot_here", "_law_deeds_here", "_law_size", "_law_moves_here", "_law_deed"] ["_law_pot_here", "_law_deeds_here", "_law_size"] (defScope s_moves) := ⟨rfl, rfl, rfl, by decide +kernel, rfl, by decide +kernel, by decide +kernel⟩
theorem sc_step : FnScope ["_law_moves_here", "_law_letter", "_law_standing"] ["_law_moves_here", "_law_letter", "_law_standing"] (defScope s_step) := ⟨rfl, rfl, rfl, by decide +kernel, rfl, by decide +kernel, by decide +kernel⟩
theorem sc_lled : FnScope ["_law_moves_here", "_law_standing", "_law_row_here", "_law_letter"] ["_law_moves_here", "_law_standing", "_law_row_here"] (defScope s_lled) := ⟨rfl, rfl, rfl, by decide +kernel, rfl, by decide +kernel, by decide +kernel⟩
theorem sc_pairs : FnScope ["_law_deeds_here", "_law_one", "_law_other", "_law_moves_here", "_law_deed", "_law_row_here", "_law_standing", "_law_goal"] ["_law_deeds_here", "_law_one", "_law_other"] (defScope s_pairs) := ⟨rfl, rfl, rfl, by decide +kernel, rfl, by decide +kernel, by decide +kernel⟩
theorem sc_asked : FnScope ["_law_one", "_law_other", "_law_found", "e"] ["_law_one", "_law_other"] (defScope s_asked) := ⟨rfl, rfl, rfl, by decide +kernel, rfl, by decide +kernel, by decide +kernel⟩
theorem sc_least : FnScope ["_law_one", "_law_other", "_law_found", "_law_turn"] ["_law_one", "_law_other"] (defScope s_least) := ⟨rfl, rfl, rfl, by decide +kernel, rfl, by decide +kernel, by decide +kernel⟩
theorem sc_law : FnScope ["_law_script", "_law_pot_here", "_law_deeds_here", "_law_sizes", "_law_great", "_law_moves_here", "_law_worlds", "_law_told", "_law_due", "_law_row_here", "_law_s", "_law_t", "_law_goal", "_law_found", "_law_spare", "_law_other", "_law_second", "_law_k", "_law_size", "_law_move", "_law_sign"] ["_law_script"] (defScope s_law) := ⟨rfl, rfl, rfl, by decide +kernel, rfl, by decide +kernel, by decide +kernel⟩
/-- where the defs and classes of the text stand -/
structure Ad where
  a_NoRow_init : Addr
  d_NoRow_init : FuncData
  a_TooLarge_init : Addr
  d_TooLarge_init : FuncData
  a_OtherDeeds_init : Addr
  d_OtherDeeds_init : FuncData
  a_BadWorld_init : Addr
  d_BadWorld_init : FuncData
  a_NoStanding_init : Addr
  d_NoStanding_init : FuncData
  a_is_integer : Addr
  d_is_integer : FuncData
  a_is_integer_within : Addr
  d_is_integer_within : FuncData
  a_is_small_word : Addr
  d_is_small_word : FuncData
  a_is_deeds : Addr
  d_is_deeds : FuncData
  a_is_row : Addr
  d_is_row : FuncData
  a_is_row_over : Addr
  d_is_row_over : FuncData
  a_demand_row_over : Addr
  d_demand_row_over : FuncData
  a_demand_same_deeds : Addr
  d_demand_same_deeds : FuncData
  a_standing_still : Addr
  d_standing_still : FuncData
  a_followed : Addr
  d_followed : FuncData
  a_turned_back : Addr
  d_turned_back : FuncData
  a_rounds_of : Addr
  d_rounds_of : FuncData
  a_order_of : Addr
  d_order_of : FuncData
  a_letter_moves : Addr
  d_letter_moves : FuncData
  a_row_move : Addr
  d_row_move : FuncData
  a_World_init : Addr
  d_World_init : FuncData
  a_World_moves : Addr
  d_World_moves : FuncData
  a_World__eq_ : Addr
  d_World__eq_ : FuncData
  a_world_of : Addr
  d_world_of : FuncData
  a_led : Addr
  d_led : FuncData
  a_move_of : Addr
  d_move_of : FuncData
  a_order : Addr
  d_order : FuncData
  a_beside : Addr
  d_beside : FuncData
  a_demand_standing : Addr
  d_demand_standing : FuncData
  a_are_moves : Addr
  d_are_moves : FuncData
  a_is_move : Addr
  d_is_move : FuncData
  a_pot : Addr
  d_pot : FuncData
  a_draw : Addr
  d_draw : FuncData
  a_any : Addr
  d_any : FuncData
  a_deeds : Addr
  d_deeds : FuncData
  a_letters : Addr
  d_letters : FuncData
  a_row : Addr
  d_row : FuncData
  a_mixed : Addr
  d_mixed : FuncData
  a_moves : Addr
  d_moves : FuncData
  a_step : Addr
  d_step : FuncData
  a_lled : Addr
  d_lled : FuncData
  a_pairs : Addr
  d_pairs : FuncData
  a_asked : Addr
  d_asked : FuncData
  a_least : Addr
  d_least : FuncData
  a_law : Addr
  d_law : FuncData
  c_RunsError : Addr
  c_NoRow : Addr
  c_TooLarge : Addr
  c_OtherDeeds : Addr
  c_BadWorld : Addr
  c_NoStanding : Addr
  c_World : Addr
  p_World_moves : Addr
  v_MOST_STANDINGS : Value
  v_MOST_BESIDE : Value
/-- what the top has written -/
structure Txt (K : PySem.W.Frag) (mg : Str → Option Value) (A : Ad) : Prop where
  F_NoRow_init : Fun K "__init__" "NoRow.__init__" s_NoRow_init A.a_NoRow_init A.d_NoRow_init
  b_NoRow_init : Binds K A.d_NoRow_init ["self"] []
  F_TooLarge_init : Fun K "__init__" "TooLarge.__init__" s_TooLarge_init A.a_TooLarge_init A.d_TooLarge_init
  b_TooLarge_init : Binds K A.d_TooLarge_init ["self", "most"] []
  F_OtherDeeds_init : Fun K "__init__" "OtherDeeds.__init__" s_OtherDeeds_init A.a_OtherDeeds_init A.d_OtherDeeds_init
  b_OtherDeeds_init : Binds K A.d_OtherDeeds_init ["self"] []
  F_BadWorld_init : Fun K "__init__" "BadWorld.__init__" s_BadWorld_init A.a_BadWorld_init A.d_BadWorld_init
  b_BadWorld_init : Binds K A.d_BadWorld_init ["self", "part"] []
  F_NoStanding_init : Fun K "__init__" "NoStanding.__init__" s_NoStanding_init A.a_NoStanding_init A.d_NoStanding_init
  b_NoStanding_init : Binds K A.d_NoStanding_init ["self"] []
  F_is_integer : Fun K "is_integer" "is_integer" s_is_integer A.a_is_integer A.d_is_integer
  g_is_integer : mg "is_integer" = some (.ref A.a_is_integer)
  b_is_integer : Binds K A.d_is_integer ["thing"] []
  F_is_integer_within : Fun K "is_integer_within" "is_integer_within" s_is_integer_within A.a_is_integer_within A.d_is_integer_within
  g_is_integer_within : mg "is_integer_within" = some (.ref A.a_is_integer_within)
  b_is_integer_within : Binds K A.d_is_integer_within ["thing", "least", "most"] []
  F_is_small_word : Fun K "is_small_word" "is_small_word" s_is_small_word A.a_is_small_word A.d_is_small_word
  g_is_small_word : mg "is_small_word" = some (.ref A.a_is_small_word)
  b_is_small_word : Binds K A.d_is_small_word ["thing"] []
  F_is_deeds : Fun K "is_deeds" "is_deeds" s_is_deeds A.a_is_deeds A.d_is_deeds
  g_is_deeds : mg "is_deeds" = some (.ref A.a_is_deeds)
  b_is_deeds : Binds K A.d_is_deeds ["thing"] []
  F_is_row : Fun K "is_row" "is_row" s_is_row A.a_is_row A.d_is_row
  g_is_row : mg "is_row" = some (.ref A.a_is_row)
  b_is_row : Binds K A.d_is_row ["thing"] []
  F_is_row_over : Fun K "is_row_over" "is_row_over" s_is_row_over A.a_is_row_over A.d_is_row_over
  g_is_row_over : mg "is_row_over" = some (.ref A.a_is_row_over)
  b_is_row_over : Binds K A.d_is_row_over ["deeds", "thing"] []
  F_demand_row_over : Fun K "demand_row_over" "demand_row_over" s_demand_row_over A.a_demand_row_over A.d_demand_row_over
  g_demand_row_over : mg "demand_row_over" = some (.ref A.a_demand_row_over)
  b_demand_row_over : Binds K A.d_demand_row_over ["deeds", "thing"] []
  F_demand_same_deeds : Fun K "demand_same_deeds" "demand_same_deeds" s_demand_same_deeds A.a_demand_same_deeds A.d_demand_same_deeds
  g_demand_same_deeds : mg "demand_same_deeds" = some (.ref A.a_demand_same_deeds)
  b_demand_same_deeds : Binds K A.d_demand_same_deeds ["one", "other"] []
  F_standing_still : Fun K "standing_still" "standing_still" s_standing_still A.a_standing_still A.d_standing_still
  g_standing_still : mg "standing_still" = some (.ref A.a_standing_still)
  b_standing_still : Binds K A.d_standing_still ["size"] []
  F_followed : Fun K "followed" "followed" s_followed A.a_followed A.d_followed
  g_followed : mg "followed" = some (.ref A.a_followed)
  b_followed : Binds K A.d_followed ["one", "other"] []
  F_turned_back : Fun K "turned_back" "turned_back" s_turned_back A.a_turned_back A.d_turned_back
  g_turned_back : mg "turned_back" = some (.ref A.a_turned_back)
  b_turned_back : Binds K A.d_turned_back ["move"] []
  F_rounds_of : Fun K "rounds_of" "rounds_of" s_rounds_of A.a_rounds_of A.d_rounds_of
  g_rounds_of : mg "rounds_of" = some (.ref A.a_rounds_of)
  b_rounds_of : Binds K A.d_rounds_of ["move"] []
  F_order_of : Fun K "order_of" "order_of" s_order_of A.a_order_of A.d_order_of
  g_order_of : mg "order_of" = some (.ref A.a_order_of)
  b_order_of : Binds K A.d_order_of ["move"] []
  F_letter_moves : Fun K "letter_moves" "letter_moves" s_letter_moves A.a_letter_moves A.d_letter_moves
  g_letter_moves : mg "letter_moves" = some (.ref A.a_letter_moves)
  b_letter_moves : Binds K A.d_letter_moves ["world"] []
  F_row_move : Fun K "row_move" "row_move" s_row_move A.a_row_move A.d_row_move
  g_row_move : mg "row_move" = some (.ref A.a_row_move)
  b_row_move : Binds K A.d_row_move ["moves", "row"] []
  F_World_init : Fun K "__init__" "World.__init__" s_World_init A.a_World_init A.d_World_init
  b_World_init : Binds K A.d_World_init ["self", "deeds", "moves"] []
  F_World_moves : Fun K "moves" "World.moves" s_World_moves A.a_World_moves A.d_World_moves
  b_World_moves : Binds K A.d_World_moves ["self"] []
  F_World__eq_ : Fun K "__eq__" "World.__eq__" s_World__eq_ A.a_World__eq_ A.d_World__eq_
  b_World__eq_ : Binds K A.d_World__eq_ ["self", "other"] []
  F_world_of : Fun K "world_of" "world_of" s_world_of A.a_world_of A.d_world_of
  g_world_of : mg "world_of" = some (.ref A.a_world_of)
  b_world_of : Binds K A.d_world_of ["deeds", "moves"] []
  F_led : Fun K "led" "led" s_led A.a_led A.d_led
  g_led : mg "led" = some (.ref A.a_led)
  b_led : Binds K A.d_led ["world", "standing", "row"] []
  F_move_of : Fun K "move_of" "move_of" s_move_of A.a_move_of A.d_move_of
  g_move_of : mg "move_of" = some (.ref A.a_move_of)
  b_move_of : Binds K A.d_move_of ["world", "row"] []
  F_order : Fun K "order" "order" s_order A.a_order A.d_order
  g_order : mg "order" = some (.ref A.a_order)
  b_order : Binds K A.d_order ["world", "row"] []
  F_beside : Fun K "beside" "beside" s_beside A.a_beside A.d_beside
  g_beside : mg "beside" = some (.ref A.a_beside)
  b_beside : Binds K A.d_beside ["one", "other"] []
  F_demand_standing : Fun K "demand_standing" "demand_standing" s_demand_standing A.a_demand_standing A.d_demand_standing
  g_demand_standing : mg "demand_standing" = some (.ref A.a_demand_standing)
  b_demand_standing : Binds K A.d_demand_standing ["world", "thing"] []
  F_are_moves : Fun K "are_moves" "are_moves" s_are_moves A.a_are_moves A.d_are_moves
  g_are_moves : mg "are_moves" = some (.ref A.a_are_moves)
  b_are_moves : Binds K A.d_are_moves ["deeds", "thing"] []
  F_is_move : Fun K "is_move" "is_move" s_is_move A.a_is_move A.d_is_move
  g_is_move : mg "is_move" = some (.ref A.a_is_move)
  b_is_move : Binds K A.d_is_move ["thing"] []
  F_pot : Fun K "_law_pot" "_law_pot" s_pot A.a_pot A.d_pot
  g_pot : mg "_law_pot" = some (.ref A.a_pot)
  b_pot : Binds K A.d_pot ["_law_script"] []
  F_draw : Fun K "_law_draw" "_law_draw" s_draw A.a_draw A.d_draw
  g_draw : mg "_law_draw" = some (.ref A.a_draw)
  b_draw : Binds K A.d_draw ["_law_pot_here", "_law_many"] []
  F_any : Fun K "_law_any" "_law_any" s_any A.a_any A.d_any
  g_any : mg "_law_any" = some (.ref A.a_any)
  b_any : Binds K A.d_any ["_law_pot_here", "_law_items"] []
  F_deeds : Fun K "_law_deeds" "_law_deeds" s_deeds A.a_deeds A.d_deeds
  g_deeds : mg "_law_deeds" = some (.ref A.a_deeds)
  b_deeds : Binds K A.d_deeds ["_law_pot_here", "_law_most"] []
  F_letters : Fun K "_law_letters" "_law_letters" s_letters A.a_letters A.d_letters
  g_letters : mg "_law_letters" = some (.ref A.a_letters)
  b_letters : Binds K A.d_letters ["_law_deeds_here"] []
  F_row : Fun K "_law_row" "_law_row" s_row A.a_row A.d_row
  g_row : mg "_law_row" = some (.ref A.a_row)
  b_row : Binds K A.d_row ["_law_pot_here", "_law_deeds_here", "_law_most"] []
  F_mixed : Fun K "_law_mixed" "_law_mixed" s_mixed A.a_mixed A.d_mixed
  g_mixed : mg "_law_mixed" = some (.ref A.a_mixed)
  b_mixed : Binds K A.d_mixed ["_law_pot_here", "_law_items"] []
  F_moves : Fun K "_law_moves" "_law_moves" s_moves A.a_moves A.d_moves
  g_moves : mg "_law_moves" = some (.ref A.a_moves)
  b_moves : Binds K A.d_moves ["_law_pot_here", "_law_deeds_here", "_law_size"] []
  F_step : Fun K "_law_step" "_law_step" s_step A.a_step A.d_step
  g_step : mg "_law_step" = some (.ref A.a_step)
  b_step : Binds K A.d_step ["_law_moves_here", "_law_letter", "_law_standing"] []
  F_lled : Fun K "_law_led" "_law_led" s_lled A.a_lled A.d_lled
  g_lled : mg "_law_led" = some (.ref A.a_lled)
  b_lled : Binds K A.d_lled ["_law_moves_here", "_law_standing", "_law_row_here"] []
  F_pairs : Fun K "_law_pairs" "_law_pairs" s_pairs A.a_pairs A.d_pairs
  g_pairs : mg "_law_pairs" = some (.ref A.a_pairs)
  b_pairs : Binds K A.d_pairs ["_law_deeds_here", "_law_one", "_law_other"] []
  F_asked : Fun K "_law_asked" "_law_asked" s_asked A.a_asked A.d_asked
  g_asked : mg "_law_asked" = some (.ref A.a_asked)
  b_asked : Binds K A.d_asked ["_law_one", "_law_other"] []
  F_least : Fun K "_law_least" "_law_least" s_least A.a_least A.d_least
  g_least : mg "_law_least" = some (.ref A.a_least)
  b_least : Binds K A.d_least ["_law_one", "_law_other"] []
  F_law : Fun K "law" "law" s_law A.a_law A.d_law
  g_law : mg "law" = some (.ref A.a_law)
  b_law : Binds K A.d_law ["_law_script"] []
  gC_RunsError : mg "RunsError" = some (.ref A.c_RunsError)
  gC_NoRow : mg "NoRow" = some (.ref A.c_NoRow)
  o_NoRow : OexC K A.c_NoRow
  i_NoRow : PySem.W.findIn K (.ref A.c_NoRow) "__init__" = some (some (.ref A.a_NoRow_init))
  t_NoRow : PySem.W.typeIn K (.ref A.a_NoRow_init) = some (.type "function")
  x_NoRow : ExcC K A.c_NoRow
  gC_TooLarge : mg "TooLarge" = some (.ref A.c_TooLarge)
  o_TooLarge : OexC K A.c_TooLarge
  i_TooLarge : PySem.W.findIn K (.ref A.c_TooLarge) "__init__" = some (some (.ref A.a_TooLarge_init))
  t_TooLarge : PySem.W.typeIn K (.ref A.a_TooLarge_init) = some (.type "function")
  x_TooLarge : ExcC K A.c_TooLarge
  gC_OtherDeeds : mg "OtherDeeds" = some (.ref A.c_OtherDeeds)
  o_OtherDeeds : OexC K A.c_OtherDeeds
  i_OtherDeeds : PySem.W.findIn K (.ref A.c_OtherDeeds) "__init__" = some (some (.ref A.a_OtherDeeds_init))
  t_OtherDeeds : PySem.W.typeIn K (.ref A.a_OtherDeeds_init) = some (.type "function")
  x_OtherDeeds : ExcC K A.c_OtherDeeds
  gC_BadWorld : mg "BadWorld" = some (.ref A.c_BadWorld)
  o_BadWorld : OexC K A.c_BadWorld
  i_BadWorld : PySem.W.findIn K (.ref A.c_BadWorld) "__init__" = some (some (.ref A.a_BadWorld_init))
  t_BadWorld : PySem.W.typeIn K (.ref A.a_BadWorld_init) = some (.type "function")
  x_BadWorld : ExcC K A.c_BadWorld
  gC_NoStanding : mg "NoStanding" = some (.ref A.c_NoStanding)
  o_NoStanding : OexC K A.c_NoStanding
  i_NoStanding : PySem.W.findIn K (.ref A.c_NoStanding) "__init__" = some (some (.ref A.a_NoStanding_init))
  t_NoStanding : PySem.W.typeIn K (.ref A.a_NoStanding_init) = some (.type "function")
  x_NoStanding : ExcC K A.c_NoStanding
  gC_World : mg "World" = some (.ref A.c_World)
  M_World : Mk K A.c_World A.a_World_init
  cl_World : Cls K A.c_World
  in_World : C8.InsC K A.c_World
  nF_World_deeds : NoAttr K A.c_World "deeds"
  nF_World_size : NoAttr K A.c_World "size"
  nF_World__moves : NoAttr K A.c_World "_moves"
  eqs_World : PySem.W.findIn K (.ref A.c_World) "__eq__" = some (some (.ref A.a_World__eq_))
  eqf_World : PySem.W.isFn K (.ref A.a_World__eq_) = true
  eqn_World : PySem.W.findIn K (.ref A.c_World) "__ne__" = some (some (.builtin "object.__ne__"))
  pr_World_moves : PropOf K A.c_World "moves" A.p_World_moves A.a_World_moves
  m_lcm : mg "lcm" = some (.builtin "math.lcm")
  m_ValueError : mg "ValueError" = none
  m_abs : mg "abs" = none
  m_all : mg "all" = none
  m_bool : mg "bool" = none
  m_dict : mg "dict" = none
  m_enumerate : mg "enumerate" = none
  m_int : mg "int" = none
  m_isinstance : mg "isinstance" = none
  m_len : mg "len" = none
  m_list : mg "list" = none
  m_range : mg "range" = none
  m_sorted : mg "sorted" = none
  m_str : mg "str" = none
  m_sum : mg "sum" = none
  m_tuple : mg "tuple" = none
  m_zip : mg "zip" = none
  c_MOST_STANDINGS : mg "MOST_STANDINGS" = some A.v_MOST_STANDINGS
  r_MOST_STANDINGS : L2.RelV (V.int (24)) A.v_MOST_STANDINGS
  c_MOST_BESIDE : mg "MOST_BESIDE" = some A.v_MOST_BESIDE
  r_MOST_BESIDE : L2.RelV (V.int (2000)) A.v_MOST_BESIDE
  xn_TooLarge_most : PySem.W.findIn K (.ref A.c_TooLarge) "most" = some none
  xn_BadWorld_part : PySem.W.findIn K (.ref A.c_BadWorld) "part" = some none
  e_BadWorld_OtherDeeds : PySem.W.exmOne K (.ref A.c_BadWorld) (.ref A.c_OtherDeeds) = some false
  e_BadWorld_TooLarge : PySem.W.exmOne K (.ref A.c_BadWorld) (.ref A.c_TooLarge) = some false
  e_NoRow_OtherDeeds : PySem.W.exmOne K (.ref A.c_NoRow) (.ref A.c_OtherDeeds) = some false
  e_NoRow_TooLarge : PySem.W.exmOne K (.ref A.c_NoRow) (.ref A.c_TooLarge) = some false
  e_NoStanding_OtherDeeds : PySem.W.exmOne K (.ref A.c_NoStanding) (.ref A.c_OtherDeeds) = some false
  e_NoStanding_TooLarge : PySem.W.exmOne K (.ref A.c_NoStanding) (.ref A.c_TooLarge) = some false
  e_OtherDeeds_OtherDeeds : PySem.W.exmOne K (.ref A.c_OtherDeeds) (.ref A.c_OtherDeeds) = some true
  e_OtherDeeds_TooLarge : PySem.W.exmOne K (.ref A.c_OtherDeeds) (.ref A.c_TooLarge) = some false
  e_TooLarge_OtherDeeds : PySem.W.exmOne K (.ref A.c_TooLarge) (.ref A.c_OtherDeeds) = some false
  e_TooLarge_TooLarge : PySem.W.exmOne K (.ref A.c_TooLarge) (.ref A.c_TooLarge) = some true
section
variable {P : Program} {w : World} {K : PySem.W.Frag} {mg : Str → Option Value} {base : Heap} {A : Ad}
local macro_rules | `(tactic| walk_at "lk") => `(tactic| first | assumption | exact upd_same | exact upd_old (by walk_at "lk") (by assumption) | exact upd_oth (by walk_at "lk") (by assumption))
local macro_rules | `(tactic| walk_at "sq") => `(tactic| first | assumption | exact SqL.of (by walk_at "lk"))
local macro_rules | `(tactic| walk_at "v") => `(tactic| refine ⟨_, rfl, ?_⟩)
local macro_rules | `(tactic| walk_at "ii") => `(tactic| refine ⟨_, _, rfl, rfl, ?_⟩)
local macro_rules | `(tactic| walk_at "ix") => `(tactic| refine ⟨_, _, _, _, rfl, rfl, (by walk_at "sq"), (by rfl), ?_⟩)
local macro_rules | `(tactic| walk_at "set") => `(tactic| refine ⟨_, _, _, _, rfl, rfl, (by walk_at "lk"), (by rfl), ?_⟩)
local macro_rules | `(tactic| walk_at "int") => `(tactic| refine .inl ⟨_, rfl, ?_⟩)
local macro_rules | `(tactic| walk_at "len") => `(tactic| refine ⟨_, _, rfl, .inl (by walk_at "sq"), ?_⟩)
local macro_rules | `(tactic| walk_at "mul") => `(tactic| refine ⟨_, _, rfl, rfl, (show CMul _ _ from by first | exact .inr ⟨by decide, by decide⟩ | exact .inl ⟨by decide, by decide⟩ | exact .inl ⟨by omega, by omega⟩), ?_⟩)
local macro_rules | `(tactic| walk_at "mod") => `(tactic| refine ⟨_, _, rfl, rfl, (show (0 : Int) < _ from by first | decide | assumption), ?_⟩)
local macro_rules | `(tactic| walk_at "div") => `(tactic| refine ⟨_, _, rfl, rfl, (show CDivW _ _ from by first | exact ⟨by decide, by decide⟩ | exact ⟨by assumption, log_lt (by assumption) (by assumption)⟩), ?_⟩)
local macro_rules | `(tactic| walk_at "pow") => `(tactic| refine ⟨_, _, rfl, rfl, (show CPow _ _ from ⟨by decide, by decide, by decide⟩), ?_⟩)
local macro_rules | `(tactic| walk_at "go") => `(tactic| repeat (first | walk_at "ix" | walk_at "mul" | walk_at "mod" | walk_at "div" | walk_at "pow" | walk_at "ii" | walk_at "v" | walk_at "int" | walk_at "set" | walk_at "len"))
local macro_rules | `(tactic| walk_at "m0") => `(tactic| refine ⟨rfl, _, rfl, rfl, trivial, ?_⟩)
local macro_rules | `(tactic| walk_at "sz") => `(tactic| (simp only [List.length_cons, List.length_nil]; decide))
def spNo : Sp := fun _ _ _ _ => False
theorem ok_NoRow_init (T : Txt K mg A) : FnOk P w K mg base (CX P w) 1 A.a_NoRow_init A.d_NoRow_init ["self"] (spPass) := by
  refine T.F_NoRow_init.okX sc_NoRow_init (fun vs H Q E h => ?_) (fun cdv Ar outer s H vs Q E hr h => ?_)
  · obtain ⟨_, rfl, _⟩ := h
    rfl
  · obtain ⟨x, rfl, q⟩ := h
    exact ⟨_, (pss_one ps_pass), q⟩
theorem ok_NoStanding_init (T : Txt K mg A) : FnOk P w K mg base (CX P w) 1 A.a_NoStanding_init A.d_NoStanding_init ["self"] (spPass) := by
  refine T.F_NoStanding_init.okX sc_NoStanding_init (fun vs H Q E h => ?_) (fun cdv Ar outer s H vs Q E hr h => ?_)
  · obtain ⟨_, rfl, _⟩ := h
    rfl
  · obtain ⟨x, rfl, q⟩ := h
    exact ⟨_, (pss_one ps_pass), q⟩
theorem ok_BadWorld_init (T : Txt K mg A) : FnOk P w K mg base (CX P w) 1 A.a_BadWorld_init A.d_BadWorld_init ["self", "part"] (spNo) := by
  refine T.F_BadWorld_init.okX sc_BadWorld_init (fun vs H Q E h => ?_) (fun cdv Ar outer s H vs Q E hr h => ?_)
  · exact h.elim
  · exact h.elim
theorem ok_pot (T : Txt K mg A) : FnOk P w K mg base (CX P w) 1 A.a_pot A.d_pot ["_law_script"] (sp_pot K) := by
  refine T.F_pot.okX sc_pot (fun vs H Q E h => ?_) (fun cdv Ar outer s H vs Q E hr h => ?_)
  · obtain ⟨_, _, rfl, _⟩ := h
    rfl
  · obtain ⟨a, ns, rfl, hS, hz, q⟩ := h
    refine ⟨_, (pss_cons (ps_setLc (i := 1) (own := [("_law_cell", 4)]) (tt := tYes) rfl sc_pot.nd rfl rfl (sw_true rfl rfl rfl (by decide +kernel)) (piL (K := K) rfl (pe_slice (slL (K := K) rfl) (pv 0) po_none (po_some pe_int))) (blkOk_by (N := ["_law_script", "_law_cells", "_law_greats", "_law_smalls", "_law_cell"]) (sc := defScope s_pot) (by decide +kernel)) (fun _ _ _ _ _ => (pg_name (i := 4) sc_pot.nd rfl (Or.inl rfl))) (fun _ _ _ _ _ => pts_nil) (fun _ _ _ _ _ => (pe_callTy call_int1 (by rfl) T.m_int bt_int (pa_cons (pv 4) pa_nil))))
      (pss_cons (ps_setLc (i := 2) (own := [("_law_cell", 4)]) rfl sc_pot.nd rfl rfl (sw_true rfl rfl rfl (by decide +kernel)) (piL (K := K) rfl (pv 1)) (blkOk_by (N := ["_law_script", "_law_cells", "_law_greats", "_law_smalls", "_law_cell"]) (sc := defScope s_pot) (by decide +kernel)) (fun _ _ _ _ _ => (pg_name (i := 4) sc_pot.nd rfl (Or.inl rfl))) (fun _ _ _ _ _ => (pts_one (pt_cmpR op_ge (pe_callB call_abs (by rfl) T.m_abs bt_abs (pa_cons (pv 4) pa_nil)) (pe_op op_pow pe_int pe_int) (nomark _)))) (fun _ _ _ _ _ => (pe_callB call_abs (by rfl) T.m_abs bt_abs (pa_cons (pv 4) pa_nil))))
      (pss_cons (ps_set (i := 3) sc_pot.nd rfl (Or.inl rfl) (pe_op op_cat (pe_lc (own := [("_law_cell", 4)]) rfl sc_pot.nd (piL (K := K) rfl (pv 1)) (blkOk_by (N := ["_law_script", "_law_cells", "_law_greats", "_law_smalls", "_law_cell"]) (sc := defScope s_pot) (by decide +kernel)) (fun _ _ _ _ _ => (pg_name (i := 4) sc_pot.nd rfl (Or.inl rfl))) (fun _ _ _ _ _ => (pts_one (pt_cmpR op_lt (pe_callB call_abs (by rfl) T.m_abs bt_abs (pa_cons (pv 4) pa_nil)) (pe_op op_pow pe_int pe_int) (nomark _)))) (fun _ _ _ _ _ => (pe_op op_mod (pe_callTy call_int1 (by rfl) T.m_int bt_int (pa_cons (pv 4) pa_nil)) pe_int))) (pe_lst (pa_cons (pe_op op_add (pe_callB (clen (K := K) rfl) (by rfl) T.m_len bt_len (pa_cons (pv 1) pa_nil)) pe_int) pa_nil))))
      (pss_one (ps_ret (pe_lst (pa_cons (pv 2) (pa_cons (pv 3) (pa_cons pe_int (pa_cons (pe_op op_mod (pe_callTy call_int1 (by rfl) T.m_int bt_int (pa_cons (pe_callB (csum (K := K) rfl rfl) (by rfl) T.m_sum bt_sum (pa_cons (pv 3) pa_nil)) pa_nil)) pe_int) pa_nil)))))))))), ?_⟩
    walk_at "v"; walk_at "v"
    refine ⟨a, _, rfl, hS, fun p hp => ?_⟩
    have e63 : cutV (ns.map V.int) none (some 63) = ns.map V.int := by
      have := cutV_to (ns.map V.int) 63
      rw [List.take_of_length_le (by rw [List.length_map]; exact hz)] at this
      exact this
    rw [e63]
    refine ⟨p, rfl, ⟨_, SqL.of upd_same⟩, fun D hD => ?_⟩
    have npD : p ≠ D := ne_of_none upd_same hD
    refine lc_list (xs := ns.map V.int) (Pv := fun i H' => Same H H' ∧ H' p = some (.lst (ns.map V.int)) ∧ H' D = some (.lst ((ns.take i).map V.int))) ⟨(Same.new hp).trans (Same.new hD), upd_oth upd_same npD, upd_same⟩ (fun i H' _ z => SqL.of z.2.1) ?_ ?_
    · rintro i x H1 hx ⟨s1, h1, h2⟩
      obtain ⟨z, hz', rfl⟩ : ∃ z, ns[i]? = some z ∧ x = .int z := by
        rw [List.getElem?_map] at hx
        cases e : ns[i]? with
        | none => rw [e] at hx; cases hx
        | some z => rw [e] at hx; exact ⟨z, rfl, (Option.some.inj hx).symm⟩
      refine ⟨rfl, ?_⟩
      walk_at "v"; walk_at "int"
      have nD : H D = none := Same.free (Same.new hp) hD
      refine ⟨_, h2, ?_, Same.mut nD s1, upd_oth h1 npD, ?_⟩
      · rw [List.length_map, List.length_take]; exact Nat.lt_of_le_of_lt (by omega : _ ≤ 63) (by decide)
      · rw [upd_same, take_one hz', List.map_append]; rfl
    · rintro H1 ⟨s1, h1, h2⟩
      rw [List.length_map, List.take_length] at h2
      have nD : H D = none := Same.free (Same.new hp) hD
      clear h1
      -- the great ones
      walk_at "v"
      refine ⟨D, rfl, ⟨_, SqL.of h2⟩, fun g hg => ?_⟩
      have nDg : D ≠ g := ne_of_none h2 hg
      have ng : H g = none := Same.free s1 hg
      refine lc_list (xs := ns.map V.int) (Pv := fun i H' => Same H H' ∧ H' D = some (.lst (ns.map V.int)) ∧ ∃ gs : List Int, H' g = some (.lst (gs.map V.int)) ∧ gs.length ≤ i ∧ ∀ z ∈ gs, 0 ≤ z) ⟨s1.trans (Same.new hg), upd_oth h2 nDg, [], upd_same, Nat.le_refl _, all_n⟩ (fun i H' _ z => SqL.of z.2.1) ?_ ?_
      · rintro i x H2 hx ⟨s2, h3, gs, h4, gl, gp⟩
        obtain ⟨z, hz', rfl⟩ : ∃ z, ns[i]? = some z ∧ x = .int z := by
          rw [List.getElem?_map] at hx
          cases e : ns[i]? with
          | none => rw [e] at hx; cases hx
          | some z => rw [e] at hx; exact ⟨z, rfl, (Option.some.inj hx).symm⟩
        have il : i < ns.length := by
          rcases Nat.lt_or_ge i ns.length with k | k
          · exact k
          · rw [List.getElem?_eq_none k] at hz'; cases hz'
        refine ⟨rfl, ?_⟩
        walk_at "go"
        refine iteB (fun _ => ?_) (fun _ => ?_)
        · walk_at "go"
          refine ⟨_, h4, ?_, Same.mut ng s2, upd_oth h3 nDg, gs ++ [if z < 0 then -z else z], ?_, ?_, ?_⟩
          · rw [List.length_map]; exact Nat.lt_of_le_of_lt (by omega : _ ≤ 63) (by decide)
          · rw [upd_same, List.map_append]; rfl
          · rw [List.length_append, List.length_singleton]; omega
          · intro y hy
            rcases List.mem_append.mp hy with k | k
            · exact gp y k
            · rw [List.mem_singleton.mp k]; split <;> omega
        · exact ⟨s2, h3, gs, h4, by omega, gp⟩
      · rintro H2 ⟨s2, h3, gs, h4, gl, gp⟩
        -- the small ones
        walk_at "v"
        refine ⟨D, rfl, ⟨_, SqL.of h3⟩, fun c hc => ?_⟩
        have nDc : D ≠ c := ne_of_none h3 hc
        have ngc : g ≠ c := ne_of_none h4 hc
        have nc : H c = none := Same.free s2 hc
        refine lc_list (xs := ns.map V.int) (Pv := fun i H' => Same H H' ∧ H' D = some (.lst (ns.map V.int)) ∧ H' g = some (.lst (gs.map V.int)) ∧ ∃ ss : List Int, H' c = some (.lst (ss.map V.int)) ∧ ss.length ≤ i ∧ ∀ z ∈ ss, 0 ≤ z) ⟨s2.trans (Same.new hc), upd_oth h3 nDc, upd_oth h4 ngc, [], upd_same, Nat.le_refl _, all_n⟩ (fun i H' _ z => SqL.of z.2.1) ?_ ?_
        · rintro i x H3 hx ⟨s3, h5, h6, ss, h7, sl, sp⟩
          obtain ⟨z, hz', rfl⟩ : ∃ z, ns[i]? = some z ∧ x = .int z := by
            rw [List.getElem?_map] at hx
            cases e : ns[i]? with
            | none => rw [e] at hx; cases hx
            | some z => rw [e] at hx; exact ⟨z, rfl, (Option.some.inj hx).symm⟩
          have il : i < ns.length := by
            rcases Nat.lt_or_ge i ns.length with k | k
            · exact k
            · rw [List.getElem?_eq_none k] at hz'; cases hz'
          refine ⟨rfl, ?_⟩
          walk_at "go"
          refine iteB (fun _ => ?_) (fun _ => ?_)
          · walk_at "v"; walk_at "int"; walk_at "mod"
            refine ⟨_, h7, ?_, Same.mut nc s3, upd_oth h5 nDc, upd_oth h6 ngc, ss ++ [z % 1000000007], ?_, ?_, ?_⟩
            · rw [List.length_map]; exact Nat.lt_of_le_of_lt (by omega : _ ≤ 63) (by decide)
            · rw [upd_same, List.map_append]; rfl
            · rw [List.length_append, List.length_singleton]; omega
            · intro y hy
              rcases List.mem_append.mp hy with k | k
              · exact sp y k
              · rw [List.mem_singleton.mp k]; exact Int.emod_nonneg _ (by decide)
          · exact ⟨s3, h5, h6, ss, h7, by omega, sp⟩
        · rintro H3 ⟨s3, h5, h6, ss, h7, sl, sp⟩
          rw [List.length_map] at sl
          walk_at "v"
          refine ⟨D, _, rfl, .inl (SqL.of h5), ?_⟩
          walk_at "ii"
          refine ⟨by walk_at "sz", fun e he => ?_⟩
          refine ⟨_, _, _, _, rfl, rfl, upd_old h7 he, upd_same, ?_, fun c2 hc2 => ?_⟩
          · rw [List.length_map]; exact Nat.le_trans (by simp; omega : _ ≤ 100) (by decide)
          rw [List.length_map] at hc2 ⊢
          have e7 : (ss.map V.int ++ [V.int ((ns.length : Nat) + 1)]) = (ss ++ [((ns.length : Nat) : Int) + 1]).map V.int := by rw [List.map_append]; rfl
          rw [e7]
          generalize e8 : upd (upd H3 e _) c2 _ = H4
          have s5 : Same H3 H4 := by rw [← e8]; exact (Same.new he).trans (Same.new hc2)
          have h8 : H4 c2 = some (.lst ((ss ++ [((ns.length : Nat) : Int) + 1]).map V.int)) := by rw [← e8]; exact upd_same
          clear e8
          have h9 := s5 _ _ h6
          walk_at "v"; walk_at "v"; walk_at "v"
          refine ⟨c2, _, rfl, SqL.of h8, ?_⟩
          walk_at "int"; walk_at "mod"
          refine ⟨by walk_at "sz", fun h hh => ?_⟩
          have ngc2 : g ≠ c2 := ne_of_none (upd_old h6 he) hc2
          refine q h g _ (s3.trans (s5.trans (Same.new hh))) ⟨c2, gs, _, 0, _, upd_same, upd_old h9 hh, upd_old h8 hh, ?_, ?_, by decide, gp, ?_, ?_, ne_of_none h9 hh, ne_of_none h8 hh, ngc2.symm⟩ (Same.free (s3.trans s5) hh) ng
          · simp
          · rw [List.length_append, List.length_singleton]; omega
          · intro y hy
            rcases List.mem_append.mp hy with k | k
            · exact sp y k
            · rw [List.mem_singleton.mp k]; omega
          · exact Int.emod_nonneg _ (by decide)
theorem ok_draw (T : Txt K mg A) : FnOk P w K mg base (CX P w) 1 A.a_draw A.d_draw ["_law_pot_here", "_law_many"] (sp_pdraw) := by
  refine T.F_draw.okX sc_draw (fun vs H Q E h => ?_) (fun cdv Ar outer s H vs Q E hr h => ?_)
  · obtain ⟨_, _, _, rfl, _⟩ := h
    rfl
  · obtain ⟨h, g, n, rfl, ⟨s, gs, ss, t, k, hh, hg, hs, s0, sz, t0, gp, sp, k0, ngh, nsh, nsg⟩, n0, n1, q⟩ := h
    refine ⟨_, (pss_cons (ps_set (i := 2) sc_draw.nd rfl (Or.inl rfl) (pe_ix (ixL (K := K) rfl) (pv 0) pe_int (fun _ _ => rfl)))
      (pss_cons (ps_asg (pe_op op_add (pv 2) pe_int) (pg_sub (pv 0) pe_int set_list))
      (pss_cons (ps_if (pt_cmpR op_gt (pe_callB (clen (K := K) rfl) (by rfl) T.m_len bt_len (pa_cons (pe_ix (ixL (K := K) rfl) (pv 0) pe_int (fun _ _ => rfl)) pa_nil)) pe_int (nomark _)) (pss_cons (ps_set (i := 3) sc_draw.nd rfl (Or.inl rfl) (pe_ix (ixL (K := K) rfl) (pe_ix (ixL (K := K) rfl) (pv 0) pe_int (fun _ _ => rfl)) pe_int (fun _ _ => rfl)))
      (pss_cons (ps_asg (pe_op op_fdivW (pv 3) (pv 1)) (pg_sub (pe_ix (ixL (K := K) rfl) (pv 0) pe_int (fun _ _ => rfl)) pe_int set_list))
      (C8.pss_cut (ps_if (pt_cmpR op_lt (pv 3) (pv 1) (nomark _)) (pss_one (ps_expr (pbm (K := K) rfl PySem.F.plainAttrs_list PySem.F.slot_list_pop PySem.F.type_list_pop mt_popAt (pe_ix (ixL (K := K) rfl) (pv 0) pe_int (fun _ _ => rfl)) (pa_cons pe_int pa_nil)))) pss_nil)
      (pss_one (ps_ret (pe_op op_mod (pe_callTy call_int1 (by rfl) T.m_int bt_int (pa_cons (pv 3) pa_nil)) (pv 1))))))) pss_nil)
      (pss_cons (ps_set (i := 4) sc_draw.nd rfl (Or.inl rfl) (pe_op op_add (pe_op op_add (pe_op op_mul (pe_ix (ixL (K := K) rfl) (pe_ix (ixL (K := K) rfl) (pv 0) pe_int (fun _ _ => rfl)) (pe_op op_mod (pe_callTy call_int1 (by rfl) T.m_int bt_int (pa_cons (pv 2) pa_nil)) (pe_callB (clen (K := K) rfl) (by rfl) T.m_len bt_len (pa_cons (pe_ix (ixL (K := K) rfl) (pv 0) pe_int (fun _ _ => rfl)) pa_nil))) (fun _ _ => rfl)) pe_int) (pe_op op_mul pe_int (pv 2))) (pe_op op_mul (pe_ix (ixL (K := K) rfl) (pv 0) pe_int (fun _ _ => rfl)) pe_int)))
      (pss_cons (ps_set (i := 3) sc_draw.nd rfl (Or.inl rfl) (pe_op op_mod (pe_callTy call_int1 (by rfl) T.m_int bt_int (pa_cons (pe_op op_add (pe_op op_mul (pv 4) pe_int) pe_int) pa_nil)) pe_int))
      (pss_cons (ps_set (i := 3) sc_draw.nd rfl (Or.inl rfl) (pe_op op_mod (pe_callTy call_int1 (by rfl) T.m_int bt_int (pa_cons (pe_op op_mul (pv 3) (pe_op op_add (pe_op op_fdivW (pv 3) pe_int) pe_int)) pa_nil)) pe_int))
      (pss_cons (ps_set (i := 3) sc_draw.nd rfl (Or.inl rfl) (pe_op op_mod (pe_callTy call_int1 (by rfl) T.m_int bt_int (pa_cons (pe_op op_add (pe_op op_mul (pv 3) (pe_op op_add (pe_op op_fdivW (pv 3) pe_int) pe_int)) (pv 2)) pa_nil)) pe_int))
      (pss_one (ps_ret (pe_op op_mod (pe_callTy call_int1 (by rfl) T.m_int bt_int (pa_cons (pe_op op_fdivW (pv 3) pe_int) pa_nil)) (pv 1))))))))))), ?_⟩
    walk_at "v"; walk_at "ix"; walk_at "v"; walk_at "ii"; walk_at "v"; walk_at "set"
    generalize e1 : upd H h _ = H1
    have h1 : H1 h = some (.lst [.ref g, .ref s, .int (t + 1), .int k]) := by rw [← e1]; exact upd_same
    have g1 : H1 g = some (.lst (gs.map V.int)) := by rw [← e1]; exact upd_oth hg ngh
    have s1 : H1 s = some (.lst (ss.map V.int)) := by rw [← e1]; exact upd_oth hs nsh
    have b1 : BG h g H H1 := by rw [← e1]; exact (BG.refl _ _ _).s1
    clear e1
    walk_at "v"
    refine ⟨_, _, _, _, rfl, rfl, SqL.of h1, rfl, ?_⟩
    refine ⟨g, _, rfl, .inl (SqL.of g1), ?_⟩
    walk_at "ii"; walk_at "v"
    refine iteB (fun e => ?_) (fun e => ?_)
    · have pos := of_decide_eq_true e
      rw [List.length_map] at pos
      cases gs with
      | nil => simp at pos
      | cons z gs =>
        have zp : 0 ≤ z := gp z List.mem_cons_self
        walk_at "v"
        refine ⟨_, _, _, _, rfl, rfl, SqL.of h1, rfl, ?_⟩
        refine ⟨_, _, _, .int z, rfl, rfl, SqL.of g1, atI_int (j := 0) rfl rfl, ?_⟩
        walk_at "v"; walk_at "v"; walk_at "div"; walk_at "v"
        refine ⟨_, _, _, _, rfl, rfl, SqL.of h1, rfl, ?_⟩
        refine ⟨g, _, _, 0, rfl, rfl, g1, by simp [ixN], ?_⟩
        generalize e2 : upd H1 g _ = H2
        have h2 : H2 h = some (.lst [.ref g, .ref s, .int (t + 1), .int k]) := by rw [← e2]; exact upd_oth h1 ngh.symm
        have g2 : H2 g = some (.lst ((z / n :: gs).map V.int)) := by rw [← e2]; exact upd_same
        have s2 : H2 s = some (.lst (ss.map V.int)) := by rw [← e2]; exact upd_oth s1 nsg
        have b2 : BG h g H H2 := by rw [← e2]; exact b1.s2
        clear e2
        have gp' : ∀ y ∈ gs, 0 ≤ y := fun y hy => gp y (List.mem_cons_of_mem _ hy)
        refine ⟨fun σ' H' => σ' = [some (.ref h), some (.int n), some (.int t), some (.int z), none] ∧ PG2 h g H H', ?_, ?_⟩
        · walk_at "v"; walk_at "v"; walk_at "ii"; walk_at "v"
          refine iteB (fun _ => ?_) (fun _ => ?_)
          · walk_at "v"
            refine ⟨_, _, _, _, rfl, rfl, SqL.of h2, rfl, ?_⟩
            refine ⟨.inl ⟨rfl, _, SqL.of g2⟩, ?_⟩
            refine ⟨g, _, 0, 0, _, rfl, rfl, g2, by decide, by decide, by simp [seqIndex?], rfl, ?_⟩
            exact ⟨rfl, b2.s2, ⟨s, gs, ss, t + 1, k, upd_oth h2 ngh.symm, upd_same, upd_oth s2 nsg, s0, sz, by omega, gp', sp, k0, ngh, nsh, nsg⟩, fun s' z e => by rw [hh] at e; cases e; exact ⟨_, upd_oth h2 ngh.symm⟩⟩
          · exact ⟨rfl, b2, ⟨s, z / n :: gs, ss, t + 1, k, h2, g2, s2, s0, sz, by omega, all_c (div_in n0 zp) gp', sp, k0, ngh, nsh, nsg⟩, fun s' z e => by rw [hh] at e; cases e; exact ⟨_, h2⟩⟩
        · rintro σ' H3 ⟨rfl, b3⟩
          walk_at "v"; walk_at "int"; walk_at "v"; walk_at "mod"
          exact q _ _ (mod_in n0).1 (mod_in n0).2 b3
    · walk_at "v"
      refine ⟨_, _, _, _, rfl, rfl, SqL.of h1, rfl, ?_⟩
      walk_at "v"; walk_at "int"; walk_at "v"
      refine ⟨_, _, _, _, rfl, rfl, SqL.of h1, rfl, ?_⟩
      refine ⟨s, _, rfl, .inl (SqL.of s1), ?_⟩
      rw [List.length_map]
      have spos : (0 : Int) < (ss.length : Nat) := by have := List.length_pos_iff.mpr s0; omega
      walk_at "mod"
      obtain ⟨j, ej⟩ : ∃ j : Nat, t % (ss.length : Nat) = j := ⟨(t % (ss.length : Nat)).toNat, by have := (mod_in (a := t) spos).1; omega⟩
      have jl : j < ss.length := by have := (mod_in (a := t) spos).2; omega
      refine ⟨s, _, _, .int ss[j], rfl, rfl, SqL.of s1, ?_, ?_⟩
      · rw [ej]; exact atI_int rfl (by rw [List.getElem?_map, List.getElem?_eq_getElem jl]; rfl)
      walk_at "mul"
      walk_at "v"; walk_at "mul"; walk_at "ii"; walk_at "v"
      refine ⟨_, _, _, _, rfl, rfl, SqL.of h1, rfl, ?_⟩
      walk_at "mul"; walk_at "ii"
      walk_at "v"; walk_at "mul"; walk_at "ii"; walk_at "int"; walk_at "mod"
      dsimp only
      have a0 := mod_in (a := (ss[j] * 7919 + 104729 * t + k * 31) * 48271 + 11) (n := 2147483647) (by decide)
      generalize ((ss[j] * 7919 + 104729 * t + k * 31) * 48271 + 11) % 2147483647 = a at a0
      walk_at "v"; walk_at "v"
      refine ⟨_, _, rfl, rfl, (show CDivW _ _ from ⟨by decide, by decide⟩), ?_⟩
      walk_at "ii"
      refine ⟨_, _, rfl, rfl, (show CMul _ _ from .inl ⟨by omega, by omega⟩), ?_⟩
      walk_at "int"; walk_at "mod"
      dsimp only
      have c0 := mod_in (a := a * (a / 1009 + 69621)) (n := 2147483629) (by decide)
      generalize a * (a / 1009 + 69621) % 2147483629 = b at c0
      walk_at "v"; walk_at "v"
      refine ⟨_, _, rfl, rfl, (show CDivW _ _ from ⟨by decide, by decide⟩), ?_⟩
      walk_at "ii"
      refine ⟨_, _, rfl, rfl, (show CMul _ _ from .inl ⟨by omega, by omega⟩), ?_⟩
      walk_at "v"; walk_at "ii"; walk_at "int"; walk_at "mod"
      dsimp only
      generalize (b * (b / 2003 + 40692) + t) % 2147483399 = f
      walk_at "v"
      refine ⟨_, _, rfl, rfl, (show CDivW _ _ from ⟨by decide, by decide⟩), ?_⟩
      walk_at "int"; walk_at "v"; walk_at "mod"
      exact q _ _ (mod_in n0).1 (mod_in n0).2 ⟨b1, ⟨s, gs, ss, t + 1, k, h1, g1, s1, s0, sz, by omega, gp, sp, k0, ngh, nsh, nsg⟩, fun s' z e => by rw [hh] at e; cases e; exact ⟨_, h1⟩⟩
theorem ok_any (T : Txt K mg A) : FnOk P w K mg base (CX P w) 2 A.a_any A.d_any ["_law_pot_here", "_law_items"] (sp_pany K) := by
  refine T.F_any.okX sc_any (fun vs H Q E h => ?_) (fun cdv Ar outer s H vs Q E hr h => ?_)
  · obtain ⟨_, _, _, _, rfl, _⟩ := h
    rfl
  · obtain ⟨h, g, p, xs, rfl, hH, hx, ph, pg, x0, xz, q⟩ := h
    refine ⟨_, (pss_one (ps_ret (pe_ix (ixQ (K := K) rfl) (pv 1) (pe_call (ok_draw T) hr (by rfl) T.g_draw T.F_draw.kp T.b_draw .nil passF (pa_cons (pv 0) (pa_cons (pe_callB (clen (K := K) rfl) (by rfl) T.m_len bt_len (pa_cons (pv 1) pa_nil)) pa_nil))) (fun _ _ => rfl)))), ?_⟩
    walk_at "v"; walk_at "v"; walk_at "v"
    refine ⟨p, xs, rfl, hx, ?_⟩
    have lp : 0 < xs.length := List.length_pos_iff.mpr x0
    refine ⟨h, g, _, rfl, hH, by omega, by omega, fun d H1 d0 d1 g1 => ?_⟩
    obtain ⟨j, rfl⟩ : ∃ j : Nat, d = j := ⟨d.toNat, by omega⟩
    have jl : j < xs.length := by omega
    have hx1 : SqL K H1 p xs ∨ SqT K H1 p xs := hx.imp (g1.1.sqL ⟨ph, pg⟩) (g1.1.sqT ⟨ph, pg⟩)
    rcases hx1 with k | k
    · exact .inl ⟨p, _, _, _, rfl, rfl, k, atI_int rfl (List.getElem?_eq_getElem jl), q j _ H1 (List.getElem?_eq_getElem jl) g1⟩
    · exact .inr (.inl ⟨p, _, _, _, rfl, rfl, k, atI_int rfl (List.getElem?_eq_getElem jl), q j _ H1 (List.getElem?_eq_getElem jl) g1⟩)
theorem ok_deeds (T : Txt K mg A) : FnOk P w K mg base (CX P w) 2 A.a_deeds A.d_deeds ["_law_pot_here", "_law_most"] (sp_pdeeds) := by
  refine T.F_deeds.okX sc_deeds (fun vs H Q E h => ?_) (fun cdv Ar outer s H vs Q E hr h => ?_)
  · obtain ⟨_, _, _, rfl, _⟩ := h
    rfl
  · obtain ⟨h, g, n, rfl, hH, n1, n4, q⟩ := h
    refine ⟨_, (pss_cons (ps_set (i := 2) sc_deeds.nd rfl (Or.inl rfl) (pe_call (ok_draw T) hr (by rfl) T.g_draw T.F_draw.kp T.b_draw .nil passF (pa_cons (pv 0) (pa_cons pe_int pa_nil))))
      (pss_cons (ps_set (i := 3) sc_deeds.nd rfl (Or.inl rfl) (pe_ix ix_str pe_str (pv 2) (fun _ _ => rfl)))
      (pss_cons (ps_for (passes_of rfl) rfl (pi_range1 (by rfl) T.m_range (pa_cons (pe_call (ok_draw T) hr (by rfl) T.g_draw T.F_draw.kp T.b_draw .nil passF (pa_cons (pv 0) (pa_cons (pv 1) pa_nil))) pa_nil)) (pg_name (i := 4) sc_deeds.nd rfl (Or.inl rfl)) (pss_cons (ps_set (i := 2) sc_deeds.nd rfl (Or.inl rfl) (pe_op op_add (pe_op op_add (pv 2) pe_int) (pe_call (ok_draw T) hr (by rfl) T.g_draw T.F_draw.kp T.b_draw .nil passF (pa_cons (pv 0) (pa_cons pe_int pa_nil)))))
      (pss_one (ps_set (i := 3) sc_deeds.nd rfl (Or.inl rfl) (pe_op op_add_str (pv 3) (pe_ix ix_str pe_str (pv 2) (fun _ _ => rfl)))))))
      (pss_one (ps_ret (pv 3)))))), ?_⟩
    walk_at "v"
    refine ⟨h, g, 18, rfl, hH, by decide, by decide, fun d H1 d0 d1 g1 => ?_⟩
    obtain ⟨a, rfl⟩ : ∃ a : Nat, d = a := ⟨d.toNat, by omega⟩
    rw [alph_is]
    walk_at "v"
    refine ⟨_, _, 97 + a, rfl, rfl, by rw [S_len, alph_len]; decide, atI_int rfl (alph_at (by omega)), ?_⟩
    walk_at "v"; walk_at "v"
    refine ⟨h, g, n, rfl, g1.2.1, by omega, by omega, fun m0 H2 m00 m01 g2 => ?_⟩
    obtain ⟨m, rfl⟩ : ∃ m : Nat, m0 = m := ⟨m0.toNat, by omega⟩
    refine ⟨_, rfl, by omega, by omega, ?_⟩
    rw [show ((m : Nat) : Int).toNat = m by omega]
    refine for_range (n := m) (fun i σ' H' => ∃ (b : Nat) (d : List Nat) (y : Option V), σ' = [some (.ref h), some (.int n), some (.int (b : Nat)), some (.str (S d)), y] ∧ b ≤ 17 + 2 * i ∧ d.length = i + 1 ∧
      (∀ x ∈ d, 97 ≤ x ∧ x ≤ 97 + b) ∧ List.Pairwise (· < ·) d ∧ PG2 h g H H') ⟨a, [97 + a], none, rfl, by omega, rfl, fun x hx => by rw [List.mem_singleton.mp hx]; omega, List.pairwise_singleton _ _, g1.trans g2⟩ ?_ ?_
    · rintro i σ' H3 hi ⟨b, d, y, rfl, hb, dl, hd, hp, g3⟩
      walk_at "v"; walk_at "ii"; walk_at "v"
      refine ⟨h, g, 2, rfl, g3.2.1, by decide, by decide, fun e0 H4 e00 e01 g4 => ?_⟩
      obtain ⟨e, rfl⟩ : ∃ e : Nat, e0 = e := ⟨e0.toNat, by omega⟩
      walk_at "ii"
      have eb : (((b : Nat) : Int) + 1 + (e : Nat)) = ((b + 1 + e : Nat) : Int) := by omega
      dsimp only
      rw [eb]
      walk_at "v"; walk_at "v"
      refine ⟨_, _, 97 + (b + 1 + e), rfl, rfl, by rw [S_len, alph_len]; decide, atI_int rfl (alph_at (by omega)), ?_⟩
      refine ⟨_, _, rfl, rfl, ?_, ?_⟩
      · rw [S_len]; show d.length + 1 ≤ sizeLine; exact Nat.le_trans (by omega : _ ≤ 100) (by decide)
      rw [show ({ cps := #[97 + (b + 1 + e)] } : Str) = S [97 + (b + 1 + e)] from rfl, S_app]
      refine ⟨b + 1 + e, d ++ [97 + (b + 1 + e)], _, rfl, by omega, by rw [List.length_append, dl]; rfl, fun x hx => ?_, ?_, g3.trans g4⟩
      · rcases List.mem_append.mp hx with z | z
        · have := hd x z; omega
        · have := List.mem_singleton.mp z; omega
      · rw [List.pairwise_append]
        exact ⟨hp, List.pairwise_singleton _ _, fun x hx y hy => by have := hd x hx; have := List.mem_singleton.mp hy; omega⟩
    · rintro σ' H3 ⟨b, d, y, rfl, hb, dl, hd, hp, g3⟩
      walk_at "v"
      refine q d H3 ⟨⟨fun x hx => by have := hd x hx; omega, hp⟩, fun z => ?_, by omega⟩ (by omega) (fun c hc => by have := hd c hc; omega) g3
      rw [z] at dl
      cases dl
theorem ok_is_integer (T : Txt K mg A) : FnOk P w K mg base (CX P w) 1 A.a_is_integer A.d_is_integer ["thing"] (sp_isint K) := by
  refine T.F_is_integer.okX sc_is_integer (fun vs H Q E h => ?_) (fun cdv Ar outer s H vs Q E hr h => ?_)
  · obtain ⟨_, _, rfl, _⟩ := h
    rfl
  · obtain ⟨v, o, rfl, j, q⟩ := h
    refine ⟨_, (pss_one (ps_ret (pe_mid (pe_and (pe_callB (cisi (K := K) rfl) (by rfl) T.m_isinstance bt_isinstance (pa_cons (pv 0) (pa_cons (pe_bltn (v := .ty "int") (by rfl) T.m_int bt_int rfl) pa_nil))) (pe_one (pe_not (pe_callB (cisi (K := K) rfl) (by rfl) T.m_isinstance bt_isinstance (pa_cons (pv 0) (pa_cons (pe_bltn (v := .ty "bool") (by rfl) T.m_bool bt_bool rfl) pa_nil))))))))), ?_⟩
    refine ⟨fun v' H' => v' = .bl o.isSome ∧ H' = H, ?_, fun v' H' ⟨e1, e2⟩ => by subst e1 e2; exact q⟩
    walk_at "v"
    cases j with
    | int i =>
      refine ⟨_, _, _, _, _, rfl, .ty _, .base (.int i), kit_ty (r := true) (by decide +kernel), ?_⟩
      walk_at "v"; walk_at "v"
      refine ⟨_, _, _, _, _, rfl, .ty _, .base (.int i), kit_ty (r := false) (by decide +kernel), ?_⟩
      walk_at "v"
      exact ⟨rfl, rfl⟩
    | bl b =>
      refine ⟨_, _, _, _, _, rfl, .ty _, .base (.bl b), kit_ty (r := true) (by decide +kernel), ?_⟩
      walk_at "v"; walk_at "v"
      refine ⟨_, _, _, _, _, rfl, .ty _, .base (.bl b), kit_ty (r := true) (by decide +kernel), ?_⟩
      walk_at "v"
      exact ⟨rfl, rfl⟩
    | non ty k =>
      refine ⟨_, _, _, _, _, rfl, .ty _, ty, k, ?_⟩
      walk_at "v"
      exact ⟨rfl, rfl⟩
theorem ok_is_integer_within (T : Txt K mg A) : FnOk P w K mg base (CX P w) 2 A.a_is_integer_within A.d_is_integer_within ["thing", "least", "most"] (sp_within K) := by
  refine T.F_is_integer_within.okX sc_is_integer_within (fun vs H Q E h => ?_) (fun cdv Ar outer s H vs Q E hr h => ?_)
  · obtain ⟨_, _, _, _, rfl, _⟩ := h
    rfl
  · obtain ⟨v, o, a, b, rfl, j, q⟩ := h
    refine ⟨_, (pss_one (ps_ret (pe_mid (pe_and (pe_call (ok_is_integer T) hr (by rfl) T.g_is_integer T.F_is_integer.kp T.b_is_integer .nil passF (pa_cons (pv 0) pa_nil)) (pe_one (pe_chain op_le op_le (pv 1) (pv 0) (pv 2))))))), ?_⟩
    refine ⟨fun v' H' => v' = .bl (within o a b) ∧ H' = H, ?_, fun v' H' ⟨e1, e2⟩ => by subst e1 e2; exact q⟩
    walk_at "v"
    refine ⟨v, o, rfl, j, ?_⟩
    cases j with
    | int i =>
      walk_at "v"; walk_at "v"; walk_at "v"; walk_at "ii"; walk_at "v"
      refine iteB (fun e => ?_) (fun e => ?_)
      · walk_at "v"; walk_at "ii"
        exact ⟨by show V.bl (decide (i ≤ b)) = V.bl (decide (a ≤ i) && decide (i ≤ b)); rw [e, Bool.true_and], rfl⟩
      · exact ⟨by show V.bl false = V.bl (decide (a ≤ i) && decide (i ≤ b)); rw [e, Bool.false_and], rfl⟩
    | bl b => walk_at "v"; exact ⟨rfl, rfl⟩
    | non ty k => walk_at "v"; exact ⟨rfl, rfl⟩
def sp_is_row (K : PySem.W.Frag) : Sp := fun vs H Q _ => ∃ v b, vs = [v] ∧ RowJ K H v b ∧ Q (.bl b) H
theorem ok_is_row (T : Txt K mg A) : FnOk P w K mg base (CX P w) 1 A.a_is_row A.d_is_row ["thing"] (sp_is_row K) := by
  refine T.F_is_row.okX sc_is_row (fun vs H Q E h => ?_) (fun cdv Ar outer s H vs Q E hr h => ?_)
  · obtain ⟨_, _, rfl, _⟩ := h
    rfl
  · obtain ⟨v, b, rfl, j, q⟩ := h
    refine ⟨_, (pss_one (ps_ret (pe_mid (pe_and (pe_callB (cisi (K := K) rfl) (by rfl) T.m_isinstance bt_isinstance (pa_cons (pv 0) (pa_cons (pe_bltn (v := .ty "str") (by rfl) T.m_str bt_str rfl) pa_nil))) (pe_one (pe_mid (pe_or (pe_cmpR op_eq (pv 0) pe_str (nomark _)) (pe_one (pe_mid (pe_and (pbm0 (K := K) rfl PySem.F.plainAttrs_str PySem.F.slot_str_isascii PySem.F.type_str_isascii mt_isascii (pv 0)) (pe_one (pbm0 (K := K) rfl PySem.F.plainAttrs_str PySem.F.slot_str_isalpha PySem.F.type_str_isalpha mt_isalpha (pv 0))))))))))))), ?_⟩
    refine ⟨fun v' H' => v' = .bl b ∧ H' = H, ?_, fun v' H' ⟨e1, e2⟩ => by subst e1 e2; exact q⟩
    cases j with
    | non ty k =>
      walk_at "v"
      refine ⟨_, _, _, _, _, rfl, .ty _, ty, k, ?_⟩
      walk_at "v"
      exact ⟨rfl, rfl⟩
    | str l =>
      walk_at "v"
      refine ⟨_, _, _, _, _, rfl, .ty _, .base (.str _), kit_str, ?_⟩
      walk_at "v"
      refine iteT ?_
      refine ⟨fun v' H' => v' = .bl (decide (Ls l)) ∧ H' = H, ?_, fun v' H' z => z⟩
      walk_at "v"
      refine ⟨rfl, ?_⟩
      walk_at "v"
      rw [S_nil, dec_eq]
      refine iteB (fun e => ?_) (fun e => ?_)
      · have e1 := of_decide_eq_true e
        subst e1
        exact ⟨by rw [decide_eq_true nil_L], rfl⟩
      · have e1 : l ≠ [] := of_decide_eq_false e
        refine ⟨fun v' H' => v' = .bl (decide (Ls l)) ∧ H' = H, ?_, fun v' H' z => z⟩
        walk_at "v"; walk_at "m0"; walk_at "v"
        rw [asc_iff]
        refine iteB (fun e => ?_) (fun e => ?_)
        · walk_at "v"; walk_at "m0"
          rw [alpha_asc (of_decide_eq_true e), decide_eq_true e1, Bool.true_and]
          exact ⟨rfl, rfl⟩
        · refine ⟨?_, rfl⟩
          rw [decide_eq_false fun z : Ls l => of_decide_eq_false e z.asc]
def sp_small : Sp := fun vs H Q _ => ∃ d, vs = [.str (S d)] ∧ Dds d ∧ Q (.bl true) H
theorem ok_is_small_word (T : Txt K mg A) : FnOk P w K mg base (CX P w) 1 A.a_is_small_word A.d_is_small_word ["thing"] (sp_small) := by
  refine T.F_is_small_word.okX sc_is_small_word (fun vs H Q E h => ?_) (fun cdv Ar outer s H vs Q E hr h => ?_)
  · obtain ⟨_, rfl, _⟩ := h
    rfl
  · obtain ⟨d, rfl, hd, q⟩ := h
    refine ⟨_, (pss_one (ps_ret (pe_mid (pe_and (pe_callB (cisi (K := K) rfl) (by rfl) T.m_isinstance bt_isinstance (pa_cons (pv 0) (pa_cons (pe_bltn (v := .ty "str") (by rfl) T.m_str bt_str rfl) pa_nil))) (pe_and (pbm0 (K := K) rfl PySem.F.plainAttrs_str PySem.F.slot_str_isascii PySem.F.type_str_isascii mt_isascii (pv 0)) (pe_and (pbm0 (K := K) rfl PySem.F.plainAttrs_str PySem.F.slot_str_isalpha PySem.F.type_str_isalpha mt_isalpha (pv 0)) (pe_one (pbm0 (K := K) rfl PySem.F.plainAttrs_str PySem.F.slot_str_islower PySem.F.type_str_islower mt_islower (pv 0))))))))), ?_⟩
    refine ⟨fun v' H' => v' = .bl true ∧ H' = H, ?_, fun v' H' ⟨e1, e2⟩ => by subst e1 e2; exact q⟩
    walk_at "v"
    refine ⟨_, _, _, _, _, rfl, .ty _, .base (.str _), kit_str, ?_⟩
    walk_at "v"
    refine iteT ?_
    walk_at "v"; walk_at "m0"
    rw [asc_iff, decide_eq_true hd.de.L.asc]
    walk_at "v"
    refine iteT ?_
    walk_at "v"; walk_at "m0"
    rw [alpha_asc hd.de.L.asc, decide_eq_true hd.ne, decide_eq_true hd.de.L]
    walk_at "v"
    refine iteT ?_
    walk_at "v"; walk_at "m0"
    rw [islow_all hd.de.low hd.ne]
    exact ⟨rfl, rfl⟩
def sp_isdeeds : Sp := fun vs H Q _ => ∃ d, vs = [.str (S d)] ∧ Dds d ∧ ∀ H', Same H H' → Q (.bl true) H'
theorem ok_is_deeds (T : Txt K mg A) : FnOk P w K mg base (CX P w) 2 A.a_is_deeds A.d_is_deeds ["thing"] (sp_isdeeds) := by
  refine T.F_is_deeds.okX sc_is_deeds (fun vs H Q E h => ?_) (fun cdv Ar outer s H vs Q E hr h => ?_)
  · obtain ⟨_, rfl, _⟩ := h
    rfl
  · obtain ⟨d, rfl, hd, q⟩ := h
    refine ⟨_, (pss_cons (ps_if (pt_mid (PW.pt (pw_or (pt_not (pt_val (pe_call (ok_is_small_word T) hr (by rfl) T.g_is_small_word T.F_is_small_word.kp T.b_is_small_word .nil passF (pa_cons (pv 0) pa_nil)))) (pw_or1 (pt_cmpR op_gt (pe_callB clenS (by rfl) T.m_len bt_len (pa_cons (pv 0) pa_nil)) pe_int (nomark _)))))) (pss_one (ps_ret pe_bl)) pss_nil)
      (pss_one (ps_ret (pe_callB (call_ (K := K) rfl rfl) (by rfl) T.m_all bt_all (pa_cons (pe_lc (own := [("one", 1), ("two", 2)]) (tt := tYes) rfl sc_is_deeds.nd (pi_zipS (by rfl) T.m_zip (pa_cons (pv 0) (pa_cons (pe_slice sl_str (pv 0) (po_some pe_int) po_none) pa_nil))) (blkOk_by (N := ["thing", "one", "two"]) (sc := defScope s_is_deeds) (by decide +kernel)) (fun _ _ _ _ _ => (pgT (K := K) (n := 2) rfl rfl (pgs_cons (pg_name (i := 1) sc_is_deeds.nd rfl (Or.inl rfl)) (pgs_cons (pg_name (i := 2) sc_is_deeds.nd rfl (Or.inl rfl)) pgs_nil)))) (fun _ _ _ _ _ => pts_nil) (fun _ _ _ _ _ => (pe_cmpR op_lt_str (pv 1) (pv 2) (nomark _)))) pa_nil))))), ?_⟩
    have dz : (S d).length ≤ sizeLine := by rw [S_len]; exact Nat.le_trans hd.le (by decide)
    have dl := hd.le
    refine ⟨fun b H' => b = false ∧ H' = H, ?_, ?_⟩
    · walk_at "v"
      refine ⟨d, rfl, hd, ?_⟩
      walk_at "v"
      refine iteF ?_
      walk_at "v"
      refine ⟨_, rfl, dz, ?_⟩
      walk_at "ii"; walk_at "v"
      exact ⟨by rw [S_len]; exact decide_eq_false (by omega), rfl⟩
    · rintro b H' ⟨rfl, rfl⟩
      refine iteF ?_
      walk_at "v"; walk_at "v"; walk_at "v"
      refine ⟨_, rfl, dz, ?_⟩
      have ct : cutS (S d) (some 1) none = S (d.drop 1) := cut_from d 1
      rw [ct]
      refine ⟨_, _, rfl, fun D hD => ?_⟩
      refine lc_it (walk_zipS (n := d.length - 1) (by show _ = min (S d).length (S (d.drop 1)).length; rw [S_len, S_len, List.length_drop]; omega)) (fun i G => Same H' G ∧ G D = some (.lst (yes i))) ⟨Same.new hD, upd_same⟩ (fun _ _ _ _ => trivial) ?_ ?_
      · rintro i x G1 G2 hi ⟨s1, h1⟩ ⟨T, c, e, rfl, hT, rfl, hc, he⟩
        have hc' : d[i]? = some c := by simpa [S] using hc
        have he' : d[i + 1]? = some e := by
          have : (d.drop 1)[i]? = some e := by simpa [S] using he
          rw [List.getElem?_drop, Nat.add_comm] at this; exact this
        have lt : c < e := by
          obtain ⟨h1, e1⟩ := List.getElem?_eq_some_iff.mp hc'
          obtain ⟨h2, e2⟩ := List.getElem?_eq_some_iff.mp he'
          have := (List.pairwise_iff_getElem.mp hd.de.up) i (i + 1) h1 h2 (Nat.lt_succ_self i)
          omega
        refine ⟨T, _, rfl, SqT.of upd_same, rfl, ?_⟩
        refine ⟨_, _, rfl, ?_⟩
        refine ⟨_, _, rfl, ?_⟩
        refine ⟨rfl, rfl, ?_⟩
        walk_at "v"; walk_at "v"
        refine ⟨_, _, rfl, rfl, ?_⟩
        have nD : H' D = none := hD
        refine ⟨_, upd_old h1 hT, ?_, Same.mut nD (s1.trans (Same.new hT)), ?_⟩
        · rw [yes_len]; exact Nat.lt_of_le_of_lt (by omega : _ ≤ 100) (by decide)
        · rw [upd_same, ← yes_succ]
          have e1 : V.bl (decide ([c] < [e])) = V.bl true := by rw [decide_eq_true (lt_one lt)]
          show some (HO.lst (yes i ++ [V.bl (decide ([c] < [e]))])) = _
          rw [e1]
      · rintro G1 ⟨s1, h1⟩
        refine ⟨D, _, rfl, SqL.of h1, ?_⟩
        rw [all_rep]
        exact q G1 s1
theorem ok_is_row_over (T : Txt K mg A) : FnOk P w K mg base (CX P w) 2 A.a_is_row_over A.d_is_row_over ["deeds", "thing"] (sp_rowover K) := by
  refine T.F_is_row_over.okX sc_is_row_over (fun vs H Q E h => ?_) (fun cdv Ar outer s H vs Q E hr h => ?_)
  · obtain ⟨_, _, _, rfl, _⟩ := h
    rfl
  · obtain ⟨d, v, o, rfl, hd, j, q⟩ := h
    refine ⟨_, (pss_one (ps_ret (pe_mid (pe_and (pe_call (ok_is_row T) hr (by rfl) T.g_is_row T.F_is_row.kp T.b_is_row .nil passF (pa_cons (pv 1) pa_nil)) (pe_one (pe_callB (call_ (K := K) rfl rfl) (by rfl) T.m_all bt_all (pa_cons (pe_lc (own := [("letter", 2)]) (tt := tYes) rfl sc_is_row_over.nd (pi_str (pbm0 (K := K) rfl PySem.F.plainAttrs_str PySem.F.slot_str_lower PySem.F.type_str_lower mt_lower (pv 1))) (blkOk_by (N := ["deeds", "thing", "letter"]) (sc := defScope s_is_row_over) (by decide +kernel)) (fun _ _ _ _ _ => (pg_name (i := 2) sc_is_row_over.nd rfl (Or.inl rfl))) (fun _ _ _ _ _ => pts_nil) (fun _ _ _ _ _ => (pe_cmpR op_in_sign (pv 2) (pv 0) rfl))) pa_nil))))))), ?_⟩
    refine ⟨fun v' H' => v' = .bl o.isSome ∧ Same H H', ?_, fun v' H' ⟨e, s⟩ => by subst e; exact q H' s⟩
    have cse : (∃ l, v = .str (S l) ∧ Ls l ∧ l.length ≤ 100000 ∧ o.isSome = decide (OverD d l)) ∨ (RowJ K H v false ∧ o.isSome = false) := by
      cases j with
      | bad j => exact .inr ⟨j, rfl⟩
      | yes hl hz ov => exact .inl ⟨_, rfl, hl, hz, by rw [decide_eq_true ov]; rfl⟩
      | not hl hz ov => exact .inl ⟨_, rfl, hl, hz, by rw [decide_eq_false ov]; rfl⟩
    walk_at "v"
    rcases cse with ⟨l, rfl, hl, hz, eo⟩ | ⟨j, eo⟩
    · refine ⟨_, true, rfl, RowJ.row hl, ?_⟩
      walk_at "v"
      refine iteT ?_
      walk_at "v"
      refine ⟨rfl, _, rfl, rfl, by rw [S_len]; omega, ?_⟩
      rw [lo_asc hl.asc]
      refine ⟨_, rfl, fun D hD => ?_⟩
      refine lc_it (walk_str (z := S (l.map lo1))) (fun i G => Same H G ∧ G D = some (.lst (((l.take i).map fun c => decide (lo1 c ∈ d)).map V.bl))) ⟨Same.new hD, upd_same⟩ (fun _ _ _ _ => trivial) ?_ ?_
      · rintro i x G1 G2 hi ⟨s1, h1⟩ ⟨rfl, c, hc, rfl⟩
        have hc0 : (l.map lo1)[i]? = some c := by simpa [S] using hc
        rw [List.getElem?_map] at hc0
        obtain ⟨b, hb, rfl⟩ := Option.map_eq_some_iff.mp hc0
        refine ⟨rfl, ?_⟩
        walk_at "v"; walk_at "v"
        refine ⟨_, _, rfl, rfl, ?_⟩
        refine ⟨_, h1, ?_, Same.mut hD s1, ?_⟩
        · rw [List.length_map, List.length_map, List.length_take]; exact Nat.lt_of_le_of_lt (by omega : _ ≤ 100000) (by decide)
        · rw [upd_same, take_one hb, List.map_append, List.map_append]; rfl
      · rintro G1 ⟨s1, h1⟩
        rw [show (S (l.map lo1)).cps.size = l.length by show (S (l.map lo1)).length = _; rw [S_len, List.length_map], List.take_length] at h1
        refine ⟨D, _, rfl, SqL.of h1, ?_⟩
        refine ⟨?_, s1⟩
        rw [eo, List.all_map]
        congr 1
        by_cases ov : OverD d l
        · rw [decide_eq_true ov, List.all_eq_true]
          intro c hc
          exact decide_eq_true (ov c hc)
        · rw [decide_eq_false ov, List.all_eq_false]
          have : ∃ c, c ∈ l ∧ ¬ lo1 c ∈ d := by
            apply Classical.byContradiction
            intro no
            exact ov fun c hc => Classical.byContradiction fun k => no ⟨c, hc, k⟩
          obtain ⟨c, hc, nc⟩ := this
          exact ⟨c, hc, by simp [nc]⟩
    · refine ⟨v, false, rfl, j, ?_⟩
      walk_at "v"
      rw [eo]
      exact ⟨rfl, Same.refl _⟩
theorem ok_demand_row_over (T : Txt K mg A) : FnOk P w K mg base (CX P w) 3 A.a_demand_row_over A.d_demand_row_over ["deeds", "thing"] (sp_dover K A.c_NoRow) := by
  refine T.F_demand_row_over.okX sc_demand_row_over (fun vs H Q E h => ?_) (fun cdv Ar outer s H vs Q E hr h => ?_)
  · obtain ⟨_, _, _, rfl, _⟩ := h
    rfl
  · obtain ⟨d, v, o, rfl, hd, j, q1, q2⟩ := h
    refine ⟨_, (pss_one (ps_if (pt_not (pt_val (pe_call (ok_is_row_over T) hr (by rfl) T.g_is_row_over T.F_is_row_over.kp T.b_is_row_over .nil passF (pa_cons (pv 0) (pa_cons (pv 1) pa_nil))))) (pss_one (ps_raise rfl (takes_of rfl rfl rfl rfl) (pmk_oexZ T.o_NoRow T.i_NoRow T.t_NoRow (ok_NoRow_init T) (hr.mono (by decide)) T.b_NoRow_init passF (by rfl) T.gC_NoRow))) pss_nil)), ?_⟩
    walk_at "v"; walk_at "v"
    refine ⟨d, v, o, rfl, hd, j, fun H1 s1 => ?_⟩
    walk_at "v"
    cases o with
    | some l => exact q2 (fun z => nomatch z) H1 s1
    | none => exact q1 rfl H1 s1
def sp_still : Sp := fun vs H Q _ => ∃ n : Nat, vs = [.int n] ∧ n ≤ 100000 ∧ ∀ p H', Same H H' → H p = none → TP H' p (List.range n) → Q (.ref p) H'
theorem ok_standing_still (T : Txt K mg A) : FnOk P w K mg base (CX P w) 1 A.a_standing_still A.d_standing_still ["size"] (sp_still) := by
  refine T.F_standing_still.okX sc_standing_still (fun vs H Q E h => ?_) (fun cdv Ar outer s H vs Q E hr h => ?_)
  · obtain ⟨_, rfl, _⟩ := h
    rfl
  · obtain ⟨n, rfl, nz, q⟩ := h
    refine ⟨_, (pss_one (ps_ret (pe_tupRg rfl (by rfl) T.m_tuple (prg_1 (by rfl) T.m_range (pv 0))))), ?_⟩
    walk_at "v"
    refine ⟨_, rfl, RgOk.of_le (by decide) (by omega) (by decide) (by omega), fun p hp => ?_⟩
    rw [rg_mv]
    exact q p _ (Same.new hp) hp (TP.of upd_same)
def sp_followed : Sp := fun vs H Q _ => ∃ (a b : Addr) (m r : List Nat), vs = [.ref a, .ref b] ∧ TP H a m ∧ TP H b r ∧ m.length ≤ 100000 ∧ (∀ s, s < m.length → go1 m s < r.length) ∧
  ∀ p H', Same H H' → H p = none → TP H' p (fol m r) → Q (.ref p) H'
theorem ok_followed (T : Txt K mg A) : FnOk P w K mg base (CX P w) 1 A.a_followed A.d_followed ["one", "other"] (sp_followed) := by
  refine T.F_followed.okX sc_followed (fun vs H Q E h => ?_) (fun cdv Ar outer s H vs Q E hr h => ?_)
  · obtain ⟨_, _, _, _, rfl, _⟩ := h
    rfl
  · obtain ⟨a, b, m, r, rfl, ha, hb, mz, ml, q⟩ := h
    refine ⟨_, (pss_one (ps_ret (pe_callTy (ctuple (K := K) rfl) (by rfl) T.m_tuple bt_tuple (pa_cons (pe_lc (own := [("standing", 2)]) (tt := tYes) rfl sc_followed.nd (piT (K := K) rfl (pv 0)) (blkOk_by (N := ["one", "other", "standing"]) (sc := defScope s_followed) (by decide +kernel)) (fun _ _ _ _ _ => (pg_name (i := 2) sc_followed.nd rfl (Or.inl rfl))) (fun _ _ _ _ _ => pts_nil) (fun _ _ _ _ _ => (pe_ix (ixT (K := K) rfl) (pv 1) (pv 2) (fun _ _ => rfl)))) pa_nil)))), ?_⟩
    walk_at "v"
    refine ⟨a, rfl, ⟨_, ha.sq⟩, fun D hD => ?_⟩
    refine lc_it (walk_tup (xs := mv m)) (fun i G => Same H G ∧ G D = some (.lst (mv ((m.take i).map (go1 r))))) ⟨Same.new hD, upd_same⟩ (fun i G _ z => (ha.same z.1).sq) ?_ ?_
    · rintro i x G1 G2 hi ⟨s1, h1⟩ ⟨rfl, hx⟩
      rw [mv_len] at hi
      rw [mv_at hi] at hx
      cases hx
      refine ⟨rfl, ?_⟩
      walk_at "v"; walk_at "v"
      refine ⟨b, _, _, _, rfl, rfl, (hb.same s1).sq, atI_int rfl (mv_at (ml i hi)), ?_⟩
      refine ⟨_, h1, ?_, Same.mut hD s1, ?_⟩
      · rw [mv_len, List.length_map, List.length_take]; exact Nat.lt_of_le_of_lt (by omega : _ ≤ 100000) (by decide)
      · rw [upd_same, take_one (go1_at hi), List.map_append]
        unfold mv iv; rw [List.map_append, List.map_append]; rfl
    · rintro G1 ⟨s1, h1⟩
      rw [mv_len, List.take_length] at h1
      refine ⟨D, _, rfl, .inl ⟨SqL.of h1, fun t ht => ?_⟩⟩
      exact q t _ (s1.trans (Same.new ht)) (Same.free s1 ht) (TP.of upd_same)
def sp_turned : Sp := fun vs H Q _ => ∃ (a : Addr) (n : Nat) (m r : List Nat), vs = [.ref a] ∧ TP H a m ∧ Bk n m r ∧ n ≤ 100000 ∧ ∀ p H', Same H H' → H p = none → TP H' p r → Q (.ref p) H'
theorem ok_turned_back (T : Txt K mg A) : FnOk P w K mg base (CX P w) 1 A.a_turned_back A.d_turned_back ["move"] (sp_turned) := by
  refine T.F_turned_back.okX sc_turned_back (fun vs H Q E h => ?_) (fun cdv Ar outer s H vs Q E hr h => ?_)
  · obtain ⟨_, _, _, _, rfl, _⟩ := h
    rfl
  · obtain ⟨a, n, m, r, rfl, ha, bk, nz, q⟩ := h
    refine ⟨_, (pss_cons (ps_set (i := 1) sc_turned_back.nd rfl (Or.inl rfl) (pe_op op_rep (pe_lst (pa_cons pe_int pa_nil)) (pe_callB (clen (K := K) rfl) (by rfl) T.m_len bt_len (pa_cons (pv 0) pa_nil))))
      (pss_cons (ps_for (passes_of rfl) rfl (pi_enumT (K := K) rfl (by rfl) T.m_enumerate (pa_cons (pv 0) pa_nil)) (pgT (K := K) (n := 2) rfl rfl (pgs_cons (pg_name (i := 2) sc_turned_back.nd rfl (Or.inl rfl)) (pgs_cons (pg_name (i := 3) sc_turned_back.nd rfl (Or.inl rfl)) pgs_nil))) (pss_one (ps_asg (pv 2) (pg_sub (pv 1) (pv 3) set_list))))
      (pss_one (ps_ret (pe_callTy (ctuple (K := K) rfl) (by rfl) T.m_tuple bt_tuple (pa_cons (pv 1) pa_nil)))))), ?_⟩
    refine ⟨by walk_at "sz", fun e he => ?_⟩
    walk_at "v"
    refine ⟨a, _, rfl, .inr (ha.old he).sq, ?_⟩
    rw [mv_len, bk.lm]
    refine ⟨e, _, _, rfl, rfl, upd_same, by omega, by omega, ?_, fun z hz => ?_⟩
    · rw [show ((n : Nat) : Int).toNat = n by omega]; exact Nat.le_trans (by simp; omega : _ ≤ 100000) (by decide)
    rw [show ((n : Nat) : Int).toNat = n by omega, ← bkl_zero n r]
    have s0 : Same H (upd (upd H e (.lst [V.int 0])) z (.lst (mv (bkl n r 0)))) := (Same.new he).trans (Same.new hz)
    have nz2 : H z = none := Same.free (Same.new he) hz
    walk_at "v"
    refine ⟨a, _, rfl, (ha.same s0).sq, ?_⟩
    refine for_it (walk_enumT (ys := mv m)) (fun i σ' G => ∃ y2 y3 : Option V, σ' = [some (.ref a), some (.ref z), y2, y3] ∧ Same H G ∧ G z = some (.lst (mv (bkl n r i)))) ⟨none, none, rfl, s0, upd_same⟩ (fun i σ' G _ y => by obtain ⟨_, _, _, s, _⟩ := y; exact (ha.same s).sq) ?_ ?_
    · rintro i x σ' G1 G2 hi ⟨y2, y3, rfl, s1, h1⟩ ⟨T, u, v, rfl, hT, rfl, hu, hv⟩
      rw [mv_len] at hi
      have hi2 : i < n := by rw [← bk.lm]; exact hi
      dsimp only at hv hu
      rw [mv_at hi] at hv
      cases hv
      cases hu
      refine ⟨T, _, rfl, SqT.of upd_same, rfl, ?_⟩
      refine ⟨_, _, rfl, ?_⟩
      refine ⟨_, _, rfl, ?_⟩
      refine ⟨rfl, ?_⟩
      walk_at "v"; walk_at "v"; walk_at "v"
      refine ⟨z, _, _, go1 m i, rfl, rfl, upd_old h1 hT, by rw [mv_len, bkl_len]; exact ix_nat (bk.hm i hi2), ?_⟩
      rw [mv_set, bkl_set bk hi2]
      exact ⟨_, _, rfl, Same.mut nz2 (s1.trans (Same.new hT)), upd_same⟩
    · rintro σ' G1 ⟨y2, y3, rfl, s1, h1⟩
      rw [mv_len, bk.lm, bkl_all bk] at h1
      walk_at "v"
      refine ⟨z, _, rfl, .inl ⟨SqL.of h1, fun t ht => ?_⟩⟩
      exact q t _ (s1.trans (Same.new ht)) (Same.free s1 ht) (TP.of upd_same)
def sp_rounds : Sp := fun vs H Q _ => ∃ (a : Addr) (n : Nat) (m r : List Nat), vs = [.ref a] ∧ TP H a m ∧ Bk n m r ∧ n ≤ 1000 ∧
  ∀ (z : Addr) (chs : List (Addr × Nat)) (H' : Hp), Same H H' → H' z = some (.lst (chs.map fun q => .ref q.1)) → (∀ q ∈ chs, ∃ xs, H' q.1 = some (.lst xs) ∧ xs.length = q.2) → MV.Ord n m (lcmA (chs.map (·.2))) → (∀ p ∈ chs.map (·.2), ∃ s, s < n ∧ Rd1 m s p) → Q (.ref z) H'
theorem ok_rounds_of (T : Txt K mg A) : FnOk P w K mg base (CX P w) 1 A.a_rounds_of A.d_rounds_of ["move"] (sp_rounds) := by
  refine T.F_rounds_of.okX sc_rounds_of (fun vs H Q E h => ?_) (fun cdv Ar outer s H vs Q E hr h => ?_)
  · obtain ⟨_, _, _, _, rfl, _⟩ := h
    rfl
  · obtain ⟨a, n, m, r, rfl, ha, bk, nz, q⟩ := h
    refine ⟨_, (pss_cons (ps_set (i := 1) sc_rounds_of.nd rfl (Or.inl rfl) (pe_op op_rep (pe_lst (pa_cons pe_bl pa_nil)) (pe_callB (clen (K := K) rfl) (by rfl) T.m_len bt_len (pa_cons (pv 0) pa_nil))))
      (pss_cons (ps_set (i := 2) sc_rounds_of.nd rfl (Or.inl rfl) (pe_lst pa_nil))
      (pss_cons (ps_for (passes_of rfl) rfl (pi_range1 (by rfl) T.m_range (pa_cons (pe_callB (clen (K := K) rfl) (by rfl) T.m_len bt_len (pa_cons (pv 0) pa_nil)) pa_nil)) (pg_name (i := 3) sc_rounds_of.nd rfl (Or.inl rfl)) (pss_cons (ps_set (i := 4) sc_rounds_of.nd rfl (Or.inl rfl) (pe_lst pa_nil))
      (pss_cons (ps_set (i := 5) sc_rounds_of.nd rfl (Or.inl rfl) (pv 3))
      (pss_cons (ps_while (passes_of rfl) (pt_not (pt_val (pe_ix (ixL (K := K) rfl) (pv 1) (pv 5) (fun _ _ => rfl)))) (pss_cons (ps_asg pe_bl (pg_sub (pv 1) (pv 5) set_list))
      (pss_cons (ps_expr (pbm (K := K) rfl PySem.F.plainAttrs_list PySem.F.slot_list_append PySem.F.type_list_append mt_append (pv 4) (pa_cons (pv 5) pa_nil)))
      (pss_one (ps_set (i := 5) sc_rounds_of.nd rfl (Or.inl rfl) (pe_ix (ixT (K := K) rfl) (pv 0) (pv 5) (fun _ _ => rfl)))))))
      (pss_one (ps_if (ptru (K := K) rfl (pv 4) (by intro _; rfl)) (pss_one (ps_expr (pbm (K := K) rfl PySem.F.plainAttrs_list PySem.F.slot_list_append PySem.F.type_list_append mt_append (pv 2) (pa_cons (pv 4) pa_nil)))) pss_nil))))))
      (pss_one (ps_ret (pv 2)))))), ?_⟩
    refine ⟨by walk_at "sz", fun e he => ?_⟩
    walk_at "v"
    refine ⟨a, _, rfl, .inr (ha.old he).sq, ?_⟩
    rw [mv_len, bk.lm]
    refine ⟨e, _, _, rfl, rfl, upd_same, by omega, by omega, ?_, fun z hz => ?_⟩
    · rw [show ((n : Nat) : Int).toNat = n by omega]; exact Nat.le_trans (by simp; omega : _ ≤ 100000) (by decide)
    rw [show ((n : Nat) : Int).toNat = n by omega, bls0 n]
    refine ⟨Nat.zero_le _, fun fd hfd => ?_⟩
    generalize e0 : upd (upd (upd H e _) z _) fd _ = H0
    have s0 : Same H H0 := by rw [← e0]; exact ((Same.new he).trans (Same.new hz)).trans (Same.new hfd)
    have z0 : H0 z = some (.lst (bls n fun _ => false)) := by rw [← e0]; exact upd_old upd_same hfd
    have f0 : H0 fd = some (.lst ([] : List V)) := by rw [← e0]; exact upd_same
    have zn : H z = none := Same.free (Same.new he) hz
    have fn : H fd = none := Same.free ((Same.new he).trans (Same.new hz)) hfd
    have zf : z ≠ fd := ne_of_none upd_same hfd
    clear e0 hfd hz he
    walk_at "v"
    refine ⟨a, _, rfl, .inr (ha.same s0).sq, ?_⟩
    rw [mv_len, bk.lm]
    refine ⟨_, rfl, by omega, by omega, ?_⟩
    rw [show ((n : Nat) : Int).toNat = n by omega]
    refine for_range (n := n) (fun i σ' G => ∃ (y3 y4 y5 : Option V) (f : Nat → Bool) (chs : List (Addr × Nat)), σ' = [some (.ref a), some (.ref z), some (.ref fd), y3, y4, y5] ∧ Same H G ∧ G z = some (.lst (bls n f)) ∧ G fd = some (.lst (chs.map fun q => .ref q.1)) ∧
      (∀ q ∈ chs, q.1 ≠ z ∧ q.1 ≠ fd ∧ ∃ xs, G q.1 = some (.lst xs) ∧ xs.length = q.2) ∧ Cl n m f i (chs.map (·.2)) ∧ chs.length ≤ i) ⟨none, none, none, fun _ => false, [], rfl, s0, z0, f0, all_n, ⟨fun _ _ z => (nomatch z), fun _ _ z => (nomatch z), fun _ z => absurd z (Nat.not_lt_zero _), all_n, fun _ _ _ z => (nomatch z)⟩, Nat.le_refl _⟩ ?_ ?_
    · rintro i σ' G hi ⟨y3, y4, y5, f, chs, rfl, s1, h1, h2, h3, cl, cz⟩
      have ei : (0 + (i : Nat) : Int) = (i : Nat) := by omega
      rw [ei]
      refine ⟨Nat.zero_le _, fun c hc => ?_⟩
      have cnH : H c = none := Same.free s1 hc
      have cz2 : z ≠ c := ne_of_none h1 hc
      have cf : fd ≠ c := ne_of_none h2 hc
      walk_at "v"
      obtain ⟨p, hp⟩ : ∃ p, (f i = true ∧ p = 0) ∨ (f i = false ∧ Rd1 m i p ∧ p ≤ n) := by
        cases e : f i with
        | true => exact ⟨0, .inl ⟨rfl, rfl⟩⟩
        | false => obtain ⟨p, pn, x⟩ := rd1_some bk hi; exact ⟨p, .inr ⟨rfl, x, pn⟩⟩
      have pn : p ≤ n := by rcases hp with ⟨_, e⟩ | ⟨_, _, e⟩ <;> omega
      have stop : ∀ j f', Orb m i j f f' → j ≤ p → (f' (it m j i) = true ↔ j = p) := fun j f' o jp => by
        rcases hp with ⟨e, p0⟩ | ⟨e, x, _⟩
        · subst p0
          have j0 : j = 0 := by omega
          subst j0
          exact ⟨fun _ => rfl, fun _ => (o i).mpr (.inl e)⟩
        · exact orb_stop bk cl hi e x o jp
      refine ⟨fun k σ' G' => ∃ (j : Nat) (f' : Nat → Bool) (xs : List V), k = p - j ∧ j ≤ p ∧ σ' = [some (.ref a), some (.ref z), some (.ref fd), some (.int (i : Nat)), some (.ref c), some (.int (it m j i : Nat))] ∧ Orb m i j f f' ∧ BG z c G G' ∧
        G' z = some (.lst (bls n f')) ∧ G' c = some (.lst xs) ∧ xs.length = j, ⟨_, 0, f, [], rfl, Nat.zero_le _, rfl, orb0, (Same.new hc).bg, upd_old h1 hc, upd_same, rfl⟩, ?_⟩
      rintro k σ' G1 ⟨j, f', xs, rfl, jp, rfl, o, b1, k1, k2, k3⟩
      have jn : it m j i < n := it_lt bk hi j
      walk_at "v"; walk_at "v"
      refine ⟨z, _, _, _, rfl, rfl, SqL.of k1, atI_int rfl (bls_at jn), ?_⟩
      walk_at "v"
      have sj := stop j f' o jp
      have ha1 : TP G1 a m := (ha.same s1).bg b1 ⟨ha.nn zn, ha.nn cnH⟩
      cases ef : f' (it m j i) with
      | false =>
        refine iteT ?_
        have lt : j < p := by
          have : j ≠ p := fun e => by rw [sj.mpr e] at ef; cases ef
          omega
        refine ⟨fun σ' G' => ∃ (f'' : Nat → Bool) (ys : List V), σ' = [some (.ref a), some (.ref z), some (.ref fd), some (.int (i : Nat)), some (.ref c), some (.int (it m (j + 1) i : Nat))] ∧ Orb m i (j + 1) f f'' ∧ BG z c G G' ∧
          G' z = some (.lst (bls n f'')) ∧ G' c = some (.lst ys) ∧ ys.length = j + 1, fun σ' G' ⟨f'', ys, e1, e2, e3, e4, e5, e6⟩ => ⟨p - (j + 1), by omega, j + 1, f'', ys, rfl, lt, e1, e2, e3, e4, e5, e6⟩, ?_⟩
        walk_at "v"; walk_at "v"
        refine ⟨z, _, _, it m j i, rfl, rfl, k1, by rw [bls_len]; exact ix_nat jn, ?_⟩
        rw [bls_set]
        walk_at "v"
        refine ⟨.inl ⟨rfl, _, SqL.of (upd_oth k2 cz2.symm)⟩, ?_⟩
        walk_at "v"
        refine ⟨_, _, _, rfl, rfl, upd_oth k2 cz2.symm, ?_, ?_⟩
        · exact Nat.lt_of_le_of_lt (by omega : _ ≤ 1000) (by decide)
        walk_at "v"; walk_at "v"
        refine ⟨a, _, _, _, rfl, rfl, ((ha1.oth (ha.nn zn)).oth (ha.nn cnH)).sq, atI_int rfl (mv_at (by rw [bk.lm]; exact jn)), ?_⟩
        exact ⟨_, _, rfl, orb_step o, b1.s1.s2, upd_oth upd_same cz2, upd_same, by rw [List.length_append, k3]; rfl⟩
      | true =>
        refine iteF ?_
        have jp2 : j = p := sj.mp ef
        subst jp2
        have gfd : G1 fd = some (.lst (chs.map fun q => .ref q.1)) := b1 _ _ ⟨zf.symm, cf⟩ h2
        have chs1 : ∀ q ∈ chs, q.1 ≠ z ∧ q.1 ≠ fd ∧ q.1 ≠ c ∧ ∃ xs, G1 q.1 = some (.lst xs) ∧ xs.length = q.2 := fun q hq => by
          obtain ⟨n1, n2, xs, e1, e2⟩ := h3 q hq
          have n3 : q.1 ≠ c := ne_of_none e1 hc
          exact ⟨n1, n2, n3, xs, b1 _ _ ⟨n1, n3⟩ e1, e2⟩
        have sG : Same H G1 := fun b o hb => b1 b o ⟨ne_of_none hb zn, ne_of_none hb cnH⟩ (s1 b o hb)
        walk_at "v"
        refine ⟨!(List.isEmpty _), .inl ⟨_, SqL.of k2, rfl⟩, ?_⟩
        cases xs with
        | nil =>
          refine iteF ?_
          have j0 : j = 0 := k3.symm
          have fi : f i = true := by
            rcases hp with ⟨e, _⟩ | ⟨_, x, _⟩
            · exact e
            · have := x.pos; omega
          have ff : f' = f := funext fun s => by
            have := o s
            rw [j0] at this
            cases e1 : f s with
            | true => exact this.mpr (.inl e1)
            | false =>
              cases e2 : f' s with
              | false => rfl
              | true =>
                rcases this.mp e2 with w | ⟨t, t0, _⟩
                · rw [e1] at w; cases w
                · exact absurd t0 (Nat.not_lt_zero _)
          subst ff
          exact ⟨_, _, _, _, chs, rfl, sG, k1, gfd, fun q hq => ⟨(chs1 q hq).1, (chs1 q hq).2.1, (chs1 q hq).2.2.2⟩, cl_seen cl fi, by omega⟩
        | cons x xs =>
          refine iteT ?_
          have x1 : Rd1 m i j := by
            rcases hp with ⟨_, e⟩ | ⟨_, x, _⟩
            · rw [e] at k3; cases k3
            · exact x
          walk_at "v"
          refine ⟨.inl ⟨rfl, _, SqL.of gfd⟩, ?_⟩
          walk_at "v"
          refine ⟨_, _, _, rfl, rfl, gfd, ?_, ?_⟩
          · rw [List.length_map]; exact Nat.lt_of_le_of_lt (by omega : _ ≤ 1000) (by decide)
          refine ⟨_, _, _, f', chs ++ [(c, j)], rfl, Same.mut fn sG, upd_oth k1 zf, ?_, ?_, ?_, ?_⟩
          · rw [upd_same, List.map_append]; rfl
          · intro q hq
            rcases List.mem_append.mp hq with w | w
            · obtain ⟨n1, n2, n3, xs, e1, e2⟩ := chs1 q w
              exact ⟨n1, n2, xs, upd_oth e1 n2, e2⟩
            · rw [List.mem_singleton.mp w]
              exact ⟨cz2.symm, cf.symm, _, upd_oth k2 cf.symm, k3⟩
          · rw [List.map_append]
            exact cl_new bk cl hi x1 o
          · rw [List.length_append, List.length_singleton]; omega
    · rintro σ' G ⟨y3, y4, y5, f, chs, rfl, s1, h1, h2, h3, cl, cz⟩
      walk_at "v"
      exact q fd chs G s1 h2 (fun q hq => (h3 q hq).2.2) (cl_ord bk cl) cl.l1
def sp_orderof : Sp := fun vs H Q _ => ∃ (a : Addr) (n : Nat) (m r : List Nat), vs = [.ref a] ∧ TP H a m ∧ Bk n m r ∧ n ≤ 40 ∧ ∀ (N : Nat) H', Same H H' → MV.Ord n m N → Q (.int N) H'
theorem ok_order_of (T : Txt K mg A) : FnOk P w K mg base (CX P w) 2 A.a_order_of A.d_order_of ["move"] (sp_orderof) := by
  refine T.F_order_of.okX sc_order_of (fun vs H Q E h => ?_) (fun cdv Ar outer s H vs Q E hr h => ?_)
  · obtain ⟨_, _, _, _, rfl, _⟩ := h
    rfl
  · obtain ⟨a, n, m, r, rfl, ha, bk, nz, q⟩ := h
    refine ⟨_, (pss_cons (ps_set (i := 1) sc_order_of.nd rfl (Or.inl rfl) pe_int)
      (pss_cons (ps_for (passes_of rfl) rfl (piL (K := K) rfl (pe_call (ok_rounds_of T) hr (by rfl) T.g_rounds_of T.F_rounds_of.kp T.b_rounds_of .nil passF (pa_cons (pv 0) pa_nil))) (pg_name (i := 2) sc_order_of.nd rfl (Or.inl rfl)) (pss_one (ps_set (i := 1) sc_order_of.nd rfl (Or.inl rfl) (pe_callG call_lcm (by rfl) T.m_lcm (pa_cons (pv 1) (pa_cons (pe_callB (clen (K := K) rfl) (by rfl) T.m_len bt_len (pa_cons (pv 2) pa_nil)) pa_nil))))))
      (pss_one (ps_ret (pv 1))))), ?_⟩
    walk_at "v"
    refine ⟨a, n, m, r, rfl, ha, bk, by omega, fun z chs H1 s1 h1 h2 od l1 => ?_⟩
    have small : ∀ x ∈ chs.map (·.2), x ≤ 40 ∧ 0 < x := fun x hx => by
      obtain ⟨s, hs, y⟩ := l1 x hx
      obtain ⟨p, pn, y2⟩ := rd1_some bk hs
      rw [y.one y2]
      exact ⟨by omega, y2.pos⟩
    refine ⟨z, rfl, ⟨_, SqL.of h1⟩, for_list (K := K) (xs := chs.map fun q => V.ref q.1) (fun i σ' G => ∃ y : Option V, σ' = [some (.ref a), some (.int (lcmA ((chs.map (·.2)).take i) : Nat)), y] ∧ G = H1) ⟨none, rfl, rfl⟩ (fun i σ' G _ y => by obtain ⟨_, _, e⟩ := y; subst e; exact SqL.of h1) ?_ ?_⟩
    · rintro i x σ' G hx ⟨y, rfl, rfl⟩
      rw [List.getElem?_map] at hx
      obtain ⟨qq, hq, rfl⟩ := Option.map_eq_some_iff.mp hx
      obtain ⟨xs, e1, e2⟩ := h2 qq (List.mem_of_getElem? hq)
      have hl : (chs.map (·.2))[i]? = some qq.2 := by rw [List.getElem?_map, hq]; rfl
      walk_at "v"; walk_at "v"
      refine ⟨_, _, rfl, .inl (SqL.of e1), ?_⟩
      have b1 := lcmA_le (l := (chs.map (·.2)).take i) fun x hx => small x (List.mem_of_mem_take hx)
      have b2 := small qq.2 (List.mem_of_getElem? hl)
      have b3 : big < 2 ^ 63 := by decide
      refine ⟨_, qq.2, by rw [e2], b1.1, b2.2, Nat.lt_of_le_of_lt b1.2 b3, by omega, ?_⟩
      refine ⟨some (.ref qq.1), ?_, rfl⟩
      rw [take_one hl, lcmA_app]; rfl
    · rintro σ' G ⟨y, rfl, rfl⟩
      walk_at "v"
      rw [List.length_map, List.take_of_length_le (by rw [List.length_map]; exact Nat.le_refl _)]
      exact q _ G s1 od
def sp_wmoves (C : Addr) : Sp := fun vs H Q _ => ∃ (p : Addr) (d : List Nat) (n : Nat) (M : Nat → List Nat), vs = [.ref p] ∧ WorldAt C H p d n M ∧ ∀ (z : Addr) (a : Nat → Addr) H', Same H H' → H z = none → H' z = some (.dK (dct d a)) → (∀ c ∈ d, TP H' (a c) (M c)) → Q (.ref z) H'
theorem ok_World_moves (T : Txt K mg A) : FnOk P w K mg base (CX P w) 1 A.a_World_moves A.d_World_moves ["self"] (sp_wmoves A.c_World) := by
  refine T.F_World_moves.okX sc_World_moves (fun vs H Q E h => ?_) (fun cdv Ar outer s H vs Q E hr h => ?_)
  · obtain ⟨_, _, _, _, rfl, _⟩ := h
    rfl
  · obtain ⟨p, d, n, M, rfl, ⟨dx, qd, a, h1, h2, h3⟩, q⟩ := h
    refine ⟨_, (pss_one (ps_ret (pe_callTy call_dictD (by rfl) T.m_dict bt_dict (pa_cons (pe_fld (pv 0) rfl) pa_nil)))), ?_⟩
    walk_at "v"
    refine ⟨p, _, dx, _, _, rfl, h1, T.cl_World, T.nF_World__moves, rfl, ?_⟩
    refine ⟨qd, _, rfl, .inl h2, fun z hz => ?_⟩
    exact q z a _ (Same.new hz) hz upd_same fun c hc => (h3 c hc).old hz
def sp_letmv (C : Addr) : Sp := fun vs H Q _ => ∃ (p : Addr) (d : List Nat) (n : Nat) (M : Nat → List Nat), vs = [.ref p] ∧ WorldAt C H p d n M ∧ Mok n d M ∧ Dds d ∧ n ≤ 100000 ∧
  ∀ (z : Addr) kvs H', Same H H' → H z = none → H' z = some (.dK kvs) → LM H' d n (A1 n M) kvs → kvs.length ≤ 1000 → Q (.ref z) H'
theorem ok_letter_moves (T : Txt K mg A) : FnOk P w K mg base (CX P w) 3 A.a_letter_moves A.d_letter_moves ["world"] (sp_letmv A.c_World) := by
  refine T.F_letter_moves.okX sc_letter_moves (fun vs H Q E h => ?_) (fun cdv Ar outer s H vs Q E hr h => ?_)
  · obtain ⟨_, _, _, _, rfl, _⟩ := h
    rfl
  · obtain ⟨p, d, n, M, rfl, wd, mk, hd, nz, q⟩ := h
    refine ⟨_, (pss_cons (ps_set (i := 1) sc_letter_moves.nd rfl (Or.inl rfl) (pe_disp (pps_cons pe_str (pe_call (ok_standing_still T) (hr.mono (by decide)) (by rfl) T.g_standing_still T.F_standing_still.kp T.b_standing_still .nil passF (pa_cons (pe_fld (pv 0) rfl) pa_nil)) pps_nil) rfl rfl (by intro z; cases z) (by decide)))
      (pss_cons (ps_set (i := 2) sc_letter_moves.nd rfl (Or.inl rfl) (pe_prop (pv 0) T.cl_World T.pr_World_moves (ok_World_moves T) hr T.b_World_moves .nil passF rfl))
      (pss_cons (ps_lock (ps_for (passes_of rfl) rfl (pi_keys (pv 2)) (pg_name (i := 3) sc_letter_moves.nd rfl (Or.inl rfl)) (pss_cons (ps_dput (hu_of hr) (pv 1) (pv 3) (pe_dget (hu_of hr) (pv 2) (pv 3) (fun _ _ => rfl)) rfl)
      (pss_one (ps_dput (hu_of hr) (pv 1) (pbm0 (K := K) rfl PySem.F.plainAttrs_str PySem.F.slot_str_upper PySem.F.type_str_upper mt_upper (pv 3)) (pe_call (ok_turned_back T) (hr.mono (by decide)) (by rfl) T.g_turned_back T.F_turned_back.kp T.b_turned_back .nil passF (pa_cons (pe_dget (hu_of hr) (pv 2) (pv 3) (fun _ _ => rfl)) pa_nil)) rfl)))))
      (pss_one (ps_ret (pv 1)))))), ?_⟩
    obtain ⟨dx, qd, a0, w1, w2, w3⟩ := id wd
    intro z hz
    walk_at "v"
    refine ⟨p, _, dx, _, _, rfl, upd_old w1 hz, T.cl_World, T.nF_World_size, rfl, ?_⟩
    refine ⟨n, rfl, nz, fun e H1 s1 ne h1 => ?_⟩
    have sH1 : Same H H1 := (Same.new hz).trans s1
    refine ⟨s1 _ _ upd_same, [(Sum.inr (S []), .ref e)], by rw [S_nil]; rfl, by simp, ?_⟩
    rw [show mergeK [] [((Sum.inr (S []) : L2.Key), V.ref e)] = [(Sum.inr (S []), V.ref e)] from rfl]
    generalize e2 : upd H1 z _ = H2
    have z2 : H2 z = some (.dK [(Sum.inr (S []), .ref e)]) := by rw [← e2]; exact upd_same
    have sH2 : Same H H2 := by rw [← e2]; exact Same.mut hz sH1
    have ze : e ≠ z := fun k => by rw [k] at ne; rw [upd_same] at ne; cases ne
    have h2 : TP H2 e (List.range n) := by rw [← e2]; exact h1.oth ze
    clear e2
    walk_at "v"
    refine ⟨p, dx, _, rfl, sH2 _ _ w1, ?_⟩
    refine ⟨p, d, n, M, rfl, wd.same sH2, fun b a H3 s3 nb h3 h4 => ?_⟩
    have sH3 := sH2.trans s3
    have z3 := s3 _ _ z2
    have bz : b ≠ z := (ne_of_none z2 nb).symm
    have bH : H b = none := Same.free sH2 nb
    refine ⟨b, _, h3, trivial, fun od => ?_⟩
    walk_at "v"
    refine ⟨b, od, rfl, .inl ⟨_, upd_same, ?_⟩⟩
    refine for_it (walk_keys (d := b) (o := od) (kvs := dct d a)) (fun i σ' G => ∃ (y : Option V) (kvs : List (L2.Key × V)), σ' = [some (.ref p), some (.ref z), some (.ref b), y] ∧ BG z b H3 G ∧ G b = some (.frz od (.dK (dct d a))) ∧ G z = some (.dK kvs) ∧ kvs.length ≤ 1 + 2 * i ∧ LM G (d.take i) n (A1 n M) kvs)
      ⟨none, _, rfl, fun q o nq hq => by rw [upd_ne nq.2]; exact hq, upd_same, upd_oth z3 bz.symm, Nat.le_refl _, ?_⟩ (fun i σ' G _ y => by obtain ⟨_, _, _, _, k, _⟩ := y; exact k) ?_ ?_
    · refine ⟨fun l v hv => ?_, ?_, fun x _ h => by rw [List.take_zero] at h; cases h⟩
      · by_cases k : (Sum.inr (S []) : L2.Key) = Sum.inr (S l)
        · rw [valV_pos k] at hv
          have k2 := S_inj (Sum.inr.inj k)
          subst k2
          exact ⟨e, (Option.some.inj hv).symm, (h2.same s3).oth ((h2.same s3).nk h3)⟩
        · rw [valV_neg k] at hv; cases hv
      · rw [valV_pos rfl]; exact fun z => nomatch z
    · rintro i x σ' G0 G hi ⟨y, kvs, rfl, b1, gb, gz, kz, lm⟩ ⟨rfl, k, v, hk, rfl⟩
      obtain ⟨c, hc, hkv⟩ : ∃ c, d[i]? = some c ∧ (k, v) = (Sum.inr (S [c]), V.ref (a c)) := by
        unfold dct at hk
        rw [List.getElem?_map] at hk
        obtain ⟨c, hc, e⟩ := Option.map_eq_some_iff.mp hk
        exact ⟨c, hc, e.symm⟩
      cases hkv
      have cm := List.mem_of_getElem? hc
      have cl := hd.de.low c cm
      have dl := hd.le
      have il : i < d.length := (List.getElem?_eq_some_iff.mp hc).1
      have az : a c ≠ z := (h4 c cm).nk z3
      have ab : a c ≠ b := (h4 c cm).nk h3
      have gc := (h4 c cm).bg b1 ⟨az, ab⟩
      obtain ⟨r, bk⟩ := mk c cm
      have bk := bk_rv bk
      walk_at "v"; walk_at "v"
      refine ⟨b, _, rfl, .inl ⟨_, Sum.inr (S [c]), .inr ⟨od, gb⟩, rfl, (val_in a cm).symm⟩, ?_⟩
      walk_at "v"; walk_at "v"
      refine ⟨z, _, rfl, DPut.k (k := Sum.inr (S [c])) gz ?_, ?_⟩
      · exact Nat.lt_of_le_of_lt (by omega : _ ≤ 100) (by decide)
      generalize e5 : upd G z _ = G1
      have z5 : G1 z = some (.dK (putK kvs (Sum.inr (S [c])) (.ref (a c)))) := by rw [← e5]; exact upd_same
      have b5 : G1 b = some (.frz od (.dK (dct d a))) := by rw [← e5]; exact upd_oth gb bz
      have c5 : TP G1 (a c) (M c) := by rw [← e5]; exact gc.oth az
      have bg5 : BG z b H3 G1 := by rw [← e5]; exact b1.s1
      have t5 : ∀ t m, TP G t m → TP G1 t m := fun t m ht => by
        rw [← e5]; exact ht.oth (ht.nk gz)
      clear e5
      have l5 : LM G1 (d.take i) n (A1 n M) (putK kvs (Sum.inr (S [c])) (.ref (a c))) := lm_put (lm_mono t5 lm) (by rw [rowMv_one (by rw [A1_low cl.1]; exact bk.lm), A1_low cl.1]; exact c5)
      walk_at "v"; walk_at "v"
      refine ⟨b, _, rfl, .inl ⟨_, Sum.inr (S [c]), .inr ⟨od, b5⟩, rfl, (val_in a cm).symm⟩, ?_⟩
      refine ⟨a c, n, M c, _, rfl, c5, bk, nz, fun t G2 s6 nt t6 => ?_⟩
      walk_at "v"; walk_at "v"
      refine ⟨rfl, _, rfl, rfl, ?_, ?_⟩
      · show (S [c]).length ≤ _
        rw [S_len]; exact Nat.le_trans (by decide : 1 ≤ 100) (by decide)
      rw [show Txt.upper (S [c]) = S [up1 c] from up_asc (l := [c]) (fun x hx => by rw [List.mem_singleton.mp hx]; omega)]
      have z6 := s6 _ _ z5
      have kz5 := length_putK kvs (Sum.inr (S [c])) (.ref (a c))
      refine ⟨z, _, rfl, DPut.k (k := Sum.inr (S [up1 c])) z6 ?_, ?_⟩
      · exact Nat.lt_of_le_of_lt (by omega : _ ≤ 100) (by decide)
      have kz6 := length_putK (putK kvs (Sum.inr (S [c])) (.ref (a c))) (Sum.inr (S [up1 c])) (.ref t)
      have tz : t ≠ z := (ne_of_none z5 nt).symm
      refine ⟨_, _, rfl, (bg5.trans s6.bg).s1, upd_oth (s6 _ _ b5) bz, upd_same, by omega, ?_⟩
      rw [take_one hc]
      have l6 : LM (upd G2 z (.dK (putK (putK kvs (Sum.inr (S [c])) (.ref (a c))) (Sum.inr (S [up1 c])) (.ref t)))) (d.take i) n (A1 n M) (putK (putK kvs (Sum.inr (S [c])) (.ref (a c))) (Sum.inr (S [up1 c])) (.ref t)) := by
        refine lm_put (lm_mono (fun t2 xs ht => ?_) l5) ?_
        · exact (ht.same s6).oth (ht.nk z5)
        · rw [rowMv_one (by rw [A1_up cl]; exact rv_len _ _), A1_up cl]
          exact t6.oth tz
      exact lm_two l6 cl (put_some put_here) put_here
    · rintro σ' G ⟨y, kvs, rfl, b1, gb, gz, kz, lm⟩
      have dl := hd.le
      refine ⟨gb, ?_⟩
      walk_at "v"
      rw [show (dct d a).length = d.length by unfold dct; rw [List.length_map]] at kz
      rw [show (dct d a).length = d.length by unfold dct; rw [List.length_map], List.take_length] at lm
      refine q z kvs _ (fun o u ho => ?_) hz (upd_oth gz bz.symm) (lm_mono (fun t xs ht => ht.oth (ht.nf gb)) lm) (by omega)
      have nz1 : o ≠ z := ne_of_none ho hz
      have nb1 : o ≠ b := ne_of_none ho bH
      rw [upd_ne nb1]
      exact b1 _ _ ⟨nz1, nb1⟩ (sH3 _ _ ho)
def sp_rowmv : Sp := fun vs H Q _ => ∃ (z : Addr) (l d : List Nat) (n : Nat) (A : Nat → List Nat) (kvs : List (L2.Key × V)), vs = [.ref z, .str (S l)] ∧ H z = some (.dK kvs) ∧ kvs.length ≤ 10000 ∧ LM H d n A kvs ∧ (∀ x ∈ l, IsL x ∧ lo1 x ∈ d) ∧ AllBk n A l ∧ n ≤ 100000 ∧
  ∀ (t : Addr) H', But z H H' → TP H' t (rowMv A n l) → Q (.ref t) H'
theorem ok_row_move (T : Txt K mg A) : FnOk P w K mg base (CX P w) 2 A.a_row_move A.d_row_move ["moves", "row"] (sp_rowmv) := by
  refine T.F_row_move.okX sc_row_move (fun vs H Q E h => ?_) (fun cdv Ar outer s H vs Q E hr h => ?_)
  · obtain ⟨_, _, _, _, _, _, rfl, _⟩ := h
    rfl
  · obtain ⟨z, l, d, n, A0, kvs, rfl, hz, kz, lm, hl, ab, nz, q⟩ := h
    refine ⟨_, (C8.pss_cut (ps_if (pt_cmp (pc_dnotin (hu_of hr) (pv 1) (pv 0))) (pss_cons (ps_set (i := 2) sc_row_move.nd rfl (Or.inl rfl) (pe_dget (hu_of hr) (pv 0) pe_str (fun _ _ => rfl)))
      (pss_cons (ps_for (passes_of rfl) rfl (pi_str (pv 1)) (pg_name (i := 3) sc_row_move.nd rfl (Or.inl rfl)) (pss_one (ps_set (i := 2) sc_row_move.nd rfl (Or.inl rfl) (pe_call (ok_followed T) hr (by rfl) T.g_followed T.F_followed.kp T.b_followed .nil passF (pa_cons (pv 2) (pa_cons (pe_dget (hu_of hr) (pv 0) (pv 3) (fun _ _ => rfl)) pa_nil))))))
      (pss_one (ps_dput (hu_of hr) (pv 0) (pv 1) (pv 2) rfl)))) pss_nil)
      (pss_one (ps_ret (pe_dget (hu_of hr) (pv 0) (pv 1) (fun _ _ => rfl))))), ?_⟩
    refine ⟨fun σ' G => ∃ (y2 y3 : Option V) (kvs' : List (L2.Key × V)) (t : Addr), σ' = [some (.ref z), some (.str (S l)), y2, y3] ∧ But z H G ∧ G z = some (.dK kvs') ∧ valV kvs' (Sum.inr (S l)) = some (.ref t) ∧ TP G t (rowMv A0 n l), ?_, ?_⟩
    · walk_at "v"; walk_at "v"
      refine ⟨z, _, rfl, .inl ⟨_, Sum.inr (S l), .inl hz, rfl, rfl⟩, ?_⟩
      walk_at "v"
      cases e : valV kvs (Sum.inr (S l)) with
      | some v =>
        obtain ⟨t, rfl, ht⟩ := lm.1 l v e
        refine iteF ?_
        exact ⟨none, none, kvs, t, rfl, But.refl _ _, hz, e, ht⟩
      | none =>
        refine iteT ?_
        obtain ⟨v0, e0⟩ := Option.ne_none_iff_exists'.mp lm.2.1
        obtain ⟨t0, rfl, ht0⟩ := lm.1 [] v0 e0
        walk_at "v"
        refine ⟨z, _, rfl, .inl ⟨_, Sum.inr (S []), .inl hz, by rw [S_nil]; rfl, e0.symm⟩, ?_⟩
        walk_at "v"
        refine ⟨_, rfl, ?_⟩
        refine for_it (walk_str (z := S l)) (fun i σ' G => ∃ (t : Addr) (y : Option V), σ' = [some (.ref z), some (.str (S l)), some (.ref t), y] ∧ Same H G ∧ TP G t (rowMv A0 n (l.take i))) ⟨t0, none, rfl, Same.refl _, ht0⟩ (fun _ _ _ _ _ => trivial) ?_ ?_
        · rintro i x σ' G0 G hi ⟨t, y, rfl, s1, h1⟩ ⟨rfl, c, hc, rfl⟩
          have hc' : l[i]? = some c := by simpa [S] using hc
          have cm := List.mem_of_getElem? hc'
          obtain ⟨c1, c2⟩ := hl c cm
          obtain ⟨v1, e1⟩ := Option.ne_none_iff_exists'.mp (lm.2.2 c c1 c2)
          obtain ⟨t1, rfl, ht1⟩ := lm.1 [c] v1 e1
          obtain ⟨r, bk⟩ := ab c cm
          rw [rowMv_one bk.lm] at ht1
          obtain ⟨r2, bk2⟩ := rowMv_bk (l := l.take i) (A := A0) (n := n) fun x hx => ab x (List.mem_of_mem_take hx)
          walk_at "v"; walk_at "v"; walk_at "v"
          refine ⟨z, _, rfl, .inl ⟨_, Sum.inr (S [c]), .inl (s1 _ _ hz), rfl, e1.symm⟩, ?_⟩
          refine ⟨t, t1, rowMv A0 n (l.take i), A0 c, rfl, h1, ht1.same s1, by rw [bk2.lm]; exact nz, fun s hs => by rw [bk.lm]; exact bk2.hm s (by rw [← bk2.lm]; exact hs), fun p G2 s2 np hp => ?_⟩
          rw [← rowMv_app, ← take_one hc'] at hp
          exact ⟨p, _, rfl, s1.trans s2, hp⟩
        · rintro σ' G ⟨t, y, rfl, s1, h1⟩
          rw [show (S l).cps.size = l.length from S_len l, List.take_length] at h1
          have gz := s1 _ _ hz
          walk_at "v"; walk_at "v"; walk_at "v"
          refine ⟨z, _, rfl, DPut.k (k := Sum.inr (S l)) gz ?_, ?_⟩
          · exact Nat.lt_of_le_of_lt kz (by decide)
          refine ⟨_, _, _, t, rfl, fun b o nb hb => by rw [upd_ne nb]; exact s1 b o hb, upd_same, by rw [valV_put, if_pos rfl], h1.oth (h1.nk gz)⟩
    · rintro σ' G ⟨y2, y3, kvs', t, rfl, b1, gz, e, ht⟩
      walk_at "v"; walk_at "v"
      refine ⟨z, _, rfl, .inl ⟨_, Sum.inr (S l), .inl gz, rfl, e.symm⟩, ?_⟩
      exact q t G b1 ht
theorem kit_tupo {K : PySem.W.Frag} : PySem.W.kitOne K (.type "tuple") (.type "tuple") = some true := kit_ty (by decide +kernel)
theorem kit_dico {K : PySem.W.Frag} : PySem.W.kitOne K (.type "dict") (.type "dict") = some true := kit_ty (by decide +kernel)
def sp_ismove : Sp := fun vs H Q _ => ∃ (t : Addr) (n : Nat) (m : List Nat), vs = [.ref t] ∧ TP H t m ∧ m.Perm (List.range n) ∧ 1 ≤ n ∧ n ≤ 24 ∧ ∀ H', Same H H' → Q (.bl true) H'
theorem ok_is_move (T : Txt K mg A) : FnOk P w K mg base (CX P w) 2 A.a_is_move A.d_is_move ["thing"] (sp_ismove) := by
  refine T.F_is_move.okX sc_is_move (fun vs H Q E h => ?_) (fun cdv Ar outer s H vs Q E hr h => ?_)
  · obtain ⟨_, _, _, rfl, _⟩ := h
    rfl
  · obtain ⟨t, n, m, rfl, ht, pm, n1, n2, q⟩ := h
    have ml : m.length = n := by rw [pm.length_eq, List.length_range]
    refine ⟨_, (pss_cons (ps_if (pt_mid (PW.pt (pw_or (pt_not (pt_val (pe_callB (cisi (K := K) rfl) (by rfl) T.m_isinstance bt_isinstance (pa_cons (pv 0) (pa_cons (pe_bltn (v := .ty "tuple") (by rfl) T.m_tuple bt_tuple rfl) pa_nil))))) (pw_or1 (pt_not (pt_mid (pt_chain op_le op_le pe_int (pe_callB (clen (K := K) rfl) (by rfl) T.m_len bt_len (pa_cons (pv 0) pa_nil)) (pe_glob (v := V.int (24)) (by rfl) T.c_MOST_STANDINGS T.r_MOST_STANDINGS)))))))) (pss_one (ps_ret pe_bl)) pss_nil)
      (pss_one (ps_ret (pe_mid (pe_and (pe_callB (call_ (K := K) rfl rfl) (by rfl) T.m_all bt_all (pa_cons (pe_lc (own := [("standing", 1)]) (tt := tYes) rfl sc_is_move.nd (piT (K := K) rfl (pv 0)) (blkOk_by (N := ["thing", "standing"]) (sc := defScope s_is_move) (by decide +kernel)) (fun _ _ _ _ _ => (pg_name (i := 1) sc_is_move.nd rfl (Or.inl rfl))) (fun _ _ _ _ _ => pts_nil) (fun _ _ _ _ _ => (pe_call (ok_is_integer T) hr (by rfl) T.g_is_integer T.F_is_integer.kp T.b_is_integer .nil passF (pa_cons (pv 1) pa_nil)))) pa_nil)) (pe_one (pe_cmpR (eqD (K := K) rfl hr.units) (pe_callB (csortedTI (K := K) rfl) (by rfl) T.m_sorted bt_sorted (pa_cons (pv 0) pa_nil)) (pe_listRg rfl (by rfl) T.m_list (prg_1 (by rfl) T.m_range (pe_callB (clen (K := K) rfl) (by rfl) T.m_len bt_len (pa_cons (pv 0) pa_nil)))) (nomark _)))))))), ?_⟩
    refine ⟨fun b H' => b = false ∧ H' = H, ?_, ?_⟩
    · walk_at "v"
      refine ⟨_, _, _, _, _, rfl, .ty _, ht.ty, kit_tupo, ?_⟩
      walk_at "v"
      refine iteF ?_
      refine ⟨fun b H' => b = true ∧ H' = H, ?_, ?_⟩
      · walk_at "v"
        refine ⟨t, _, rfl, .inr ht.sq, ?_⟩
        rw [mv_len, ml]
        walk_at "ii"; walk_at "v"
        refine iteB (fun _ => ?_) (fun e => ?_)
        · walk_at "ii"; walk_at "v"
          exact ⟨decide_eq_true (by omega), rfl⟩
        · have := of_decide_eq_false e
          omega
      · rintro b H' ⟨rfl, rfl⟩
        exact ⟨rfl, rfl⟩
    · rintro b H' ⟨rfl, rfl⟩
      refine iteF ?_
      refine ⟨fun v' G => v' = .bl true ∧ Same H' G, ?_, fun v' G ⟨e, s⟩ => by subst e; exact q G s⟩
      walk_at "v"
      refine ⟨t, rfl, ⟨_, ht.sq⟩, fun D hD => ?_⟩
      refine lc_it (walk_tup (xs := mv m)) (fun i G => Same H' G ∧ G D = some (.lst (yes i))) ⟨Same.new hD, upd_same⟩ (fun i G _ z => (ht.same z.1).sq) ?_ ?_
      · rintro i x G1 G2 hi ⟨s1, h1⟩ ⟨rfl, hx⟩
        rw [mv_len] at hi
        rw [mv_at hi] at hx
        cases hx
        refine ⟨rfl, ?_⟩
        walk_at "v"
        refine ⟨_, _, rfl, .int _, ?_⟩
        refine ⟨_, h1, ?_, Same.mut hD s1, ?_⟩
        · rw [yes_len]; exact Nat.lt_of_le_of_lt (by omega : _ ≤ 100) (by decide)
        · rw [upd_same, ← yes_succ]; rfl
      · rintro G1 ⟨s1, h1⟩
        refine ⟨D, _, rfl, SqL.of h1, ?_⟩
        rw [all_rep]
        walk_at "v"
        refine iteT ?_
        walk_at "v"
        refine ⟨t, iv m, rfl, (ht.same s1).sq, fun ms p pm2 pw hp => ?_⟩
        walk_at "v"
        refine ⟨t, _, rfl, .inr ((ht.same s1).old hp).sq, ?_⟩
        rw [mv_len, ml]
        refine ⟨_, rfl, RgOk.of_le (by decide) (by omega) (by decide) (by omega), fun p2 hp2 => ?_⟩
        rw [rg_mv]
        refine eq_ints (SqL.of (upd_old upd_same hp2)) (SqL.of upd_same) ?_
        rw [decide_eq_true (sorted_iv pm pm2 pw)]
        exact ⟨rfl, s1.trans ((Same.new hp).trans (Same.new hp2))⟩
def sp_aremoves : Sp := fun vs H Q _ => ∃ (q : Addr) (d : List Nat) (n : Nat) (M : Nat → List Nat) (a : Nat → Addr), vs = [.str (S d), .ref q] ∧ Dds d ∧ H q = some (.dK (dct d a)) ∧ (∀ c ∈ d, (M c).Perm (List.range n) ∧ TP H (a c) (M c)) ∧ 1 ≤ n ∧ n ≤ 24 ∧
  ∀ H', Same H H' → Q (.bl true) H'
theorem ok_are_moves (T : Txt K mg A) : FnOk P w K mg base (CX P w) 3 A.a_are_moves A.d_are_moves ["deeds", "thing"] (sp_aremoves) := by
  refine T.F_are_moves.okX sc_are_moves (fun vs H Q E h => ?_) (fun cdv Ar outer s H vs Q E hr h => ?_)
  · obtain ⟨_, _, _, _, _, rfl, _⟩ := h
    rfl
  · obtain ⟨p, d, n, M, a, rfl, hd, hp, hm, n1, n2, q⟩ := h
    refine ⟨_, (pss_cons (ps_if (pt_mid (PW.pt (pw_or (pt_not (pt_val (pe_callB (cisi (K := K) rfl) (by rfl) T.m_isinstance bt_isinstance (pa_cons (pv 1) (pa_cons (pe_bltn (v := .ty "dict") (by rfl) T.m_dict bt_dict rfl) pa_nil))))) (pw_or (pt_cmpR op_ne (pe_callB call_lenD (by rfl) T.m_len bt_len (pa_cons (pv 1) pa_nil)) (pe_callB clenS (by rfl) T.m_len bt_len (pa_cons (pv 0) pa_nil)) (nomark _)) (pw_or1 (pt_not (pt_val (pe_callB (call_ (K := K) rfl rfl) (by rfl) T.m_all bt_all (pa_cons (pe_lc (own := [("deed", 2)]) (tt := tYes) rfl sc_are_moves.nd (pi_str (pv 0)) (blkOk_by (N := ["deeds", "thing", "deed"]) (sc := defScope s_are_moves) (by decide +kernel)) (fun _ _ _ _ _ => (pg_name (i := 2) sc_are_moves.nd rfl (Or.inl rfl))) (fun _ _ _ _ _ => pts_nil) (fun _ _ _ _ _ => (pe_cmp (pc_din (hu_of hr) (pv 2) (pv 1))))) pa_nil))))))))) (pss_one (ps_ret pe_bl)) pss_nil)
      (pss_cons (ps_if (pt_not (pt_val (pe_callB (call_ (K := K) rfl rfl) (by rfl) T.m_all bt_all (pa_cons (pe_lc (own := [("deed", 2)]) (tt := tYes) rfl sc_are_moves.nd (pi_str (pv 0)) (blkOk_by (N := ["deeds", "thing", "deed"]) (sc := defScope s_are_moves) (by decide +kernel)) (fun _ _ _ _ _ => (pg_name (i := 2) sc_are_moves.nd rfl (Or.inl rfl))) (fun _ _ _ _ _ => pts_nil) (fun _ _ _ _ _ => (pe_call (ok_is_move T) hr (by rfl) T.g_is_move T.F_is_move.kp T.b_is_move .nil passF (pa_cons (pe_dget (hu_of hr) (pv 1) (pv 2) (fun _ _ => rfl)) pa_nil)))) pa_nil)))) (pss_one (ps_ret pe_bl)) pss_nil)
      (pss_one (ps_ret (pe_callB (call_ (K := K) rfl rfl) (by rfl) T.m_all bt_all (pa_cons (pe_lc (own := [("deed", 2)]) (tt := tYes) rfl sc_are_moves.nd (pi_str (pv 0)) (blkOk_by (N := ["deeds", "thing", "deed"]) (sc := defScope s_are_moves) (by decide +kernel)) (fun _ _ _ _ _ => (pg_name (i := 2) sc_are_moves.nd rfl (Or.inl rfl))) (fun _ _ _ _ _ => pts_nil) (fun _ _ _ _ _ => (pe_cmpR op_eq (pe_callB (clen (K := K) rfl) (by rfl) T.m_len bt_len (pa_cons (pe_dget (hu_of hr) (pv 1) (pv 2) (fun _ _ => rfl)) pa_nil)) (pe_callB (clen (K := K) rfl) (by rfl) T.m_len bt_len (pa_cons (pe_dget (hu_of hr) (pv 1) (pe_ix ix_str (pv 0) pe_int (fun _ _ => rfl)) (fun _ _ => rfl)) pa_nil)) (nomark _)))) pa_nil)))))), ?_⟩
    have dl := hd.le
    have dz : (S d).length ≤ sizeLine := by rw [S_len]; exact Nat.le_trans hd.le (by decide)
    have d0 : (S d).cps.size = d.length := S_len d
    refine ⟨fun b H' => b = false ∧ Same H H', ?_, ?_⟩
    · walk_at "v"
      refine ⟨_, _, _, _, _, rfl, .ty _, .base (.dK hp), kit_dico, ?_⟩
      walk_at "v"
      refine iteF ?_
      walk_at "v"
      refine ⟨p, _, rfl, hp, ?_⟩
      walk_at "v"
      refine ⟨_, rfl, dz, ?_⟩
      refine ⟨rfl, ?_⟩
      walk_at "v"
      rw [dec_ints, S_len, show (dct d a).length = d.length by unfold dct; rw [List.length_map], decide_eq_true rfl]
      refine iteF ?_
      walk_at "v"
      refine ⟨_, rfl, fun D hD => ?_⟩
      refine lc_it (walk_str (z := S d)) (fun i G => Same H G ∧ G D = some (.lst (yes i))) ⟨Same.new hD, upd_same⟩ (fun _ _ _ _ => trivial) ?_ ?_
      · rintro i x G1 G2 hi ⟨s1, h1⟩ ⟨rfl, c, hc, rfl⟩
        have hc' : d[i]? = some c := by simpa [S] using hc
        refine ⟨rfl, ?_⟩
        walk_at "v"; walk_at "v"
        refine ⟨p, _, rfl, .inl ⟨_, Sum.inr (S [c]), .inl (s1 _ _ hp), rfl, (val_in a (List.mem_of_getElem? hc')).symm⟩, ?_⟩
        refine ⟨_, h1, ?_, Same.mut hD s1, ?_⟩
        · rw [yes_len]; exact Nat.lt_of_le_of_lt (by omega : _ ≤ 100) (by decide)
        · rw [upd_same, ← yes_succ]; rfl
      · rintro G1 ⟨s1, h1⟩
        refine ⟨D, _, rfl, SqL.of h1, ?_⟩
        rw [all_rep]
        walk_at "v"
        exact ⟨rfl, s1⟩
    · rintro b H1 ⟨rfl, s1⟩
      refine iteF ?_
      have hp1 := s1 _ _ hp
      walk_at "v"
      refine ⟨_, rfl, fun D hD => ?_⟩
      refine lc_it (walk_str (z := S d)) (fun i G => Same H1 G ∧ G D = some (.lst (yes i))) ⟨Same.new hD, upd_same⟩ (fun _ _ _ _ => trivial) ?_ ?_
      · rintro i x G1 G2 hi ⟨s2, h1⟩ ⟨rfl, c, hc, rfl⟩
        have hc' : d[i]? = some c := by simpa [S] using hc
        have cm := List.mem_of_getElem? hc'
        obtain ⟨pm, ht⟩ := hm c cm
        refine ⟨rfl, ?_⟩
        walk_at "v"; walk_at "v"
        refine ⟨p, _, rfl, .inl ⟨_, Sum.inr (S [c]), .inl (s2 _ _ hp1), rfl, (val_in a cm).symm⟩, ?_⟩
        refine ⟨a c, n, M c, rfl, (ht.same s1).same s2, pm, n1, n2, fun G3 s3 => ?_⟩
        refine ⟨_, s3 _ _ h1, ?_, Same.mut hD (s2.trans s3), ?_⟩
        · rw [yes_len]; exact Nat.lt_of_le_of_lt (by omega : _ ≤ 100) (by decide)
        · rw [upd_same, ← yes_succ]
      · rintro G1 ⟨s2, h1⟩
        refine ⟨D, _, rfl, SqL.of h1, ?_⟩
        rw [all_rep]
        walk_at "v"
        refine iteF ?_
        have hp2 := s2 _ _ hp1
        have s12 := s1.trans s2
        walk_at "v"
        refine ⟨_, rfl, fun D2 hD2 => ?_⟩
        refine lc_it (walk_str (z := S d)) (fun i G => Same G1 G ∧ G D2 = some (.lst (yes i))) ⟨Same.new hD2, upd_same⟩ (fun _ _ _ _ => trivial) ?_ ?_
        · rintro i x G2 G3 hi ⟨s3, h3⟩ ⟨rfl, c, hc, rfl⟩
          have hc' : d[i]? = some c := by simpa [S] using hc
          have cm := List.mem_of_getElem? hc'
          have d00 : 0 < d.length := List.length_pos_iff.mpr hd.ne
          have c0 : d[0]? = some d[0] := List.getElem?_eq_getElem d00
          have cm0 := List.mem_of_getElem? c0
          obtain ⟨pm, ht⟩ := hm c cm
          obtain ⟨pm0, ht0⟩ := hm _ cm0
          have ml : (mv (M c)).length = n := by rw [mv_len, pm.length_eq, List.length_range]
          have ml0 : (mv (M d[0])).length = n := by rw [mv_len, pm0.length_eq, List.length_range]
          refine ⟨rfl, ?_⟩
          walk_at "v"; walk_at "v"
          refine ⟨p, _, rfl, .inl ⟨_, Sum.inr (S [c]), .inl (s3 _ _ hp2), rfl, (val_in a cm).symm⟩, ?_⟩
          refine ⟨a c, _, rfl, .inr ((ht.same s12).same s3).sq, ?_⟩
          walk_at "v"; walk_at "v"
          refine ⟨_, _, d[0], rfl, rfl, dz, atI_int (j := 0) rfl (by rw [S_list]; exact c0), ?_⟩
          refine ⟨p, _, rfl, .inl ⟨_, Sum.inr (S [d[0]]), .inl (s3 _ _ hp2), rfl, (val_in a cm0).symm⟩, ?_⟩
          refine ⟨a d[0], _, rfl, .inr ((ht0.same s12).same s3).sq, ?_⟩
          refine ⟨rfl, ?_⟩
          rw [ml, ml0, dec_ints, decide_eq_true rfl]
          refine ⟨_, h3, ?_, Same.mut hD2 s3, ?_⟩
          · rw [yes_len]; exact Nat.lt_of_le_of_lt (by omega : _ ≤ 100) (by decide)
          · rw [upd_same, ← yes_succ]
        · rintro G2 ⟨s3, h3⟩
          refine ⟨D2, _, rfl, SqL.of h3, ?_⟩
          rw [all_rep]
          exact q G2 (s12.trans s3)
def sp_winit (C : Addr) : Sp := fun vs H Q _ => ∃ (x dx q : Addr) (d : List Nat) (n : Nat) (M : Nat → List Nat) (a : Nat → Addr), vs = [.ref x, .str (S d), .ref q] ∧ H x = some (.ins C dx []) ∧ Dds d ∧ H q = some (.dK (dct d a)) ∧ (∀ c ∈ d, (M c).Perm (List.range n) ∧ TP H (a c) (M c)) ∧ 1 ≤ n ∧ n ≤ 24 ∧
  ∀ H', But x H H' → WorldAt C H' x d n M → Q .non H'
theorem ok_World_init (T : Txt K mg A) : FnOk P w K mg base (CX P w) 4 A.a_World_init A.d_World_init ["self", "deeds", "moves"] (sp_winit A.c_World) := by
  refine T.F_World_init.okX sc_World_init (fun vs H Q E h => ?_) (fun cdv Ar outer s H vs Q E hr h => ?_)
  · obtain ⟨_, _, _, _, _, _, _, rfl, _⟩ := h
    rfl
  · obtain ⟨x, dx, p, d, n, M, a, rfl, hx, hd, hp, hm, n1, n2, q⟩ := h
    refine ⟨_, (pss_cons (ps_if (pt_not (pt_val (pe_call (ok_is_deeds T) (hr.mono (by decide)) (by rfl) T.g_is_deeds T.F_is_deeds.kp T.b_is_deeds .nil passF (pa_cons (pv 1) pa_nil)))) (pss_one (ps_raise rfl (takes_of rfl rfl rfl rfl) (pmk_oex T.o_BadWorld T.i_BadWorld T.t_BadWorld (ok_BadWorld_init T) (hr.mono (by decide)) T.b_BadWorld_init .nil passF (by rfl) T.gC_BadWorld (pa_cons pe_str pa_nil)))) pss_nil)
      (pss_cons (ps_if (pt_not (pt_val (pe_call (ok_are_moves T) hr (by rfl) T.g_are_moves T.F_are_moves.kp T.b_are_moves .nil passF (pa_cons (pv 1) (pa_cons (pv 2) pa_nil))))) (pss_one (ps_raise rfl (takes_of rfl rfl rfl rfl) (pmk_oex T.o_BadWorld T.i_BadWorld T.t_BadWorld (ok_BadWorld_init T) (hr.mono (by decide)) T.b_BadWorld_init .nil passF (by rfl) T.gC_BadWorld (pa_cons pe_str pa_nil)))) pss_nil)
      (pss_cons (ps_fld (pv 0) (pv 1) rfl)
      (pss_cons (ps_fld (pv 0) (pe_callB (clen (K := K) rfl) (by rfl) T.m_len bt_len (pa_cons (pe_dget (hu_of hr) (pv 2) (pe_ix ix_str (pv 1) pe_int (fun _ _ => rfl)) (fun _ _ => rfl)) pa_nil)) rfl)
      (pss_one (ps_fld (pv 0) (pe_callTy call_dictD (by rfl) T.m_dict bt_dict (pa_cons (pv 2) pa_nil)) rfl)))))), ?_⟩
    have dz : (S d).length ≤ sizeLine := by rw [S_len]; exact Nat.le_trans hd.le (by decide)
    walk_at "v"
    refine ⟨d, rfl, hd, fun H1 s1 => ?_⟩
    walk_at "v"
    refine iteF ?_
    walk_at "v"; walk_at "v"
    refine ⟨p, d, n, M, a, rfl, hd, s1 _ _ hp, fun c hc => ⟨(hm c hc).1, (hm c hc).2.same s1⟩, n1, n2, fun H2 s2 => ?_⟩
    walk_at "v"
    refine iteF ?_
    have s12 := s1.trans s2
    have px : p ≠ x := ne_of (H := H) hp hx (by intro q; cases q)
    have ax : ∀ c ∈ d, a c ≠ x := fun c hc => (hm c hc).2.ni hx
    have d00 : 0 < d.length := List.length_pos_iff.mpr hd.ne
    have c0 : d[0]? = some d[0] := List.getElem?_eq_getElem d00
    have cm0 := List.mem_of_getElem? c0
    obtain ⟨pm0, ht0⟩ := hm _ cm0
    walk_at "v"; walk_at "v"
    refine ⟨x, _, dx, _, rfl, s12 _ _ hx, T.cl_World, T.nF_World_deeds, by decide, ?_⟩
    walk_at "v"; walk_at "v"
    refine ⟨_, _, d[0], rfl, rfl, dz, atI_int (j := 0) rfl (by rw [S_list]; exact c0), ?_⟩
    refine ⟨p, _, rfl, .inl ⟨_, Sum.inr (S [d[0]]), .inl (upd_oth (s12 _ _ hp) px), rfl, (val_in a cm0).symm⟩, ?_⟩
    refine ⟨a d[0], _, rfl, .inr ((ht0.same s12).oth (ax _ cm0)).sq, ?_⟩
    rw [mv_len, pm0.length_eq, List.length_range]
    walk_at "v"
    refine ⟨x, _, dx, _, rfl, upd_same, T.cl_World, T.nF_World_size, by show 1 < 1000; decide, ?_⟩
    walk_at "v"
    refine ⟨p, _, rfl, .inl (upd_oth (upd_oth (s12 _ _ hp) px) px), fun z hz => ?_⟩
    walk_at "v"
    have xz : x ≠ z := ne_of_none upd_same hz
    refine ⟨x, _, dx, _, rfl, upd_old upd_same hz, T.cl_World, T.nF_World__moves, by show 2 < 1000; decide, ?_⟩
    refine q _ (fun b o nb hb => ?_) ⟨dx, z, a, upd_same, upd_oth upd_same xz.symm, fun c hc => ?_⟩
    · have h1 := s12 _ _ hb
      have h2 := upd_oth (u := HO.ins A.c_World dx [("deeds", V.str (S d))]) h1 nb
      rw [upd_ne nb]
      refine upd_old ?_ hz
      rw [upd_ne nb, upd_ne nb]; exact h1
    · have h1 := (hm c hc).2.same s12
      have nb := ax c hc
      exact (((h1.oth nb).oth nb).old hz).oth nb
theorem ok_World__eq_ (T : Txt K mg A) : FnOk P w K mg base (CX P w) 1 A.a_World__eq_ A.d_World__eq_ ["self", "other"] (spEqB (fun a b r H => r = true ∧ WEq A.c_World a b H)) := by
  refine T.F_World__eq_.okX sc_World__eq_ (fun vs H Q E h => ?_) (fun cdv Ar outer s H vs Q E hr h => ?_)
  · obtain ⟨_, _, _, rfl, _⟩ := h
    rfl
  · obtain ⟨x, y, r, rfl, ⟨er, d, n, M, ⟨dx, px, a, h1, h2, h3⟩, ⟨dy, py, b, k1, k2, k3⟩⟩, q⟩ := h
    subst er
    refine ⟨_, (pss_one (ps_ret (pe_mid (pe_and (pe_callB (cisi (K := K) rfl) (by rfl) T.m_isinstance bt_isinstance (pa_cons (pv 1) (pa_cons (pe_glob (v := .ref A.c_World) (by rfl) T.gC_World rfl) pa_nil))) (pe_and (pe_cmpR op_eq (pe_fld (pv 0) rfl) (pe_fld (pv 1) rfl) (nomark _)) (pe_one (pe_cmpR (eq_dk (K := K) rfl hr) (pe_fld (pv 0) rfl) (pe_fld (pv 1) rfl) (nomark _)))))))), ?_⟩
    refine ⟨fun v' H' => v' = .bl true ∧ H' = H, ?_, fun v' H' ⟨e1, e2⟩ => by subst e1 e2; exact q _ Ext.rfl'⟩
    walk_at "v"
    refine ⟨_, _, _, _, _, rfl, .own _, .base (.ins k1 T.cl_World T.in_World.ha T.in_World.hn T.in_World.htk T.in_World.hm), T.in_World.me, ?_⟩
    walk_at "v"
    refine iteT ?_
    walk_at "v"
    refine ⟨x, _, dx, _, _, rfl, h1, T.cl_World, T.nF_World_deeds, rfl, ?_⟩
    walk_at "v"
    refine ⟨y, _, dy, _, _, rfl, k1, T.cl_World, T.nF_World_deeds, rfl, ?_⟩
    refine ⟨rfl, ?_⟩
    walk_at "v"
    rw [decide_eq_true rfl]
    refine iteT ?_
    walk_at "v"
    refine ⟨x, _, dx, _, _, rfl, h1, T.cl_World, T.nF_World__moves, rfl, ?_⟩
    walk_at "v"
    refine ⟨y, _, dy, _, _, rfl, k1, T.cl_World, T.nF_World__moves, rfl, ?_⟩
    refine ⟨px, py, _, _, datV H, rfl, rfl, .inl h2, .inl k2, dp_dct h3, dp_dct k3, ?_⟩
    rw [deq_dct h3 k3]
    exact ⟨rfl, rfl⟩
def lets (d : List Nat) : List Nat := d.flatMap fun c => [c, up1 c]
def sp_letters : Sp := fun vs H Q _ => ∃ d, vs = [.str (S d)] ∧ Dds d ∧ ∀ p H', Same H H' → H p = none → H' p = some (.lst (ones (lets d))) → Q (.ref p) H'
theorem ok_letters (T : Txt K mg A) : FnOk P w K mg base (CX P w) 1 A.a_letters A.d_letters ["_law_deeds_here"] (sp_letters) := by
  refine T.F_letters.okX sc_letters (fun vs H Q E h => ?_) (fun cdv Ar outer s H vs Q E hr h => ?_)
  · obtain ⟨_, rfl, _⟩ := h
    rfl
  · obtain ⟨d, rfl, hd, q⟩ := h
    refine ⟨_, (pss_cons (ps_set (i := 1) sc_letters.nd rfl (Or.inl rfl) (pe_lst pa_nil))
      (pss_cons (ps_for (passes_of rfl) rfl (pi_str (pv 0)) (pg_name (i := 2) sc_letters.nd rfl (Or.inl rfl)) (pss_one (ps_set (i := 1) sc_letters.nd rfl (Or.inl rfl) (pe_op op_cat (pv 1) (pe_lst (pa_cons (pv 2) (pa_cons (pbm0 (K := K) rfl PySem.F.plainAttrs_str PySem.F.slot_str_upper PySem.F.type_str_upper mt_upper (pv 2)) pa_nil)))))))
      (pss_one (ps_ret (pv 1))))), ?_⟩
    refine ⟨Nat.zero_le _, fun p hp => ?_⟩
    walk_at "v"
    refine ⟨_, rfl, ?_⟩
    refine for_it (walk_str (z := S d)) (fun i σ' H' => ∃ (l : Addr) (y : Option V), σ' = [some (.str (S d)), some (.ref l), y] ∧ Same H H' ∧ H l = none ∧ H' l = some (.lst (ones (lets (d.take i))))) ⟨p, none, rfl, Same.new hp, hp, upd_same⟩ (fun _ _ _ _ _ => trivial) ?_ ?_
    · rintro i x σ' H1 H2 hi ⟨l, y, rfl, s1, nl, h1⟩ ⟨rfl, c, hc, rfl⟩
      have hc' : d[i]? = some c := by simpa [S] using hc
      have il : i < d.length := (List.getElem?_eq_some_iff.mp hc').1
      have cl := hd.de.low c (List.mem_of_getElem? hc')
      have one : ∀ p : Addr, True := fun _ => trivial
      walk_at "v"; walk_at "v"; walk_at "v"
      refine ⟨rfl, _, rfl, rfl, ?_, ?_⟩
      · show (S [c]).length ≤ _
        rw [S_len]; exact Nat.le_trans (by decide : 1 ≤ 100) (by decide)
      rw [show Txt.upper ({ cps := #[c] } : Str) = S [up1 c] from up_asc (l := [c]) (fun x hx => by rw [List.mem_singleton.mp hx]; omega)]
      refine ⟨by walk_at "sz", fun e he => ?_⟩
      refine ⟨_, _, _, _, rfl, rfl, upd_old h1 he, upd_same, ?_, fun e2 he2 => ?_⟩
      · have := hd.le
        have e0 : (lets (d.take i)).length ≤ 8 := by
          unfold lets
          rw [List.length_flatMap]
          have : ∀ l : List Nat, (l.map fun c => [c, up1 c].length).sum = 2 * l.length := fun l => by
            induction l with
            | nil => rfl
            | cons a r ih => rw [List.map_cons, List.sum_cons, ih]; simp; omega
          rw [this, List.length_take]; omega
        rw [ones_len]; exact Nat.le_trans (by simp; omega : _ ≤ 100) (by decide)
      have et : lets (d.take (i + 1)) = lets (d.take i) ++ [c, up1 c] := by unfold lets; rw [take_one hc', List.flatMap_append]; simp
      refine ⟨e2, _, rfl, ?_, ?_, ?_⟩
      · exact s1.trans ((Same.new he).trans (Same.new he2))
      · exact Same.free (s1.trans (Same.new he)) he2
      · rw [upd_same, et]; unfold ones; rw [List.map_append]; rfl
    · rintro σ' H1 ⟨l, y, rfl, s1, nl, h1⟩
      walk_at "v"
      rw [show (S d).cps.size = d.length from S_len d, List.take_length] at h1
      exact q l H1 s1 nl h1
def sp_prow : Sp := fun vs H Q _ => ∃ (h g : Addr) (d : List Nat) (n : Nat), vs = [.ref h, .str (S d), .int n] ∧ Pot H h g ∧ Dds d ∧ n ≤ 1000 ∧
  ∀ l H', l.length ≤ n → Ls l → OverD d l → PG2 h g H H' → Q (.str (S l)) H'
theorem lets_over {d : List Nat} (hd : Dds d) {c : Nat} (h : c ∈ lets d) : IsL c ∧ lo1 c ∈ d := by
  unfold lets at h
  obtain ⟨b, hb, hc⟩ := List.mem_flatMap.mp h
  have q := hd.de.low b hb
  have h2 : c = b ∨ c = up1 b := by simpa using hc
  rcases h2 with k | k
  · subst k; exact ⟨.inr q, by rw [lo1_low q.1]; exact hb⟩
  · have e : up1 b = b - 32 := by unfold up1; rw [if_pos q]
    rw [e] at k
    subst k
    have e2 : lo1 (b - 32) = b := by unfold lo1; rw [if_pos (by omega)]; omega
    exact ⟨.inl (by omega), by rw [e2]; exact hb⟩
theorem ok_row (T : Txt K mg A) : FnOk P w K mg base (CX P w) 3 A.a_row A.d_row ["_law_pot_here", "_law_deeds_here", "_law_most"] (sp_prow) := by
  refine T.F_row.okX sc_row (fun vs H Q E h => ?_) (fun cdv Ar outer s H vs Q E hr h => ?_)
  · obtain ⟨_, _, _, _, rfl, _⟩ := h
    rfl
  · obtain ⟨h, g, d, n, rfl, hH, hd, nz, q⟩ := h
    refine ⟨_, (pss_one (ps_ret (pbm (K := K) rfl PySem.F.plainAttrs_str PySem.F.slot_str_join PySem.F.type_str_join (mjoin (K := K) rfl) pe_str (pa_cons (pe_lc (own := [("_law_k", 3)]) (tt := tYes) rfl sc_row.nd (pi_range1 (by rfl) T.m_range (pa_cons (pe_call (ok_draw T) (hr.mono (by decide)) (by rfl) T.g_draw T.F_draw.kp T.b_draw .nil passF (pa_cons (pv 0) (pa_cons (pe_op op_add (pv 2) pe_int) pa_nil))) pa_nil)) (blkOk_by (N := ["_law_pot_here", "_law_deeds_here", "_law_most", "_law_k"]) (sc := defScope s_row) (by decide +kernel)) (fun _ _ _ _ _ => (pg_name (i := 3) sc_row.nd rfl (Or.inl rfl))) (fun _ _ _ _ _ => pts_nil) (fun _ _ _ _ _ => (pe_call (ok_any T) hr (by rfl) T.g_any T.F_any.kp T.b_any .nil passF (pa_cons (pv 0) (pa_cons (pe_call (ok_letters T) (hr.mono (by decide)) (by rfl) T.g_letters T.F_letters.kp T.b_letters .nil passF (pa_cons (pv 1) pa_nil)) pa_nil))))) pa_nil)))), ?_⟩
    rw [S_nil]
    refine ⟨rfl, ?_⟩
    walk_at "v"; walk_at "v"; walk_at "ii"
    refine ⟨h, g, _, rfl, hH, by omega, by omega, fun m0 H1 m00 m01 g1 => ?_⟩
    obtain ⟨m, rfl⟩ : ∃ m : Nat, m0 = m := ⟨m0.toNat, by omega⟩
    refine ⟨_, rfl, by omega, by omega, fun D hD => ?_⟩
    rw [show ((m : Nat) : Int).toNat = m by omega]
    have nD := g1.free hD
    have Dn := hH.ne nD
    have lpos : 0 < (lets d).length := by
      cases d with
      | nil => exact absurd rfl hd.ne
      | cons a r => unfold lets; simp
    have lz : (lets d).length ≤ 8 := by
      unfold lets
      rw [List.length_flatMap]
      have : ∀ l : List Nat, (l.map fun c => [c, up1 c].length).sum = 2 * l.length := fun l => by
        induction l with
        | nil => rfl
        | cons a r ih => rw [List.map_cons, List.sum_cons, ih]; simp; omega
      have := this d
      have := hd.le
      omega
    -- what the list is, is neither of the pot nor tracked at first
    refine lc_range (Pv := fun i H' => ∃ l, l.length = i ∧ (∀ c ∈ l, c ∈ lets d) ∧ PG2 h g H H' ∧ H' D = some (.lst (ones l))) ⟨[], rfl, all_n, PG2.put hH g1 nD, upd_same⟩ ?_ ?_
    · rintro i H2 hi ⟨l, el, hl, g2, h2⟩
      have hi' : i < m := by simpa using hi
      refine ⟨rfl, ?_⟩
      walk_at "v"; walk_at "v"
      refine ⟨d, rfl, hd, fun p H3 s3 np h3 => ?_⟩
      have g3 := g2.same s3
      have pn := g2.2.1.ne np
      have l0 : ones (lets d) ≠ [] := fun z => by
        have := congrArg List.length z
        rw [ones_len, List.length_nil] at this; omega
      refine ⟨h, g, p, _, rfl, g3.2.1, .inl (SqL.of h3), pn.1, pn.2, l0, by rw [ones_len]; omega, fun j x H4 hx g4 => ?_⟩
      obtain ⟨c, hc, rfl⟩ : ∃ c, c ∈ lets d ∧ x = V.str (S [c]) := by
        unfold ones at hx
        rw [List.getElem?_map] at hx
        cases e : (lets d)[j]? with
        | none => rw [e] at hx; cases hx
        | some c => rw [e] at hx; exact ⟨c, List.mem_of_getElem? e, (Option.some.inj hx).symm⟩
      have h4 := g4.1 _ _ Dn (s3 _ _ h2)
      refine ⟨_, h4, ?_, l ++ [c], by rw [List.length_append, el]; rfl, ?_, ?_, ?_⟩
      · rw [ones_len]; exact Nat.lt_of_le_of_lt (show l.length ≤ 1000 by omega) (by decide)
      · intro y hy
        rcases List.mem_append.mp hy with z | z
        · exact hl y z
        · rw [List.mem_singleton.mp z]; exact hc
      · exact PG2.put hH (g3.trans g4) nD
      · rw [upd_same]; unfold ones; rw [List.map_append]; rfl
    · rintro H2 ⟨l, el, hl, g2, h2⟩
      have el' : l.length = m := by simpa using el
      rw [ones_eq] at h2
      refine ⟨_, _, _, rfl, rfl, .inl (SqL.of h2), ?_, ?_⟩
      · rw [S_len, List.length_nil, Nat.mul_zero, Nat.add_zero, sum_one]; omega
      · rw [RB.join_nil, flat_one]
        exact q l H2 (by omega) (fun c hc => (lets_over hd (hl c hc)).1) (fun c hc => (lets_over hd (hl c hc)).2) g2
def sp_mixed : Sp := fun vs H Q _ => ∃ (h g p : Addr) (ms : List Nat), vs = [.ref h, .ref p] ∧ Pot H h g ∧ H p = some (.lst (mv ms)) ∧ p ≠ h ∧ p ≠ g ∧ ms.length ≤ 1000 ∧
  ∀ z ks H', ks.Perm ms → PG2 h g H H' → H z = none → H' z = some (.lst (mv ks)) → Q (.ref z) H'
theorem ok_mixed (T : Txt K mg A) : FnOk P w K mg base (CX P w) 2 A.a_mixed A.d_mixed ["_law_pot_here", "_law_items"] (sp_mixed) := by
  refine T.F_mixed.okX sc_mixed (fun vs H Q E h => ?_) (fun cdv Ar outer s H vs Q E hr h => ?_)
  · obtain ⟨_, _, _, _, rfl, _⟩ := h
    rfl
  · obtain ⟨h, g, p, ms, rfl, hH, hp, ph, pg, mz, q⟩ := h
    refine ⟨_, (pss_cons (ps_set (i := 2) sc_mixed.nd rfl (Or.inl rfl) (pe_callTy (clist (K := K) rfl) (by rfl) T.m_list bt_list (pa_cons (pv 1) pa_nil)))
      (pss_cons (ps_for (passes_of rfl) rfl (pi_range1 (by rfl) T.m_range (pa_cons (pe_callB (clen (K := K) rfl) (by rfl) T.m_len bt_len (pa_cons (pv 2) pa_nil)) pa_nil)) (pg_name (i := 3) sc_mixed.nd rfl (Or.inl rfl)) (pss_cons (ps_set (i := 4) sc_mixed.nd rfl (Or.inl rfl) (pe_call (ok_draw T) hr (by rfl) T.g_draw T.F_draw.kp T.b_draw .nil passF (pa_cons (pv 0) (pa_cons (pe_callB (clen (K := K) rfl) (by rfl) T.m_len bt_len (pa_cons (pv 2) pa_nil)) pa_nil))))
      (pss_one (ps_asg (pe_tup (pa_cons (pe_ix (ixL (K := K) rfl) (pv 2) (pv 4) (fun _ _ => rfl)) (pa_cons (pe_ix (ixL (K := K) rfl) (pv 2) (pv 3) (fun _ _ => rfl)) pa_nil))) (pgT (K := K) (n := 2) rfl rfl (pgs_cons (pg_sub (pv 2) (pv 3) set_list) (pgs_cons (pg_sub (pv 2) (pv 4) set_list) pgs_nil)))))))
      (pss_one (ps_ret (pv 2))))), ?_⟩
    walk_at "v"
    refine ⟨p, _, rfl, .inl (SqL.of hp), fun l hl => ?_⟩
    generalize e1 : upd H l _ = H1
    have h1 : H1 l = some (.lst (mv ms)) := by rw [← e1]; exact upd_same
    have s1 : Same H H1 := by rw [← e1]; exact Same.new hl
    clear e1
    have ln := hH.ne hl
    walk_at "v"
    refine ⟨l, _, rfl, .inl (SqL.of h1), ?_⟩
    rw [mv_len]
    refine ⟨_, rfl, by omega, by omega, ?_⟩
    rw [show ((ms.length : Nat) : Int).toNat = ms.length by omega]
    refine for_range (n := ms.length) (fun i σ' H' => ∃ (ks : List Nat) (y z : Option V), σ' = [some (.ref h), some (.ref p), some (.ref l), y, z] ∧ ks.Perm ms ∧ PG2 h g H H' ∧ H' l = some (.lst (mv ks))) ⟨ms, none, none, rfl, .refl _, hH.go s1, h1⟩ ?_ ?_
    · rintro i σ' H2 hi ⟨ks, y, z, rfl, pm, g2, h2⟩
      have kl : ks.length = ms.length := pm.length_eq
      walk_at "v"; walk_at "v"
      refine ⟨l, _, rfl, .inl (SqL.of h2), ?_⟩
      rw [mv_len]
      refine ⟨h, g, _, rfl, g2.2.1, by omega, by omega, fun d H3 d0 d1 g3 => ?_⟩
      obtain ⟨j, rfl⟩ : ∃ j : Nat, d = j := ⟨d.toNat, by omega⟩
      have jl : j < ks.length := by omega
      have il : i < ks.length := by omega
      have h3 := g3.1 _ _ ln h2
      have g23 := g2.trans g3
      walk_at "v"; walk_at "v"
      refine ⟨l, _, _, _, rfl, rfl, SqL.of h3, atI_int rfl (mv_at jl), ?_⟩
      walk_at "v"; walk_at "v"
      refine ⟨l, _, _, _, rfl, rfl, SqL.of h3, atI_int (j := i) (by omega) (mv_at il), ?_⟩
      refine ⟨by walk_at "sz", fun t ht => ?_⟩
      generalize e4 : upd H3 t _ = H4
      have s4 : Same H3 H4 := by rw [← e4]; exact Same.new ht
      have t4 : H4 t = some (.tup [.int (go1 ks j : Nat), .int (go1 ks i : Nat)]) := by rw [← e4]; exact upd_same
      clear e4
      have h4 := s4 _ _ h3
      refine ⟨t, _, rfl, SqT.of t4, rfl, ?_⟩
      have ix : ∀ (k : Nat) (e : Int), e = (k : Int) → k < ks.length → ixN ks.length e = some k := fun k e ee kk => by
        subst ee
        unfold ixN
        rw [if_pos (by omega), if_pos (by omega)]
        rfl
      refine ⟨_, _, rfl, ?_⟩
      walk_at "v"; walk_at "v"
      refine ⟨l, _, _, i, rfl, rfl, h4, by rw [mv_len]; exact ix i _ (by omega) il, ?_⟩
      refine ⟨_, _, rfl, ?_⟩
      walk_at "v"; walk_at "v"
      refine ⟨l, _, _, j, rfl, rfl, upd_same, by rw [List.length_set, mv_len]; exact ix j _ rfl jl, ?_⟩
      have e5 : ((mv ks).set i (.int (go1 ks j : Nat))).set j (.int (go1 ks i : Nat)) = mv ((ks.set i (go1 ks j)).set j (go1 ks i)) := by
        unfold mv iv; rw [List.map_set, List.map_set, List.map_set, List.map_set]
      rw [e5]
      refine ⟨rfl, (ks.set i (go1 ks j)).set j (go1 ks i), _, _, rfl, ?_, ?_, upd_same⟩
      · have ei : go1 ks i = ks[i] := Option.some.inj ((go1_at il).symm.trans (List.getElem?_eq_getElem il))
        have ej : go1 ks j = ks[j] := Option.some.inj ((go1_at jl).symm.trans (List.getElem?_eq_getElem jl))
        rw [ei, ej]
        exact (List.set_set_perm il jl).trans pm
      · exact PG2.put hH (PG2.put hH (g23.same s4) hl) hl
    · rintro σ' H2 ⟨ks, y, z, rfl, pm, g2, h2⟩
      walk_at "v"
      exact q l ks H2 pm g2 hl h2
def sp_moves : Sp := fun vs H Q _ => ∃ (h g : Addr) (d : List Nat) (n : Nat), vs = [.ref h, .str (S d), .int n] ∧ Pot H h g ∧ Dds d ∧ n ≤ 1000 ∧
  ∀ (z : Addr) (a : Nat → Addr) (M : Nat → List Nat) (H' : Hp), PG2 h g H H' → H z = none → H' z = some (.dK (dct d a)) → (∀ c ∈ d, (M c).Perm (List.range n) ∧ TF H' (a c) (M c)) → Q (.ref z) H'
theorem ok_moves (T : Txt K mg A) : FnOk P w K mg base (CX P w) 3 A.a_moves A.d_moves ["_law_pot_here", "_law_deeds_here", "_law_size"] (sp_moves) := by
  refine T.F_moves.okX sc_moves (fun vs H Q E h => ?_) (fun cdv Ar outer s H vs Q E hr h => ?_)
  · obtain ⟨_, _, _, _, rfl, _⟩ := h
    rfl
  · obtain ⟨h, g, d, n, rfl, hH, hd, nz, q⟩ := h
    refine ⟨_, (pss_cons (ps_set (i := 3) sc_moves.nd rfl (Or.inl rfl) pe_dnewK)
      (pss_cons (ps_for (passes_of rfl) rfl (pi_str (pv 1)) (pg_name (i := 4) sc_moves.nd rfl (Or.inl rfl)) (pss_one (ps_dput (hu_of hr) (pv 3) (pv 4) (pe_callTy (ctupF (K := K) rfl) (by rfl) T.m_tuple bt_tuple (pa_cons (pe_call (ok_mixed T) hr (by rfl) T.g_mixed T.F_mixed.kp T.b_mixed .nil passF (pa_cons (pv 0) (pa_cons (pe_listRg rfl (by rfl) T.m_list (prg_1 (by rfl) T.m_range (pv 2))) pa_nil))) pa_nil)) rfl)))
      (pss_one (ps_ret (pv 3))))), ?_⟩
    intro z hz
    walk_at "v"
    refine ⟨_, rfl, ?_⟩
    have zn := hH.ne hz
    refine for_it (walk_str (z := S d)) (fun i σ' H' => ∃ (a : Nat → Addr) (M : Nat → List Nat) (y : Option V), σ' = [some (.ref h), some (.str (S d)), some (.int n), some (.ref z), y] ∧ PG2 h g H H' ∧ H' z = some (.dK (dct (d.take i) a)) ∧
      (∀ c ∈ d.take i, (M c).Perm (List.range n) ∧ TF H' (a c) (M c) ∧ a c ≠ h ∧ a c ≠ g)) ⟨fun _ => h, fun _ => [], none, rfl, hH.go (Same.new hz), upd_same, all_n⟩ (fun _ _ _ _ _ => trivial) ?_ ?_
    · rintro i x σ' H1 H2 hi ⟨a, M, y, rfl, g1, h1, am⟩ ⟨rfl, c, hc, rfl⟩
      have hc' : d[i]? = some c := by simpa [S] using hc
      have il : i < d.length := (List.getElem?_eq_some_iff.mp hc').1
      walk_at "v"; walk_at "v"
      refine ⟨_, rfl, RgOk.of_le (by decide) (by omega) (by decide) (by omega), fun p hp => ?_⟩
      rw [rg_mv]
      have pn := g1.2.1.ne hp
      refine ⟨h, g, p, List.range n, rfl, g1.2.1.same (Same.new hp), upd_same, pn.1, pn.2, by rw [List.length_range]; exact nz, fun w ks H3 pm g3 nw h3 => ?_⟩
      have g13 := (g1.same (Same.new hp)).trans g3
      refine ⟨w, _, rfl, SqL.of h3, fun t o ht o1 o2 => ?_⟩
      have tn := g3.2.1.ne ht
      have h4 := g3.1 _ _ zn (upd_old h1 hp)
      have zt : z ≠ t := ne_of_none h4 ht
      walk_at "v"; walk_at "v"
      refine ⟨z, _, rfl, DPut.k (k := Sum.inr (S [c])) (upd_old h4 ht) ?_, ?_⟩
      · unfold dct; rw [List.length_map, List.length_take]
        have := hd.le
        exact Nat.lt_of_le_of_lt (by omega : _ ≤ 100) (by decide)
      have cn : c ∉ d.take i := fun q => by
        have := d_take hd.de hc'
        have := this c q; omega
      refine ⟨fun x => if x = c then t else a x, fun x => if x = c then ks else M x, _, rfl, PG2.put hH (g13.same (Same.new ht)) hz, ?_, ?_⟩
      · rw [upd_same, put_dct _ cn, take_one hc']
        unfold dct
        rw [List.map_append]
        congr 1
        congr 1
        congr 1
        · refine List.map_congr_left fun x hx => ?_
          have : x ≠ c := fun e => cn (e ▸ hx)
          dsimp only; rw [if_neg this]
        · simp
      · intro x hx
        rw [take_one hc'] at hx
        rcases List.mem_append.mp hx with q | q
        · have : x ≠ c := fun e => cn (e ▸ q)
          obtain ⟨m1, m2, m3, m4⟩ := am x q
          dsimp only; rw [if_neg this, if_neg this]
          have m5 := (m2.old hp).bg g3.1 ⟨m3, m4⟩
          exact ⟨m1, (m5.old ht).oth (m5.tp.nk h4), m3, m4⟩
        · have e : x = c := List.mem_singleton.mp q
          dsimp only; rw [if_pos e, if_pos e]
          exact ⟨pm, ⟨o, upd_oth upd_same zt.symm, o1, o2⟩, tn.1, tn.2⟩
    · rintro σ' H1 ⟨a, M, y, rfl, g1, h1, am⟩
      walk_at "v"
      rw [show (S d).cps.size = d.length from S_len d, List.take_length] at h1 am
      exact q z a M H1 g1 hz h1 fun c hc => ⟨(am c hc).1, (am c hc).2.1⟩
/-- the standing is one of the world's: what is told of it -/
def sp_dstand (K : PySem.W.Frag) (C CS : Addr) : Sp := fun vs H Q E => ∃ (p : Addr) (d : List Nat) (n : Nat) (M : Nat → List Nat) (v : V) (o : Option Int), vs = [.ref p, v] ∧ WorldAt C H p d n M ∧ IntJ K H v o ∧ (within o 0 ((n : Nat) - 1) = false → ∀ H', Same H H' → E (.ref CS) none H') ∧
  (within o 0 ((n : Nat) - 1) = true → Q .non H)
theorem ok_demand_standing (T : Txt K mg A) : FnOk P w K mg base (CX P w) 3 A.a_demand_standing A.d_demand_standing ["world", "thing"] (sp_dstand K A.c_World A.c_NoStanding) := by
  refine T.F_demand_standing.okX sc_demand_standing (fun vs H Q E h => ?_) (fun cdv Ar outer s H vs Q E hr h => ?_)
  · obtain ⟨_, _, _, _, _, _, rfl, _⟩ := h
    rfl
  · obtain ⟨p, d, n, M, v, o, rfl, ⟨dx, q0, a, h1, h2, h3⟩, j, q1, q2⟩ := h
    refine ⟨_, (pss_one (ps_if (pt_not (pt_val (pe_call (ok_is_integer_within T) hr (by rfl) T.g_is_integer_within T.F_is_integer_within.kp T.b_is_integer_within .nil passF (pa_cons (pv 1) (pa_cons pe_int (pa_cons (pe_op op_sub (pe_fld (pv 0) rfl) pe_int) pa_nil)))))) (pss_one (ps_raise rfl (takes_of rfl rfl rfl rfl) (pmk_oexZ T.o_NoStanding T.i_NoStanding T.t_NoStanding (ok_NoStanding_init T) (hr.mono (by decide)) T.b_NoStanding_init passF (by rfl) T.gC_NoStanding))) pss_nil)), ?_⟩
    walk_at "v"; walk_at "v"
    refine ⟨p, _, dx, _, _, rfl, h1, T.cl_World, T.nF_World_size, rfl, ?_⟩
    walk_at "ii"
    refine ⟨v, o, _, _, rfl, j, ?_⟩
    walk_at "v"
    cases e : within o 0 ((n : Nat) - 1) with
    | true => exact q2 e
    | false => exact q1 e _ (Same.refl _)
def sp_led (K : PySem.W.Frag) (C CS CR : Addr) : Sp := fun vs H Q E => ∃ (p : Addr) (d : List Nat) (n : Nat) (M : Nat → List Nat) (v w : V) (o : Option Int), vs = [.ref p, v, w] ∧ WorldAt C H p d n M ∧ Mok n d M ∧ Dds d ∧ n ≤ 100000 ∧ IntJ K H v o ∧
  (within o 0 ((n : Nat) - 1) = false → ∀ H', Same H H' → E (.ref CS) none H') ∧
  (within o 0 ((n : Nat) - 1) = true → ∃ ol, OvJ K H d w ol ∧ (ol = none → ∀ H', Same H H' → E (.ref CR) none H') ∧ (∀ l (s : Nat), ol = some l → v = .int s → s < n → ∀ H', Same H H' → Q (.int (wk (A1 n M) l s : Nat)) H'))
theorem ok_led (T : Txt K mg A) : FnOk P w K mg base (CX P w) 4 A.a_led A.d_led ["world", "standing", "row"] (sp_led K A.c_World A.c_NoStanding A.c_NoRow) := by
  refine T.F_led.okX sc_led (fun vs H Q E h => ?_) (fun cdv Ar outer s H vs Q E hr h => ?_)
  · obtain ⟨_, _, _, _, _, _, _, rfl, _⟩ := h
    rfl
  · obtain ⟨p, d, n, M, v, w, o, rfl, wd, mk, hd, nz, j, q1, q2⟩ := h
    refine ⟨_, (pss_cons (ps_expr (pe_call (ok_demand_standing T) hr (by rfl) T.g_demand_standing T.F_demand_standing.kp T.b_demand_standing .nil (passes_call (takes_of rfl rfl rfl rfl) (fun _ _ _ _ h => h)) (pa_cons (pv 0) (pa_cons (pv 1) pa_nil))))
      (pss_cons (ps_expr (pe_call (ok_demand_row_over T) hr (by rfl) T.g_demand_row_over T.F_demand_row_over.kp T.b_demand_row_over .nil (passes_call (takes_of rfl rfl rfl rfl) (fun _ _ _ _ h => h)) (pa_cons (pe_fld (pv 0) rfl) (pa_cons (pv 2) pa_nil))))
      (pss_cons (ps_set (i := 3) sc_led.nd rfl (Or.inl rfl) (pe_call (ok_letter_moves T) hr (by rfl) T.g_letter_moves T.F_letter_moves.kp T.b_letter_moves .nil passF (pa_cons (pv 0) pa_nil)))
      (pss_cons (ps_set (i := 4) sc_led.nd rfl (Or.inl rfl) (pv 1))
      (pss_cons (ps_for (passes_of rfl) rfl (pi_str (pv 2)) (pg_name (i := 5) sc_led.nd rfl (Or.inl rfl)) (pss_one (ps_set (i := 4) sc_led.nd rfl (Or.inl rfl) (pe_ix (ixT (K := K) rfl) (pe_dget (hu_of hr) (pv 3) (pv 5) (fun _ _ => rfl)) (pv 4) (fun _ _ => rfl)))))
      (pss_one (ps_ret (pv 4)))))))), ?_⟩
    obtain ⟨dx, q0, a, h1, h2, h3⟩ := id wd
    walk_at "v"; walk_at "v"
    refine ⟨p, d, n, M, v, o, rfl, wd, j, q1, fun e => ?_⟩
    obtain ⟨ol, jl, r1, r2⟩ := q2 e
    walk_at "v"
    refine ⟨p, _, dx, _, _, rfl, h1, T.cl_World, T.nF_World_deeds, rfl, ?_⟩
    walk_at "v"
    refine ⟨d, w, ol, rfl, hd.de, jl, r1, fun ne H1 s1 => ?_⟩
    obtain ⟨l, rfl⟩ := Option.ne_none_iff_exists'.mp ne
    obtain ⟨s, rfl, sl⟩ : ∃ s : Nat, v = .int (s : Nat) ∧ s < n := by
      cases j with
      | int i =>
        have k : (decide ((0 : Int) ≤ i) && decide (i ≤ ((n : Nat) : Int) - 1)) = true := e
        rw [Bool.and_eq_true, decide_eq_true_iff, decide_eq_true_iff] at k
        exact ⟨i.toNat, by rw [show ((i.toNat : Nat) : Int) = i by omega], by omega⟩
      | bl b => cases e
      | non ty k => cases e
    have hw : w = .str (S l) ∧ Ls l ∧ l.length ≤ 100000 ∧ OverD d l := by
      cases jl with
      | yes a b c => exact ⟨rfl, a, b, c⟩
    obtain ⟨rfl, hl, lz, ov⟩ := hw
    walk_at "v"
    refine ⟨p, d, n, M, rfl, wd.same s1, mk, hd, nz, fun z kvs H2 s2 zn z2 lm kz => ?_⟩
    walk_at "v"; walk_at "v"
    refine ⟨_, rfl, ?_⟩
    have s12 := s1.trans s2
    have abk : AllBk n (A1 n M) l := fun x hx => A1_bk mk (ov x hx)
    refine for_it (walk_str (z := S l)) (fun i σ' G => ∃ (y : Option V), σ' = [some (.ref p), some (.int (s : Nat)), some (.str (S l)), some (.ref z), some (.int (wk (A1 n M) (l.take i) s : Nat)), y] ∧ G = H2) ⟨none, rfl, rfl⟩ (fun _ _ _ _ _ => trivial) ?_ ?_
    · rintro i x σ' G0 G hi ⟨y, rfl, rfl⟩ ⟨rfl, c, hc, rfl⟩
      have hc' : l[i]? = some c := by simpa [S] using hc
      have cm := List.mem_of_getElem? hc'
      obtain ⟨v1, e1⟩ := Option.ne_none_iff_exists'.mp (lm.2.2 c (hl c cm) (ov c cm))
      obtain ⟨t1, rfl, ht1⟩ := lm.1 [c] v1 e1
      obtain ⟨r, bk⟩ := abk c cm
      rw [rowMv_one bk.lm] at ht1
      have lt := wk_lt (l := l.take i) (A := A1 n M) (fun x hx => abk x (List.mem_of_mem_take hx)) sl
      walk_at "v"; walk_at "v"
      refine ⟨z, _, rfl, .inl ⟨_, Sum.inr (S [c]), .inl z2, rfl, e1.symm⟩, ?_⟩
      walk_at "v"
      refine ⟨t1, _, _, _, rfl, rfl, ht1.sq, atI_int rfl (mv_at (by rw [bk.lm]; exact lt)), ?_⟩
      refine ⟨some (.str (S [c])), ?_, rfl⟩
      rw [take_one hc', wk_app]; rfl
    · rintro σ' G ⟨y, rfl, rfl⟩
      walk_at "v"
      rw [show (S l).cps.size = l.length from S_len l, List.take_length]
      exact r2 l s rfl rfl sl _ s12
def sp_moveof (K : PySem.W.Frag) (C CR : Addr) : Sp := fun vs H Q E => ∃ (p : Addr) (d : List Nat) (n : Nat) (M : Nat → List Nat) (w : V) (ol : Option (List Nat)), vs = [.ref p, w] ∧ WorldAt C H p d n M ∧ Mok n d M ∧ Dds d ∧ n ≤ 100000 ∧
  OvJ K H d w ol ∧ (ol = none → ∀ H', Same H H' → E (.ref CR) none H') ∧ (∀ l, ol = some l → ∀ (t : Addr) H', Same H H' → TP H' t (rowMv (A1 n M) n l) → Q (.ref t) H')
theorem ok_move_of (T : Txt K mg A) : FnOk P w K mg base (CX P w) 4 A.a_move_of A.d_move_of ["world", "row"] (sp_moveof K A.c_World A.c_NoRow) := by
  refine T.F_move_of.okX sc_move_of (fun vs H Q E h => ?_) (fun cdv Ar outer s H vs Q E hr h => ?_)
  · obtain ⟨_, _, _, _, _, _, rfl, _⟩ := h
    rfl
  · obtain ⟨p, d, n, M, w, ol, rfl, wd, mk, hd, nz, jl, r1, r2⟩ := h
    refine ⟨_, (pss_cons (ps_expr (pe_call (ok_demand_row_over T) hr (by rfl) T.g_demand_row_over T.F_demand_row_over.kp T.b_demand_row_over .nil (passes_call (takes_of rfl rfl rfl rfl) (fun _ _ _ _ h => h)) (pa_cons (pe_fld (pv 0) rfl) (pa_cons (pv 1) pa_nil))))
      (pss_one (ps_ret (pe_call (ok_row_move T) (hr.mono (by decide)) (by rfl) T.g_row_move T.F_row_move.kp T.b_row_move .nil passF (pa_cons (pe_call (ok_letter_moves T) hr (by rfl) T.g_letter_moves T.F_letter_moves.kp T.b_letter_moves .nil passF (pa_cons (pv 0) pa_nil)) (pa_cons (pv 1) pa_nil)))))), ?_⟩
    obtain ⟨dx, q0, a, h1, h2, h3⟩ := id wd
    walk_at "v"
    refine ⟨p, _, dx, _, _, rfl, h1, T.cl_World, T.nF_World_deeds, rfl, ?_⟩
    walk_at "v"
    refine ⟨d, w, ol, rfl, hd.de, jl, r1, fun ne H1 s1 => ?_⟩
    obtain ⟨l, rfl⟩ := Option.ne_none_iff_exists'.mp ne
    have hw : w = .str (S l) ∧ Ls l ∧ l.length ≤ 100000 ∧ OverD d l := by
      cases jl with
      | yes a b c => exact ⟨rfl, a, b, c⟩
    obtain ⟨rfl, hl, lz, ov⟩ := hw
    have abk : AllBk n (A1 n M) l := fun x hx => A1_bk mk (ov x hx)
    walk_at "v"
    refine ⟨p, d, n, M, rfl, wd.same s1, mk, hd, nz, fun z kvs H2 s2 zn z2 lm kz => ?_⟩
    walk_at "v"
    refine ⟨z, l, d, n, A1 n M, kvs, rfl, z2, by omega, lm, fun x hx => ⟨hl x hx, ov x hx⟩, abk, nz, fun t H3 b3 ht => ?_⟩
    refine r2 l rfl t H3 (fun b o hb => ?_) ht
    exact b3 b o (ne_of_none (s1 _ _ hb) zn) (s2 _ _ (s1 _ _ hb))
def sp_order (K : PySem.W.Frag) (C CR : Addr) : Sp := fun vs H Q E => ∃ (p : Addr) (d : List Nat) (n : Nat) (M : Nat → List Nat) (w : V) (ol : Option (List Nat)), vs = [.ref p, w] ∧ WorldAt C H p d n M ∧ Mok n d M ∧ Dds d ∧ n ≤ 40 ∧
  OvJ K H d w ol ∧ (ol = none → ∀ H', Same H H' → E (.ref CR) none H') ∧ (∀ l, ol = some l → ∀ (N : Nat) H', Same H H' → MV.Ord n (rowMv (A1 n M) n l) N → Q (.int N) H')
theorem ok_order (T : Txt K mg A) : FnOk P w K mg base (CX P w) 5 A.a_order A.d_order ["world", "row"] (sp_order K A.c_World A.c_NoRow) := by
  refine T.F_order.okX sc_order (fun vs H Q E h => ?_) (fun cdv Ar outer s H vs Q E hr h => ?_)
  · obtain ⟨_, _, _, _, _, _, rfl, _⟩ := h
    rfl
  · obtain ⟨p, d, n, M, w, ol, rfl, wd, mk, hd, nz, jl, r1, r2⟩ := h
    refine ⟨_, (pss_one (ps_ret (pe_call (ok_order_of T) (hr.mono (by decide)) (by rfl) T.g_order_of T.F_order_of.kp T.b_order_of .nil passF (pa_cons (pe_call (ok_move_of T) hr (by rfl) T.g_move_of T.F_move_of.kp T.b_move_of .nil (passes_call (takes_of rfl rfl rfl rfl) (fun _ _ _ _ h => h)) (pa_cons (pv 0) (pa_cons (pv 1) pa_nil))) pa_nil)))), ?_⟩
    walk_at "v"; walk_at "v"
    refine ⟨p, d, n, M, w, ol, rfl, wd, mk, hd, by omega, jl, r1, fun l el t H1 s1 ht => ?_⟩
    have ov : OverD d l := by
      subst el
      cases jl with
      | yes a b c => exact c
    obtain ⟨r, bk⟩ := rowMv_bk (n := n) (A := A1 n M) (l := l) fun x hx => A1_bk mk (ov x hx)
    refine ⟨t, n, _, r, rfl, ht, bk, nz, fun N H2 s2 od => ?_⟩
    exact r2 l el N H2 (s1.trans s2) od
def sp_step : Sp := fun vs H Q _ => ∃ (q : Addr) (d : List Nat) (n : Nat) (M : Nat → List Nat) (a : Nat → Addr) (c s : Nat), vs = [.ref q, .str (S [c]), .int s] ∧ H q = some (.dK (dct d a)) ∧ (∀ c ∈ d, TF H (a c) (M c)) ∧ Mok n d M ∧ IsL c ∧ lo1 c ∈ d ∧ Dds d ∧ s < n ∧
  Q (.int (go1 (A1 n M c) s : Nat)) H
theorem ok_step (T : Txt K mg A) : FnOk P w K mg base (CX P w) 1 A.a_step A.d_step ["_law_moves_here", "_law_letter", "_law_standing"] (sp_step) := by
  refine T.F_step.okX sc_step (fun vs H Q E h => ?_) (fun cdv Ar outer s H vs Q E hr h => ?_)
  · obtain ⟨_, _, _, _, _, _, _, rfl, _⟩ := h
    rfl
  · obtain ⟨p, d, n, M, a, c, s, rfl, hp, ha, mk, hc, cd, hd, sn, q⟩ := h
    refine ⟨_, (pss_cons (ps_if (pt_cmpR op_eq (pv 1) pe_str (nomark _)) (pss_one (ps_ret (pv 2))) pss_nil)
      (pss_cons (ps_if (pt_cmp (pc_din (hu_of hr) (pv 1) (pv 0))) (pss_one (ps_ret (pe_ix (ixT (K := K) rfl) (pe_dget (hu_of hr) (pv 0) (pv 1) (fun _ _ => rfl)) (pv 2) (fun _ _ => rfl)))) pss_nil)
      (pss_one (ps_ret (pbmF PySem.F.plainAttrs_tuple PySem.F.slot_tuple_index PySem.F.type_tuple_index (mtupix (K := K) rfl) (pe_dget (hu_of hr) (pv 0) (pbm0 (K := K) rfl PySem.F.plainAttrs_str PySem.F.slot_str_lower PySem.F.type_str_lower mt_lower (pv 1)) (fun _ _ => rfl)) (pa_cons (pv 2) pa_nil)))))), ?_⟩
    have low := hd.de.low _ cd
    walk_at "v"
    refine ⟨rfl, ?_⟩
    walk_at "v"
    rw [S_nil, dec_eq, decide_eq_false (by simp)]
    refine iteF ?_
    walk_at "v"; walk_at "v"
    refine ⟨p, _, rfl, .inl ⟨_, Sum.inr (S [c]), .inl hp, rfl, rfl⟩, ?_⟩
    walk_at "v"
    obtain ⟨r, bk⟩ := mk _ cd
    unfold RB.IsL at hc
    rcases hc with k | k
    · have e2 : lo1 c = c + 32 := by unfold lo1; rw [if_pos (by omega)]
      rw [val_out a fun b hb e => by
        have e3 := S_inj (Sum.inr.inj e)
        cases e3
        have := hd.de.low _ hb
        omega]
      refine iteF ?_
      walk_at "v"; walk_at "v"
      refine ⟨rfl, _, rfl, rfl, by rw [S_len]; exact (by decide : 1 ≤ 5592405), ?_⟩
      rw [lo_asc (l := [c]) (fun x hx => by rw [List.mem_singleton.mp hx]; omega), List.map_cons, List.map_nil]
      refine ⟨p, _, rfl, .inl ⟨_, Sum.inr (S [lo1 c]), .inl hp, rfl, (val_in a cd).symm⟩, ?_⟩
      obtain ⟨o, oa, o1, o2⟩ := ha _ cd
      refine ⟨⟨o, _, oa, o1, o2⟩, ?_⟩
      walk_at "v"
      have bf := bk_rv bk
      have fi := bf.first sn
      have ge := bf.hr s sn
      refine ⟨a (lo1 c), iv (M (lo1 c)), s, go1 (rv n (M (lo1 c))) s, rfl, rfl, (ha _ cd).tp.sq, ?_, fun j hj e => ?_, ?_⟩
      · unfold iv; rw [List.getElem?_map, fi.1]; rfl
      · unfold iv at e
        rw [List.getElem?_map] at e
        obtain ⟨x, hx, ex⟩ := Option.map_eq_some_iff.mp e
        have : x = s := by omega
        subst this
        exact fi.2 j hj hx
      · have eA : A1 n M c = rv n (M (lo1 c)) := by unfold A1; rw [if_neg (by omega)]
        rw [eA] at q
        exact q
    · have e2 : lo1 c = c := lo1_low k.1
      rw [e2] at cd bk
      rw [val_in a cd]
      refine iteT ?_
      walk_at "v"; walk_at "v"
      refine ⟨p, _, rfl, .inl ⟨_, Sum.inr (S [c]), .inl hp, rfl, (val_in a cd).symm⟩, ?_⟩
      walk_at "v"
      refine ⟨a c, _, _, _, rfl, rfl, (ha c cd).tp.sq, atI_int rfl (mv_at (by rw [bk.lm]; exact sn)), ?_⟩
      rw [A1_low k.1] at q
      exact q
def sp_lled : Sp := fun vs H Q _ => ∃ (q : Addr) (d l : List Nat) (n : Nat) (M : Nat → List Nat) (a : Nat → Addr) (s : Nat), vs = [.ref q, .int s, .str (S l)] ∧ H q = some (.dK (dct d a)) ∧ (∀ c ∈ d, TF H (a c) (M c)) ∧ Mok n d M ∧ Ls l ∧ OverD d l ∧ Dds d ∧ s < n ∧
  Q (.int (wk (A1 n M) l s : Nat)) H
theorem ok_lled (T : Txt K mg A) : FnOk P w K mg base (CX P w) 2 A.a_lled A.d_lled ["_law_moves_here", "_law_standing", "_law_row_here"] (sp_lled) := by
  refine T.F_lled.okX sc_lled (fun vs H Q E h => ?_) (fun cdv Ar outer s H vs Q E hr h => ?_)
  · obtain ⟨_, _, _, _, _, _, _, rfl, _⟩ := h
    rfl
  · obtain ⟨p, d, l, n, M, a, s, rfl, hp, ha, mk, hl, ov, hd, sn, q⟩ := h
    refine ⟨_, (pss_cons (ps_for (passes_of rfl) rfl (pi_str (pv 2)) (pg_name (i := 3) sc_lled.nd rfl (Or.inl rfl)) (pss_one (ps_set (i := 1) sc_lled.nd rfl (Or.inl rfl) (pe_call (ok_step T) hr (by rfl) T.g_step T.F_step.kp T.b_step .nil passF (pa_cons (pv 0) (pa_cons (pv 3) (pa_cons (pv 1) pa_nil)))))))
      (pss_one (ps_ret (pv 1)))), ?_⟩
    walk_at "v"
    refine ⟨_, rfl, ?_⟩
    refine for_it (walk_str (z := S l)) (fun i σ' G => ∃ (y : Option V), σ' = [some (.ref p), some (.int (wk (A1 n M) (l.take i) s : Nat)), some (.str (S l)), y] ∧ G = H) ⟨none, rfl, rfl⟩ (fun _ _ _ _ _ => trivial) ?_ ?_
    · rintro i x σ' G0 G hi ⟨y, rfl, rfl⟩ ⟨rfl, c, hc, rfl⟩
      have hc' : l[i]? = some c := by simpa [S] using hc
      have cm := List.mem_of_getElem? hc'
      have lt := wk_lt (n := n) (l := l.take i) (A := A1 n M) (fun x hx => A1_bk mk (ov x (List.mem_of_mem_take hx))) sn
      walk_at "v"; walk_at "v"; walk_at "v"
      refine ⟨p, d, n, M, a, c, _, rfl, hp, ha, mk, hl c cm, ov c cm, hd, lt, ?_⟩
      refine ⟨some (.str (S [c])), ?_, rfl⟩
      rw [take_one hc', wk_app]; rfl
    · rintro σ' G ⟨y, rfl, rfl⟩
      walk_at "v"
      rw [show (S l).cps.size = l.length from S_len l, List.take_length]
      exact q
/-- a world made of moves that are given -/
def sp_worldof (C : Addr) : Sp := fun vs H Q _ => ∃ (q : Addr) (d : List Nat) (n : Nat) (M : Nat → List Nat) (a : Nat → Addr), vs = [.str (S d), .ref q] ∧ Dds d ∧ H q = some (.dK (dct d a)) ∧ (∀ c ∈ d, (M c).length = n ∧ TP H (a c) (M c)) ∧
  ∀ (p : Addr) H', Same H H' → WorldAt C H' p d n M → Q (.ref p) H'
theorem ok_world_of (T : Txt K mg A) : FnOk P w K mg base (CX P w) 6 A.a_world_of A.d_world_of ["deeds", "moves"] (sp_worldof A.c_World) := by
  refine T.F_world_of.okX sc_world_of (fun vs H Q E h => ?_) (fun cdv Ar outer s H vs Q E hr h => ?_)
  · obtain ⟨_, _, _, _, _, rfl, _⟩ := h
    rfl
  · obtain ⟨q0, d, n, M, a, rfl, hd, hq, hm, q⟩ := h
    refine ⟨_, (pss_cons (ps_set (i := 2) sc_world_of.nd rfl (Or.inl rfl) (pe_make T.M_World (ok_World_init T) hr (by rfl) T.gC_World T.b_World_init .nil (passes_call (takes_of rfl rfl rfl rfl) (fun _ _ _ _ h => h)) (pa_cons (pv 0) (pa_cons (pe_dc (own := [("deed", 3)]) (tt := tYes) rfl sc_world_of.nd (pi_str (pv 0)) (blkOk_by (N := ["deeds", "moves", "world", "deed"]) (sc := defScope s_world_of) (by decide +kernel)) (fun _ _ _ _ _ => (pg_name (i := 3) sc_world_of.nd rfl (Or.inl rfl))) (fun _ _ _ _ _ => pts_nil) (fun _ _ _ _ _ => (pv 3)) (fun _ _ _ _ _ => (pe_tup (pa_cons pe_int pa_nil)))) pa_nil))))
      (pss_cons (ps_fld (pv 2) (pe_callB (clen (K := K) rfl) (by rfl) T.m_len bt_len (pa_cons (pe_dget (hu_of hr) (pv 1) (pe_ix ix_str (pv 0) pe_int (fun _ _ => rfl)) (fun _ _ => rfl)) pa_nil)) rfl)
      (pss_cons (ps_fld (pv 2) (pe_callTy call_dictD (by rfl) T.m_dict bt_dict (pa_cons (pv 1) pa_nil)) rfl)
      (pss_one (ps_ret (pv 2)))))), ?_⟩
    walk_at "v"; walk_at "v"
    refine ⟨_, rfl, fun D hD => ?_⟩
    refine dc_it (walk_str (z := S d)) (fun i G => ∃ b, Same H G ∧ G D = some (.dK (dct (d.take i) b)) ∧ ∀ c ∈ d.take i, TP G (b c) [0]) ⟨fun _ => D, Same.new hD, upd_same, all_n⟩ (fun _ _ _ _ => trivial) ?_ ?_
    · rintro i x G1 G2 hi ⟨b, s1, h1, b1⟩ ⟨rfl, c, hc, rfl⟩
      have hc' : d[i]? = some c := by simpa [S] using hc
      have il : i < d.length := (List.getElem?_eq_some_iff.mp hc').1
      have cn : c ∉ d.take i := fun q => by
        have := d_take hd.de hc'
        have := this c q; omega
      refine ⟨rfl, ?_⟩
      walk_at "v"
      refine ⟨by walk_at "sz", fun t ht => ?_⟩
      refine ⟨_, Sum.inr (S [c]), rfl, upd_old h1 ht, ?_, fun x => if x = c then t else b x, ?_, ?_, ?_⟩
      · unfold dct; rw [List.length_map, List.length_take]
        have := hd.le
        exact Nat.lt_of_le_of_lt (by omega : _ ≤ 100) (by decide)
      · exact Same.mut hD (s1.trans (Same.new ht))
      · rw [upd_same, put_dct _ cn, take_one hc']
        unfold dct
        rw [List.map_append]
        congr 1
        congr 1
        congr 1
        · refine List.map_congr_left fun x hx => ?_
          have : x ≠ c := fun e => cn (e ▸ hx)
          dsimp only; rw [if_neg this]
        · simp
      · intro x hx
        have Dt : t ≠ D := (ne_of_none h1 ht).symm
        rw [take_one hc'] at hx
        rcases List.mem_append.mp hx with q | q
        · have : x ≠ c := fun e => cn (e ▸ q)
          dsimp only; rw [if_neg this]
          exact ((b1 x q).old (o := .tup [.int 0]) ht).oth ((b1 x q).nk h1)
        · have e : x = c := List.mem_singleton.mp q
          dsimp only; rw [if_pos e]
          exact TP.of (upd_oth upd_same Dt)
    rintro G1 ⟨b, s1, h1, b1⟩
    rw [show (S d).cps.size = d.length from S_len d, List.take_length] at h1 b1
    intro wp dx hwp hdx ndx
    generalize e4 : upd (upd G1 dx (.own wp)) wp _ = H4
    have w4 : H4 wp = some (.ins A.c_World dx []) := by rw [← e4]; exact upd_same
    have s4 : Same G1 H4 := by rw [← e4]; exact fun b o hb => upd_oth (upd_old hb hdx) (ne_of_none hb hwp)
    clear e4
    refine ⟨wp, dx, D, d, 1, fun _ => [0], b, rfl, w4, hd, s4 _ _ h1, fun c hc => ⟨.refl _, (b1 c hc).same s4⟩, by decide, by decide, fun H5 b5 wd5 => ?_⟩
    have s5 : Same H H5 := fun b o hb => b5 _ _ (ne_of_none (s1 _ _ hb) hwp) (s4 _ _ (s1 _ _ hb))
    have wn : H wp = none := Same.free s1 hwp
    obtain ⟨dy, qq, bb, k1, k2, k3⟩ := wd5
    refine ⟨rfl, ?_⟩
    have d00 : 0 < d.length := List.length_pos_iff.mpr hd.ne
    have c0 : d[0]? = some d[0] := List.getElem?_eq_getElem d00
    have cm0 := List.mem_of_getElem? c0
    have dz : (S d).length ≤ sizeLine := by rw [S_len]; exact Nat.le_trans hd.le (by decide)
    obtain ⟨ml, ht0⟩ := hm _ cm0
    walk_at "v"; walk_at "v"
    refine ⟨_, _, d[0], rfl, rfl, dz, atI_int (j := 0) rfl (by rw [S_list]; exact c0), ?_⟩
    refine ⟨q0, _, rfl, .inl ⟨_, Sum.inr (S [d[0]]), .inl (s5 _ _ hq), rfl, (val_in a cm0).symm⟩, ?_⟩
    refine ⟨a d[0], _, rfl, .inr (ht0.same s5).sq, ?_⟩
    rw [mv_len, ml]
    walk_at "v"
    refine ⟨wp, _, dy, _, rfl, k1, T.cl_World, T.nF_World_size, by show 3 < 1000; decide, ?_⟩
    have qn : q0 ≠ wp := ne_of_none hq wn
    walk_at "v"
    refine ⟨q0, _, rfl, .inl (upd_oth (s5 _ _ hq) qn), fun z hz => ?_⟩
    walk_at "v"
    have xz : wp ≠ z := ne_of_none upd_same hz
    refine ⟨wp, _, dy, _, rfl, upd_old upd_same hz, T.cl_World, T.nF_World__moves, by show 3 < 1000; decide, ?_⟩
    walk_at "v"
    refine q wp _ (fun b o hb => ?_) ⟨dy, z, a, upd_same, upd_oth upd_same xz.symm, fun c hc => ?_⟩
    · have nb : b ≠ wp := ne_of_none hb wn
      exact upd_oth (upd_old (upd_oth (s5 _ _ hb) nb) hz) nb
    · have h1 := (hm c hc).2.same s5
      have nb := (hm c hc).2.nn wn
      exact ((h1.oth nb).old hz).oth nb
theorem ok_OtherDeeds_init (T : Txt K mg A) : FnOk P w K mg base (CX P w) 1 A.a_OtherDeeds_init A.d_OtherDeeds_init ["self"] (spPass) := by
  refine T.F_OtherDeeds_init.okX sc_OtherDeeds_init (fun vs H Q E h => ?_) (fun cdv Ar outer s H vs Q E hr h => ?_)
  · obtain ⟨_, rfl, _⟩ := h
    rfl
  · obtain ⟨x, rfl, q⟩ := h
    exact ⟨_, (pss_one ps_pass), q⟩
def sp_samedeeds (C CO : Addr) : Sp := fun vs H Q E => ∃ (p r : Addr) (d d2 : List Nat) (n n2 : Nat) (M M2 : Nat → List Nat), vs = [.ref p, .ref r] ∧ WorldAt C H p d n M ∧ WorldAt C H r d2 n2 M2 ∧
  (d = d2 → Q .non H) ∧ (d ≠ d2 → ∀ H', Same H H' → E (.ref CO) none H')
theorem ok_demand_same_deeds (T : Txt K mg A) : FnOk P w K mg base (CX P w) 3 A.a_demand_same_deeds A.d_demand_same_deeds ["one", "other"] (sp_samedeeds A.c_World A.c_OtherDeeds) := by
  refine T.F_demand_same_deeds.okX sc_demand_same_deeds (fun vs H Q E h => ?_) (fun cdv Ar outer s H vs Q E hr h => ?_)
  · obtain ⟨_, _, _, _, _, _, _, _, rfl, _⟩ := h
    rfl
  · obtain ⟨p, r, d, d2, n, n2, M, M2, rfl, ⟨dx, q0, a, h1, h2, h3⟩, ⟨dx', q0', a', k1, k2, k3⟩, q1, q2⟩ := h
    refine ⟨_, (pss_one (ps_if (pt_cmpR op_ne (pe_fld (pv 0) rfl) (pe_fld (pv 1) rfl) (nomark _)) (pss_one (ps_raise rfl (takes_of rfl rfl rfl rfl) (pmk_oexZ T.o_OtherDeeds T.i_OtherDeeds T.t_OtherDeeds (ok_OtherDeeds_init T) (hr.mono (by decide)) T.b_OtherDeeds_init passF (by rfl) T.gC_OtherDeeds))) pss_nil)), ?_⟩
    walk_at "v"
    refine ⟨p, _, dx, _, _, rfl, h1, T.cl_World, T.nF_World_deeds, rfl, ?_⟩
    walk_at "v"
    refine ⟨r, _, dx', _, _, rfl, k1, T.cl_World, T.nF_World_deeds, rfl, ?_⟩
    refine ⟨rfl, ?_⟩
    walk_at "v"
    by_cases e : d = d2
    · subst e
      rw [decide_eq_true rfl]
      refine iteF ?_
      exact q1 rfl
    · rw [decide_eq_false fun z => e (S_inj (V.str.inj z))]
      refine iteT ?_
      exact q2 e _ (Same.refl _)
def sp_tlinit (C : Addr) : Sp := fun vs H Q _ => ∃ (x : Addr) (m : V), vs = [.ref x, m] ∧ H x = some (exo x C none) ∧ ∀ dx, H dx = none → dx ≠ x → Q .non (upd (upd H dx (exd dx [("most", m)])) x (exo x C (some dx)))
theorem ok_TooLarge_init (T : Txt K mg A) : FnOk P w K mg base (CX P w) 1 A.a_TooLarge_init A.d_TooLarge_init ["self", "most"] (sp_tlinit A.c_TooLarge) := by
  refine T.F_TooLarge_init.okX sc_TooLarge_init (fun vs H Q E h => ?_) (fun cdv Ar outer s H vs Q E hr h => ?_)
  · obtain ⟨_, _, rfl, _⟩ := h
    rfl
  · obtain ⟨x, m, rfl, hx, q⟩ := h
    refine ⟨_, (pss_one (ps_ost (pv 0) (pv 1))), ?_⟩
    walk_at "v"; walk_at "v"
    exact ⟨x, A.c_TooLarge, rfl, T.o_TooLarge, T.xn_TooLarge_most, .inl ⟨hx, q⟩⟩
def sp_beside (C CO CT : Addr) : Sp := fun vs H Q E => ∃ (p r : Addr) (d d2 : List Nat) (n n2 : Nat) (M M2 : Nat → List Nat), vs = [.ref p, .ref r] ∧ WorldAt C H p d n M ∧ WorldAt C H r d2 n2 M2 ∧ Dds d ∧ n ≤ 100000 ∧ n2 ≤ 100000 ∧ (∀ c ∈ d, (M c).length = n) ∧ (∀ c ∈ d2, (M2 c).length = n2) ∧
  (d ≠ d2 → ∀ H', Same H H' → E (.ref CO) none H') ∧ (d = d2 → 2000 < n * n2 → ∀ dd H', Same H H' → H' dd = some (.xd [("most", .int 2000)]) → E (.ref CT) (some dd) H') ∧
  (d = d2 → n * n2 ≤ 2000 → ∀ z H', Same H H' → WorldAt C H' z d (n * n2) (pms n2 M M2) → Q (.ref z) H')
theorem ok_beside (T : Txt K mg A) : FnOk P w K mg base (CX P w) 7 A.a_beside A.d_beside ["one", "other"] (sp_beside A.c_World A.c_OtherDeeds A.c_TooLarge) := by
  refine T.F_beside.okX sc_beside (fun vs H Q E h => ?_) (fun cdv Ar outer s H vs Q E hr h => ?_)
  · obtain ⟨_, _, _, _, _, _, _, _, rfl, _⟩ := h
    rfl
  · obtain ⟨p, r, d, d2, n, n2, M, M2, rfl, wd, wd2, hd, nz, nz2, ml, ml2, q1, q2, q3⟩ := h
    refine ⟨_, (pss_cons (ps_expr (pe_call (ok_demand_same_deeds T) (hr.mono (by decide)) (by rfl) T.g_demand_same_deeds T.F_demand_same_deeds.kp T.b_demand_same_deeds .nil (passes_call (takes_of rfl rfl rfl rfl) (fun _ _ _ _ h => h)) (pa_cons (pv 0) (pa_cons (pv 1) pa_nil))))
      (pss_cons (ps_if (pt_cmpR op_gt (pe_op op_mul (pe_fld (pv 0) rfl) (pe_fld (pv 1) rfl)) (pe_glob (v := V.int (2000)) (by rfl) T.c_MOST_BESIDE T.r_MOST_BESIDE) (nomark _)) (pss_one (ps_raise rfl (takes_of rfl rfl rfl rfl) (pmk_oex T.o_TooLarge T.i_TooLarge T.t_TooLarge (ok_TooLarge_init T) (hr.mono (by decide)) T.b_TooLarge_init .nil passF (by rfl) T.gC_TooLarge (pa_cons (pe_glob (v := V.int (2000)) (by rfl) T.c_MOST_BESIDE T.r_MOST_BESIDE) pa_nil)))) pss_nil)
      (pss_cons (ps_asg (pe_tup (pa_cons (pe_prop (pv 0) T.cl_World T.pr_World_moves (ok_World_moves T) (hr.mono (by decide)) T.b_World_moves .nil passF rfl) (pa_cons (pe_prop (pv 1) T.cl_World T.pr_World_moves (ok_World_moves T) (hr.mono (by decide)) T.b_World_moves .nil passF rfl) pa_nil))) (pgT (K := K) (n := 2) rfl rfl (pgs_cons (pg_name (i := 2) sc_beside.nd rfl (Or.inr rfl)) (pgs_cons (pg_name (i := 3) sc_beside.nd rfl (Or.inr rfl)) pgs_nil))))
      (pss_cons (ps_setDc (i := 4) (own := [("deed", 5)]) (tt := tYes) rfl sc_beside.nd rfl rfl (sw_dc rfl rfl rfl (by decide +kernel)) (pi_str (pe_fld (pv 0) rfl)) (blkOk_by (N := ["one", "other", "here", "there", "moves", "deed", "goal", "second"]) (sc := defScope s_beside) (by decide +kernel)) (fun _ _ _ _ _ => (pg_name (i := 5) sc_beside.nd rfl (Or.inr rfl))) (fun _ _ _ _ _ => pts_nil) (fun _ _ _ _ _ => (pv 5)) (fun _ _ _ _ _ => (pe_callTy (ctuple (K := K) rfl) (by rfl) T.m_tuple bt_tuple (pa_cons (pe_lc2 (own := [("goal", 6), ("second", 7)]) (vs1 := [7]) (tt := tYes) (tt1 := tYes) rfl sc_beside.nd (piT (K := K) rfl (pe_dget (hu_of hr) (pv 2) (pv 5) (fun _ _ => rfl))) (blk_in (N := ["one", "other", "here", "there", "moves", "deed", "goal", "second"]) (by decide +kernel)) (by decide) (fun _ _ _ _ _ => (pg_name (i := 6) sc_beside.nd rfl (Or.inl rfl))) (fun _ _ _ _ _ => pts_nil) (fun _ _ _ _ _ => (piT (K := K) rfl (pe_dget (hu_of hr) (pv 3) (pv 5) (fun _ _ => rfl)))) (fun _ _ _ _ _ => (pg_name (i := 7) sc_beside.nd rfl (Or.inl rfl))) (fun _ _ _ _ _ => pts_nil) (fun _ _ _ _ _ => (pe_op op_add (pe_op op_mul (pv 6) (pe_fldK (K := K) rfl (pv 1) rfl)) (pv 7)))) pa_nil))))
      (pss_one (ps_ret (pe_call (ok_world_of T) hr (by rfl) T.g_world_of T.F_world_of.kp T.b_world_of .nil (passes_call (takes_of rfl rfl rfl rfl) (fun _ _ _ _ h => h)) (pa_cons (pe_fld (pv 0) rfl) (pa_cons (pv 4) pa_nil))))))))), ?_⟩
    obtain ⟨dx, q0, a, h1, h2, h3⟩ := id wd
    obtain ⟨dx', q0', a', k1, k2, k3⟩ := id wd2
    walk_at "v"; walk_at "v"
    refine ⟨p, r, d, d2, n, n2, M, M2, rfl, wd, wd2, fun e => ?_, fun e => q1 e⟩
    subst e
    walk_at "v"
    refine ⟨p, _, dx, _, _, rfl, h1, T.cl_World, T.nF_World_size, rfl, ?_⟩
    walk_at "v"
    refine ⟨r, _, dx', _, _, rfl, k1, T.cl_World, T.nF_World_size, rfl, ?_⟩
    refine ⟨_, _, rfl, rfl, .inl ⟨by omega, by omega⟩, ?_⟩
    refine ⟨_, _, rfl, rfl, _, rfl, ?_⟩
    by_cases big : 2000 < n * n2
    · rw [decide_eq_true (show (2000 : Int) < (n : Int) * (n2 : Int) by rw [← Int.natCast_mul]; omega)]
      refine iteT ?_
      refine ⟨by show 1 ≤ 1000; decide, fun x hx => ?_⟩
      refine ⟨x, .int 2000, rfl, upd_same, fun dy f1 f2 => ⟨rfl, dy, [("most", .int 2000)], upd_same, ?_, ?_, q2 rfl big dy _ ?_ ?_⟩⟩
      · exact upd_oth upd_same f2
      · exact (upd_ne f2).symm.trans f1
      · intro b o hb
        have n1 := ne_of_none hb hx
        have n2 : b ≠ dy := ne_of_none (upd_oth hb n1) f1
        rw [upd_ne n2]
        unfold del
        rw [if_neg n1, upd_ne n1, upd_ne n2, upd_ne n1]
        exact hb
      · exact upd_same
    rw [decide_eq_false (show ¬ (2000 : Int) < (n : Int) * (n2 : Int) by rw [← Int.natCast_mul]; omega)]
    refine iteF ?_
    walk_at "v"
    refine ⟨p, dx, _, rfl, h1, p, d, n, M, rfl, wd, fun z1 b1 H1 s1 zn1 e1 t1 => ?_⟩
    walk_at "v"
    refine ⟨r, dx', _, rfl, s1 _ _ k1, r, d, n2, M2, rfl, wd2.same s1, fun z2 b2 H2 s2 zn2 e2 t2 => ?_⟩
    refine ⟨by walk_at "sz", fun u hu => ?_⟩
    replace e1 := upd_old (u := .tup [.ref z1, .ref z2]) (s2 _ _ e1) hu
    replace e2 := upd_old (u := .tup [.ref z1, .ref z2]) e2 hu
    replace t1 : ∀ c ∈ d, TP (upd H2 u (.tup [.ref z1, .ref z2])) (b1 c) (M c) := fun c hc => ((t1 c hc).same s2).old hu
    replace t2 : ∀ c ∈ d, TP (upd H2 u (.tup [.ref z1, .ref z2])) (b2 c) (M2 c) := fun c hc => (t2 c hc).old hu
    have s3 : Same H (upd H2 u (.tup [.ref z1, .ref z2])) := (s1.trans s2).trans (Same.new hu)
    have u3 : upd H2 u (.tup [.ref z1, .ref z2]) u = some (.tup [.ref z1, .ref z2]) := upd_same
    generalize upd H2 u (.tup [.ref z1, .ref z2]) = H3 at e1 e2 t1 t2 s3 u3
    clear hu zn1 zn2 s1 s2 H1 H2
    refine ⟨u, _, rfl, SqT.of u3, rfl, ?_⟩
    refine ⟨_, _, rfl, ?_⟩
    refine ⟨_, _, rfl, ?_⟩
    refine ⟨rfl, ?_⟩
    walk_at "v"
    refine ⟨p, _, dx, _, _, rfl, s3 _ _ h1, T.cl_World, T.nF_World_deeds, rfl, ?_⟩
    refine ⟨_, rfl, fun D hD => ?_⟩
    refine dc_it (walk_str (z := S d)) (fun i G => ∃ b, Same H3 G ∧ G D = some (.dK (dct (d.take i) b)) ∧ ∀ c ∈ d.take i, TP G (b c) (pms n2 M M2 c)) ⟨fun _ => D, Same.new hD, upd_same, all_n⟩ (fun _ _ _ _ => trivial) ?_ ?_
    · rintro i x G1 G2 hi ⟨b, s4, h4, b4⟩ ⟨rfl, c, hc, rfl⟩
      have hc' : d[i]? = some c := by simpa [S] using hc
      have cm := List.mem_of_getElem? hc'
      have il : i < d.length := (List.getElem?_eq_some_iff.mp hc').1
      have cn : c ∉ d.take i := fun q => by
        have := d_take hd.de hc'
        have := this c q; omega
      refine ⟨rfl, ?_⟩
      walk_at "v"; walk_at "v"
      walk_at "v"
      have m1 := (t1 c cm).same s4
      have m2 := (t2 c cm).same s4
      refine ⟨z1, _, rfl, .inl ⟨_, Sum.inr (S [c]), .inl (s4 _ _ e1), rfl, (val_in b1 cm).symm⟩, ?_⟩
      refine ⟨b1 c, rfl, ⟨_, m1.sq⟩, fun L hL => ?_⟩
      refine lc2_out (walk_tup (xs := mv (M c))) (fun j G => Same G2 G ∧ G L = some (.lst (mv (pm n2 ((M c).take j) (M2 c))))) ⟨Same.new hL, upd_same⟩ (fun j G _ z => (m1.same z.1).sq) ?_ ?_
      · rintro j x G5 G6 hj ⟨s5, h5⟩ ⟨rfl, hx⟩
        rw [mv_len] at hj
        obtain ⟨g, hg, rfl⟩ : ∃ g, (M c)[j]? = some g ∧ x = .int (g : Nat) := by
          rw [mv_at hj] at hx
          exact ⟨go1 (M c) j, go1_at hj, (Option.some.inj hx).symm⟩
        refine ⟨rfl, ?_⟩
        walk_at "v"; walk_at "v"
        refine ⟨z2, _, rfl, .inl ⟨_, Sum.inr (S [c]), .inl (s5 _ _ (s4 _ _ e2)), rfl, (val_in b2 cm).symm⟩, ?_⟩
        refine ⟨b2 c, rfl, ⟨_, (m2.same s5).sq⟩, ?_⟩
        refine lc2_in (walk_tup (xs := mv (M2 c))) (fun k G => Same G2 G ∧ G L = some (.lst (mv (pm n2 ((M c).take j) (M2 c) ++ ((M2 c).take k).map fun s => g * n2 + s)))) ⟨s5, by simpa using h5⟩ (fun k G _ z => (m2.same z.1).sq) ?_ ?_
        · rintro k x G7 G8 hk ⟨s6, h6⟩ ⟨rfl, hx2⟩
          rw [mv_len] at hk
          obtain ⟨t, ht, rfl⟩ : ∃ t, (M2 c)[k]? = some t ∧ x = .int (t : Nat) := by
            rw [mv_at hk] at hx2
            exact ⟨go1 (M2 c) k, go1_at hk, (Option.some.inj hx2).symm⟩
          refine ⟨rfl, ?_⟩
          walk_at "v"; walk_at "v"
          refine ⟨r, _, dx', _, _, rfl, s6 _ _ (s4 _ _ (s3 _ _ k1)), T.cl_World, T.nF_World_size, rfl, ?_⟩
          refine ⟨_, _, rfl, rfl, .inr ⟨by omega, by omega⟩, ?_⟩
          walk_at "v"
          refine ⟨_, _, rfl, rfl, ?_⟩
          refine ⟨_, h6, ?_, Same.mut hL s6, ?_⟩
          · rw [mv_len, List.length_append, pm_len, List.length_map, List.length_take, List.length_take]
            have hj' := ml c cm
            have hk' := ml2 c cm
            have e : min j (M c).length = j := by omega
            have e' : min k (M2 c).length = k := by omega
            rw [e, e', hk']
            have : (j + 1) * n2 ≤ n * n2 := Nat.mul_le_mul_right _ (by omega)
            rw [Nat.add_mul, Nat.one_mul] at this
            exact Nat.lt_of_le_of_lt (by omega : _ ≤ 2000) (by decide)
          · rw [upd_same, take_one ht, List.map_append, ← List.append_assoc]
            unfold mv iv
            rw [List.map_append (f := fun k : Nat => (k : Int)), List.map_append (f := V.int)]
            simp
        · rintro G7 ⟨s6, h6⟩
          refine ⟨s6, ?_⟩
          rw [h6, mv_len, List.take_length, take_one hg, pm_one]
      rintro G5 ⟨s5, h5⟩
      rw [mv_len, List.take_length] at h5
      refine ⟨L, _, rfl, .inl ⟨SqL.of h5, fun t ht => ?_⟩⟩
      have h6 := upd_old (u := .tup (mv (pm n2 (M c) (M2 c)))) (s5 _ _ h4) ht
      refine ⟨_, Sum.inr (S [c]), rfl, h6, ?_, fun x => if x = c then t else b x, ?_, ?_, ?_⟩
      · unfold dct; rw [List.length_map, List.length_take]
        have := hd.le
        exact Nat.lt_of_le_of_lt (by omega : _ ≤ 100) (by decide)
      · exact Same.mut hD ((s4.trans s5).trans (Same.new ht))
      · rw [upd_same, put_dct _ cn, take_one hc']
        unfold dct
        rw [List.map_append]
        congr 1
        congr 1
        congr 1
        · refine List.map_congr_left fun x hx => ?_
          have : x ≠ c := fun e => cn (e ▸ hx)
          dsimp only; rw [if_neg this]
        · simp
      · intro x hx
        have Dt : t ≠ D := (ne_of_none (s5 _ _ h4) ht).symm
        rw [take_one hc'] at hx
        rcases List.mem_append.mp hx with q | q
        · have : x ≠ c := fun e => cn (e ▸ q)
          dsimp only; rw [if_neg this]
          exact (((b4 x q).same s5).old ht).oth ((b4 x q).nk h4)
        · have e : x = c := List.mem_singleton.mp q
          dsimp only; rw [if_pos e, e]
          exact TP.of (upd_oth upd_same Dt)
    rintro G1 ⟨b, s4, h4, b4⟩
    rw [show (S d).cps.size = d.length from S_len d, List.take_length] at h4 b4
    walk_at "v"
    refine ⟨p, _, dx, _, _, rfl, s4 _ _ (s3 _ _ h1), T.cl_World, T.nF_World_deeds, rfl, ?_⟩
    walk_at "v"
    refine ⟨D, d, n * n2, pms n2 M M2, b, rfl, hd, h4, fun c hc => ⟨?_, b4 c hc⟩, fun z G3 s5 wz => ?_⟩
    · show (pm n2 (M c) (M2 c)).length = _
      rw [pm_len, ml c hc, ml2 c hc]
    · exact q3 rfl (by omega) z G3 ((s3.trans s4).trans s5) wz
def spa41 (C : Addr) : Sp := fun vs H Q _ => ∃ (p r : Addr) (d d2 : List Nat) (n n2 : Nat) (M M2 : Nat → List Nat), vs = [.ref p, .ref r] ∧ WorldAt C H p d n M ∧ WorldAt C H r d2 n2 M2 ∧ Dds d ∧ n ≤ 100000 ∧ n2 ≤ 100000 ∧ (∀ c ∈ d, (M c).length = n) ∧ (∀ c ∈ d2, (M2 c).length = n2) ∧
  (d ≠ d2 → ∀ (t : Addr) H', Same H H' → H' t = some (.tup [.str "deeds", .non]) → Q (.ref t) H') ∧ (d = d2 → 2000 < n * n2 → ∀ (t : Addr) H', Same H H' → H' t = some (.tup [.str "large", .int 2000]) → Q (.ref t) H') ∧
  (d = d2 → n * n2 ≤ 2000 → ∀ (t z : Addr) H', Same H H' → H' t = some (.tup [.str "told", .ref z]) → WorldAt C H' z d (n * n2) (pms n2 M M2) → Q (.ref t) H')
@[irreducible] def sp_asked41 (C : Addr) : Sp := spa41 C
theorem spa_eq (C : Addr) : sp_asked41 C = spa41 C := by unfold sp_asked41; rfl
theorem ok_asked (T : Txt K mg A) : FnOk P w K mg base (CX P w) 8 A.a_asked A.d_asked ["_law_one", "_law_other"] (sp_asked41 A.c_World) := by
  refine T.F_asked.okX sc_asked (fun vs H Q E h => ?_) (fun cdv Ar outer s H vs Q E hr h => ?_)
  · rw [spa_eq] at h
    obtain ⟨_, _, _, _, _, _, _, _, rfl, _⟩ := h
    rfl
  · rw [spa_eq] at h
    obtain ⟨p, r, d, d2, n, n2, M, M2, rfl, wd, wd2, hd, nz, nz2, ml, ml2, q1, q2, q3⟩ := h
    refine ⟨_, (pss_cons (ps_set (i := 2) sc_asked.nd rfl (Or.inl rfl) pe_non)
      (pss_cons (ps_try_manyA rfl rfl (takes_of rfl rfl rfl rfl) (fun W pn xe tk hpo => (pss_one (ps_set (i := 2) sc_asked.nd rfl (Or.inl rfl) (pe_tup (pa_cons pe_str (pa_cons (pe_callS (ok_beside T) hr (by rfl) T.g_beside T.F_beside.kp T.b_beside (fun σ => passAt tk σ) (pa_cons (pv 0) (pa_cons (pv 1) pa_nil))) pa_nil)))))) (HdsA.cons ⟨rfl, by decide, .inl T.gC_OtherDeeds⟩ (fun a oe cls d pn hz hf => (pss_one (ps_set (i := 2) sc_asked.nd rfl (Or.inl rfl) (pe_tup (pa_cons pe_str (pa_cons pe_non pa_nil)))))) (HdsA.consN (i := 3) ⟨rfl, by decide, .inl T.gC_TooLarge⟩ sc_asked.nd rfl rfl (fun a oe cls d pn hz hf => (pss_one (ps_set (i := 2) sc_asked.nd rfl (Or.inl rfl) (pe_tup (pa_cons pe_str (pa_cons (pe_xf (C := A.c_TooLarge) ⟨T.x_TooLarge.1, T.x_TooLarge.2, T.x_TooLarge.3, T.x_TooLarge.4⟩ T.xn_TooLarge_most hz hf (pv 3)) pa_nil)))))) HdsA.nil)))
      (pss_one (ps_ret (pv 2))))), ?_⟩
    walk_at "v"; walk_at "v"
    refine ⟨p, r, d, d2, n, n2, M, M2, rfl, wd, wd2, hd, nz, nz2, ml, ml2, fun ne H1 s1 => ?_, fun e big dd H1 s1 hx => ?_, fun e le z H1 s1 wz => ?_⟩
    · refine ⟨true, T.e_OtherDeeds_OtherDeeds, fun _ a na => ?_, fun z => nomatch z⟩
      refine ⟨by walk_at "sz", fun t ht => ?_⟩
      walk_at "v"
      exact q1 ne t _ (s1.trans (Same.new ht)) upd_same
    · refine ⟨false, T.e_TooLarge_OtherDeeds, fun z => (nomatch z), fun _ => ⟨true, T.e_TooLarge_TooLarge, fun _ a na => ?_, fun z => nomatch z⟩⟩
      refine ⟨_, rfl, rfl, rfl, dd, _, .int 2000, rfl, hx, rfl, ?_⟩
      refine ⟨by walk_at "sz", fun t ht => ?_⟩
      walk_at "v"
      exact q2 e big t _ (s1.trans (Same.new ht)) upd_same
    · refine ⟨by walk_at "sz", fun t ht => ?_⟩
      walk_at "v"
      exact q3 e le t z _ (s1.trans (Same.new ht)) upd_same (wz.same (Same.new ht))
def sp_pairs : Sp := fun vs H Q _ => ∃ (q1 q2 : Addr) (d : List Nat) (n n2 : Nat) (M M2 : Nat → List Nat) (a b : Nat → Addr), vs = [.str (S d), .ref q1, .ref q2] ∧ Dds d ∧ H q1 = some (.dK (dct d a)) ∧ H q2 = some (.dK (dct d b)) ∧ n ≤ 100000 ∧ n2 ≤ 100000 ∧ n * n2 ≤ 2000 ∧
  (∀ c ∈ d, TP H (a c) (M c) ∧ (M c).length = n) ∧ (∀ c ∈ d, TP H (b c) (M2 c) ∧ (M2 c).length = n2) ∧
  ∀ (z : Addr) (e : Nat → Addr) H', Same H H' → H' z = some (.dK (dct d e)) → (∀ c ∈ d, TP H' (e c) (pms n2 M M2 c)) → Q (.ref z) H'
theorem ok_pairs (T : Txt K mg A) : FnOk P w K mg base (CX P w) 1 A.a_pairs A.d_pairs ["_law_deeds_here", "_law_one", "_law_other"] (sp_pairs) := by
  refine T.F_pairs.okX sc_pairs (fun vs H Q E h => ?_) (fun cdv Ar outer s H vs Q E hr h => ?_)
  · obtain ⟨_, _, _, _, _, _, _, _, _, rfl, _⟩ := h
    rfl
  · obtain ⟨q1, q2, d, n, n2, M, M2, a, b, rfl, hd, e1, e2, nz, nz2, le, t1, t2, q⟩ := h
    refine ⟨_, (pss_cons (ps_set (i := 3) sc_pairs.nd rfl (Or.inl rfl) pe_dnewK)
      (pss_cons (ps_for (passes_of rfl) rfl (pi_str (pv 0)) (pg_name (i := 4) sc_pairs.nd rfl (Or.inr rfl)) (pss_cons (ps_set (i := 5) sc_pairs.nd rfl (Or.inl rfl) (pe_lst pa_nil))
      (pss_cons (ps_for (passes_of rfl) rfl (piT (K := K) rfl (pe_dget (hu_of hr) (pv 1) (pv 4) (fun _ _ => rfl))) (pg_name (i := 6) sc_pairs.nd rfl (Or.inr rfl)) (pss_one (ps_expr (pbm (K := K) rfl PySem.F.plainAttrs_list PySem.F.slot_list_extend PySem.F.type_list_extend mt_extend (pv 5) (pa_cons (pe_lc (own := [("_law_goal", 7)]) (tt := tYes) rfl sc_pairs.nd (piT (K := K) rfl (pe_dget (hu_of hr) (pv 2) (pv 4) (fun _ _ => rfl))) (blkOk_by (N := ["_law_deeds_here", "_law_one", "_law_other", "_law_moves_here", "_law_deed", "_law_row_here", "_law_standing", "_law_goal"]) (sc := defScope s_pairs) (by decide +kernel)) (fun _ _ _ _ _ => (pg_name (i := 7) sc_pairs.nd rfl (Or.inl rfl))) (fun _ _ _ _ _ => pts_nil) (fun _ _ _ _ _ => (pe_op op_add (pe_op op_mul (pv 6) (pe_callB (clen (K := K) rfl) (by rfl) T.m_len bt_len (pa_cons (pe_dget (hu_of hr) (pv 2) (pv 4) (fun _ _ => rfl)) pa_nil))) (pv 7)))) pa_nil)))))
      (pss_one (ps_dput (hu_of hr) (pv 3) (pv 4) (pe_callTy (ctuple (K := K) rfl) (by rfl) T.m_tuple bt_tuple (pa_cons (pv 5) pa_nil)) rfl)))))
      (pss_one (ps_ret (pv 3))))), ?_⟩
    intro z hz
    walk_at "v"
    refine ⟨_, rfl, ?_⟩
    refine for_it (walk_str (z := S d)) (fun i σ' H' => ∃ (e : Nat → Addr) (y1 y2 y3 y4 : Option V), σ' = [some (.str (S d)), some (.ref q1), some (.ref q2), some (.ref z), y1, y2, y3, y4] ∧ Same H H' ∧ H' z = some (.dK (dct (d.take i) e)) ∧
      (∀ c ∈ d.take i, TP H' (e c) (pms n2 M M2 c))) ⟨fun _ => z, none, none, none, none, rfl, Same.new hz, upd_same, all_n⟩ (fun _ _ _ _ _ => trivial) ?_ ?_
    · rintro i x σ' G1 G2 hi ⟨e, y1, y2, y3, y4, rfl, s1, h1, m1⟩ ⟨rfl, c, hc, rfl⟩
      have hc' : d[i]? = some c := by simpa [S] using hc
      have cm := List.mem_of_getElem? hc'
      have il : i < d.length := (List.getElem?_eq_some_iff.mp hc').1
      obtain ⟨u1, l1⟩ := t1 c cm
      obtain ⟨u2, l2⟩ := t2 c cm
      refine ⟨Nat.zero_le _, fun L hL => ?_⟩
      have s2 : Same H (upd G2 L (.lst [])) := s1.trans (Same.new hL)
      have h2 := upd_old (u := .lst []) h1 hL
      have m2 : ∀ c ∈ d.take i, TP (upd G2 L (.lst [])) (e c) (pms n2 M M2 c) := fun c hc => (m1 c hc).old hL
      have l0 : upd G2 L (.lst []) L = some (.lst []) := upd_same
      have nL : H L = none := Same.free s1 hL
      have zL : z ≠ L := ne_of_none h1 hL
      have mL : ∀ c ∈ d.take i, e c ≠ L := fun c hc => (m1 c hc).nn hL
      generalize upd G2 L (.lst []) = G3 at s2 h2 m2 l0
      clear hL m1 h1 s1 G2
      walk_at "v"; walk_at "v"
      refine ⟨q1, _, rfl, .inl ⟨_, Sum.inr (S [c]), .inl (s2 _ _ e1), rfl, (val_in a cm).symm⟩, ?_⟩
      refine ⟨a c, rfl, ⟨_, (u1.same s2).sq⟩, ?_⟩
      refine for_it (walk_tup (xs := mv (M c))) (fun j σ' G => ∃ y3 y4, σ' = [some (.str (S d)), some (.ref q1), some (.ref q2), some (.ref z), some (.str (S [c])), some (.ref L), y3, y4] ∧ Same H G ∧ G z = some (.dK (dct (d.take i) e)) ∧ (∀ c ∈ d.take i, TP G (e c) (pms n2 M M2 c)) ∧
        G L = some (.lst (mv (pm n2 ((M c).take j) (M2 c))))) ⟨y3, y4, rfl, s2, h2, m2, l0⟩ (fun j σ' G _ ⟨_, _, _, s3, _⟩ => (u1.same s3).sq) ?_ ?_
      · rintro j x σ' G4 G5 hj ⟨y3, y4, rfl, s3, h3, m3, l3⟩ ⟨rfl, hx⟩
        rw [mv_len] at hj
        obtain ⟨g, hg, rfl⟩ : ∃ g, (M c)[j]? = some g ∧ x = .int (g : Nat) := by
          rw [mv_at hj] at hx
          exact ⟨go1 (M c) j, go1_at hj, (Option.some.inj hx).symm⟩
        walk_at "v"
        refine ⟨.inl ⟨rfl, _, SqL.of l3⟩, ?_⟩
        walk_at "v"; walk_at "v"
        refine ⟨q2, _, rfl, .inl ⟨_, Sum.inr (S [c]), .inl (s3 _ _ e2), rfl, (val_in b cm).symm⟩, ?_⟩
        refine ⟨b c, rfl, ⟨_, (u2.same s3).sq⟩, fun D hD => ?_⟩
        refine lc_it (walk_tup (xs := mv (M2 c))) (fun k G => Same G5 G ∧ G D = some (.lst (mv (((M2 c).take k).map fun s => g * n2 + s)))) ⟨Same.new hD, upd_same⟩ (fun k G _ v => ((u2.same s3).same v.1).sq) ?_ ?_
        · rintro k x G6 G7 hk ⟨s6, h6⟩ ⟨rfl, hx2⟩
          rw [mv_len] at hk
          obtain ⟨t, ht, rfl⟩ : ∃ t, (M2 c)[k]? = some t ∧ x = .int (t : Nat) := by
            rw [mv_at hk] at hx2
            exact ⟨go1 (M2 c) k, go1_at hk, (Option.some.inj hx2).symm⟩
          refine ⟨rfl, ?_⟩
          walk_at "v"; walk_at "v"; walk_at "v"
          refine ⟨q2, _, rfl, .inl ⟨_, Sum.inr (S [c]), .inl (s6 _ _ (s3 _ _ e2)), rfl, (val_in b cm).symm⟩, ?_⟩
          refine ⟨b c, _, rfl, .inr (((u2.same s3).same s6)).sq, ?_⟩
          rw [mv_len, l2]
          refine ⟨_, _, rfl, rfl, .inr ⟨by omega, by omega⟩, ?_⟩
          walk_at "v"
          refine ⟨_, _, rfl, rfl, ?_⟩
          refine ⟨_, h6, ?_, Same.mut hD s6, ?_⟩
          · rw [mv_len, List.length_map, List.length_take]
            exact Nat.lt_of_le_of_lt (by omega : _ ≤ 100000) (by decide)
          · rw [upd_same, take_one ht, List.map_append]
            unfold mv iv
            rw [List.map_append (f := fun k : Nat => (k : Int)), List.map_append (f := V.int)]
            simp
        · rintro G6 ⟨s6, h6⟩
          rw [mv_len, List.take_length] at h6
          refine ⟨L, D, _, _, rfl, rfl, s6 _ _ l3, h6, ?_, ?_⟩
          · rw [mv_len, mv_len, pm_len, List.length_map, List.length_take, l2]
            have e' : min j (M c).length = j := by omega
            rw [e']
            have : (j + 1) * n2 ≤ n * n2 := Nat.mul_le_mul_right _ (by omega)
            rw [Nat.add_mul, Nat.one_mul] at this
            exact Nat.le_trans (by omega : _ ≤ 2000) (by decide)
          refine ⟨_, _, rfl, Same.mut nL (s3.trans s6), upd_oth (s6 _ _ h3) zL, fun c hc => ((m3 c hc).same s6).oth (mL c hc), ?_⟩
          rw [upd_same, take_one hg, pm_one]
          unfold mv iv
          rw [List.map_append (f := fun k : Nat => (k : Int)), List.map_append (f := V.int)]
      · rintro σ' G4 ⟨y3, y4, rfl, s3, h3, m3, l3⟩
        rw [mv_len, List.take_length] at l3
        walk_at "v"
        refine ⟨L, _, rfl, .inl ⟨SqL.of l3, fun t ht => ?_⟩⟩
        have cn : c ∉ d.take i := fun q => by
          have := d_take hd.de hc'
          have := this c q; omega
        have zt : z ≠ t := ne_of_none h3 ht
        walk_at "v"; walk_at "v"
        refine ⟨z, _, rfl, DPut.k (k := Sum.inr (S [c])) (upd_old h3 ht) ?_, ?_⟩
        · unfold dct; rw [List.length_map, List.length_take]
          have := hd.le
          exact Nat.lt_of_le_of_lt (by omega : _ ≤ 100) (by decide)
        refine ⟨fun x => if x = c then t else e x, _, _, _, _, rfl, Same.mut hz (s3.trans (Same.new ht)), ?_, ?_⟩
        · rw [upd_same, put_dct _ cn, take_one hc']
          unfold dct
          rw [List.map_append]
          congr 1
          congr 1
          congr 1
          · refine List.map_congr_left fun x hx => ?_
            have : x ≠ c := fun e => cn (e ▸ hx)
            dsimp only; rw [if_neg this]
          · simp
        · intro x hx
          rw [take_one hc'] at hx
          rcases List.mem_append.mp hx with q | q
          · have : x ≠ c := fun e => cn (e ▸ q)
            dsimp only; rw [if_neg this]
            exact ((m3 x q).old ht).oth ((m3 x q).nk h3)
          · have e : x = c := List.mem_singleton.mp q
            dsimp only; rw [if_pos e, e]
            exact TP.of (upd_oth upd_same zt.symm)
    · rintro σ' H1 ⟨e, y1, y2, y3, y4, rfl, s1, h1, m1⟩
      walk_at "v"
      rw [show (S d).cps.size = d.length from S_len d, List.take_length] at h1 m1
      exact q z e H1 s1 h1 m1
def sp_least : Sp := fun vs H Q _ => ∃ f p : Nat, vs = [.int f, .int p] ∧ 0 < f ∧ 0 < p ∧ f ≤ 100000 ∧ p ≤ 100000 ∧ Q (.int (Nat.lcm f p : Nat)) H
theorem ok_least (T : Txt K mg A) : FnOk P w K mg base (CX P w) 1 A.a_least A.d_least ["_law_one", "_law_other"] (sp_least) := by
  refine T.F_least.okX sc_least (fun vs H Q E h => ?_) (fun cdv Ar outer s H vs Q E hr h => ?_)
  · obtain ⟨_, _, rfl, _⟩ := h
    rfl
  · obtain ⟨f, p, rfl, f0, p0, fz, pz, q⟩ := h
    refine ⟨_, (pss_cons (ps_set (i := 2) sc_least.nd rfl (Or.inl rfl) (pv 0))
      (pss_cons (ps_for (passes_of rfl) rfl (pi_range1 (by rfl) T.m_range (pa_cons (pv 1) pa_nil)) (pg_name (i := 3) sc_least.nd rfl (Or.inl rfl)) (pss_one (ps_if (pt_cmpR op_gt (pe_op op_mod (pe_callTy call_int1 (by rfl) T.m_int bt_int (pa_cons (pv 2) pa_nil)) (pv 1)) pe_int (nomark _)) (pss_one (ps_set (i := 2) sc_least.nd rfl (Or.inl rfl) (pe_op op_add (pv 2) (pv 0)))) pss_nil)))
      (pss_one (ps_ret (pv 2))))), ?_⟩
    have ld : f ∣ Nat.lcm f p := Nat.dvd_lcm_left f p
    obtain ⟨Tt, eT⟩ := ld
    have lpos : 0 < Nat.lcm f p := Nat.lcm_pos f0 p0
    have T0 : 0 < Tt := by
      rcases Nat.eq_zero_or_pos Tt with w | w
      · rw [w, Nat.mul_zero] at eT; omega
      · exact w
    have Tp : Tt ≤ p := by
      have h1 : Nat.lcm f p ≤ f * p := Nat.div_le_self _ _
      rw [eT] at h1
      exact Nat.le_of_mul_le_mul_left h1 f0
    walk_at "v"; walk_at "v"
    refine ⟨_, rfl, by omega, by omega, ?_⟩
    rw [show ((p : Nat) : Int).toNat = p by omega]
    refine for_range (n := p) (fun j σ' G => ∃ (y5 : Option V) (u : Nat), σ' = [some (.int f), some (.int (p : Nat)), some (.int (f * u : Nat)), y5] ∧ G = H ∧ 0 < u ∧ u ≤ Tt ∧ (u = Tt ∨ u = j + 1)) ⟨none, 1, by rw [Nat.mul_one]; rfl, rfl, by decide, T0, .inr rfl⟩ ?_ ?_
    · rintro j σ' G hj ⟨y5, u, rfl, rfl, u0, uT, uj⟩
      walk_at "v"; walk_at "int"; walk_at "v"
      refine ⟨_, _, rfl, rfl, (show (0 : Int) < _ by omega), ?_⟩
      walk_at "ii"; walk_at "v"
      have hle : f * u ≤ Nat.lcm f p := by rw [eT]; exact Nat.mul_le_mul_left f uT
      have step := lcm_step f0 p0 hle u0
      have emod : ((f * u : Nat) : Int) % (p : Nat) = ((f * u % p : Nat) : Int) := (Int.natCast_emod _ _).symm
      rw [emod]
      by_cases e : f * u % p = 0
      · rw [e, decide_eq_false (by decide)]
        refine iteF ?_
        have eu : u = Tt := by
          have h1 := step.mp e
          rw [eT] at h1
          exact Nat.eq_of_mul_eq_mul_left f0 h1
        exact ⟨_, u, rfl, rfl, u0, uT, .inl eu⟩
      · rw [decide_eq_true (by omega)]
        refine iteT ?_
        have ne : u ≠ Tt := fun w => e (step.mpr (by rw [w, eT]))
        walk_at "v"; walk_at "v"; walk_at "ii"
        refine ⟨some (.int (0 + (j : Nat))), u + 1, ?_, rfl, by omega, by omega, .inr (by omega)⟩
        rw [show ((f * (u + 1) : Nat) : Int) = ((f * u : Nat) : Int) + (f : Nat) by rw [Nat.mul_add, Nat.mul_one]; omega]
        rfl
    · rintro σ' G ⟨y5, u, rfl, rfl, u0, uT, uj⟩
      have eu : u = Tt := by omega
      rw [eT] at q
      walk_at "v"
      rw [eu]
      exact q
/-- what stands: the pot, three dicts of moves, three worlds -/
structure SW (C : Addr) (H : Hp) (h g Lq Lw : Addr) (d : List Nat) (q w : Nat → Addr) (n : Nat → Nat) (M : Nat → Nat → List Nat) (a : Nat → Nat → Addr) : Prop where
  pot : Pot H h g
  lq : H Lq = some (.lst ((List.range 3).map fun i => V.ref (q i)))
  lw : H Lw = some (.lst ((List.range 3).map fun i => V.ref (w i)))
  nq : Lq ≠ h ∧ Lq ≠ g
  nw : Lw ≠ h ∧ Lw ≠ g
  wld : ∀ i, i < 3 → WorldAt C H (w i) d (n i) (M i)
  dic : ∀ i, i < 3 → H (q i) = some (.dK (dct d (a i)))
  mvs : ∀ i, i < 3 → ∀ c ∈ d, TF H (a i c) (M i c)
theorem wld_go {C : Addr} {H H' : Hp} {h g w : Addr} {d : List Nat} {n : Nat} {M : Nat → List Nat} (x : Pot H h g) (s : PG2 h g H H') (wd : WorldAt C H w d n M) : WorldAt C H' w d n M := by
  obtain ⟨dx, qq, b, h1, h2, h3⟩ := wd
  exact ⟨dx, qq, b, s.1 _ _ (x.apart h1 fun xs z => nomatch z) h1, s.1 _ _ (x.apart h2 fun xs z => nomatch z) h2, fun c hc => (h3 c hc).bg s.1 ((h3 c hc).apart x)⟩
theorem SW.same {C : Addr} {H H' : Hp} {h g Lq Lw : Addr} {d : List Nat} {q w : Nat → Addr} {n : Nat → Nat} {M : Nat → Nat → List Nat} {a : Nat → Nat → Addr} (x : SW C H h g Lq Lw d q w n M a) (s : Same H H') : SW C H' h g Lq Lw d q w n M a :=
  ⟨x.pot.same s, s _ _ x.lq, s _ _ x.lw, x.nq, x.nw, fun i hi => (x.wld i hi).same s, fun i hi => s _ _ (x.dic i hi), fun i hi c hc => (x.mvs i hi c hc).same s⟩
theorem SW.go {C : Addr} {H H' : Hp} {h g Lq Lw : Addr} {d : List Nat} {q w : Nat → Addr} {n : Nat → Nat} {M : Nat → Nat → List Nat} {a : Nat → Nat → Addr} (x : SW C H h g Lq Lw d q w n M a) (s : PG2 h g H H') : SW C H' h g Lq Lw d q w n M a :=
  ⟨s.2.1, s.1 _ _ x.nq x.lq, s.1 _ _ x.nw x.lw, x.nq, x.nw, fun i hi => wld_go x.pot s (x.wld i hi), fun i hi => s.1 _ _ (x.pot.apart (x.dic i hi) fun xs z => nomatch z) (x.dic i hi),
    fun i hi c hc => (x.mvs i hi c hc).bg s.1 ((x.mvs i hi c hc).apart x.pot)⟩
/-- and what was told of the first two -/
structure SB (C : Addr) (H : Hp) (h g Lq Lw Lz u z : Addr) (d : List Nat) (q w : Nat → Addr) (n0 n1 n2 : Nat) (M : Nat → Nat → List Nat) (a : Nat → Nat → Addr) (b : Nat → Addr) : Prop where
  sw : SW C H h g Lq Lw d q w (go1 [n0, n1, n2]) M a
  wz : WorldAt C H z d (n0 * n1) (pms n1 (M 0) (M 1))
  hz : H Lz = some (.lst (mv [n0, n1, n2]))
  nz : Lz ≠ h ∧ Lz ≠ g
  hu : H u = some (.dK (dct d b))
  hb : ∀ c ∈ d, TP H (b c) (pms n1 (M 0) (M 1) c)
theorem SB.same {C : Addr} {H H' : Hp} {h g Lq Lw Lz u z : Addr} {d : List Nat} {q w : Nat → Addr} {n0 n1 n2 : Nat} {M : Nat → Nat → List Nat} {a : Nat → Nat → Addr} {b : Nat → Addr} (x : SB C H h g Lq Lw Lz u z d q w n0 n1 n2 M a b) (s : Same H H') : SB C H' h g Lq Lw Lz u z d q w n0 n1 n2 M a b :=
  ⟨x.sw.same s, x.wz.same s, s _ _ x.hz, x.nz, s _ _ x.hu, fun c hc => (x.hb c hc).same s⟩
theorem SB.go {C : Addr} {H H' : Hp} {h g Lq Lw Lz u z : Addr} {d : List Nat} {q w : Nat → Addr} {n0 n1 n2 : Nat} {M : Nat → Nat → List Nat} {a : Nat → Nat → Addr} {b : Nat → Addr} (x : SB C H h g Lq Lw Lz u z d q w n0 n1 n2 M a b) (s : PG2 h g H H') : SB C H' h g Lq Lw Lz u z d q w n0 n1 n2 M a b :=
  ⟨x.sw.go s, wld_go x.sw.pot s x.wz, s.1 _ _ x.nz x.hz, x.nz, s.1 _ _ (x.sw.pot.apart x.hu fun xs z => nomatch z) x.hu, fun c hc => (x.hb c hc).bg s.1 ((x.hb c hc).apart x.sw.pot)⟩
theorem ord_small {n : Nat} {m r : List Nat} {N : Nat} (b : Bk n m r) (n6 : n ≤ 6) (o : Ord n m N) : 0 < N ∧ N ≤ 60 := by
  have h : N ∣ 60 := o.least 60 fun s p hs x => by
    obtain ⟨p', pn, y⟩ := rd1_some b hs
    have e := x.one y
    subst e
    have p6 : p ≤ 6 := by omega
    have p0 := x.pos
    match p, p6, p0 with
    | 1, _, _ => exact ⟨60, rfl⟩
    | 2, _, _ => exact ⟨30, rfl⟩
    | 3, _, _ => exact ⟨20, rfl⟩
    | 4, _, _ => exact ⟨15, rfl⟩
    | 5, _, _ => exact ⟨12, rfl⟩
    | 6, _, _ => exact ⟨10, rfl⟩
  exact ⟨Nat.pos_of_dvd_of_pos h (by decide), Nat.le_of_dvd (by decide) h⟩
/-- what is told of two worlds over the same deeds side by side -/
def Fnd (C : Addr) (H : Hp) (t : Addr) (d : List Nat) (n n2 : Nat) (M M2 : Nat → List Nat) : Prop :=
  (2000 < n * n2 ∧ H t = some (.tup [.str "large", .int 2000])) ∨ (n * n2 ≤ 2000 ∧ ∃ z, H t = some (.tup [.str "told", .ref z]) ∧ WorldAt C H z d (n * n2) (pms n2 M M2))
theorem asked_use {C : Addr} {H : Hp} {Q : VK} {E : XK} {p r : Addr} {d : List Nat} {n n2 : Nat} {M M2 : Nat → List Nat} (wd : WorldAt C H p d n M) (wd2 : WorldAt C H r d n2 M2) (hd : Dds d) (nz : n ≤ 100000) (nz2 : n2 ≤ 100000) (ml : ∀ c ∈ d, (M c).length = n) (ml2 : ∀ c ∈ d, (M2 c).length = n2)
    (key : ∀ (t : Addr) (H' : Hp), Same H H' → Fnd C H' t d n n2 M M2 → Q (.ref t) H') : sp_asked41 C [.ref p, .ref r] H Q E := by
  rw [spa_eq]
  exact ⟨p, r, d, d, n, n2, M, M2, rfl, wd, wd2, hd, nz, nz2, ml, ml2, fun ne => absurd rfl ne, fun _ big t H' s e => key t H' s (.inl ⟨big, e⟩), fun _ le t z H' s e wz => key t H' s (.inr ⟨le, z, e, wz⟩)⟩
theorem asked_ne {C : Addr} {H : Hp} {Q : VK} {E : XK} {p r : Addr} {d d2 : List Nat} {n n2 : Nat} {M M2 : Nat → List Nat} (wd : WorldAt C H p d n M) (wd2 : WorldAt C H r d2 n2 M2) (hd : Dds d) (nz : n ≤ 100000) (nz2 : n2 ≤ 100000) (ml : ∀ c ∈ d, (M c).length = n) (ml2 : ∀ c ∈ d2, (M2 c).length = n2) (ne : d ≠ d2)
    (key : ∀ (t : Addr) (H' : Hp), Same H H' → H' t = some (.tup [.str "deeds", .non]) → Q (.ref t) H') : sp_asked41 C [.ref p, .ref r] H Q E := by
  rw [spa_eq]
  exact ⟨p, r, d, d2, n, n2, M, M2, rfl, wd, wd2, hd, nz, nz2, ml, ml2, fun _ => key, fun e => absurd e ne, fun e => absurd e ne⟩
theorem tf_nl {H : Hp} {t p : Addr} {m : List Nat} {xs : List V} (x : TF H t m) (e : H p = some (.lst xs)) : t ≠ p := by
  obtain ⟨o, h, _⟩ := x
  exact ne_of h e fun z => nomatch z
theorem wld_nl {C : Addr} {H : Hp} {w p : Addr} {d : List Nat} {n : Nat} {M : Nat → List Nat} {xs : List V} {o : HO} (x : WorldAt C H w d n M) (e : H p = some (.lst xs)) : WorldAt C (upd H p o) w d n M := by
  obtain ⟨dx, qq, b, h1, h2, h3⟩ := x
  refine ⟨dx, qq, b, upd_oth h1 (ne_of h1 e fun z => nomatch z), upd_oth h2 (ne_of h2 e fun z => nomatch z), fun c hc => (h3 c hc).oth ?_⟩
  obtain ⟨u, k, rfl | ⟨o, rfl, _⟩⟩ := h3 c hc
  · exact ne_of k e fun z => nomatch z
  · exact ne_of k e fun z => nomatch z
def sp_law (K : PySem.W.Frag) : Sp := fun vs H Q _ => ∃ (a : Addr) (ns : List Int), vs = [.ref a] ∧ SqL K H a (ns.map V.int) ∧ ns.length ≤ 63 ∧ ∀ H', Q (.bl true) H'
theorem hsp (K : PySem.W.Frag) (H : Hp) (a : Addr) (ns : List Int) (hl : ns.length ≤ 63) (_ : Only H) (hS : SqL K H a (ns.map V.int)) : sp_law K [.ref a] H (fun v _ => v = .bl true) fun _ _ _ => False :=
  ⟨a, ns, rfl, hS, hl, fun _ => rfl⟩
theorem ok_law (T : Txt K mg A) : FnOk P w K mg base (CX P w) 9 A.a_law A.d_law ["_law_script"] (sp_law K) := by
  refine T.F_law.okX sc_law (fun vs H Q E h => ?_) (fun cdv Ar outer s H vs Q E hr h => ?_)
  · obtain ⟨_, _, rfl, _⟩ := h
    rfl
  · obtain ⟨sc, ns, rfl, hS, hlen, fin⟩ := h
    refine ⟨_, (pss_cons (ps_set (i := 1) sc_law.nd rfl (Or.inr rfl) (pe_call (ok_pot T) (hr.mono (by decide)) (by rfl) T.g_pot T.F_pot.kp T.b_pot .nil passF (pa_cons (pv 0) pa_nil)))
      (pss_cons (ps_set (i := 2) sc_law.nd rfl (Or.inr rfl) (pe_call (ok_deeds T) (hr.mono (by decide)) (by rfl) T.g_deeds T.F_deeds.kp T.b_deeds .nil passF (pa_cons (pv 1) (pa_cons pe_int pa_nil))))
      (pss_cons (ps_setLc (i := 3) (own := [("_law_k", 17)]) (tt := tYes) rfl sc_law.nd rfl rfl (sw_true rfl rfl rfl (by decide +kernel)) (pi_range1 (by rfl) T.m_range (pa_cons pe_int pa_nil)) (blkOk_by (N := ["_law_script", "_law_pot_here", "_law_deeds_here", "_law_sizes", "_law_great", "_law_moves_here", "_law_worlds", "_law_told", "_law_due", "_law_row_here", "_law_s", "_law_t", "_law_goal", "_law_found", "_law_spare", "_law_other", "_law_second", "_law_k", "_law_size", "_law_move", "_law_sign"]) (sc := defScope s_law) (by decide +kernel)) (fun _ _ _ _ _ => (pg_name (i := 17) sc_law.nd rfl (Or.inl rfl))) (fun _ _ _ _ _ => pts_nil) (fun _ _ _ _ _ => (pe_ix (ixT (K := K) rfl) (pe_tup (pa_cons pe_int (pa_cons pe_int (pa_cons pe_int (pa_cons pe_int (pa_cons pe_int (pa_cons pe_int pa_nil))))))) (pe_call (ok_draw T) (hr.mono (by decide)) (by rfl) T.g_draw T.F_draw.kp T.b_draw .nil passF (pa_cons (pv 1) (pa_cons pe_int pa_nil))) (fun _ _ => rfl))))
      (pss_cons (ps_set (i := 4) sc_law.nd rfl (Or.inl rfl) (pe_cmpR op_eq (pe_call (ok_draw T) (hr.mono (by decide)) (by rfl) T.g_draw T.F_draw.kp T.b_draw .nil passF (pa_cons (pv 1) (pa_cons pe_int pa_nil))) pe_int (nomark _)))
      (C8.pss_cut (ps_if (pt_val (pv 4)) (pss_one (ps_set (i := 3) sc_law.nd rfl (Or.inl rfl) (pe_lst (pa_cons pe_int (pa_cons pe_int (pa_cons (pe_op op_add pe_int (pe_call (ok_draw T) (hr.mono (by decide)) (by rfl) T.g_draw T.F_draw.kp T.b_draw .nil passF (pa_cons (pv 1) (pa_cons pe_int pa_nil)))) pa_nil)))))) pss_nil)
      (pss_cons (ps_setLc (i := 5) (own := [("_law_size", 18)]) (tt := tYes) rfl sc_law.nd rfl rfl (sw_true rfl rfl rfl (by decide +kernel)) (piL (K := K) rfl (pv 3)) (blkOk_by (N := ["_law_script", "_law_pot_here", "_law_deeds_here", "_law_sizes", "_law_great", "_law_moves_here", "_law_worlds", "_law_told", "_law_due", "_law_row_here", "_law_s", "_law_t", "_law_goal", "_law_found", "_law_spare", "_law_other", "_law_second", "_law_k", "_law_size", "_law_move", "_law_sign"]) (sc := defScope s_law) (by decide +kernel)) (fun _ _ _ _ _ => (pg_name (i := 18) sc_law.nd rfl (Or.inl rfl))) (fun _ _ _ _ _ => pts_nil) (fun _ _ _ _ _ => (pe_call (ok_moves T) (hr.mono (by decide)) (by rfl) T.g_moves T.F_moves.kp T.b_moves .nil passF (pa_cons (pv 1) (pa_cons (pv 2) (pa_cons (pv 18) pa_nil))))))
      (pss_cons (ps_setLc (i := 6) (own := [("_law_move", 19)]) (tt := tYes) rfl sc_law.nd rfl rfl (sw_true rfl rfl rfl (by decide +kernel)) (piL (K := K) rfl (pv 5)) (blkOk_by (N := ["_law_script", "_law_pot_here", "_law_deeds_here", "_law_sizes", "_law_great", "_law_moves_here", "_law_worlds", "_law_told", "_law_due", "_law_row_here", "_law_s", "_law_t", "_law_goal", "_law_found", "_law_spare", "_law_other", "_law_second", "_law_k", "_law_size", "_law_move", "_law_sign"]) (sc := defScope s_law) (by decide +kernel)) (fun _ _ _ _ _ => (pg_name (i := 19) sc_law.nd rfl (Or.inl rfl))) (fun _ _ _ _ _ => pts_nil) (fun _ _ _ _ _ => (pe_make T.M_World (ok_World_init T) (hr.mono (by decide)) (by rfl) T.gC_World T.b_World_init .nil passF (pa_cons (pv 2) (pa_cons (pv 19) pa_nil)))))
      (pss_cons (ps_set (i := 7) sc_law.nd rfl (Or.inl rfl) (pe_call (ok_beside T) (hr.mono (by decide)) (by rfl) T.g_beside T.F_beside.kp T.b_beside .nil (passes_call (takes_of rfl rfl rfl rfl) (fun _ _ _ _ h => h)) (pa_cons (pe_ix (ixL (K := K) rfl) (pv 6) pe_int (fun _ _ => rfl)) (pa_cons (pe_ix (ixL (K := K) rfl) (pv 6) pe_int (fun _ _ => rfl)) pa_nil))))
      (pss_cons (ps_set (i := 8) sc_law.nd rfl (Or.inl rfl) (pe_call (ok_pairs T) (hr.mono (by decide)) (by rfl) T.g_pairs T.F_pairs.kp T.b_pairs .nil passF (pa_cons (pv 2) (pa_cons (pe_ix (ixL (K := K) rfl) (pv 5) pe_int (fun _ _ => rfl)) (pa_cons (pe_ix (ixL (K := K) rfl) (pv 5) pe_int (fun _ _ => rfl)) pa_nil)))))
      (pss_cons (ps_if (pt_mid (PW.pt (pw_or (pt_not (pt_val (pe_callB (cisi (K := K) rfl) (by rfl) T.m_isinstance bt_isinstance (pa_cons (pv 7) (pa_cons (pe_glob (v := .ref A.c_World) (by rfl) T.gC_World rfl) pa_nil))))) (pw_or (pt_cmpR op_ne (pe_fld (pv 7) rfl) (pv 2) (nomark _)) (pw_or (pt_cmpR (ne_dk (K := K) rfl hr) (pe_prop (pv 7) T.cl_World T.pr_World_moves (ok_World_moves T) (hr.mono (by decide)) T.b_World_moves .nil passF rfl) (pv 8) (nomark _)) (pw_or1 (pt_cmpR op_ne (pe_fld (pv 7) rfl) (pe_op op_mul (pe_ix (ixL (K := K) rfl) (pv 3) pe_int (fun _ _ => rfl)) (pe_ix (ixL (K := K) rfl) (pv 3) pe_int (fun _ _ => rfl))) (nomark _)))))))) (pss_one (ps_ret pe_bl)) pss_nil)
      (pss_cons (ps_set (i := 9) sc_law.nd rfl (Or.inl rfl) (pe_call (ok_row T) (hr.mono (by decide)) (by rfl) T.g_row T.F_row.kp T.b_row .nil passF (pa_cons (pv 1) (pa_cons (pv 2) (pa_cons pe_int pa_nil)))))
      (pss_cons (ps_par (i := 10) (j := 11) rfl sc_law.nd rfl rfl (by decide) rfl rfl (pa_cons (pe_call (ok_draw T) (hr.mono (by decide)) (by rfl) T.g_draw T.F_draw.kp T.b_draw .nil passF (pa_cons (pv 1) (pa_cons (pe_ix (ixL (K := K) rfl) (pv 3) pe_int (fun _ _ => rfl)) pa_nil))) (pa_cons (pe_call (ok_draw T) (hr.mono (by decide)) (by rfl) T.g_draw T.F_draw.kp T.b_draw .nil passF (pa_cons (pv 1) (pa_cons (pe_ix (ixL (K := K) rfl) (pv 3) pe_int (fun _ _ => rfl)) pa_nil))) pa_nil)) rfl)
      (pss_cons (ps_set (i := 12) sc_law.nd rfl (Or.inl rfl) (pe_op op_add (pe_op op_mul (pe_call (ok_lled T) (hr.mono (by decide)) (by rfl) T.g_lled T.F_lled.kp T.b_lled .nil passF (pa_cons (pe_ix (ixL (K := K) rfl) (pv 5) pe_int (fun _ _ => rfl)) (pa_cons (pv 10) (pa_cons (pv 9) pa_nil)))) (pe_ix (ixL (K := K) rfl) (pv 3) pe_int (fun _ _ => rfl))) (pe_call (ok_lled T) (hr.mono (by decide)) (by rfl) T.g_lled T.F_lled.kp T.b_lled .nil passF (pa_cons (pe_ix (ixL (K := K) rfl) (pv 5) pe_int (fun _ _ => rfl)) (pa_cons (pv 11) (pa_cons (pv 9) pa_nil))))))
      (pss_cons (ps_if (pt_mid (PW.pt (pw_or (pt_cmpR op_ne (pe_call (ok_led T) (hr.mono (by decide)) (by rfl) T.g_led T.F_led.kp T.b_led .nil (passes_call (takes_of rfl rfl rfl rfl) (fun _ _ _ _ h => h)) (pa_cons (pv 7) (pa_cons (pe_op op_add (pe_op op_mul (pv 10) (pe_ix (ixL (K := K) rfl) (pv 3) pe_int (fun _ _ => rfl))) (pv 11)) (pa_cons (pv 9) pa_nil)))) (pv 12) (nomark _)) (pw_or1 (pt_cmpR op_ne (pe_ix (ixT (K := K) rfl) (pe_call (ok_move_of T) (hr.mono (by decide)) (by rfl) T.g_move_of T.F_move_of.kp T.b_move_of .nil (passes_call (takes_of rfl rfl rfl rfl) (fun _ _ _ _ h => h)) (pa_cons (pv 7) (pa_cons (pv 9) pa_nil))) (pe_op op_add (pe_op op_mul (pv 10) (pe_ix (ixL (K := K) rfl) (pv 3) pe_int (fun _ _ => rfl))) (pv 11)) (fun _ _ => rfl)) (pv 12) (nomark _)))))) (pss_one (ps_ret pe_bl)) pss_nil)
      (pss_cons (ps_if (pt_mid (PW.pt (pw_and (pt_not (pt_val (pv 4))) (pw_and1 (pt_cmpR op_ne (pe_call (ok_order T) (hr.mono (by decide)) (by rfl) T.g_order T.F_order.kp T.b_order .nil (passes_call (takes_of rfl rfl rfl rfl) (fun _ _ _ _ h => h)) (pa_cons (pv 7) (pa_cons (pv 9) pa_nil))) (pe_call (ok_least T) (hr.mono (by decide)) (by rfl) T.g_least T.F_least.kp T.b_least .nil passF (pa_cons (pe_call (ok_order T) (hr.mono (by decide)) (by rfl) T.g_order T.F_order.kp T.b_order .nil (passes_call (takes_of rfl rfl rfl rfl) (fun _ _ _ _ h => h)) (pa_cons (pe_ix (ixL (K := K) rfl) (pv 6) pe_int (fun _ _ => rfl)) (pa_cons (pv 9) pa_nil))) (pa_cons (pe_call (ok_order T) (hr.mono (by decide)) (by rfl) T.g_order T.F_order.kp T.b_order .nil (passes_call (takes_of rfl rfl rfl rfl) (fun _ _ _ _ h => h)) (pa_cons (pe_ix (ixL (K := K) rfl) (pv 6) pe_int (fun _ _ => rfl)) (pa_cons (pv 9) pa_nil))) pa_nil))) (nomark _)))))) (pss_one (ps_ret pe_bl)) pss_nil)
      (pss_cons (ps_set (i := 13) sc_law.nd rfl (Or.inl rfl) (pe_call (ok_asked T) hr (by rfl) T.g_asked T.F_asked.kp T.b_asked .nil passF (pa_cons (pv 7) (pa_cons (pe_ix (ixL (K := K) rfl) (pv 6) pe_int (fun _ _ => rfl)) pa_nil))))
      (C8.pss_cut (ps_if (pt_cmpR op_gt (pe_op op_mul (pe_op op_mul (pe_ix (ixL (K := K) rfl) (pv 3) pe_int (fun _ _ => rfl)) (pe_ix (ixL (K := K) rfl) (pv 3) pe_int (fun _ _ => rfl))) (pe_ix (ixL (K := K) rfl) (pv 3) pe_int (fun _ _ => rfl))) pe_int (nomark _)) (pss_one (ps_if (pt_mid (PW.pt (pw_or (pt_cmpR (neD (K := K) rfl hr.units) (pv 13) (pe_tup (pa_cons pe_str (pa_cons pe_int pa_nil))) (nomark _)) (pw_or1 (pt_cmpR (neD (K := K) rfl hr.units) (pe_call (ok_asked T) hr (by rfl) T.g_asked T.F_asked.kp T.b_asked .nil passF (pa_cons (pe_ix (ixL (K := K) rfl) (pv 6) pe_int (fun _ _ => rfl)) (pa_cons (pv 7) pa_nil))) (pe_tup (pa_cons pe_str (pa_cons pe_int pa_nil))) (nomark _)))))) (pss_one (ps_ret pe_bl)) pss_nil)) (pss_one (ps_if (pt_mid (PW.pt (pw_or (pt_cmpR op_ne (pe_ix (ixT (K := K) rfl) (pv 13) pe_int (fun _ _ => rfl)) pe_str (nomark _)) (pw_or1 (pt_cmpR (ne_dk (K := K) rfl hr) (pe_prop (pe_ix (ixT (K := K) rfl) (pv 13) pe_int (fun _ _ => rfl)) T.cl_World T.pr_World_moves (ok_World_moves T) (hr.mono (by decide)) T.b_World_moves .nil passF rfl) (pe_call (ok_pairs T) (hr.mono (by decide)) (by rfl) T.g_pairs T.F_pairs.kp T.b_pairs .nil passF (pa_cons (pv 2) (pa_cons (pv 8) (pa_cons (pe_ix (ixL (K := K) rfl) (pv 5) pe_int (fun _ _ => rfl)) pa_nil)))) (nomark _)))))) (pss_one (ps_ret pe_bl)) (pss_one (ps_if (pt_cmpR (op_own_ne (K := K) rfl (ok_World__eq_ T) T.eqs_World T.eqf_World T.eqn_World T.in_World.hm T.b_World__eq_ passF (hr.mono (by decide))) (pe_ix (ixT (K := K) rfl) (pv 13) pe_int (fun _ _ => rfl)) (pe_call (ok_beside T) (hr.mono (by decide)) (by rfl) T.g_beside T.F_beside.kp T.b_beside .nil (passes_call (takes_of rfl rfl rfl rfl) (fun _ _ _ _ h => h)) (pa_cons (pe_ix (ixL (K := K) rfl) (pv 6) pe_int (fun _ _ => rfl)) (pa_cons (pe_call (ok_beside T) (hr.mono (by decide)) (by rfl) T.g_beside T.F_beside.kp T.b_beside .nil (passes_call (takes_of rfl rfl rfl rfl) (fun _ _ _ _ h => h)) (pa_cons (pe_ix (ixL (K := K) rfl) (pv 6) pe_int (fun _ _ => rfl)) (pa_cons (pe_ix (ixL (K := K) rfl) (pv 6) pe_int (fun _ _ => rfl)) pa_nil))) pa_nil))) (nomark _)) (pss_one (ps_ret pe_bl)) pss_nil)))))
      (pss_cons (ps_set (i := 14) sc_law.nd rfl (Or.inl rfl) (pe_ix (ixL (K := K) rfl) (pe_lc (own := [("_law_sign", 20)]) rfl sc_law.nd (pi_str pe_str) (blkOk_by (N := ["_law_script", "_law_pot_here", "_law_deeds_here", "_law_sizes", "_law_great", "_law_moves_here", "_law_worlds", "_law_told", "_law_due", "_law_row_here", "_law_s", "_law_t", "_law_goal", "_law_found", "_law_spare", "_law_other", "_law_second", "_law_k", "_law_size", "_law_move", "_law_sign"]) (sc := defScope s_law) (by decide +kernel)) (fun _ _ _ _ _ => (pg_name (i := 20) sc_law.nd rfl (Or.inl rfl))) (fun _ _ _ _ _ => (pts_one (pt_cmpR op_notIn_sign (pv 20) (pv 2) rfl))) (fun _ _ _ _ _ => (pv 20))) pe_int (fun _ _ => rfl)))
      (pss_cons (ps_set (i := 15) sc_law.nd rfl (Or.inl rfl) (pbm (K := K) rfl PySem.F.plainAttrs_str PySem.F.slot_str_join PySem.F.type_str_join (mjoin (K := K) rfl) pe_str (pa_cons (pe_callB (csortedS (by rfl)) (by rfl) T.m_sorted bt_sorted (pa_cons (pe_op op_add_str (pe_slice sl_str (pv 2) (po_some pe_int) po_none) (pv 14)) pa_nil)) pa_nil)))
      (pss_cons (ps_set (i := 16) sc_law.nd rfl (Or.inl rfl) (pe_make T.M_World (ok_World_init T) (hr.mono (by decide)) (by rfl) T.gC_World T.b_World_init .nil (passes_call (takes_of rfl rfl rfl rfl) (fun _ _ _ _ h => h)) (pa_cons (pv 15) (pa_cons (pe_call (ok_moves T) (hr.mono (by decide)) (by rfl) T.g_moves T.F_moves.kp T.b_moves .nil passF (pa_cons (pv 1) (pa_cons (pv 15) (pa_cons (pe_ix (ixL (K := K) rfl) (pv 3) pe_int (fun _ _ => rfl)) pa_nil)))) pa_nil))))
      (pss_cons (ps_if (pt_mid (PW.pt (pw_or (pt_cmpR (neD (K := K) rfl hr.units) (pe_call (ok_asked T) hr (by rfl) T.g_asked T.F_asked.kp T.b_asked .nil passF (pa_cons (pe_ix (ixL (K := K) rfl) (pv 6) pe_int (fun _ _ => rfl)) (pa_cons (pv 16) pa_nil))) (pe_tup (pa_cons pe_str (pa_cons pe_non pa_nil))) (nomark _)) (pw_or1 (pt_cmpR (neD (K := K) rfl hr.units) (pe_call (ok_asked T) hr (by rfl) T.g_asked T.F_asked.kp T.b_asked .nil passF (pa_cons (pv 16) (pa_cons (pv 7) pa_nil))) (pe_tup (pa_cons pe_str (pa_cons pe_non pa_nil))) (nomark _)))))) (pss_one (ps_ret pe_bl)) pss_nil)
      (pss_one (ps_ret (pe_mid (pe_and (pe_cmpR (op_own_eq (K := K) rfl (ok_World__eq_ T) T.eqs_World T.eqf_World T.b_World__eq_ passF (hr.mono (by decide))) (pe_ix (ixL (K := K) rfl) (pv 6) pe_int (fun _ _ => rfl)) (pe_make T.M_World (ok_World_init T) (hr.mono (by decide)) (by rfl) T.gC_World T.b_World_init .nil (passes_call (takes_of rfl rfl rfl rfl) (fun _ _ _ _ h => h)) (pa_cons (pv 2) (pa_cons (pe_ix (ixL (K := K) rfl) (pv 5) pe_int (fun _ _ => rfl)) pa_nil))) (nomark _)) (pe_one (pe_cmpR (op_own_eq (K := K) rfl (ok_World__eq_ T) T.eqs_World T.eqf_World T.b_World__eq_ passF (hr.mono (by decide))) (pe_ix (ixL (K := K) rfl) (pv 6) pe_int (fun _ _ => rfl)) (pe_make T.M_World (ok_World_init T) (hr.mono (by decide)) (by rfl) T.gC_World T.b_World_init .nil (passes_call (takes_of rfl rfl rfl rfl) (fun _ _ _ _ h => h)) (pa_cons (pv 2) (pa_cons (pe_ix (ixL (K := K) rfl) (pv 5) pe_int (fun _ _ => rfl)) pa_nil))) (nomark _)))))))))))))))))))))))))))), ?_⟩
    walk_at "v"
    refine ⟨sc, ns, rfl, hS, hlen, fun h g H0 s0 hH _ _ => ?_⟩
    walk_at "v"
    refine ⟨h, g, 3, rfl, hH, by decide, by decide, fun d H1 hd dz d120 g1 => ?_⟩
    walk_at "v"
    refine ⟨by decide, by decide, fun L hL => ?_⟩
    have hH1 := g1.2.1
    have Lp := hH1.ne hL
    refine lc_range (Pv := fun i G => PG2 h g H1 G ∧ ∃ ks : List Nat, ks.length = i ∧ (∀ k ∈ ks, 1 ≤ k ∧ k ≤ 6) ∧ G L = some (.lst (mv ks))) ⟨PG2.put hH1 hH1.refl hL, [], rfl, all_n, upd_same⟩ ?_ ?_
    · rintro i G hi ⟨g2, ks, kl, kb, h2⟩
      refine ⟨rfl, ?_⟩
      refine ⟨by walk_at "sz", fun t ht => ?_⟩
      have t1 : upd G t (.tup ([1, 2, 3, 4, 5, 6].map fun k : Nat => V.int k)) t = some (.tup ([1, 2, 3, 4, 5, 6].map fun k : Nat => V.int k)) := upd_same
      have g3 := g2.same (Same.new (o := .tup ([1, 2, 3, 4, 5, 6].map fun k : Nat => V.int k)) ht)
      have h3 := upd_old (u := .tup ([1, 2, 3, 4, 5, 6].map fun k : Nat => V.int k)) h2 ht
      walk_at "v"
      refine ⟨h, g, 6, rfl, g3.2.1, by decide, by decide, fun e G4 e0 e1 g4 => ?_⟩
      obtain ⟨j, rfl⟩ : ∃ j : Nat, e = j := ⟨e.toNat, by omega⟩
      obtain ⟨n, hn, n1, n6⟩ : ∃ n : Nat, ([1, 2, 3, 4, 5, 6].map fun k : Nat => V.int k)[j]? = some (.int n) ∧ 1 ≤ n ∧ n ≤ 6 := by
        have j6 : j < 6 := by omega
        have : ∀ j, j < 6 → ∃ n : Nat, ([1, 2, 3, 4, 5, 6] : List Nat)[j]? = some n ∧ 1 ≤ n ∧ n ≤ 6 := by
          intro j hj
          match j, hj with
          | 0, _ => exact ⟨1, rfl, by decide, by decide⟩
          | 1, _ => exact ⟨2, rfl, by decide, by decide⟩
          | 2, _ => exact ⟨3, rfl, by decide, by decide⟩
          | 3, _ => exact ⟨4, rfl, by decide, by decide⟩
          | 4, _ => exact ⟨5, rfl, by decide, by decide⟩
          | 5, _ => exact ⟨6, rfl, by decide, by decide⟩
        obtain ⟨n, hn, r⟩ := this j j6
        exact ⟨n, by rw [List.getElem?_map, hn]; rfl, r⟩
      have t2 := g4.1 _ _ (g3.2.1.apart t1 fun xs z => nomatch z) t1
      refine ⟨t, _, _, _, rfl, rfl, SqT.of t2, atI_int rfl hn, ?_⟩
      refine ⟨_, g4.1 _ _ Lp h3, ?_, ?_, ks ++ [n], ?_, ?_, ?_⟩
      · rw [mv_len, kl]; exact Nat.lt_of_le_of_lt (by omega : _ ≤ 100) (by decide)
      · exact PG2.put hH1 (g3.trans g4) hL
      · rw [List.length_append, kl]; rfl
      · intro k hk
        rcases List.mem_append.mp hk with z | z
        · exact kb k z
        · rw [List.mem_singleton.mp z]; exact ⟨n1, n6⟩
      · rw [upd_same]; unfold mv iv; rw [List.map_append, List.map_append]; rfl
    rintro G ⟨g2, ks, kl, kb, h2⟩
    walk_at "v"
    refine ⟨h, g, 8, rfl, g2.2.1, by decide, by decide, fun e G3 e0 e1 g3 => ?_⟩
    have h3 := g3.1 _ _ Lp h2
    have g23 := g2.trans g3
    refine ⟨rfl, ?_⟩
    rw [show (decide (V.int e = V.int 0)) = decide (e = 0) by congr 1; exact propext ⟨fun z => V.int.inj z, fun z => z ▸ rfl⟩]
    have lw3 := g3.2.1
    generalize decide (e = 0) = gr
    obtain ⟨k0, k1, k2, rfl⟩ : ∃ k0 k1 k2, ks = [k0, k1, k2] := by
      match ks, kl with
      | [x, y, z], _ => exact ⟨x, y, z, rfl⟩
    have b0 := kb k0 (by simp)
    have b1 := kb k1 (by simp)
    have b2 := kb k2 (by simp)
    refine ⟨fun σ' G => ∃ (Lz : Addr) (n0 n1 n2 : Nat), σ' = [some (.ref sc), some (.ref h), some (.str (S d)), some (.ref Lz), some (.bl gr), none, none, none, none, none, none, none, none, none, none, none, none, none, none, none, none] ∧
      Pot G h g ∧ G Lz = some (.lst (mv [n0, n1, n2])) ∧ (Lz ≠ h ∧ Lz ≠ g) ∧ (1 ≤ n0 ∧ n0 ≤ 24) ∧ (1 ≤ n1 ∧ n1 ≤ 24) ∧ (1 ≤ n2 ∧ n2 ≤ 6) ∧ (gr = false → n0 ≤ 6 ∧ n1 ≤ 6), ?_, ?_⟩
    · walk_at "v"
      refine ⟨_, rfl, iteB (fun e1 => ?_) (fun e1 => ?_)⟩
      · walk_at "v"
        refine ⟨h, g, 3, rfl, lw3, by decide, by decide, fun e5 G5 e50 e51 g5 => ?_⟩
        obtain ⟨j5, rfl⟩ : ∃ j : Nat, e5 = j := ⟨e5.toNat, by omega⟩
        refine ⟨_, _, rfl, rfl, ?_⟩
        refine ⟨by walk_at "sz", fun Lz hLz => ?_⟩
        refine ⟨Lz, 24, 24, 3 + j5, rfl, g5.2.1.same (Same.new hLz), ?_, g5.2.1.ne hLz, by decide, by decide, by omega, fun z => absurd (e1.symm.trans z) (by decide)⟩
        rw [upd_same]; unfold mv iv
        show some (HO.lst [V.int 24, V.int 24, V.int ((3 : Int) + (j5 : Nat))]) = _
        rw [show ((3 : Int) + (j5 : Nat)) = ((3 + j5 : Nat) : Int) by omega]
        rfl
      · exact ⟨L, k0, k1, k2, rfl, lw3, h3, Lp, ⟨b0.1, by omega⟩, ⟨b1.1, by omega⟩, ⟨b2.1, b2.2⟩, fun _ => ⟨b0.2, b1.2⟩⟩
    rintro σ' G5 ⟨Lz, n0, n1, n2, rfl, pot5, hz5, Lzp, c0, c1, c2, cg⟩
    clear h3 lw3 b0 b1 b2 kb kl h2 g2 g3 g23 Lp hH1
    have nb : ∀ j, j < 3 → 1 ≤ go1 [n0, n1, n2] j ∧ go1 [n0, n1, n2] j ≤ 24 := fun j hj => by
      match j, hj with
      | 0, _ => exact c0
      | 1, _ => exact c1
      | 2, _ => exact ⟨c2.1, by show n2 ≤ 24; omega⟩
    walk_at "v"; walk_at "v"
    refine ⟨⟨_, SqL.of hz5⟩, fun D hD => ?_⟩
    have Dp := pot5.ne hD
    refine lc_it (walk_list (xs := mv [n0, n1, n2])) (fun i G => ∃ (q : Nat → Addr) (a : Nat → Nat → Addr) (M : Nat → Nat → List Nat), PG2 h g G5 G ∧ G D = some (.lst ((List.range i).map fun j => V.ref (q j))) ∧
      (∀ j, j < i → G (q j) = some (.dK (dct d (a j))) ∧ ∀ c ∈ d, (M j c).Perm (List.range (go1 [n0, n1, n2] j)) ∧ TF G (a j c) (M j c)))
      ⟨fun _ => D, fun _ _ => D, fun _ _ => [], PG2.put pot5 pot5.refl hD, upd_same, fun j z => absurd z (Nat.not_lt_zero _)⟩ (fun i G _ ⟨_, _, _, g6, _⟩ => SqL.of (g6.1 _ _ Lzp hz5)) ?_ ?_
    · rintro i x G6 G7 hi ⟨q, a, M, g6, h6, m6⟩ ⟨rfl, hx⟩
      rw [mv_at hi] at hx
      cases hx
      have nbi := nb i hi
      refine ⟨rfl, ?_⟩
      walk_at "v"
      walk_at "v"; walk_at "v"
      refine ⟨h, g, d, go1 [n0, n1, n2] i, rfl, g6.2.1, hd, by omega, fun z b N G8 g8 zn h8 m8 => ?_⟩
      have h9 := g8.1 _ _ Dp h6
      have zD : z ≠ D := ne_of h8 h9 fun z => nomatch z
      refine ⟨_, h9, ?_, fun j => if j = i then z else q j, fun j => if j = i then b else a j, fun j => if j = i then N else M j, PG2.put pot5 (g6.trans g8) hD, ?_, ?_⟩
      · rw [List.length_map, List.length_range]
        have : i < 3 := hi
        exact Nat.lt_of_le_of_lt (by omega : _ ≤ 3) (by decide)
      · rw [upd_same, List.range_succ, List.map_append]
        congr 1
        congr 1
        congr 1
        · refine List.map_congr_left fun j hj => ?_
          dsimp only
          rw [if_neg (by have := List.mem_range.mp hj; omega)]
        · simp
      · intro j hj
        dsimp only
        by_cases e : j = i
        · rw [if_pos e, if_pos e, if_pos e]
          refine ⟨upd_oth h8 zD, fun c hc => ⟨e ▸ (m8 c hc).1, (m8 c hc).2.oth (tf_nl (m8 c hc).2 h9)⟩⟩
        · rw [if_neg e, if_neg e, if_neg e]
          obtain ⟨k1, k2⟩ := m6 j (by omega)
          have k3 := g8.1 _ _ (g6.2.1.apart k1 fun xs z => nomatch z) k1
          refine ⟨upd_oth k3 (ne_of k3 h9 fun z => nomatch z), fun c hc => ?_⟩
          have k4 := (k2 c hc).2.bg g8.1 ((k2 c hc).2.apart g6.2.1)
          exact ⟨(k2 c hc).1, k4.oth (tf_nl k4 h9)⟩
    rintro G6 ⟨q, a, M, g6, h6, m6⟩
    have pot6 := g6.2.1
    have Dn : D ≠ h ∧ D ≠ g := Dp
    rw [mv_len] at h6 m6
    replace h6 : G6 D = some (.lst ((List.range 3).map fun j => V.ref (q j))) := h6
    replace m6 : ∀ j, j < 3 → G6 (q j) = some (.dK (dct d (a j))) ∧ ∀ c ∈ d, (M j c).Perm (List.range (go1 [n0, n1, n2] j)) ∧ TF G6 (a j c) (M j c) := m6
    have hz6 := g6.1 _ _ Lzp hz5
    clear g6 hD Dp
    walk_at "v"; walk_at "v"
    refine ⟨⟨_, SqL.of h6⟩, fun F hF => ?_⟩
    have Fp := pot6.ne hF
    refine lc_it (walk_list (xs := (List.range 3).map fun j => V.ref (q j))) (fun i G => ∃ (wf : Nat → Addr), Same G6 G ∧ G F = some (.lst ((List.range i).map fun j => V.ref (wf j))) ∧ (∀ j, j < i → WorldAt A.c_World G (wf j) d (go1 [n0, n1, n2] j) (M j)))
      ⟨fun _ => D, Same.new hF, upd_same, fun j z => absurd z (Nat.not_lt_zero _)⟩ (fun i G _ ⟨_, s7, _⟩ => SqL.of (s7 _ _ h6)) ?_ ?_
    · rintro i x G7 G8 hi ⟨wf, s7, h7, w7⟩ ⟨rfl, hx⟩
      have hi3 : i < 3 := by simpa using hi
      obtain rfl : x = V.ref (q i) := by
        rw [List.getElem?_map, List.getElem?_range hi3] at hx
        exact (Option.some.inj hx).symm
      have nbi := nb i hi3
      obtain ⟨k1, k2⟩ := m6 i hi3
      refine ⟨rfl, ?_⟩
      walk_at "v"; walk_at "v"
      intro wp dx hwp hdx ndx
      generalize e4 : upd (upd G8 dx (.own wp)) wp _ = H4
      have w4 : H4 wp = some (.ins A.c_World dx []) := by rw [← e4]; exact upd_same
      have s4 : Same G8 H4 := by rw [← e4]; exact fun b o hb => upd_oth (upd_old hb hdx) (ne_of_none hb hwp)
      clear e4
      refine ⟨wp, dx, q i, d, go1 [n0, n1, n2] i, M i, a i, rfl, w4, hd, s4 _ _ (s7 _ _ k1), fun c hc => ⟨(k2 c hc).1, (((k2 c hc).2.same s7).same s4).tp⟩, nbi.1, nbi.2, fun H5 b5 wd5 => ?_⟩
      have s5 : Same G8 H5 := fun b o hb => b5 _ _ (ne_of_none hb hwp) (s4 _ _ hb)
      refine ⟨rfl, ?_⟩
      have h9 := s5 _ _ h7
      refine ⟨_, h9, ?_, fun j => if j = i then wp else wf j, Same.mut hF (s7.trans s5), ?_, ?_⟩
      · rw [List.length_map, List.length_range]
        exact Nat.lt_of_le_of_lt (by omega : _ ≤ 3) (by decide)
      · rw [upd_same, List.range_succ, List.map_append]
        congr 1
        congr 1
        congr 1
        · refine List.map_congr_left fun j hj => ?_
          dsimp only
          rw [if_neg (by have := List.mem_range.mp hj; omega)]
        · simp
      · intro j hj
        dsimp only
        by_cases e : j = i
        · rw [if_pos e, e]; exact wld_nl wd5 h9
        · rw [if_neg e]; exact wld_nl ((w7 j (by omega)).same s5) h9
    rintro G7 ⟨wf, s7, h7, w7⟩
    have sw : SW A.c_World G7 h g D F d q wf (go1 [n0, n1, n2]) M a :=
      ⟨pot6.same s7, s7 _ _ h6, h7, Dn, Fp, w7, fun j hj => s7 _ _ (m6 j hj).1, fun j hj c hc => ((m6 j hj).2 c hc).2.same s7⟩
    have perm : ∀ j, j < 3 → ∀ c ∈ d, (M j c).Perm (List.range (go1 [n0, n1, n2] j)) := fun j hj c hc => ((m6 j hj).2 c hc).1
    have mok : ∀ j, j < 3 → Mok (go1 [n0, n1, n2] j) d (M j) := fun j hj c hc => bk_perm (perm j hj c hc)
    have ml : ∀ j, j < 3 → ∀ c ∈ d, (M j c).length = go1 [n0, n1, n2] j := fun j hj c hc => by rw [(perm j hj c hc).length_eq, List.length_range]
    have hz7 := s7 _ _ hz6
    clear w7 h7 hF m6 h6 Dn s7 pot6 Fp hz6
    have m576 : n0 * n1 ≤ 576 := Nat.mul_le_mul c0.2 c1.2
    walk_at "v"
    refine ⟨F, _, _, _, rfl, rfl, SqL.of sw.lw, atI_int (j := 0) rfl rfl, ?_⟩
    walk_at "v"
    refine ⟨F, _, _, _, rfl, rfl, SqL.of sw.lw, atI_int (j := 1) rfl rfl, ?_⟩
    refine ⟨wf 0, wf 1, d, d, n0, n1, M 0, M 1, rfl, sw.wld 0 (by decide), sw.wld 1 (by decide), hd, by omega, by omega, ml 0 (by decide), ml 1 (by decide), fun ne => absurd rfl ne, fun _ big => absurd big (by omega), fun _ _ z G8 s8 wz => ?_⟩
    have sw8 := sw.same s8
    have hz8 := s8 _ _ hz7
    clear sw s8 hz7
    walk_at "v"; walk_at "v"
    refine ⟨D, _, _, _, rfl, rfl, SqL.of sw8.lq, atI_int (j := 0) rfl rfl, ?_⟩
    walk_at "v"
    refine ⟨D, _, _, _, rfl, rfl, SqL.of sw8.lq, atI_int (j := 1) rfl rfl, ?_⟩
    refine ⟨q 0, q 1, d, n0, n1, M 0, M 1, a 0, a 1, rfl, hd, sw8.dic 0 (by decide), sw8.dic 1 (by decide), by omega, by omega, by omega, fun c hc => ⟨(sw8.mvs 0 (by decide) c hc).tp, ml 0 (by decide) c hc⟩, fun c hc => ⟨(sw8.mvs 1 (by decide) c hc).tp, ml 1 (by decide) c hc⟩, fun u b G9 s9 u9 b9 => ?_⟩
    have sw9 := sw8.same s9
    have wz9 := wz.same s9
    have hz9 := s9 _ _ hz8
    clear sw8 s9 wz hz8
    obtain ⟨dz9, qz9, bz9, i1, i2, i3⟩ := id wz9
    refine ⟨fun b' G' => b' = false ∧ Same G9 G', ?_, ?_⟩
    · walk_at "v"
      refine ⟨_, _, _, _, _, rfl, .own _, .base (.ins i1 T.cl_World T.in_World.ha T.in_World.hn T.in_World.htk T.in_World.hm), T.in_World.me, ?_⟩
      walk_at "v"
      refine iteF ?_
      walk_at "v"
      refine ⟨z, _, dz9, _, _, rfl, i1, T.cl_World, T.nF_World_deeds, rfl, ?_⟩
      walk_at "v"
      refine ⟨rfl, ?_⟩
      walk_at "v"
      rw [decide_eq_true rfl]
      refine iteF ?_
      walk_at "v"
      refine ⟨z, dz9, _, rfl, i1, z, d, n0 * n1, _, rfl, wz9, fun z1 b1 G1 s1 zn1 e1 t1 => ?_⟩
      walk_at "v"
      have t2 : ∀ c ∈ d, TP G1 (b c) (pms n1 (M 0) (M 1) c) := fun c hc => (b9 c hc).same s1
      refine ⟨z1, u, _, _, datV G1, rfl, rfl, .inl e1, .inl (s1 _ _ u9), dp_dct t1, dp_dct t2, ?_⟩
      rw [deq_dct t1 t2]
      refine ⟨true, rfl, false, rfl, iteF ?_⟩
      walk_at "v"
      refine ⟨z, _, dz9, _, _, rfl, s1 _ _ i1, T.cl_World, T.nF_World_size, rfl, ?_⟩
      walk_at "v"
      refine ⟨Lz, _, _, _, rfl, rfl, SqL.of (s1 _ _ hz9), atI_int (j := 0) rfl rfl, ?_⟩
      walk_at "v"
      refine ⟨Lz, _, _, _, rfl, rfl, SqL.of (s1 _ _ hz9), atI_int (j := 1) rfl rfl, ?_⟩
      refine ⟨n0, n1, rfl, rfl, .inl ⟨by omega, by omega⟩, ?_⟩
      refine ⟨rfl, ?_⟩
      walk_at "v"
      rw [decide_eq_true (show V.int ((n0 * n1 : Nat) : Int) = V.int ((n0 : Int) * (n1 : Int)) by rw [Int.natCast_mul])]
      exact ⟨rfl, s1⟩
    rintro b' G10 ⟨rfl, s10⟩
    refine iteF ?_
    have sb10 : SB A.c_World G10 h g D F Lz u z d q wf n0 n1 n2 M a b := ⟨sw9.same s10, wz9.same s10, s10 _ _ hz9, Lzp, s10 _ _ u9, fun c hc => (b9 c hc).same s10⟩
    clear sw9 wz9 hz9 i1 i2 i3 s10 u9 b9
    walk_at "v"; walk_at "v"
    refine ⟨h, g, d, 10, rfl, sb10.sw.pot, hd, by decide, fun l G11 lz hl ov g11 => ?_⟩
    have sb11 := sb10.go g11
    clear sb10 g11
    walk_at "v"; walk_at "v"
    refine ⟨Lz, _, _, _, rfl, rfl, SqL.of sb11.hz, atI_int (j := 0) rfl rfl, ?_⟩
    refine ⟨h, g, n0, rfl, sb11.sw.pot, by omega, by omega, fun ss G12 ss0 ss1 g12 => ?_⟩
    obtain ⟨s, rfl⟩ : ∃ s : Nat, ss = s := ⟨ss.toNat, by omega⟩
    have sn : s < n0 := by omega
    have sb12 := sb11.go g12
    clear sb11 g12
    walk_at "v"; walk_at "v"
    refine ⟨Lz, _, _, _, rfl, rfl, SqL.of sb12.hz, atI_int (j := 1) rfl rfl, ?_⟩
    refine ⟨h, g, n1, rfl, sb12.sw.pot, by omega, by omega, fun tt G13 tt0 tt1 g13 => ?_⟩
    obtain ⟨t, rfl⟩ : ∃ t : Nat, tt = t := ⟨tt.toNat, by omega⟩
    have tn : t < n1 := by omega
    have sb13 := sb12.go g13
    clear sb12 g13
    refine ⟨_, _, rfl, ?_⟩
    walk_at "v"
    refine ⟨D, _, _, _, rfl, rfl, SqL.of sb13.sw.lq, atI_int (j := 0) rfl rfl, ?_⟩
    walk_at "v"; walk_at "v"
    refine ⟨q 0, d, l, n0, M 0, a 0, s, rfl, sb13.sw.dic 0 (by decide), sb13.sw.mvs 0 (by decide), mok 0 (by decide), hl, ov, hd, sn, ?_⟩
    walk_at "v"
    refine ⟨Lz, _, _, _, rfl, rfl, SqL.of sb13.hz, atI_int (j := 1) rfl rfl, ?_⟩
    refine ⟨_, _, rfl, rfl, .inr ⟨by dsimp only; omega, by dsimp only; omega⟩, ?_⟩
    walk_at "v"
    refine ⟨D, _, _, _, rfl, rfl, SqL.of sb13.sw.lq, atI_int (j := 1) rfl rfl, ?_⟩
    walk_at "v"; walk_at "v"
    refine ⟨q 1, d, l, n1, M 1, a 1, t, rfl, sb13.sw.dic 1 (by decide), sb13.sw.mvs 1 (by decide), mok 1 (by decide), hl, ov, hd, tn, ?_⟩
    refine ⟨_, _, rfl, rfl, ?_⟩
    have mokP : Mok (n0 * n1) d (pms n1 (M 0) (M 1)) := pms_ok (mok 0 (by decide)) (mok 1 (by decide))
    have ew : wk (A1 (n0 * n1) (pms n1 (M 0) (M 1))) l (s * n1 + t) = wk (A1 n0 (M 0)) l s * n1 + wk (A1 n1 (M 1)) l t := wk_pm (mok 0 (by decide)) (mok 1 (by decide)) ov sn tn
    have pl : s * n1 + t < n0 * n1 := pair_lt sn tn
    have ei : ((s * n1 + t : Nat) : Int) = (s : Int) * (n1 : Int) + (t : Int) := by rw [Int.natCast_add, Int.natCast_mul]
    have eg : ((wk (A1 n0 (M 0)) l s * n1 + wk (A1 n1 (M 1)) l t : Nat) : Int) = ((wk (A1 n0 (M 0)) l s : Nat) : Int) * (n1 : Int) + ((wk (A1 n1 (M 1)) l t : Nat) : Int) := by rw [Int.natCast_add, Int.natCast_mul]
    dsimp only
    rw [← eg]
    generalize eG : wk (A1 n0 (M 0)) l s * n1 + wk (A1 n1 (M 1)) l t = gl at ew
    clear eG eg
    refine ⟨fun b' G' => b' = false ∧ Same G13 G', ?_, ?_⟩
    · walk_at "v"; walk_at "v"; walk_at "v"
      refine ⟨Lz, _, _, _, rfl, rfl, SqL.of sb13.hz, atI_int (j := 1) rfl rfl, ?_⟩
      refine ⟨_, _, rfl, rfl, .inr ⟨by dsimp only; omega, by dsimp only; omega⟩, ?_⟩
      walk_at "v"
      refine ⟨_, _, rfl, rfl, ?_⟩
      walk_at "v"
      dsimp only
      rw [← ei]
      refine ⟨z, d, n0 * n1, pms n1 (M 0) (M 1), .int (s * n1 + t : Nat), .str (S l), some (s * n1 + t : Nat), rfl, sb13.wz, mokP, hd, by omega, .int _, fun e => ?_, fun _ => ⟨some l, .yes hl (by omega) ov, fun z => (nomatch z), fun l' s' el es sl G s7 => ?_⟩⟩
      · rw [within_yes (by omega) (by omega)] at e; cases e
      cases el
      have es2 : s * n1 + t = s' := by have := V.int.inj es; omega
      rw [← es2, ew]
      walk_at "v"
      refine ⟨rfl, ?_⟩
      walk_at "v"
      rw [decide_eq_true rfl]
      refine iteF ?_
      walk_at "v"; walk_at "v"
      refine ⟨z, d, n0 * n1, pms n1 (M 0) (M 1), .str (S l), some l, rfl, (sb13.same s7).wz, mokP, hd, by omega, .yes hl (by omega) ov, fun z => (nomatch z), fun l' el t2 G2 s8 ht2 => ?_⟩
      cases el
      have sb15 := (sb13.same s7).same s8
      walk_at "v"; walk_at "v"
      refine ⟨Lz, _, _, _, rfl, rfl, SqL.of sb15.hz, atI_int (j := 1) rfl rfl, ?_⟩
      refine ⟨_, _, rfl, rfl, .inr ⟨by dsimp only; omega, by dsimp only; omega⟩, ?_⟩
      walk_at "v"
      refine ⟨_, _, rfl, rfl, ?_⟩
      dsimp only
      rw [← ei]
      refine ⟨t2, _, _, _, rfl, rfl, ht2.sq, atI_int rfl (mv_at (by rw [rowMv_len]; exact pl)), ?_⟩
      rw [rowMv_wk _ pl, ew]
      walk_at "v"
      refine ⟨rfl, ?_⟩
      walk_at "v"
      rw [decide_eq_true rfl]
      exact ⟨rfl, s7.trans s8⟩
    rintro b' G14 ⟨rfl, s14⟩
    refine iteF ?_
    have sb14 := sb13.same s14
    clear sb13 s14
    refine ⟨fun b' G' => b' = false ∧ Same G14 G', ?_, ?_⟩
    · walk_at "v"
      refine ⟨gr, rfl, ?_⟩
      cases egr : gr with
      | true =>
        show if (!true) = true then _ else _
        refine iteF ?_
        exact ⟨rfl, Same.refl _⟩
      | false =>
        show if (!false) = true then _ else _
        refine iteT ?_
        obtain ⟨c06, c16⟩ := cg egr
        have m36 : n0 * n1 ≤ 36 := Nat.mul_le_mul c06 c16
        have mok0 : Mok n0 d (M 0) := mok 0 (by decide)
        have mok1 : Mok n1 d (M 1) := mok 1 (by decide)
        obtain ⟨r0, bk0⟩ := rowMv_bk (A := A1 n0 (M 0)) (l := l) fun x hx => A1_bk mok0 (ov x hx)
        obtain ⟨r1, bk1⟩ := rowMv_bk (A := A1 n1 (M 1)) (l := l) fun x hx => A1_bk mok1 (ov x hx)
        walk_at "v"; walk_at "v"
        refine ⟨z, d, n0 * n1, pms n1 (M 0) (M 1), .str (S l), some l, rfl, sb14.wz, mokP, hd, by omega, .yes hl (by omega) ov, fun z => (nomatch z), fun l' el N G5 s5 od => ?_⟩
        cases el
        walk_at "v"
        refine ⟨F, _, _, _, rfl, rfl, SqL.of (sb14.same s5).sw.lw, atI_int (j := 0) rfl rfl, ?_⟩
        walk_at "v"
        refine ⟨wf 0, d, n0, M 0, .str (S l), some l, rfl, (sb14.same s5).sw.wld 0 (by decide), mok0, hd, by omega, .yes hl (by omega) ov, fun z => (nomatch z), fun l' el N1 G6 s6 od1 => ?_⟩
        cases el
        walk_at "v"
        refine ⟨F, _, _, _, rfl, rfl, SqL.of ((sb14.same s5).same s6).sw.lw, atI_int (j := 1) rfl rfl, ?_⟩
        walk_at "v"
        refine ⟨wf 1, d, n1, M 1, .str (S l), some l, rfl, ((sb14.same s5).same s6).sw.wld 1 (by decide), mok1, hd, by omega, .yes hl (by omega) ov, fun z => (nomatch z), fun l' el N2 G7 s7 od2 => ?_⟩
        cases el
        have o1 := ord_small bk0 c06 od1
        have o2 := ord_small bk1 c16 od2
        refine ⟨N1, N2, rfl, o1.1, o2.1, by omega, by omega, ?_⟩
        rw [rowMv_pm mok0 mok1 ov] at od
        rw [ord_pm bk0 bk1 c0.1 c1.1 od1 od2 od]
        refine ⟨rfl, ?_⟩
        walk_at "v"
        rw [decide_eq_true rfl]
        exact ⟨rfl, (s5.trans s6).trans s7⟩
    rintro b' G15 ⟨rfl, s15⟩
    refine iteF ?_
    have sb15 := sb14.same s15
    clear sb14 s15
    walk_at "v"
    walk_at "v"
    refine ⟨F, _, _, _, rfl, rfl, SqL.of sb15.sw.lw, atI_int (j := 2) rfl rfl, ?_⟩
    have mlP : ∀ c ∈ d, (pms n1 (M 0) (M 1) c).length = n0 * n1 := fun c hc => by show (pm n1 (M 0 c) (M 1 c)).length = _; rw [pm_len, ml 0 (by decide) c hc, ml 1 (by decide) c hc]; rfl
    show sp_asked41 A.c_World [V.ref z, V.ref (wf 2)] G15 _ _
    refine asked_use sb15.wz (sb15.sw.wld 2 (by decide)) hd (by omega) (by show n2 ≤ 100000; omega) mlP (ml 2 (by decide)) fun ft G16 s16 fnd => ?_
    have sb16 := sb15.same s16
    clear sb15 s16
    have npos : 0 < n2 := c2.1
    refine ⟨fun σ' G' => σ' = [some (.ref sc), some (.ref h), some (.str (S d)), some (.ref Lz), some (.bl gr), some (.ref D), some (.ref F), some (.ref z), some (.ref u), some (.str (S l)), some (.int s), some (.int t), some (.int gl), some (.ref ft), none, none, none, none, none, none, none] ∧ Same G16 G', ?_, ?_⟩
    · walk_at "v"
      refine ⟨Lz, _, _, _, rfl, rfl, SqL.of sb16.hz, atI_int (j := 0) rfl rfl, ?_⟩
      walk_at "v"
      refine ⟨Lz, _, _, _, rfl, rfl, SqL.of sb16.hz, atI_int (j := 1) rfl rfl, ?_⟩
      refine ⟨_, _, rfl, rfl, .inl ⟨by dsimp only; omega, by dsimp only; omega⟩, ?_⟩
      walk_at "v"
      refine ⟨Lz, _, _, _, rfl, rfl, SqL.of sb16.hz, atI_int (j := 2) rfl rfl, ?_⟩
      refine ⟨_, _, rfl, rfl, .inr ⟨by dsimp only; omega, by dsimp only; omega⟩, ?_⟩
      refine ⟨_, _, rfl, rfl, _, rfl, ?_⟩
      have e3 : ((n0 * n1 * n2 : Nat) : Int) = (n0 : Int) * (n1 : Int) * (n2 : Int) := by rw [Int.natCast_mul, Int.natCast_mul]
      dsimp only
      rw [← e3]
      rcases fnd with ⟨big, f1⟩ | ⟨le, z3, f1, wz3⟩
      · rw [decide_eq_true (show (2000 : Int) < ((n0 * n1 * n2 : Nat) : Int) from Int.ofNat_lt.mpr big)]
        refine iteT ?_
        have b2 : 2000 < n2 * (n0 * n1) := by rw [Nat.mul_comm]; exact big
        refine ⟨fun b' G' => b' = false ∧ Same G16 G', ?_, ?_⟩
        · have lgok : PyData.strOk ("large" : Str) = true := by decide +kernel
          walk_at "v"
          refine ⟨by walk_at "sz", fun t1 ht1 => ?_⟩
          refine ne_tel lgok (SqT.of (upd_old f1 ht1)) (SqT.of upd_same) (.int _) (.int _) rfl ?_
          walk_at "v"
          refine iteF ?_
          have s17 : Same G16 (upd G16 t1 (.tup [.str "large", .int 2000])) := Same.new ht1
          have sb17 := sb16.same s17
          generalize upd G16 t1 (.tup [.str "large", .int 2000]) = G17 at s17 sb17
          walk_at "v"
          refine ⟨F, _, _, _, rfl, rfl, SqL.of sb17.sw.lw, atI_int (j := 2) rfl rfl, ?_⟩
          walk_at "v"
          show sp_asked41 A.c_World [V.ref (wf 2), V.ref z] G17 _ _
          refine asked_use (sb17.sw.wld 2 (by decide)) sb17.wz hd (by show n2 ≤ 100000; omega) (by omega) (ml 2 (by decide)) mlP fun t2 G18 s18 fn2 => ?_
          rcases fn2 with ⟨_, f2⟩ | ⟨le2, _⟩
          · refine ⟨by walk_at "sz", fun t3 ht3 => ?_⟩
            refine ne_tel lgok (SqT.of (upd_old f2 ht3)) (SqT.of upd_same) (.int _) (.int _) rfl ?_
            walk_at "v"
            exact ⟨rfl, (s17.trans s18).trans (Same.new ht3)⟩
          · exact absurd b2 (Nat.not_lt.mpr le2)
        rintro b' G17 ⟨rfl, s17⟩
        refine iteF ?_
        exact ⟨rfl, s17⟩
      · rw [decide_eq_false (show ¬ (2000 : Int) < ((n0 * n1 * n2 : Nat) : Int) from Int.not_lt.mpr (Int.ofNat_le.mpr le))]
        refine iteF ?_
        obtain ⟨dz3, qz3, bz3, j1, j2, j3⟩ := id wz3
        refine ⟨fun b' G' => b' = false ∧ Same G16 G', ?_, ?_⟩
        · walk_at "v"
          refine ⟨ft, _, _, _, rfl, rfl, SqT.of f1, atI_int (j := 0) rfl rfl, ?_⟩
          refine ⟨rfl, ?_⟩
          walk_at "v"
          rw [decide_eq_true rfl]
          refine iteF ?_
          walk_at "v"
          refine ⟨ft, _, _, _, rfl, rfl, SqT.of f1, atI_int (j := 1) rfl rfl, ?_⟩
          refine ⟨z3, dz3, _, rfl, j1, z3, d, n0 * n1 * n2, _, rfl, wz3, fun z4 b4 G17 s17 zn4 e4 t4 => ?_⟩
          have sb17 := sb16.same s17
          walk_at "v"; walk_at "v"; walk_at "v"
          refine ⟨D, _, _, _, rfl, rfl, SqL.of sb17.sw.lq, atI_int (j := 2) rfl rfl, ?_⟩
          refine ⟨u, q 2, d, n0 * n1, n2, pms n1 (M 0) (M 1), M 2, b, a 2, rfl, hd, sb17.hu, sb17.sw.dic 2 (by decide), by omega, by omega, le, fun c hc => ⟨sb17.hb c hc, mlP c hc⟩, fun c hc => ⟨(sb17.sw.mvs 2 (by decide) c hc).tp, ml 2 (by decide) c hc⟩, fun u5 b5 G18 s18 u5e b5t => ?_⟩
          have t5 : ∀ c ∈ d, TP G18 (b4 c) (pms n2 (pms n1 (M 0) (M 1)) (M 2) c) := fun c hc => (t4 c hc).same s18
          refine ⟨z4, u5, _, _, datV G18, rfl, rfl, .inl (s18 _ _ e4), .inl u5e, dp_dct t5, dp_dct b5t, ?_⟩
          rw [deq_dct t5 b5t]
          exact ⟨true, rfl, false, rfl, rfl, s17.trans s18⟩
        rintro b' G17 ⟨rfl, s17⟩
        refine iteF ?_
        have sb17 := sb16.same s17
        have f17 := s17 _ _ f1
        have wz17 := wz3.same s17
        walk_at "v"
        refine ⟨ft, _, _, _, rfl, rfl, SqT.of f17, atI_int (j := 1) rfl rfl, ?_⟩
        walk_at "v"
        refine ⟨F, _, _, _, rfl, rfl, SqL.of sb17.sw.lw, atI_int (j := 0) rfl rfl, ?_⟩
        walk_at "v"
        refine ⟨F, _, _, _, rfl, rfl, SqL.of sb17.sw.lw, atI_int (j := 1) rfl rfl, ?_⟩
        walk_at "v"
        refine ⟨F, _, _, _, rfl, rfl, SqL.of sb17.sw.lw, atI_int (j := 2) rfl rfl, ?_⟩
        have le12 : n1 * n2 ≤ 2000 := by
          have : n1 * n2 ≤ n0 * (n1 * n2) := Nat.le_mul_of_pos_left _ c0.1
          rw [← Nat.mul_assoc] at this
          exact Nat.le_trans this le
        have le3 : n0 * (n1 * n2) ≤ 2000 := by rw [← Nat.mul_assoc]; exact le
        refine ⟨wf 1, wf 2, d, d, n1, n2, M 1, M 2, rfl, sb17.sw.wld 1 (by decide), sb17.sw.wld 2 (by decide), hd, by omega, by omega, ml 1 (by decide), ml 2 (by decide), fun ne => absurd rfl ne, fun _ big => absurd le12 (by omega), fun _ _ z5 G18 s18 wz5 => ?_⟩
        have mlQ : ∀ c ∈ d, (pms n2 (M 1) (M 2) c).length = n1 * n2 := fun c hc => by show (pm n2 (M 1 c) (M 2 c)).length = _; rw [pm_len, ml 1 (by decide) c hc, ml 2 (by decide) c hc]; rfl
        refine ⟨wf 0, z5, d, d, n0, n1 * n2, M 0, pms n2 (M 1) (M 2), rfl, (sb17.sw.wld 0 (by decide)).same s18, wz5, hd, by omega, by omega, ml 0 (by decide), mlQ, fun ne => absurd rfl ne, fun _ big => absurd le3 (by omega), fun _ _ z6 G19 s19 wz6 => ?_⟩
        have wz19 := (wz17.same s18).same s19
        have eM : pms (n1 * n2) (M 0) (pms n2 (M 1) (M 2)) = pms n2 (pms n1 (M 0) (M 1)) (M 2) := funext fun c => pm_three n1 n2 (M 0 c) (M 1 c) (M 2 c)
        rw [eM, ← Nat.mul_assoc] at wz6
        obtain ⟨_, _, _, y1, _, _⟩ := id wz19
        obtain ⟨_, _, _, y2, _, _⟩ := id wz6
        refine ⟨z3, z6, _, _, _, _, true, rfl, rfl, y1, y2, ⟨rfl, d, _, _, wz19, wz6⟩, fun G20 s20 => ?_⟩
        walk_at "v"
        refine iteF ?_
        exact ⟨rfl, s17.trans ((s18.trans s19).trans s20)⟩
    rintro σ' G17 ⟨rfl, s17⟩
    have sb17 := sb16.same s17
    clear sb16 s17 fnd
    walk_at "v"
    rw [alph_is]
    intro DD hDD
    refine lc_it (walk_str (z := S alph)) (fun i G => Same G17 G ∧ G DD = some (.lst (ones ((alph.take i).filter fun c => !decide (c ∈ d))))) ⟨Same.new hDD, upd_same⟩ (fun _ _ _ _ => trivial) ?_ ?_
    · rintro i x G18 G19 hi ⟨s1, h1⟩ ⟨rfl, c, hc, rfl⟩
      have hc' : alph[i]? = some c := by simpa [S] using hc
      refine ⟨rfl, ?_⟩
      walk_at "v"; walk_at "v"
      refine ⟨c, S d, rfl, rfl, ?_⟩
      have es : alph.take (i + 1) = alph.take i ++ [c] := by rw [List.take_add_one, hc']; rfl
      have il : i < 26 := by
        rcases Nat.lt_or_ge i 26 with k | k
        · exact k
        · rw [List.getElem?_eq_none (by exact k)] at hc'; cases hc'
      have em : decide (c ∈ (S d).cps.toList) = decide (c ∈ d) := by
        congr 1
      rw [em]
      refine ⟨_, rfl, iteB (fun e => ?_) (fun e => ?_)⟩
      · walk_at "v"
        refine ⟨_, h1, ?_, Same.mut hDD s1, ?_⟩
        · rw [ones_len]
          refine Nat.lt_of_le_of_lt (List.length_filter_le _ _) ?_
          rw [List.length_take]; exact Nat.lt_of_le_of_lt (by omega : _ ≤ 26) (by decide)
        · rw [upd_same, es, List.filter_append, List.filter_cons, if_pos e]
          unfold ones; rw [List.map_append]; rfl
      · refine ⟨s1, ?_⟩
        rw [h1, es, List.filter_append, List.filter_cons, if_neg (by rw [e]; decide)]
        simp
    rintro G18 ⟨s1, h1⟩
    obtain ⟨bb, fr, eb⟩ : ∃ bb fr, (alph.take (S alph).cps.size).filter (fun c => !decide (c ∈ d)) = bb :: fr := by
      cases e : (alph.take (S alph).cps.size).filter (fun c => !decide (c ∈ d)) with
      | cons bb fr => exact ⟨bb, fr, rfl⟩
      | nil =>
        have : (121 : Nat) ∈ (alph.take (S alph).cps.size).filter (fun c => !decide (c ∈ d)) := by
          refine List.mem_filter.mpr ⟨by decide, ?_⟩
          rw [decide_eq_false (fun z => absurd (d120 _ z) (by decide))]; rfl
        rw [e] at this; cases this
    have bm : bb ∈ alph ∧ bb ∉ d := by
      have := List.mem_filter.mp (eb ▸ List.mem_cons_self : bb ∈ _)
      exact ⟨List.mem_of_mem_take this.1, by simpa using this.2⟩
    rw [eb] at h1
    have sb18 := sb17.same s1
    refine ⟨DD, _, _, _, rfl, rfl, SqL.of h1, atI_int (j := 0) rfl rfl, ?_⟩
    clear eb h1 s1 hDD sb17
    have bL : IsL bb := alph_L bb bm.1
    have low : 97 ≤ bb ∧ bb ≤ 122 := (show ∀ x ∈ alph, 97 ≤ x ∧ x ≤ 122 by decide) bb bm.1
    have dzz : (S d).length ≤ sizeLine := by rw [S_len]; exact Nat.le_trans hd.le (by decide)
    rw [S_nil]
    refine ⟨rfl, ?_⟩
    walk_at "v"; walk_at "v"
    refine ⟨_, rfl, dzz, ?_⟩
    have ct : cutS (S d) (some 1) none = S (d.drop 1) := cut_from d 1
    rw [ct]
    walk_at "v"
    refine ⟨S (d.drop 1), S [bb], rfl, rfl, ?_, ?_⟩
    · rw [S_len, S_len, List.length_drop]; exact Nat.le_trans (show d.length - 1 + 1 ≤ 100 by omega) (by decide)
    rw [S_app]
    refine ⟨_, rfl, ?_, fun o p pm pw hp => ?_⟩
    · rw [S_len, List.length_append, List.length_drop]; exact Nat.le_trans (show d.length - 1 + 1 ≤ 100 by omega) (by decide)
    replace pm : o.Perm (d.drop 1 ++ [bb]) := pm
    have ol : o.length = d.length := by
      have := List.length_pos_iff.mpr hd.ne
      rw [pm.length_eq, List.length_append, List.length_drop]; show d.length - 1 + 1 = _; omega
    have om : ∀ c, c ∈ o ↔ c ∈ d.drop 1 ∨ c = bb := fun c => by rw [pm.mem_iff, List.mem_append, List.mem_singleton]
    have ho : Dds o := by
      refine ⟨⟨fun c hc => ?_, ?_⟩, fun e => ?_, by rw [ol]; exact hd.le⟩
      · rcases (om c).mp hc with k | k
        · exact hd.de.low c (List.mem_of_mem_drop k)
        · rw [k]; exact low
      · have nd : (d.drop 1 ++ [bb]).Nodup := by
          refine List.nodup_append.mpr ⟨?_, List.nodup_cons.mpr ⟨List.not_mem_nil, List.nodup_nil⟩, fun x hx y hy e => ?_⟩
          · refine List.Nodup.sublist (List.drop_sublist 1 d) (hd.de.up.imp fun {a b} h => ?_)
            exact Nat.ne_of_lt h
          · rw [List.mem_singleton.mp hy] at e
            exact bm.2 (e ▸ List.mem_of_mem_drop hx)
        have no : o.Nodup := pm.nodup_iff.mpr nd
        exact (pw.and no).imp fun {a b} h => Nat.lt_of_le_of_ne h.1 h.2
      · have := (om bb).mpr (.inr rfl)
        rw [e] at this; cases this
    have don : d ≠ o := fun e => bm.2 (e ▸ (om bb).mpr (.inr rfl))
    generalize e19 : upd G18 p _ = G19
    have h19 : G19 p = some (.lst (ones o)) := by rw [← e19]; exact upd_same
    have sb19 := sb18.same (show Same G18 G19 by rw [← e19]; exact Same.new hp)
    clear e19
    rw [ones_eq] at h19
    refine ⟨_, _, _, rfl, rfl, .inl (SqL.of h19), ?_, ?_⟩
    · rw [S_len, List.length_nil, Nat.mul_zero, Nat.add_zero, sum_one, ol]; exact Nat.le_trans hd.le (by decide)
    rw [RB.join_nil, flat_one]
    clear h19 pm pw hp sb18
    walk_at "v"; walk_at "v"; walk_at "v"; walk_at "v"
    refine ⟨Lz, _, _, _, rfl, rfl, SqL.of sb19.hz, atI_int (j := 1) rfl rfl, ?_⟩
    refine ⟨h, g, o, n1, rfl, sb19.sw.pot, ho, by omega, fun zq bq Mq G20 g20 znq hq mq => ?_⟩
    have sb20 := sb19.go g20
    intro wp2 dx2 hwp hdx ndx
    generalize e4 : upd (upd G20 dx2 (.own wp2)) wp2 _ = G21
    have w4 : G21 wp2 = some (.ins A.c_World dx2 []) := by rw [← e4]; exact upd_same
    have s4 : Same G20 G21 := by rw [← e4]; exact fun b o hb => upd_oth (upd_old hb hdx) (ne_of_none hb hwp)
    clear e4
    refine ⟨wp2, dx2, zq, o, n1, Mq, bq, rfl, w4, ho, s4 _ _ hq, fun c hc => ⟨(mq c hc).1, ((mq c hc).2.same s4).tp⟩, c1.1, c1.2, fun G22 b5 wd5 => ?_⟩
    have s5 : Same G20 G22 := fun b o hb => b5 _ _ (ne_of_none hb hwp) (s4 _ _ hb)
    refine ⟨rfl, ?_⟩
    have sb22 := sb20.same s5
    clear sb19 sb20 s5 s4 w4 b5 hwp hdx ndx
    have mlq : ∀ c ∈ o, (Mq c).length = n1 := fun c hc => by rw [(mq c hc).1.length_eq, List.length_range]
    have dok : PyData.strOk ("deeds" : Str) = true := by decide +kernel
    refine ⟨fun b' G' => b' = false ∧ Same G22 G', ?_, ?_⟩
    · walk_at "v"
      refine ⟨F, _, _, _, rfl, rfl, SqL.of sb22.sw.lw, atI_int (j := 0) rfl rfl, ?_⟩
      walk_at "v"
      show sp_asked41 A.c_World [V.ref (wf 0), V.ref wp2] G22 _ _
      refine asked_ne (sb22.sw.wld 0 (by decide)) wd5 hd (by show n0 ≤ 100000; omega) (by omega) (ml 0 (by decide)) mlq don fun t1 G23 s23 f23 => ?_
      refine ⟨by walk_at "sz", fun t2 ht2 => ?_⟩
      refine ne_tel dok (SqT.of (upd_old f23 ht2)) (SqT.of upd_same) .non .non rfl ?_
      walk_at "v"
      refine iteF ?_
      have s24 := s23.trans (Same.new (o := .tup [.str "deeds", .non]) ht2)
      generalize upd G23 t2 (.tup [.str "deeds", .non]) = G24 at s24
      walk_at "v"; walk_at "v"
      show sp_asked41 A.c_World [V.ref wp2, V.ref z] G24 _ _
      refine asked_ne (wd5.same s24) (sb22.wz.same s24) ho (by omega) (by omega) mlq mlP don.symm fun t3 G25 s25 f25 => ?_
      refine ⟨by walk_at "sz", fun t4 ht4 => ?_⟩
      refine ne_tel dok (SqT.of (upd_old f25 ht4)) (SqT.of upd_same) .non .non rfl ?_
      walk_at "v"
      exact ⟨rfl, s24.trans (s25.trans (Same.new ht4))⟩
    rintro b' G23 ⟨rfl, s23⟩
    refine iteF ?_
    have sb23 := sb22.same s23
    clear sb22
    refine ⟨fun v' G' => v' = .bl true, ?_, fun v' G' e => by subst e; exact fin _⟩
    have mk : ∀ (j : Nat) (hj : j < 3) (Gx : Hp) (sb : SB A.c_World Gx h g D F Lz u z d q wf n0 n1 n2 M a b) (wp2 dx2 : Addr), Gx wp2 = none → Gx dx2 = none → dx2 ≠ wp2 → ∀ (Q' : VK),
        (∀ G5, Same Gx G5 → WorldAt A.c_World G5 wp2 d (go1 [n0, n1, n2] j) (M j) → Q' .non G5) → sp_winit A.c_World [.ref wp2, .str (S d), .ref (q j)] (upd (upd Gx dx2 (.own wp2)) wp2 (.ins A.c_World dx2 [])) Q' E := by
      intro j hj Gx sb wp2 dx2 hwp hdx ndx Q' k
      generalize e4 : upd (upd Gx dx2 (.own wp2)) wp2 _ = H4
      have w4 : H4 wp2 = some (.ins A.c_World dx2 []) := by rw [← e4]; exact upd_same
      have s4 : Same Gx H4 := by rw [← e4]; exact fun b o hb => upd_oth (upd_old hb hdx) (ne_of_none hb hwp)
      refine ⟨wp2, dx2, q j, d, go1 [n0, n1, n2] j, M j, a j, rfl, w4, hd, s4 _ _ (sb.sw.dic j hj), fun c hc => ⟨perm j hj c hc, ((sb.sw.mvs j hj c hc).same s4).tp⟩, (nb j hj).1, (nb j hj).2, fun G5 b5 wd5 => ?_⟩
      exact k G5 (fun b o hb => b5 _ _ (ne_of_none hb hwp) (s4 _ _ hb)) wd5
    walk_at "v"
    refine ⟨F, _, _, _, rfl, rfl, SqL.of sb23.sw.lw, atI_int (j := 0) rfl rfl, ?_⟩
    walk_at "v"; walk_at "v"
    refine ⟨D, _, _, _, rfl, rfl, SqL.of sb23.sw.lq, atI_int (j := 0) rfl rfl, ?_⟩
    intro wa dxa hwa hdxa nda
    refine mk 0 (by decide) _ sb23 wa dxa hwa hdxa nda _ fun G24 s24 wd24 => ⟨rfl, ?_⟩
    have sb24 := sb23.same s24
    obtain ⟨_, _, _, y1, _, _⟩ := id (sb24.sw.wld 0 (by decide))
    obtain ⟨_, _, _, y2, _, _⟩ := id wd24
    refine ⟨wf 0, wa, _, _, _, _, true, rfl, rfl, y1, y2, ⟨rfl, d, _, _, sb24.sw.wld 0 (by decide), wd24⟩, fun G25 s25 => ?_⟩
    have sb25 := sb24.same s25
    walk_at "v"
    refine iteT ?_
    walk_at "v"
    refine ⟨F, _, _, _, rfl, rfl, SqL.of sb25.sw.lw, atI_int (j := 1) rfl rfl, ?_⟩
    walk_at "v"; walk_at "v"
    refine ⟨D, _, _, _, rfl, rfl, SqL.of sb25.sw.lq, atI_int (j := 1) rfl rfl, ?_⟩
    intro wb dxb hwb hdxb ndb
    refine mk 1 (by decide) _ sb25 wb dxb hwb hdxb ndb _ fun G26 s26 wd26 => ⟨rfl, ?_⟩
    have sb26 := sb25.same s26
    obtain ⟨_, _, _, y3, _, _⟩ := id (sb26.sw.wld 1 (by decide))
    obtain ⟨_, _, _, y4, _, _⟩ := id wd26
    exact ⟨wf 1, wb, _, _, _, _, true, rfl, rfl, y3, y4, ⟨rfl, d, _, _, sb26.sw.wld 1 (by decide), wd26⟩, fun G27 s27 => rfl⟩
end
theorem all_mk {l : PySem.W.OpenLaw} {w : World} {K : PySem.W.Frag} {h : Heap} {mg : Str → Option Value} {fa : Addr} (X : K.In h) (G : h.Ns mainGlobals mg) (hfa : mg "law" = some (.ref fa))
    {f_NoRow_init f_TooLarge_init f_OtherDeeds_init f_BadWorld_init f_NoStanding_init f_is_integer f_is_integer_within f_is_small_word f_is_deeds f_is_row f_is_row_over f_demand_row_over f_demand_same_deeds f_standing_still f_followed f_turned_back f_rounds_of f_order_of f_letter_moves f_row_move f_World_init f_World_moves f_World__eq_ f_world_of f_led f_move_of f_order f_beside f_demand_standing f_are_moves f_is_move f_pot f_draw f_any f_deeds f_letters f_row f_mixed f_moves f_step f_lled f_pairs f_asked f_least f_law C_RunsError C_NoRow C_TooLarge C_OtherDeeds C_BadWorld C_NoStanding C_World P_World_moves : Addr}
    {od_NoRow_init an_NoRow_init od_TooLarge_init an_TooLarge_init od_OtherDeeds_init an_OtherDeeds_init od_BadWorld_init an_BadWorld_init od_NoStanding_init an_NoStanding_init od_is_integer an_is_integer od_is_integer_within an_is_integer_within od_is_small_word an_is_small_word od_is_deeds an_is_deeds od_is_row an_is_row od_is_row_over an_is_row_over od_demand_row_over an_demand_row_over od_demand_same_deeds an_demand_same_deeds od_standing_still an_standing_still od_followed an_followed od_turned_back an_turned_back od_rounds_of an_rounds_of od_order_of an_order_of od_letter_moves an_letter_moves od_row_move an_row_move od_World_init an_World_init od_World_moves an_World_moves od_World__eq_ an_World__eq_ od_world_of an_world_of od_led an_led od_move_of an_move_of od_order an_order od_beside an_beside od_demand_standing an_demand_standing od_are_moves an_are_moves od_is_move an_is_move od_pot an_pot od_draw an_draw od_any an_any od_deeds an_deeds od_letters an_letters od_row an_row od_mixed an_mixed od_moves an_moves od_step an_step od_lled an_lled od_pairs an_pairs od_asked an_asked od_least an_least od_law an_law : Option Addr}
    {sl_NoRow_init sl_TooLarge_init sl_OtherDeeds_init sl_BadWorld_init sl_NoStanding_init sl_is_integer sl_is_integer_within sl_is_small_word sl_is_deeds sl_is_row sl_is_row_over sl_demand_row_over sl_demand_same_deeds sl_standing_still sl_followed sl_turned_back sl_rounds_of sl_order_of sl_letter_moves sl_row_move sl_World_init sl_World_moves sl_World__eq_ sl_world_of sl_led sl_move_of sl_order sl_beside sl_demand_standing sl_are_moves sl_is_move sl_pot sl_draw sl_any sl_deeds sl_letters sl_row sl_mixed sl_moves sl_step sl_lled sl_pairs sl_asked sl_least sl_law : Array (Option Value)}
    {oc_NoRow_init kV_NoRow_init dc_NoRow_init pm_NoRow_init cd_NoRow_init ct_NoRow_init oc_TooLarge_init kV_TooLarge_init dc_TooLarge_init pm_TooLarge_init cd_TooLarge_init ct_TooLarge_init oc_OtherDeeds_init kV_OtherDeeds_init dc_OtherDeeds_init pm_OtherDeeds_init cd_OtherDeeds_init ct_OtherDeeds_init oc_BadWorld_init kV_BadWorld_init dc_BadWorld_init pm_BadWorld_init cd_BadWorld_init ct_BadWorld_init oc_NoStanding_init kV_NoStanding_init dc_NoStanding_init pm_NoStanding_init cd_NoStanding_init ct_NoStanding_init oc_is_integer kV_is_integer dc_is_integer pm_is_integer cd_is_integer ct_is_integer oc_is_integer_within kV_is_integer_within dc_is_integer_within pm_is_integer_within cd_is_integer_within ct_is_integer_within oc_is_small_word kV_is_small_word dc_is_small_word pm_is_small_word cd_is_small_word ct_is_small_word oc_is_deeds kV_is_deeds dc_is_deeds pm_is_deeds cd_is_deeds ct_is_deeds oc_is_row kV_is_row dc_is_row pm_is_row cd_is_row ct_is_row oc_is_row_over kV_is_row_over dc_is_row_over pm_is_row_over cd_is_row_over ct_is_row_over oc_demand_row_over kV_demand_row_over dc_demand_row_over pm_demand_row_over cd_demand_row_over ct_demand_row_over oc_demand_same_deeds kV_demand_same_deeds dc_demand_same_deeds pm_demand_same_deeds cd_demand_same_deeds ct_demand_same_deeds oc_standing_still kV_standing_still dc_standing_still pm_standing_still cd_standing_still ct_standing_still oc_followed kV_followed dc_followed pm_followed cd_followed ct_followed oc_turned_back kV_turned_back dc_turned_back pm_turned_back cd_turned_back ct_turned_back oc_rounds_of kV_rounds_of dc_rounds_of pm_rounds_of cd_rounds_of ct_rounds_of oc_order_of kV_order_of dc_order_of pm_order_of cd_order_of ct_order_of oc_letter_moves kV_letter_moves dc_letter_moves pm_letter_moves cd_letter_moves ct_letter_moves oc_row_move kV_row_move dc_row_move pm_row_move cd_row_move ct_row_move oc_World_init kV_World_init dc_World_init pm_World_init cd_World_init ct_World_init oc_World_moves kV_World_moves dc_World_moves pm_World_moves cd_World_moves ct_World_moves oc_World__eq_ kV_World__eq_ dc_World__eq_ pm_World__eq_ cd_World__eq_ ct_World__eq_ oc_world_of kV_world_of dc_world_of pm_world_of cd_world_of ct_world_of oc_led kV_led dc_led pm_led cd_led ct_led oc_move_of kV_move_of dc_move_of pm_move_of cd_move_of ct_move_of oc_order kV_order dc_order pm_order cd_order ct_order oc_beside kV_beside dc_beside pm_beside cd_beside ct_beside oc_demand_standing kV_demand_standing dc_demand_standing pm_demand_standing cd_demand_standing ct_demand_standing oc_are_moves kV_are_moves dc_are_moves pm_are_moves cd_are_moves ct_are_moves oc_is_move kV_is_move dc_is_move pm_is_move cd_is_move ct_is_move oc_pot kV_pot dc_pot pm_pot cd_pot ct_pot oc_draw kV_draw dc_draw pm_draw cd_draw ct_draw oc_any kV_any dc_any pm_any cd_any ct_any oc_deeds kV_deeds dc_deeds pm_deeds cd_deeds ct_deeds oc_letters kV_letters dc_letters pm_letters cd_letters ct_letters oc_row kV_row dc_row pm_row cd_row ct_row oc_mixed kV_mixed dc_mixed pm_mixed cd_mixed ct_mixed oc_moves kV_moves dc_moves pm_moves cd_moves ct_moves oc_step kV_step dc_step pm_step cd_step ct_step oc_lled kV_lled dc_lled pm_lled cd_lled ct_lled oc_pairs kV_pairs dc_pairs pm_pairs cd_pairs ct_pairs oc_asked kV_asked dc_asked pm_asked cd_asked ct_asked oc_least kV_least dc_least pm_least cd_least ct_least oc_law kV_law dc_law pm_law cd_law ct_law : Value}
    (a_is_integer : PySem.W.nsIn K mainGlobals "is_integer" = some (some (.ref f_is_integer)))
    (a_is_integer_within : PySem.W.nsIn K mainGlobals "is_integer_within" = some (some (.ref f_is_integer_within)))
    (a_is_small_word : PySem.W.nsIn K mainGlobals "is_small_word" = some (some (.ref f_is_small_word)))
    (a_is_deeds : PySem.W.nsIn K mainGlobals "is_deeds" = some (some (.ref f_is_deeds)))
    (a_is_row : PySem.W.nsIn K mainGlobals "is_row" = some (some (.ref f_is_row)))
    (a_is_row_over : PySem.W.nsIn K mainGlobals "is_row_over" = some (some (.ref f_is_row_over)))
    (a_demand_row_over : PySem.W.nsIn K mainGlobals "demand_row_over" = some (some (.ref f_demand_row_over)))
    (a_demand_same_deeds : PySem.W.nsIn K mainGlobals "demand_same_deeds" = some (some (.ref f_demand_same_deeds)))
    (a_standing_still : PySem.W.nsIn K mainGlobals "standing_still" = some (some (.ref f_standing_still)))
    (a_followed : PySem.W.nsIn K mainGlobals "followed" = some (some (.ref f_followed)))
    (a_turned_back : PySem.W.nsIn K mainGlobals "turned_back" = some (some (.ref f_turned_back)))
    (a_rounds_of : PySem.W.nsIn K mainGlobals "rounds_of" = some (some (.ref f_rounds_of)))
    (a_order_of : PySem.W.nsIn K mainGlobals "order_of" = some (some (.ref f_order_of)))
    (a_letter_moves : PySem.W.nsIn K mainGlobals "letter_moves" = some (some (.ref f_letter_moves)))
    (a_row_move : PySem.W.nsIn K mainGlobals "row_move" = some (some (.ref f_row_move)))
    (a_world_of : PySem.W.nsIn K mainGlobals "world_of" = some (some (.ref f_world_of)))
    (a_led : PySem.W.nsIn K mainGlobals "led" = some (some (.ref f_led)))
    (a_move_of : PySem.W.nsIn K mainGlobals "move_of" = some (some (.ref f_move_of)))
    (a_order : PySem.W.nsIn K mainGlobals "order" = some (some (.ref f_order)))
    (a_beside : PySem.W.nsIn K mainGlobals "beside" = some (some (.ref f_beside)))
    (a_demand_standing : PySem.W.nsIn K mainGlobals "demand_standing" = some (some (.ref f_demand_standing)))
    (a_are_moves : PySem.W.nsIn K mainGlobals "are_moves" = some (some (.ref f_are_moves)))
    (a_is_move : PySem.W.nsIn K mainGlobals "is_move" = some (some (.ref f_is_move)))
    (a_pot : PySem.W.nsIn K mainGlobals "_law_pot" = some (some (.ref f_pot)))
    (a_draw : PySem.W.nsIn K mainGlobals "_law_draw" = some (some (.ref f_draw)))
    (a_any : PySem.W.nsIn K mainGlobals "_law_any" = some (some (.ref f_any)))
    (a_deeds : PySem.W.nsIn K mainGlobals "_law_deeds" = some (some (.ref f_deeds)))
    (a_letters : PySem.W.nsIn K mainGlobals "_law_letters" = some (some (.ref f_letters)))
    (a_row : PySem.W.nsIn K mainGlobals "_law_row" = some (some (.ref f_row)))
    (a_mixed : PySem.W.nsIn K mainGlobals "_law_mixed" = some (some (.ref f_mixed)))
    (a_moves : PySem.W.nsIn K mainGlobals "_law_moves" = some (some (.ref f_moves)))
    (a_step : PySem.W.nsIn K mainGlobals "_law_step" = some (some (.ref f_step)))
    (a_lled : PySem.W.nsIn K mainGlobals "_law_led" = some (some (.ref f_lled)))
    (a_pairs : PySem.W.nsIn K mainGlobals "_law_pairs" = some (some (.ref f_pairs)))
    (a_asked : PySem.W.nsIn K mainGlobals "_law_asked" = some (some (.ref f_asked)))
    (a_least : PySem.W.nsIn K mainGlobals "_law_least" = some (some (.ref f_least)))
    (a_law : PySem.W.nsIn K mainGlobals "law" = some (some (.ref f_law)))
    (aC_RunsError : PySem.W.nsIn K mainGlobals "RunsError" = some (some (.ref C_RunsError)))
    (aC_NoRow : PySem.W.nsIn K mainGlobals "NoRow" = some (some (.ref C_NoRow)))
    (aC_TooLarge : PySem.W.nsIn K mainGlobals "TooLarge" = some (some (.ref C_TooLarge)))
    (aC_OtherDeeds : PySem.W.nsIn K mainGlobals "OtherDeeds" = some (some (.ref C_OtherDeeds)))
    (aC_BadWorld : PySem.W.nsIn K mainGlobals "BadWorld" = some (some (.ref C_BadWorld)))
    (aC_NoStanding : PySem.W.nsIn K mainGlobals "NoStanding" = some (some (.ref C_NoStanding)))
    (aC_World : PySem.W.nsIn K mainGlobals "World" = some (some (.ref C_World)))
    (i_NoRow : PySem.W.findIn K (.ref C_NoRow) "__init__" = some (some (.ref f_NoRow_init)))
    (i_TooLarge : PySem.W.findIn K (.ref C_TooLarge) "__init__" = some (some (.ref f_TooLarge_init)))
    (i_OtherDeeds : PySem.W.findIn K (.ref C_OtherDeeds) "__init__" = some (some (.ref f_OtherDeeds_init)))
    (i_BadWorld : PySem.W.findIn K (.ref C_BadWorld) "__init__" = some (some (.ref f_BadWorld_init)))
    (i_NoStanding : PySem.W.findIn K (.ref C_NoStanding) "__init__" = some (some (.ref f_NoStanding_init)))
    (l_NoRow_init : K.lookup f_NoRow_init = some ⟨oc_NoRow_init, od_NoRow_init, .func (PySem.W.fnOf "__init__" "NoRow.__init__" (defArgs s_NoRow_init) (defBody s_NoRow_init) (defScope s_NoRow_init) .none kV_NoRow_init dc_NoRow_init pm_NoRow_init an_NoRow_init cd_NoRow_init ct_NoRow_init), sl_NoRow_init⟩)
    (c_NoRow_init : PySem.W.codeIn K cd_NoRow_init "NoRow.__init__" = true)
    (k_NoRow_init : PySem.W.keepIn K (.ref f_NoRow_init) = true)
    (l_TooLarge_init : K.lookup f_TooLarge_init = some ⟨oc_TooLarge_init, od_TooLarge_init, .func (PySem.W.fnOf "__init__" "TooLarge.__init__" (defArgs s_TooLarge_init) (defBody s_TooLarge_init) (defScope s_TooLarge_init) .none kV_TooLarge_init dc_TooLarge_init pm_TooLarge_init an_TooLarge_init cd_TooLarge_init ct_TooLarge_init), sl_TooLarge_init⟩)
    (c_TooLarge_init : PySem.W.codeIn K cd_TooLarge_init "TooLarge.__init__" = true)
    (k_TooLarge_init : PySem.W.keepIn K (.ref f_TooLarge_init) = true)
    (l_OtherDeeds_init : K.lookup f_OtherDeeds_init = some ⟨oc_OtherDeeds_init, od_OtherDeeds_init, .func (PySem.W.fnOf "__init__" "OtherDeeds.__init__" (defArgs s_OtherDeeds_init) (defBody s_OtherDeeds_init) (defScope s_OtherDeeds_init) .none kV_OtherDeeds_init dc_OtherDeeds_init pm_OtherDeeds_init an_OtherDeeds_init cd_OtherDeeds_init ct_OtherDeeds_init), sl_OtherDeeds_init⟩)
    (c_OtherDeeds_init : PySem.W.codeIn K cd_OtherDeeds_init "OtherDeeds.__init__" = true)
    (k_OtherDeeds_init : PySem.W.keepIn K (.ref f_OtherDeeds_init) = true)
    (l_BadWorld_init : K.lookup f_BadWorld_init = some ⟨oc_BadWorld_init, od_BadWorld_init, .func (PySem.W.fnOf "__init__" "BadWorld.__init__" (defArgs s_BadWorld_init) (defBody s_BadWorld_init) (defScope s_BadWorld_init) .none kV_BadWorld_init dc_BadWorld_init pm_BadWorld_init an_BadWorld_init cd_BadWorld_init ct_BadWorld_init), sl_BadWorld_init⟩)
    (c_BadWorld_init : PySem.W.codeIn K cd_BadWorld_init "BadWorld.__init__" = true)
    (k_BadWorld_init : PySem.W.keepIn K (.ref f_BadWorld_init) = true)
    (l_NoStanding_init : K.lookup f_NoStanding_init = some ⟨oc_NoStanding_init, od_NoStanding_init, .func (PySem.W.fnOf "__init__" "NoStanding.__init__" (defArgs s_NoStanding_init) (defBody s_NoStanding_init) (defScope s_NoStanding_init) .none kV_NoStanding_init dc_NoStanding_init pm_NoStanding_init an_NoStanding_init cd_NoStanding_init ct_NoStanding_init), sl_NoStanding_init⟩)
    (c_NoStanding_init : PySem.W.codeIn K cd_NoStanding_init "NoStanding.__init__" = true)
    (k_NoStanding_init : PySem.W.keepIn K (.ref f_NoStanding_init) = true)
    (l_is_integer : K.lookup f_is_integer = some ⟨oc_is_integer, od_is_integer, .func (PySem.W.fnOf "is_integer" "is_integer" (defArgs s_is_integer) (defBody s_is_integer) (defScope s_is_integer) .none kV_is_integer dc_is_integer pm_is_integer an_is_integer cd_is_integer ct_is_integer), sl_is_integer⟩)
    (c_is_integer : PySem.W.codeIn K cd_is_integer "is_integer" = true)
    (k_is_integer : PySem.W.keepIn K (.ref f_is_integer) = true)
    (l_is_integer_within : K.lookup f_is_integer_within = some ⟨oc_is_integer_within, od_is_integer_within, .func (PySem.W.fnOf "is_integer_within" "is_integer_within" (defArgs s_is_integer_within) (defBody s_is_integer_within) (defScope s_is_integer_within) .none kV_is_integer_within dc_is_integer_within pm_is_integer_within an_is_integer_within cd_is_integer_within ct_is_integer_within), sl_is_integer_within⟩)
    (c_is_integer_within : PySem.W.codeIn K cd_is_integer_within "is_integer_within" = true)
    (k_is_integer_within : PySem.W.keepIn K (.ref f_is_integer_within) = true)
    (l_is_small_word : K.lookup f_is_small_word = some ⟨oc_is_small_word, od_is_small_word, .func (PySem.W.fnOf "is_small_word" "is_small_word" (defArgs s_is_small_word) (defBody s_is_small_word) (defScope s_is_small_word) .none kV_is_small_word dc_is_small_word pm_is_small_word an_is_small_word cd_is_small_word ct_is_small_word), sl_is_small_word⟩)
    (c_is_small_word : PySem.W.codeIn K cd_is_small_word "is_small_word" = true)
    (k_is_small_word : PySem.W.keepIn K (.ref f_is_small_word) = true)
    (l_is_deeds : K.lookup f_is_deeds = some ⟨oc_is_deeds, od_is_deeds, .func (PySem.W.fnOf "is_deeds" "is_deeds" (defArgs s_is_deeds) (defBody s_is_deeds) (defScope s_is_deeds) .none kV_is_deeds dc_is_deeds pm_is_deeds an_is_deeds cd_is_deeds ct_is_deeds), sl_is_deeds⟩)
    (c_is_deeds : PySem.W.codeIn K cd_is_deeds "is_deeds" = true)
    (k_is_deeds : PySem.W.keepIn K (.ref f_is_deeds) = true)
    (l_is_row : K.lookup f_is_row = some ⟨oc_is_row, od_is_row, .func (PySem.W.fnOf "is_row" "is_row" (defArgs s_is_row) (defBody s_is_row) (defScope s_is_row) .none kV_is_row dc_is_row pm_is_row an_is_row cd_is_row ct_is_row), sl_is_row⟩)
    (c_is_row : PySem.W.codeIn K cd_is_row "is_row" = true)
    (k_is_row : PySem.W.keepIn K (.ref f_is_row) = true)
    (l_is_row_over : K.lookup f_is_row_over = some ⟨oc_is_row_over, od_is_row_over, .func (PySem.W.fnOf "is_row_over" "is_row_over" (defArgs s_is_row_over) (defBody s_is_row_over) (defScope s_is_row_over) .none kV_is_row_over dc_is_row_over pm_is_row_over an_is_row_over cd_is_row_over ct_is_row_over), sl_is_row_over⟩)
    (c_is_row_over : PySem.W.codeIn K cd_is_row_over "is_row_over" = true)
    (k_is_row_over : PySem.W.keepIn K (.ref f_is_row_over) = true)
    (l_demand_row_over : K.lookup f_demand_row_over = some ⟨oc_demand_row_over, od_demand_row_over, .func (PySem.W.fnOf "demand_row_over" "demand_row_over" (defArgs s_demand_row_over) (defBody s_demand_row_over) (defScope s_demand_row_over) .none kV_demand_row_over dc_demand_row_over pm_demand_row_over an_demand_row_over cd_demand_row_over ct_demand_row_over), sl_demand_row_over⟩)
    (c_demand_row_over : PySem.W.codeIn K cd_demand_row_over "demand_row_over" = true)
    (k_demand_row_over : PySem.W.keepIn K (.ref f_demand_row_over) = true)
    (l_demand_same_deeds : K.lookup f_demand_same_deeds = some ⟨oc_demand_same_deeds, od_demand_same_deeds, .func (PySem.W.fnOf "demand_same_deeds" "demand_same_deeds" (defArgs s_demand_same_deeds) (defBody s_demand_same_deeds) (defScope s_demand_same_deeds) .none kV_demand_same_deeds dc_demand_same_deeds pm_demand_same_deeds an_demand_same_deeds cd_demand_same_deeds ct_demand_same_deeds), sl_demand_same_deeds⟩)
    (c_demand_same_deeds : PySem.W.codeIn K cd_demand_same_deeds "demand_same_deeds" = true)
    (k_demand_same_deeds : PySem.W.keepIn K (.ref f_demand_same_deeds) = true)
    (l_standing_still : K.lookup f_standing_still = some ⟨oc_standing_still, od_standing_still, .func (PySem.W.fnOf "standing_still" "standing_still" (defArgs s_standing_still) (defBody s_standing_still) (defScope s_standing_still) .none kV_standing_still dc_standing_still pm_standing_still an_standing_still cd_standing_still ct_standing_still), sl_standing_still⟩)
    (c_standing_still : PySem.W.codeIn K cd_standing_still "standing_still" = true)
    (k_standing_still : PySem.W.keepIn K (.ref f_standing_still) = true)
    (l_followed : K.lookup f_followed = some ⟨oc_followed, od_followed, .func (PySem.W.fnOf "followed" "followed" (defArgs s_followed) (defBody s_followed) (defScope s_followed) .none kV_followed dc_followed pm_followed an_followed cd_followed ct_followed), sl_followed⟩)
    (c_followed : PySem.W.codeIn K cd_followed "followed" = true)
    (k_followed : PySem.W.keepIn K (.ref f_followed) = true)
    (l_turned_back : K.lookup f_turned_back = some ⟨oc_turned_back, od_turned_back, .func (PySem.W.fnOf "turned_back" "turned_back" (defArgs s_turned_back) (defBody s_turned_back) (defScope s_turned_back) .none kV_turned_back dc_turned_back pm_turned_back an_turned_back cd_turned_back ct_turned_back), sl_turned_back⟩)
    (c_turned_back : PySem.W.codeIn K cd_turned_back "turned_back" = true)
    (k_turned_back : PySem.W.keepIn K (.ref f_turned_back) = true)
    (l_rounds_of : K.lookup f_rounds_of = some ⟨oc_rounds_of, od_rounds_of, .func (PySem.W.fnOf "rounds_of" "rounds_of" (defArgs s_rounds_of) (defBody s_rounds_of) (defScope s_rounds_of) .none kV_rounds_of dc_rounds_of pm_rounds_of an_rounds_of cd_rounds_of ct_rounds_of), sl_rounds_of⟩)
    (c_rounds_of : PySem.W.codeIn K cd_rounds_of "rounds_of" = true)
    (k_rounds_of : PySem.W.keepIn K (.ref f_rounds_of) = true)
    (l_order_of : K.lookup f_order_of = some ⟨oc_order_of, od_order_of, .func (PySem.W.fnOf "order_of" "order_of" (defArgs s_order_of) (defBody s_order_of) (defScope s_order_of) .none kV_order_of dc_order_of pm_order_of an_order_of cd_order_of ct_order_of), sl_order_of⟩)
    (c_order_of : PySem.W.codeIn K cd_order_of "order_of" = true)
    (k_order_of : PySem.W.keepIn K (.ref f_order_of) = true)
    (l_letter_moves : K.lookup f_letter_moves = some ⟨oc_letter_moves, od_letter_moves, .func (PySem.W.fnOf "letter_moves" "letter_moves" (defArgs s_letter_moves) (defBody s_letter_moves) (defScope s_letter_moves) .none kV_letter_moves dc_letter_moves pm_letter_moves an_letter_moves cd_letter_moves ct_letter_moves), sl_letter_moves⟩)
    (c_letter_moves : PySem.W.codeIn K cd_letter_moves "letter_moves" = true)
    (k_letter_moves : PySem.W.keepIn K (.ref f_letter_moves) = true)
    (l_row_move : K.lookup f_row_move = some ⟨oc_row_move, od_row_move, .func (PySem.W.fnOf "row_move" "row_move" (defArgs s_row_move) (defBody s_row_move) (defScope s_row_move) .none kV_row_move dc_row_move pm_row_move an_row_move cd_row_move ct_row_move), sl_row_move⟩)
    (c_row_move : PySem.W.codeIn K cd_row_move "row_move" = true)
    (k_row_move : PySem.W.keepIn K (.ref f_row_move) = true)
    (l_World_init : K.lookup f_World_init = some ⟨oc_World_init, od_World_init, .func (PySem.W.fnOf "__init__" "World.__init__" (defArgs s_World_init) (defBody s_World_init) (defScope s_World_init) .none kV_World_init dc_World_init pm_World_init an_World_init cd_World_init ct_World_init), sl_World_init⟩)
    (c_World_init : PySem.W.codeIn K cd_World_init "World.__init__" = true)
    (k_World_init : PySem.W.keepIn K (.ref f_World_init) = true)
    (l_World_moves : K.lookup f_World_moves = some ⟨oc_World_moves, od_World_moves, .func (PySem.W.fnOf "moves" "World.moves" (defArgs s_World_moves) (defBody s_World_moves) (defScope s_World_moves) .none kV_World_moves dc_World_moves pm_World_moves an_World_moves cd_World_moves ct_World_moves), sl_World_moves⟩)
    (c_World_moves : PySem.W.codeIn K cd_World_moves "World.moves" = true)
    (k_World_moves : PySem.W.keepIn K (.ref f_World_moves) = true)
    (l_World__eq_ : K.lookup f_World__eq_ = some ⟨oc_World__eq_, od_World__eq_, .func (PySem.W.fnOf "__eq__" "World.__eq__" (defArgs s_World__eq_) (defBody s_World__eq_) (defScope s_World__eq_) .none kV_World__eq_ dc_World__eq_ pm_World__eq_ an_World__eq_ cd_World__eq_ ct_World__eq_), sl_World__eq_⟩)
    (c_World__eq_ : PySem.W.codeIn K cd_World__eq_ "World.__eq__" = true)
    (k_World__eq_ : PySem.W.keepIn K (.ref f_World__eq_) = true)
    (l_world_of : K.lookup f_world_of = some ⟨oc_world_of, od_world_of, .func (PySem.W.fnOf "world_of" "world_of" (defArgs s_world_of) (defBody s_world_of) (defScope s_world_of) .none kV_world_of dc_world_of pm_world_of an_world_of cd_world_of ct_world_of), sl_world_of⟩)
    (c_world_of : PySem.W.codeIn K cd_world_of "world_of" = true)
    (k_world_of : PySem.W.keepIn K (.ref f_world_of) = true)
    (l_led : K.lookup f_led = some ⟨oc_led, od_led, .func (PySem.W.fnOf "led" "led" (defArgs s_led) (defBody s_led) (defScope s_led) .none kV_led dc_led pm_led an_led cd_led ct_led), sl_led⟩)
    (c_led : PySem.W.codeIn K cd_led "led" = true)
    (k_led : PySem.W.keepIn K (.ref f_led) = true)
    (l_move_of : K.lookup f_move_of = some ⟨oc_move_of, od_move_of, .func (PySem.W.fnOf "move_of" "move_of" (defArgs s_move_of) (defBody s_move_of) (defScope s_move_of) .none kV_move_of dc_move_of pm_move_of an_move_of cd_move_of ct_move_of), sl_move_of⟩)
    (c_move_of : PySem.W.codeIn K cd_move_of "move_of" = true)
    (k_move_of : PySem.W.keepIn K (.ref f_move_of) = true)
    (l_order : K.lookup f_order = some ⟨oc_order, od_order, .func (PySem.W.fnOf "order" "order" (defArgs s_order) (defBody s_order) (defScope s_order) .none kV_order dc_order pm_order an_order cd_order ct_order), sl_order⟩)
    (c_order : PySem.W.codeIn K cd_order "order" = true)
    (k_order : PySem.W.keepIn K (.ref f_order) = true)
    (l_beside : K.lookup f_beside = some ⟨oc_beside, od_beside, .func (PySem.W.fnOf "beside" "beside" (defArgs s_beside) (defBody s_beside) (defScope s_beside) .none kV_beside dc_beside pm_beside an_beside cd_beside ct_beside), sl_beside⟩)
    (c_beside : PySem.W.codeIn K cd_beside "beside" = true)
    (k_beside : PySem.W.keepIn K (.ref f_beside) = true)
    (l_demand_standing : K.lookup f_demand_standing = some ⟨oc_demand_standing, od_demand_standing, .func (PySem.W.fnOf "demand_standing" "demand_standing" (defArgs s_demand_standing) (defBody s_demand_standing) (defScope s_demand_standing) .none kV_demand_standing dc_demand_standing pm_demand_standing an_demand_standing cd_demand_standing ct_demand_standing), sl_demand_standing⟩)
    (c_demand_standing : PySem.W.codeIn K cd_demand_standing "demand_standing" = true)
    (k_demand_standing : PySem.W.keepIn K (.ref f_demand_standing) = true)
    (l_are_moves : K.lookup f_are_moves = some ⟨oc_are_moves, od_are_moves, .func (PySem.W.fnOf "are_moves" "are_moves" (defArgs s_are_moves) (defBody s_are_moves) (defScope s_are_moves) .none kV_are_moves dc_are_moves pm_are_moves an_are_moves cd_are_moves ct_are_moves), sl_are_moves⟩)
    (c_are_moves : PySem.W.codeIn K cd_are_moves "are_moves" = true)
    (k_are_moves : PySem.W.keepIn K (.ref f_are_moves) = true)
    (l_is_move : K.lookup f_is_move = some ⟨oc_is_move, od_is_move, .func (PySem.W.fnOf "is_move" "is_move" (defArgs s_is_move) (defBody s_is_move) (defScope s_is_move) .none kV_is_move dc_is_move pm_is_move an_is_move cd_is_move ct_is_move), sl_is_move⟩)
    (c_is_move : PySem.W.codeIn K cd_is_move "is_move" = true)
    (k_is_move : PySem.W.keepIn K (.ref f_is_move) = true)
    (l_pot : K.lookup f_pot = some ⟨oc_pot, od_pot, .func (PySem.W.fnOf "_law_pot" "_law_pot" (defArgs s_pot) (defBody s_pot) (defScope s_pot) .none kV_pot dc_pot pm_pot an_pot cd_pot ct_pot), sl_pot⟩)
    (c_pot : PySem.W.codeIn K cd_pot "_law_pot" = true)
    (k_pot : PySem.W.keepIn K (.ref f_pot) = true)
    (l_draw : K.lookup f_draw = some ⟨oc_draw, od_draw, .func (PySem.W.fnOf "_law_draw" "_law_draw" (defArgs s_draw) (defBody s_draw) (defScope s_draw) .none kV_draw dc_draw pm_draw an_draw cd_draw ct_draw), sl_draw⟩)
    (c_draw : PySem.W.codeIn K cd_draw "_law_draw" = true)
    (k_draw : PySem.W.keepIn K (.ref f_draw) = true)
    (l_any : K.lookup f_any = some ⟨oc_any, od_any, .func (PySem.W.fnOf "_law_any" "_law_any" (defArgs s_any) (defBody s_any) (defScope s_any) .none kV_any dc_any pm_any an_any cd_any ct_any), sl_any⟩)
    (c_any : PySem.W.codeIn K cd_any "_law_any" = true)
    (k_any : PySem.W.keepIn K (.ref f_any) = true)
    (l_deeds : K.lookup f_deeds = some ⟨oc_deeds, od_deeds, .func (PySem.W.fnOf "_law_deeds" "_law_deeds" (defArgs s_deeds) (defBody s_deeds) (defScope s_deeds) .none kV_deeds dc_deeds pm_deeds an_deeds cd_deeds ct_deeds), sl_deeds⟩)
    (c_deeds : PySem.W.codeIn K cd_deeds "_law_deeds" = true)
    (k_deeds : PySem.W.keepIn K (.ref f_deeds) = true)
    (l_letters : K.lookup f_letters = some ⟨oc_letters, od_letters, .func (PySem.W.fnOf "_law_letters" "_law_letters" (defArgs s_letters) (defBody s_letters) (defScope s_letters) .none kV_letters dc_letters pm_letters an_letters cd_letters ct_letters), sl_letters⟩)
    (c_letters : PySem.W.codeIn K cd_letters "_law_letters" = true)
    (k_letters : PySem.W.keepIn K (.ref f_letters) = true)
    (l_row : K.lookup f_row = some ⟨oc_row, od_row, .func (PySem.W.fnOf "_law_row" "_law_row" (defArgs s_row) (defBody s_row) (defScope s_row) .none kV_row dc_row pm_row an_row cd_row ct_row), sl_row⟩)
    (c_row : PySem.W.codeIn K cd_row "_law_row" = true)
    (k_row : PySem.W.keepIn K (.ref f_row) = true)
    (l_mixed : K.lookup f_mixed = some ⟨oc_mixed, od_mixed, .func (PySem.W.fnOf "_law_mixed" "_law_mixed" (defArgs s_mixed) (defBody s_mixed) (defScope s_mixed) .none kV_mixed dc_mixed pm_mixed an_mixed cd_mixed ct_mixed), sl_mixed⟩)
    (c_mixed : PySem.W.codeIn K cd_mixed "_law_mixed" = true)
    (k_mixed : PySem.W.keepIn K (.ref f_mixed) = true)
    (l_moves : K.lookup f_moves = some ⟨oc_moves, od_moves, .func (PySem.W.fnOf "_law_moves" "_law_moves" (defArgs s_moves) (defBody s_moves) (defScope s_moves) .none kV_moves dc_moves pm_moves an_moves cd_moves ct_moves), sl_moves⟩)
    (c_moves : PySem.W.codeIn K cd_moves "_law_moves" = true)
    (k_moves : PySem.W.keepIn K (.ref f_moves) = true)
    (l_step : K.lookup f_step = some ⟨oc_step, od_step, .func (PySem.W.fnOf "_law_step" "_law_step" (defArgs s_step) (defBody s_step) (defScope s_step) .none kV_step dc_step pm_step an_step cd_step ct_step), sl_step⟩)
    (c_step : PySem.W.codeIn K cd_step "_law_step" = true)
    (k_step : PySem.W.keepIn K (.ref f_step) = true)
    (l_lled : K.lookup f_lled = some ⟨oc_lled, od_lled, .func (PySem.W.fnOf "_law_led" "_law_led" (defArgs s_lled) (defBody s_lled) (defScope s_lled) .none kV_lled dc_lled pm_lled an_lled cd_lled ct_lled), sl_lled⟩)
    (c_lled : PySem.W.codeIn K cd_lled "_law_led" = true)
    (k_lled : PySem.W.keepIn K (.ref f_lled) = true)
    (l_pairs : K.lookup f_pairs = some ⟨oc_pairs, od_pairs, .func (PySem.W.fnOf "_law_pairs" "_law_pairs" (defArgs s_pairs) (defBody s_pairs) (defScope s_pairs) .none kV_pairs dc_pairs pm_pairs an_pairs cd_pairs ct_pairs), sl_pairs⟩)
    (c_pairs : PySem.W.codeIn K cd_pairs "_law_pairs" = true)
    (k_pairs : PySem.W.keepIn K (.ref f_pairs) = true)
    (l_asked : K.lookup f_asked = some ⟨oc_asked, od_asked, .func (PySem.W.fnOf "_law_asked" "_law_asked" (defArgs s_asked) (defBody s_asked) (defScope s_asked) .none kV_asked dc_asked pm_asked an_asked cd_asked ct_asked), sl_asked⟩)
    (c_asked : PySem.W.codeIn K cd_asked "_law_asked" = true)
    (k_asked : PySem.W.keepIn K (.ref f_asked) = true)
    (l_least : K.lookup f_least = some ⟨oc_least, od_least, .func (PySem.W.fnOf "_law_least" "_law_least" (defArgs s_least) (defBody s_least) (defScope s_least) .none kV_least dc_least pm_least an_least cd_least ct_least), sl_least⟩)
    (c_least : PySem.W.codeIn K cd_least "_law_least" = true)
    (k_least : PySem.W.keepIn K (.ref f_least) = true)
    (l_law : K.lookup f_law = some ⟨oc_law, od_law, .func (PySem.W.fnOf "law" "law" (defArgs s_law) (defBody s_law) (defScope s_law) .none kV_law dc_law pm_law an_law cd_law ct_law), sl_law⟩)
    (c_law : PySem.W.codeIn K cd_law "law" = true)
    (k_law : PySem.W.keepIn K (.ref f_law) = true)
    (t_NoRow : PySem.W.typeIn K (.ref f_NoRow_init) = some (.type "function"))
    (xL_NoRow : ∃ nm q N bs bm sn sub ab col dd k0 k1 k2 k3 k5, K.lookup C_NoRow = some (excClassObj nm q C_NoRow N bs bm true sn sub ab col dd k0 k1 k2 k3 k5 "ValueError.__new__") ∧ PySem.HandSPX.refsVE bm = true)
    (sa_NoRow : PySem.W.findIn K (.ref C_NoRow) "__setattr__" = some (some (.builtin "object.__setattr__")))
    (ga_NoRow : PySem.W.findIn K (.ref C_NoRow) "__getattribute__" = some (some (.builtin "BaseException.__getattribute__")))
    (gg_NoRow : PySem.W.findIn K (.ref C_NoRow) "__getattr__" = some none)
    (kC_NoRow : PySem.W.keepIn K (.ref C_NoRow) = true)
    (eC_NoRow : PySem.W.subIn K (.ref C_NoRow) (.type "BaseException") = some true)
    (tC_NoRow : PySem.W.typeIn K (.ref C_NoRow) = some (.type "type"))
    (hC_NoRow : PySem.W.hasDictIn K C_NoRow = true)
    (ha_NoRow : PySem.W.findIn K (.ref C_NoRow) "__class__" = some (some (.builtin "object.__class__")))
    (hm_NoRow : PySem.W.mroIn K C_NoRow (.type "object") = some true)
    (t_TooLarge : PySem.W.typeIn K (.ref f_TooLarge_init) = some (.type "function"))
    (xL_TooLarge : ∃ nm q N bs bm sn sub ab col dd k0 k1 k2 k3 k5, K.lookup C_TooLarge = some (excClassObj nm q C_TooLarge N bs bm true sn sub ab col dd k0 k1 k2 k3 k5 "ValueError.__new__") ∧ PySem.HandSPX.refsVE bm = true)
    (sa_TooLarge : PySem.W.findIn K (.ref C_TooLarge) "__setattr__" = some (some (.builtin "object.__setattr__")))
    (ga_TooLarge : PySem.W.findIn K (.ref C_TooLarge) "__getattribute__" = some (some (.builtin "BaseException.__getattribute__")))
    (gg_TooLarge : PySem.W.findIn K (.ref C_TooLarge) "__getattr__" = some none)
    (kC_TooLarge : PySem.W.keepIn K (.ref C_TooLarge) = true)
    (eC_TooLarge : PySem.W.subIn K (.ref C_TooLarge) (.type "BaseException") = some true)
    (tC_TooLarge : PySem.W.typeIn K (.ref C_TooLarge) = some (.type "type"))
    (hC_TooLarge : PySem.W.hasDictIn K C_TooLarge = true)
    (ha_TooLarge : PySem.W.findIn K (.ref C_TooLarge) "__class__" = some (some (.builtin "object.__class__")))
    (hm_TooLarge : PySem.W.mroIn K C_TooLarge (.type "object") = some true)
    (t_OtherDeeds : PySem.W.typeIn K (.ref f_OtherDeeds_init) = some (.type "function"))
    (xL_OtherDeeds : ∃ nm q N bs bm sn sub ab col dd k0 k1 k2 k3 k5, K.lookup C_OtherDeeds = some (excClassObj nm q C_OtherDeeds N bs bm true sn sub ab col dd k0 k1 k2 k3 k5 "ValueError.__new__") ∧ PySem.HandSPX.refsVE bm = true)
    (sa_OtherDeeds : PySem.W.findIn K (.ref C_OtherDeeds) "__setattr__" = some (some (.builtin "object.__setattr__")))
    (ga_OtherDeeds : PySem.W.findIn K (.ref C_OtherDeeds) "__getattribute__" = some (some (.builtin "BaseException.__getattribute__")))
    (gg_OtherDeeds : PySem.W.findIn K (.ref C_OtherDeeds) "__getattr__" = some none)
    (kC_OtherDeeds : PySem.W.keepIn K (.ref C_OtherDeeds) = true)
    (eC_OtherDeeds : PySem.W.subIn K (.ref C_OtherDeeds) (.type "BaseException") = some true)
    (tC_OtherDeeds : PySem.W.typeIn K (.ref C_OtherDeeds) = some (.type "type"))
    (hC_OtherDeeds : PySem.W.hasDictIn K C_OtherDeeds = true)
    (ha_OtherDeeds : PySem.W.findIn K (.ref C_OtherDeeds) "__class__" = some (some (.builtin "object.__class__")))
    (hm_OtherDeeds : PySem.W.mroIn K C_OtherDeeds (.type "object") = some true)
    (t_BadWorld : PySem.W.typeIn K (.ref f_BadWorld_init) = some (.type "function"))
    (xL_BadWorld : ∃ nm q N bs bm sn sub ab col dd k0 k1 k2 k3 k5, K.lookup C_BadWorld = some (excClassObj nm q C_BadWorld N bs bm true sn sub ab col dd k0 k1 k2 k3 k5 "ValueError.__new__") ∧ PySem.HandSPX.refsVE bm = true)
    (sa_BadWorld : PySem.W.findIn K (.ref C_BadWorld) "__setattr__" = some (some (.builtin "object.__setattr__")))
    (ga_BadWorld : PySem.W.findIn K (.ref C_BadWorld) "__getattribute__" = some (some (.builtin "BaseException.__getattribute__")))
    (gg_BadWorld : PySem.W.findIn K (.ref C_BadWorld) "__getattr__" = some none)
    (kC_BadWorld : PySem.W.keepIn K (.ref C_BadWorld) = true)
    (eC_BadWorld : PySem.W.subIn K (.ref C_BadWorld) (.type "BaseException") = some true)
    (tC_BadWorld : PySem.W.typeIn K (.ref C_BadWorld) = some (.type "type"))
    (hC_BadWorld : PySem.W.hasDictIn K C_BadWorld = true)
    (ha_BadWorld : PySem.W.findIn K (.ref C_BadWorld) "__class__" = some (some (.builtin "object.__class__")))
    (hm_BadWorld : PySem.W.mroIn K C_BadWorld (.type "object") = some true)
    (t_NoStanding : PySem.W.typeIn K (.ref f_NoStanding_init) = some (.type "function"))
    (xL_NoStanding : ∃ nm q N bs bm sn sub ab col dd k0 k1 k2 k3 k5, K.lookup C_NoStanding = some (excClassObj nm q C_NoStanding N bs bm true sn sub ab col dd k0 k1 k2 k3 k5 "ValueError.__new__") ∧ PySem.HandSPX.refsVE bm = true)
    (sa_NoStanding : PySem.W.findIn K (.ref C_NoStanding) "__setattr__" = some (some (.builtin "object.__setattr__")))
    (ga_NoStanding : PySem.W.findIn K (.ref C_NoStanding) "__getattribute__" = some (some (.builtin "BaseException.__getattribute__")))
    (gg_NoStanding : PySem.W.findIn K (.ref C_NoStanding) "__getattr__" = some none)
    (kC_NoStanding : PySem.W.keepIn K (.ref C_NoStanding) = true)
    (eC_NoStanding : PySem.W.subIn K (.ref C_NoStanding) (.type "BaseException") = some true)
    (tC_NoStanding : PySem.W.typeIn K (.ref C_NoStanding) = some (.type "type"))
    (hC_NoStanding : PySem.W.hasDictIn K C_NoStanding = true)
    (ha_NoStanding : PySem.W.findIn K (.ref C_NoStanding) "__class__" = some (some (.builtin "object.__class__")))
    (hm_NoStanding : PySem.W.mroIn K C_NoStanding (.type "object") = some true)
    (mk_World : PySem.W.makesIn K C_World = true)
    (mi_World : PySem.W.findIn K (.ref C_World) "__init__" = some (some (.ref f_World_init)))
    (mf_World : PySem.W.isFn K (.ref f_World_init) = true)
    (mc_World : PySem.W.keepIn K (.ref C_World) = true)
    (pg_World : PySem.W.plainGet K C_World Str.empty = true)
    (hd_World : PySem.W.hasDictIn K C_World = true)
    (po_World : PySem.W.plainOver K C_World = true)
    (ps_World : PySem.W.findIn K (.ref C_World) "__setattr__" = some (some (.builtin "object.__setattr__")))
    (ia_World : PySem.W.findIn K (.ref C_World) "__class__" = some (some (.builtin "object.__class__")))
    (io_World : PySem.W.mroIn K C_World (.type "object") = some true)
    (im_World : PySem.W.kitOne K (.ref C_World) (.ref C_World) = some true)
    (nf_World_deeds : PySem.W.findIn K (.ref C_World) "deeds" = some none)
    (nf_World_size : PySem.W.findIn K (.ref C_World) "size" = some none)
    (nf_World__moves : PySem.W.findIn K (.ref C_World) "_moves" = some none)
    (es_World : PySem.W.findIn K (.ref C_World) "__eq__" = some (some (.ref f_World__eq_)))
    (ef_World : PySem.W.isFn K (.ref f_World__eq_) = true)
    (en_World : PySem.W.findIn K (.ref C_World) "__ne__" = some (some (.builtin "object.__ne__")))
    (qa_World_moves : PySem.W.findIn K (.ref C_World) "moves" = some (some (.ref P_World_moves)))
    (qg_World_moves : PySem.W.specialIn K (.ref P_World_moves) "__get__" = some (some (.builtin "property.__get__")))
    (qt_World_moves : PySem.W.takesIn K (.ref P_World_moves) = some true)
    (qR_World_moves : ∃ rest, PySem.W.recIn K P_World_moves "property" = some (.ref f_World_moves :: rest))
    (mg_lcm : PySem.W.nsIn K mainGlobals "lcm" = some (some (.builtin "math.lcm")))
    (hn_ : PySem.W.specialIn K (.builtin "object.__class__") "__get__" = some (some (.builtin "getset_descriptor.__get__")))
    (ht_ : PySem.W.takesIn K (.builtin "object.__class__") = some true)
    (z_xn_TooLarge_most : PySem.W.findIn K (.ref C_TooLarge) "most" = some none)
    (z_xn_BadWorld_part : PySem.W.findIn K (.ref C_BadWorld) "part" = some none)
    (z_e_BadWorld_OtherDeeds : PySem.W.exmOne K (.ref C_BadWorld) (.ref C_OtherDeeds) = some false)
    (z_e_BadWorld_TooLarge : PySem.W.exmOne K (.ref C_BadWorld) (.ref C_TooLarge) = some false)
    (z_e_NoRow_OtherDeeds : PySem.W.exmOne K (.ref C_NoRow) (.ref C_OtherDeeds) = some false)
    (z_e_NoRow_TooLarge : PySem.W.exmOne K (.ref C_NoRow) (.ref C_TooLarge) = some false)
    (z_e_NoStanding_OtherDeeds : PySem.W.exmOne K (.ref C_NoStanding) (.ref C_OtherDeeds) = some false)
    (z_e_NoStanding_TooLarge : PySem.W.exmOne K (.ref C_NoStanding) (.ref C_TooLarge) = some false)
    (z_e_OtherDeeds_OtherDeeds : PySem.W.exmOne K (.ref C_OtherDeeds) (.ref C_OtherDeeds) = some true)
    (z_e_OtherDeeds_TooLarge : PySem.W.exmOne K (.ref C_OtherDeeds) (.ref C_TooLarge) = some false)
    (z_e_TooLarge_OtherDeeds : PySem.W.exmOne K (.ref C_TooLarge) (.ref C_OtherDeeds) = some false)
    (z_e_TooLarge_TooLarge : PySem.W.exmOne K (.ref C_TooLarge) (.ref C_TooLarge) = some true)
    {tk_MOST_STANDINGS : Tok}
    (v_MOST_STANDINGS : PySem.W.nsIn K mainGlobals "MOST_STANDINGS" = some (some (.int (24) tk_MOST_STANDINGS)))
    {tk_MOST_BESIDE : Tok}
    (v_MOST_BESIDE : PySem.W.nsIn K mainGlobals "MOST_BESIDE" = some (some (.int (2000) tk_MOST_BESIDE)))
    (m_ValueError : PySem.W.nsIn K mainGlobals "ValueError" = some none)
    (m_abs : PySem.W.nsIn K mainGlobals "abs" = some none)
    (m_all : PySem.W.nsIn K mainGlobals "all" = some none)
    (m_bool : PySem.W.nsIn K mainGlobals "bool" = some none)
    (m_dict : PySem.W.nsIn K mainGlobals "dict" = some none)
    (m_enumerate : PySem.W.nsIn K mainGlobals "enumerate" = some none)
    (m_int : PySem.W.nsIn K mainGlobals "int" = some none)
    (m_isinstance : PySem.W.nsIn K mainGlobals "isinstance" = some none)
    (m_len : PySem.W.nsIn K mainGlobals "len" = some none)
    (m_list : PySem.W.nsIn K mainGlobals "list" = some none)
    (m_range : PySem.W.nsIn K mainGlobals "range" = some none)
    (m_sorted : PySem.W.nsIn K mainGlobals "sorted" = some none)
    (m_str : PySem.W.nsIn K mainGlobals "str" = some none)
    (m_sum : PySem.W.nsIn K mainGlobals "sum" = some none)
    (m_tuple : PySem.W.nsIn K mainGlobals "tuple" = some none)
    (m_zip : PySem.W.nsIn K mainGlobals "zip" = some none)
    : ∃ fd : FuncData, (∀ (s : Shared) (v : Value), BindsTo s fd ⟨[v], []⟩ [("_law_script", v)]) ∧ ∀ base : Heap, K.In base → base.Ns mainGlobals mg → FnOk l.prog w K mg base (CX l.prog w) 9 fa fd ["_law_script"] (sp_law K) := by
  cases hfa.symm.trans (PySem.W.mg_of X G a_law)
  have F_NoRow_init := fun_mk (st := s_NoRow_init) l_NoRow_init c_NoRow_init k_NoRow_init
  have F_TooLarge_init := fun_mk (st := s_TooLarge_init) l_TooLarge_init c_TooLarge_init k_TooLarge_init
  have F_OtherDeeds_init := fun_mk (st := s_OtherDeeds_init) l_OtherDeeds_init c_OtherDeeds_init k_OtherDeeds_init
  have F_BadWorld_init := fun_mk (st := s_BadWorld_init) l_BadWorld_init c_BadWorld_init k_BadWorld_init
  have F_NoStanding_init := fun_mk (st := s_NoStanding_init) l_NoStanding_init c_NoStanding_init k_NoStanding_init
  have F_is_integer := fun_mk (st := s_is_integer) l_is_integer c_is_integer k_is_integer
  have F_is_integer_within := fun_mk (st := s_is_integer_within) l_is_integer_within c_is_integer_within k_is_integer_within
  have F_is_small_word := fun_mk (st := s_is_small_word) l_is_small_word c_is_small_word k_is_small_word
  have F_is_deeds := fun_mk (st := s_is_deeds) l_is_deeds c_is_deeds k_is_deeds
  have F_is_row := fun_mk (st := s_is_row) l_is_row c_is_row k_is_row
  have F_is_row_over := fun_mk (st := s_is_row_over) l_is_row_over c_is_row_over k_is_row_over
  have F_demand_row_over := fun_mk (st := s_demand_row_over) l_demand_row_over c_demand_row_over k_demand_row_over
  have F_demand_same_deeds := fun_mk (st := s_demand_same_deeds) l_demand_same_deeds c_demand_same_deeds k_demand_same_deeds
  have F_standing_still := fun_mk (st := s_standing_still) l_standing_still c_standing_still k_standing_still
  have F_followed := fun_mk (st := s_followed) l_followed c_followed k_followed
  have F_turned_back := fun_mk (st := s_turned_back) l_turned_back c_turned_back k_turned_back
  have F_rounds_of := fun_mk (st := s_rounds_of) l_rounds_of c_rounds_of k_rounds_of
  have F_order_of := fun_mk (st := s_order_of) l_order_of c_order_of k_order_of
  have F_letter_moves := fun_mk (st := s_letter_moves) l_letter_moves c_letter_moves k_letter_moves
  have F_row_move := fun_mk (st := s_row_move) l_row_move c_row_move k_row_move
  have F_World_init := fun_mk (st := s_World_init) l_World_init c_World_init k_World_init
  have F_World_moves := fun_mk (st := s_World_moves) l_World_moves c_World_moves k_World_moves
  have F_World__eq_ := fun_mk (st := s_World__eq_) l_World__eq_ c_World__eq_ k_World__eq_
  have F_world_of := fun_mk (st := s_world_of) l_world_of c_world_of k_world_of
  have F_led := fun_mk (st := s_led) l_led c_led k_led
  have F_move_of := fun_mk (st := s_move_of) l_move_of c_move_of k_move_of
  have F_order := fun_mk (st := s_order) l_order c_order k_order
  have F_beside := fun_mk (st := s_beside) l_beside c_beside k_beside
  have F_demand_standing := fun_mk (st := s_demand_standing) l_demand_standing c_demand_standing k_demand_standing
  have F_are_moves := fun_mk (st := s_are_moves) l_are_moves c_are_moves k_are_moves
  have F_is_move := fun_mk (st := s_is_move) l_is_move c_is_move k_is_move
  have F_pot := fun_mk (st := s_pot) l_pot c_pot k_pot
  have F_draw := fun_mk (st := s_draw) l_draw c_draw k_draw
  have F_any := fun_mk (st := s_any) l_any c_any k_any
  have F_deeds := fun_mk (st := s_deeds) l_deeds c_deeds k_deeds
  have F_letters := fun_mk (st := s_letters) l_letters c_letters k_letters
  have F_row := fun_mk (st := s_row) l_row c_row k_row
  have F_mixed := fun_mk (st := s_mixed) l_mixed c_mixed k_mixed
  have F_moves := fun_mk (st := s_moves) l_moves c_moves k_moves
  have F_step := fun_mk (st := s_step) l_step c_step k_step
  have F_lled := fun_mk (st := s_lled) l_lled c_lled k_lled
  have F_pairs := fun_mk (st := s_pairs) l_pairs c_pairs k_pairs
  have F_asked := fun_mk (st := s_asked) l_asked c_asked k_asked
  have F_least := fun_mk (st := s_least) l_least c_least k_least
  have F_law := fun_mk (st := s_law) l_law c_law k_law
  have T : Txt K mg ⟨f_NoRow_init, _, f_TooLarge_init, _, f_OtherDeeds_init, _, f_BadWorld_init, _, f_NoStanding_init, _, f_is_integer, _, f_is_integer_within, _, f_is_small_word, _, f_is_deeds, _, f_is_row, _, f_is_row_over, _, f_demand_row_over, _, f_demand_same_deeds, _, f_standing_still, _, f_followed, _, f_turned_back, _, f_rounds_of, _, f_order_of, _, f_letter_moves, _, f_row_move, _, f_World_init, _, f_World_moves, _, f_World__eq_, _, f_world_of, _, f_led, _, f_move_of, _, f_order, _, f_beside, _, f_demand_standing, _, f_are_moves, _, f_is_move, _, f_pot, _, f_draw, _, f_any, _, f_deeds, _, f_letters, _, f_row, _, f_mixed, _, f_moves, _, f_step, _, f_lled, _, f_pairs, _, f_asked, _, f_least, _, fa, _, C_RunsError, C_NoRow, C_TooLarge, C_OtherDeeds, C_BadWorld, C_NoStanding, C_World, P_World_moves, _, _⟩ := {
    F_NoRow_init := F_NoRow_init
    b_NoRow_init := F_NoRow_init.binds (ps := ["self"]) fun _ _ _ _ _ _ us hl => match us, hl with | [_], _ => rfl
    F_TooLarge_init := F_TooLarge_init
    b_TooLarge_init := F_TooLarge_init.binds (ps := ["self", "most"]) fun _ _ _ _ _ _ us hl => match us, hl with | [_, _], _ => rfl
    F_OtherDeeds_init := F_OtherDeeds_init
    b_OtherDeeds_init := F_OtherDeeds_init.binds (ps := ["self"]) fun _ _ _ _ _ _ us hl => match us, hl with | [_], _ => rfl
    F_BadWorld_init := F_BadWorld_init
    b_BadWorld_init := F_BadWorld_init.binds (ps := ["self", "part"]) fun _ _ _ _ _ _ us hl => match us, hl with | [_, _], _ => rfl
    F_NoStanding_init := F_NoStanding_init
    b_NoStanding_init := F_NoStanding_init.binds (ps := ["self"]) fun _ _ _ _ _ _ us hl => match us, hl with | [_], _ => rfl
    F_is_integer := F_is_integer
    g_is_integer := PySem.W.mg_of X G a_is_integer
    b_is_integer := F_is_integer.binds (ps := ["thing"]) fun _ _ _ _ _ _ us hl => match us, hl with | [_], _ => rfl
    F_is_integer_within := F_is_integer_within
    g_is_integer_within := PySem.W.mg_of X G a_is_integer_within
    b_is_integer_within := F_is_integer_within.binds (ps := ["thing", "least", "most"]) fun _ _ _ _ _ _ us hl => match us, hl with | [_, _, _], _ => rfl
    F_is_small_word := F_is_small_word
    g_is_small_word := PySem.W.mg_of X G a_is_small_word
    b_is_small_word := F_is_small_word.binds (ps := ["thing"]) fun _ _ _ _ _ _ us hl => match us, hl with | [_], _ => rfl
    F_is_deeds := F_is_deeds
    g_is_deeds := PySem.W.mg_of X G a_is_deeds
    b_is_deeds := F_is_deeds.binds (ps := ["thing"]) fun _ _ _ _ _ _ us hl => match us, hl with | [_], _ => rfl
    F_is_row := F_is_row
    g_is_row := PySem.W.mg_of X G a_is_row
    b_is_row := F_is_row.binds (ps := ["thing"]) fun _ _ _ _ _ _ us hl => match us, hl with | [_], _ => rfl
    F_is_row_over := F_is_row_over
    g_is_row_over := PySem.W.mg_of X G a_is_row_over
    b_is_row_over := F_is_row_over.binds (ps := ["deeds", "thing"]) fun _ _ _ _ _ _ us hl => match us, hl with | [_, _], _ => rfl
    F_demand_row_over := F_demand_row_over
    g_demand_row_over := PySem.W.mg_of X G a_demand_row_over
    b_demand_row_over := F_demand_row_over.binds (ps := ["deeds", "thing"]) fun _ _ _ _ _ _ us hl => match us, hl with | [_, _], _ => rfl
    F_demand_same_deeds := F_demand_same_deeds
    g_demand_same_deeds := PySem.W.mg_of X G a_demand_same_deeds
    b_demand_same_deeds := F_demand_same_deeds.binds (ps := ["one", "other"]) fun _ _ _ _ _ _ us hl => match us, hl with | [_, _], _ => rfl
    F_standing_still := F_standing_still
    g_standing_still := PySem.W.mg_of X G a_standing_still
    b_standing_still := F_standing_still.binds (ps := ["size"]) fun _ _ _ _ _ _ us hl => match us, hl with | [_], _ => rfl
    F_followed := F_followed
    g_followed := PySem.W.mg_of X G a_followed
    b_followed := F_followed.binds (ps := ["one", "other"]) fun _ _ _ _ _ _ us hl => match us, hl with | [_, _], _ => rfl
    F_turned_back := F_turned_back
    g_turned_back := PySem.W.mg_of X G a_turned_back
    b_turned_back := F_turned_back.binds (ps := ["move"]) fun _ _ _ _ _ _ us hl => match us, hl with | [_], _ => rfl
    F_rounds_of := F_rounds_of
    g_rounds_of := PySem.W.mg_of X G a_rounds_of
    b_rounds_of := F_rounds_of.binds (ps := ["move"]) fun _ _ _ _ _ _ us hl => match us, hl with | [_], _ => rfl
    F_order_of := F_order_of
    g_order_of := PySem.W.mg_of X G a_order_of
    b_order_of := F_order_of.binds (ps := ["move"]) fun _ _ _ _ _ _ us hl => match us, hl with | [_], _ => rfl
    F_letter_moves := F_letter_moves
    g_letter_moves := PySem.W.mg_of X G a_letter_moves
    b_letter_moves := F_letter_moves.binds (ps := ["world"]) fun _ _ _ _ _ _ us hl => match us, hl with | [_], _ => rfl
    F_row_move := F_row_move
    g_row_move := PySem.W.mg_of X G a_row_move
    b_row_move := F_row_move.binds (ps := ["moves", "row"]) fun _ _ _ _ _ _ us hl => match us, hl with | [_, _], _ => rfl
    F_World_init := F_World_init
    b_World_init := F_World_init.binds (ps := ["self", "deeds", "moves"]) fun _ _ _ _ _ _ us hl => match us, hl with | [_, _, _], _ => rfl
    F_World_moves := F_World_moves
    b_World_moves := F_World_moves.binds (ps := ["self"]) fun _ _ _ _ _ _ us hl => match us, hl with | [_], _ => rfl
    F_World__eq_ := F_World__eq_
    b_World__eq_ := F_World__eq_.binds (ps := ["self", "other"]) fun _ _ _ _ _ _ us hl => match us, hl with | [_, _], _ => rfl
    F_world_of := F_world_of
    g_world_of := PySem.W.mg_of X G a_world_of
    b_world_of := F_world_of.binds (ps := ["deeds", "moves"]) fun _ _ _ _ _ _ us hl => match us, hl with | [_, _], _ => rfl
    F_led := F_led
    g_led := PySem.W.mg_of X G a_led
    b_led := F_led.binds (ps := ["world", "standing", "row"]) fun _ _ _ _ _ _ us hl => match us, hl with | [_, _, _], _ => rfl
    F_move_of := F_move_of
    g_move_of := PySem.W.mg_of X G a_move_of
    b_move_of := F_move_of.binds (ps := ["world", "row"]) fun _ _ _ _ _ _ us hl => match us, hl with | [_, _], _ => rfl
    F_order := F_order
    g_order := PySem.W.mg_of X G a_order
    b_order := F_order.binds (ps := ["world", "row"]) fun _ _ _ _ _ _ us hl => match us, hl with | [_, _], _ => rfl
    F_beside := F_beside
    g_beside := PySem.W.mg_of X G a_beside
    b_beside := F_beside.binds (ps := ["one", "other"]) fun _ _ _ _ _ _ us hl => match us, hl with | [_, _], _ => rfl
    F_demand_standing := F_demand_standing
    g_demand_standing := PySem.W.mg_of X G a_demand_standing
    b_demand_standing := F_demand_standing.binds (ps := ["world", "thing"]) fun _ _ _ _ _ _ us hl => match us, hl with | [_, _], _ => rfl
    F_are_moves := F_are_moves
    g_are_moves := PySem.W.mg_of X G a_are_moves
    b_are_moves := F_are_moves.binds (ps := ["deeds", "thing"]) fun _ _ _ _ _ _ us hl => match us, hl with | [_, _], _ => rfl
    F_is_move := F_is_move
    g_is_move := PySem.W.mg_of X G a_is_move
    b_is_move := F_is_move.binds (ps := ["thing"]) fun _ _ _ _ _ _ us hl => match us, hl with | [_], _ => rfl
    F_pot := F_pot
    g_pot := PySem.W.mg_of X G a_pot
    b_pot := F_pot.binds (ps := ["_law_script"]) fun _ _ _ _ _ _ us hl => match us, hl with | [_], _ => rfl
    F_draw := F_draw
    g_draw := PySem.W.mg_of X G a_draw
    b_draw := F_draw.binds (ps := ["_law_pot_here", "_law_many"]) fun _ _ _ _ _ _ us hl => match us, hl with | [_, _], _ => rfl
    F_any := F_any
    g_any := PySem.W.mg_of X G a_any
    b_any := F_any.binds (ps := ["_law_pot_here", "_law_items"]) fun _ _ _ _ _ _ us hl => match us, hl with | [_, _], _ => rfl
    F_deeds := F_deeds
    g_deeds := PySem.W.mg_of X G a_deeds
    b_deeds := F_deeds.binds (ps := ["_law_pot_here", "_law_most"]) fun _ _ _ _ _ _ us hl => match us, hl with | [_, _], _ => rfl
    F_letters := F_letters
    g_letters := PySem.W.mg_of X G a_letters
    b_letters := F_letters.binds (ps := ["_law_deeds_here"]) fun _ _ _ _ _ _ us hl => match us, hl with | [_], _ => rfl
    F_row := F_row
    g_row := PySem.W.mg_of X G a_row
    b_row := F_row.binds (ps := ["_law_pot_here", "_law_deeds_here", "_law_most"]) fun _ _ _ _ _ _ us hl => match us, hl with | [_, _, _], _ => rfl
    F_mixed := F_mixed
    g_mixed := PySem.W.mg_of X G a_mixed
    b_mixed := F_mixed.binds (ps := ["_law_pot_here", "_law_items"]) fun _ _ _ _ _ _ us hl => match us, hl with | [_, _], _ => rfl
    F_moves := F_moves
    g_moves := PySem.W.mg_of X G a_moves
    b_moves := F_moves.binds (ps := ["_law_pot_here", "_law_deeds_here", "_law_size"]) fun _ _ _ _ _ _ us hl => match us, hl with | [_, _, _], _ => rfl
    F_step := F_step
    g_step := PySem.W.mg_of X G a_step
    b_step := F_step.binds (ps := ["_law_moves_here", "_law_letter", "_law_standing"]) fun _ _ _ _ _ _ us hl => match us, hl with | [_, _, _], _ => rfl
    F_lled := F_lled
    g_lled := PySem.W.mg_of X G a_lled
    b_lled := F_lled.binds (ps := ["_law_moves_here", "_law_standing", "_law_row_here"]) fun _ _ _ _ _ _ us hl => match us, hl with | [_, _, _], _ => rfl
    F_pairs := F_pairs
    g_pairs := PySem.W.mg_of X G a_pairs
    b_pairs := F_pairs.binds (ps := ["_law_deeds_here", "_law_one", "_law_other"]) fun _ _ _ _ _ _ us hl => match us, hl with | [_, _, _], _ => rfl
    F_asked := F_asked
    g_asked := PySem.W.mg_of X G a_asked
    b_asked := F_asked.binds (ps := ["_law_one", "_law_other"]) fun _ _ _ _ _ _ us hl => match us, hl with | [_, _], _ => rfl
    F_least := F_least
    g_least := PySem.W.mg_of X G a_least
    b_least := F_least.binds (ps := ["_law_one", "_law_other"]) fun _ _ _ _ _ _ us hl => match us, hl with | [_, _], _ => rfl
    F_law := F_law
    g_law := PySem.W.mg_of X G a_law
    b_law := F_law.binds (ps := ["_law_script"]) fun _ _ _ _ _ _ us hl => match us, hl with | [_], _ => rfl
    gC_RunsError := PySem.W.mg_of X G aC_RunsError
    gC_NoRow := PySem.W.mg_of X G aC_NoRow
    o_NoRow := ⟨xL_NoRow, sa_NoRow, eC_NoRow, tC_NoRow, kC_NoRow⟩
    i_NoRow := i_NoRow
    t_NoRow := t_NoRow
    x_NoRow := ⟨ga_NoRow, gg_NoRow, eC_NoRow, hC_NoRow, ha_NoRow, hn_, ht_, hm_NoRow⟩
    gC_TooLarge := PySem.W.mg_of X G aC_TooLarge
    o_TooLarge := ⟨xL_TooLarge, sa_TooLarge, eC_TooLarge, tC_TooLarge, kC_TooLarge⟩
    i_TooLarge := i_TooLarge
    t_TooLarge := t_TooLarge
    x_TooLarge := ⟨ga_TooLarge, gg_TooLarge, eC_TooLarge, hC_TooLarge, ha_TooLarge, hn_, ht_, hm_TooLarge⟩
    gC_OtherDeeds := PySem.W.mg_of X G aC_OtherDeeds
    o_OtherDeeds := ⟨xL_OtherDeeds, sa_OtherDeeds, eC_OtherDeeds, tC_OtherDeeds, kC_OtherDeeds⟩
    i_OtherDeeds := i_OtherDeeds
    t_OtherDeeds := t_OtherDeeds
    x_OtherDeeds := ⟨ga_OtherDeeds, gg_OtherDeeds, eC_OtherDeeds, hC_OtherDeeds, ha_OtherDeeds, hn_, ht_, hm_OtherDeeds⟩
    gC_BadWorld := PySem.W.mg_of X G aC_BadWorld
    o_BadWorld := ⟨xL_BadWorld, sa_BadWorld, eC_BadWorld, tC_BadWorld, kC_BadWorld⟩
    i_BadWorld := i_BadWorld
    t_BadWorld := t_BadWorld
    x_BadWorld := ⟨ga_BadWorld, gg_BadWorld, eC_BadWorld, hC_BadWorld, ha_BadWorld, hn_, ht_, hm_BadWorld⟩
    gC_NoStanding := PySem.W.mg_of X G aC_NoStanding
    o_NoStanding := ⟨xL_NoStanding, sa_NoStanding, eC_NoStanding, tC_NoStanding, kC_NoStanding⟩
    i_NoStanding := i_NoStanding
    t_NoStanding := t_NoStanding
    x_NoStanding := ⟨ga_NoStanding, gg_NoStanding, eC_NoStanding, hC_NoStanding, ha_NoStanding, hn_, ht_, hm_NoStanding⟩
    gC_World := PySem.W.mg_of X G aC_World
    M_World := ⟨mk_World, mi_World, mf_World, mc_World⟩
    cl_World := ⟨pg_World, hd_World, po_World, ps_World⟩
    in_World := ⟨⟨pg_World, hd_World, po_World, ps_World⟩, ia_World, hn_, ht_, io_World, im_World⟩
    nF_World_deeds := nf_World_deeds
    nF_World_size := nf_World_size
    nF_World__moves := nf_World__moves
    eqs_World := es_World
    eqf_World := ef_World
    eqn_World := en_World
    pr_World_moves := ⟨qa_World_moves, qg_World_moves, qt_World_moves, qR_World_moves⟩
    m_lcm := PySem.W.mg_of X G mg_lcm
    m_ValueError := PySem.W.mg_none_of X G m_ValueError
    m_abs := PySem.W.mg_none_of X G m_abs
    m_all := PySem.W.mg_none_of X G m_all
    m_bool := PySem.W.mg_none_of X G m_bool
    m_dict := PySem.W.mg_none_of X G m_dict
    m_enumerate := PySem.W.mg_none_of X G m_enumerate
    m_int := PySem.W.mg_none_of X G m_int
    m_isinstance := PySem.W.mg_none_of X G m_isinstance
    m_len := PySem.W.mg_none_of X G m_len
    m_list := PySem.W.mg_none_of X G m_list
    m_range := PySem.W.mg_none_of X G m_range
    m_sorted := PySem.W.mg_none_of X G m_sorted
    m_str := PySem.W.mg_none_of X G m_str
    m_sum := PySem.W.mg_none_of X G m_sum
    m_tuple := PySem.W.mg_none_of X G m_tuple
    m_zip := PySem.W.mg_none_of X G m_zip
    c_MOST_STANDINGS := PySem.W.mg_of X G v_MOST_STANDINGS
    r_MOST_STANDINGS := ⟨_, rfl⟩
    c_MOST_BESIDE := PySem.W.mg_of X G v_MOST_BESIDE
    r_MOST_BESIDE := ⟨_, rfl⟩
    xn_TooLarge_most := z_xn_TooLarge_most
    xn_BadWorld_part := z_xn_BadWorld_part
    e_BadWorld_OtherDeeds := z_e_BadWorld_OtherDeeds
    e_BadWorld_TooLarge := z_e_BadWorld_TooLarge
    e_NoRow_OtherDeeds := z_e_NoRow_OtherDeeds
    e_NoRow_TooLarge := z_e_NoRow_TooLarge
    e_NoStanding_OtherDeeds := z_e_NoStanding_OtherDeeds
    e_NoStanding_TooLarge := z_e_NoStanding_TooLarge
    e_OtherDeeds_OtherDeeds := z_e_OtherDeeds_OtherDeeds
    e_OtherDeeds_TooLarge := z_e_OtherDeeds_TooLarge
    e_TooLarge_OtherDeeds := z_e_TooLarge_OtherDeeds
    e_TooLarge_TooLarge := z_e_TooLarge_TooLarge
  }
  exact ⟨PySem.W.fnOf "law" "law" (defArgs s_law) (defBody s_law) (defScope s_law) .none kV_law dc_law pm_law an_law cd_law ct_law, fun s v => .of_eq rfl, fun base _ _ => ok_law (P := l.prog) (w := w) (base := base) T⟩
end K41
open PySem PySem.W PyProof.Rows
set_option maxRecDepth 100000 in
set_option maxHeartbeats 0 in
theorem PySem.Challenge.cw_runsback_k41_whole_worlds_side_by_side_holds : PySem.Challenge.rw_runsback_k41_whole_worlds_side_by_side.Holds := by
  w_on; o_law; k_head; (case hw => w_witness2)
  k_fill
  refine L2.walk_of (l := PySem.Challenge.rw_runsback_k41_whole_worlds_side_by_side) (n := 63) (k := 9) (x := "_law_script") (CX := fun w => L2.CX PySem.Challenge.pw_runsback_k41_whole_worlds_side_by_side w) (sp := fun w => K41.sp_law _) rfl (by decide) rfl ⟨rfl, by decide, by decide⟩ (fun w h Y => PySem.W.kIn_of Y) ?F (fun _ H a ns hl hO hS => K41.hsp _ H a ns hl hO hS) (fun _ _ _ _ _ h => by obtain ⟨_, _, _, _, _, _, _, _, _, _, _, _, z⟩ := h; exact z)
  case F =>
    intro w mg fa h KX G hmg
    refine' K41.all_mk KX G hmg ?a_is_integer ?a_is_integer_within ?a_is_small_word ?a_is_deeds ?a_is_row ?a_is_row_over ?a_demand_row_over ?a_demand_same_deeds ?a_standing_still ?a_followed ?a_turned_back ?a_rounds_of ?a_order_of ?a_letter_moves ?a_row_move ?a_world_of ?a_led ?a_move_of ?a_order ?a_beside ?a_demand_standing ?a_are_moves ?a_is_move ?a_pot ?a_draw ?a_any ?a_deeds ?a_letters ?a_row ?a_mixed ?a_moves ?a_step ?a_lled ?a_pairs ?a_asked ?a_least ?a_law ?aC_RunsError ?aC_NoRow ?aC_TooLarge ?aC_OtherDeeds ?aC_BadWorld ?aC_NoStanding ?aC_World ?i_NoRow ?i_TooLarge ?i_OtherDeeds ?i_BadWorld ?i_NoStanding ?l_NoRow_init ?c_NoRow_init ?k_NoRow_init ?l_TooLarge_init ?c_TooLarge_init ?k_TooLarge_init ?l_OtherDeeds_init ?c_OtherDeeds_init ?k_OtherDeeds_init ?l_BadWorld_init ?c_BadWorld_init ?k_BadWorld_init ?l_NoStanding_init ?c_NoStanding_init ?k_NoStanding_init ?l_is_integer ?c_is_integer ?k_is_integer ?l_is_integer_within ?c_is_integer_within ?k_is_integer_within ?l_is_small_word ?c_is_small_word ?k_is_small_word ?l_is_deeds ?c_is_deeds ?k_is_deeds ?l_is_row ?c_is_row ?k_is_row ?l_is_row_over ?c_is_row_over ?k_is_row_over ?l_demand_row_over ?c_demand_row_over ?k_demand_row_over ?l_demand_same_deeds ?c_demand_same_deeds ?k_demand_same_deeds ?l_standing_still ?c_standing_still ?k_standing_still ?l_followed ?c_followed ?k_followed ?l_turned_back ?c_turned_back ?k_turned_back ?l_rounds_of ?c_rounds_of ?k_rounds_of ?l_order_of ?c_order_of ?k_order_of ?l_letter_moves ?c_letter_moves ?k_letter_moves ?l_row_move ?c_row_move ?k_row_move ?l_World_init ?c_World_init ?k_World_init ?l_World_moves ?c_World_moves ?k_World_moves ?l_World__eq_ ?c_World__eq_ ?k_World__eq_ ?l_world_of ?c_world_of ?k_world_of ?l_led ?c_led ?k_led ?l_move_of ?c_move_of ?k_move_of ?l_order ?c_order ?k_order ?l_beside ?c_beside ?k_beside ?l_demand_standing ?c_demand_standing ?k_demand_standing ?l_are_moves ?c_are_moves ?k_are_moves ?l_is_move ?c_is_move ?k_is_move ?l_pot ?c_pot ?k_pot ?l_draw ?c_draw ?k_draw ?l_any ?c_any ?k_any ?l_deeds ?c_deeds ?k_deeds ?l_letters ?c_letters ?k_letters ?l_row ?c_row ?k_row ?l_mixed ?c_mixed ?k_mixed ?l_moves ?c_moves ?k_moves ?l_step ?c_step ?k_step ?l_lled ?c_lled ?k_lled ?l_pairs ?c_pairs ?k_pairs ?l_asked ?c_asked ?k_asked ?l_least ?c_least ?k_least ?l_law ?c_law ?k_law ?t_NoRow ?xL_NoRow ?sa_NoRow ?ga_NoRow ?gg_NoRow ?kC_NoRow ?eC_NoRow ?tC_NoRow ?hC_NoRow ?ha_NoRow ?hm_NoRow ?t_TooLarge ?xL_TooLarge ?sa_TooLarge ?ga_TooLarge ?gg_TooLarge ?kC_TooLarge ?eC_TooLarge ?tC_TooLarge ?hC_TooLarge ?ha_TooLarge ?hm_TooLarge ?t_OtherDeeds ?xL_OtherDeeds ?sa_OtherDeeds ?ga_OtherDeeds ?gg_OtherDeeds ?kC_OtherDeeds ?eC_OtherDeeds ?tC_OtherDeeds ?hC_OtherDeeds ?ha_OtherDeeds ?hm_OtherDeeds ?t_BadWorld ?xL_BadWorld ?sa_BadWorld ?ga_BadWorld ?gg_BadWorld ?kC_BadWorld ?eC_BadWorld ?tC_BadWorld ?hC_BadWorld ?ha_BadWorld ?hm_BadWorld ?t_NoStanding ?xL_NoStanding ?sa_NoStanding ?ga_NoStanding ?gg_NoStanding ?kC_NoStanding ?eC_NoStanding ?tC_NoStanding ?hC_NoStanding ?ha_NoStanding ?hm_NoStanding ?mk_World ?mi_World ?mf_World ?mc_World ?pg_World ?hd_World ?po_World ?ps_World ?ia_World ?io_World ?im_World ?nf_World_deeds ?nf_World_size ?nf_World__moves ?es_World ?ef_World ?en_World ?qa_World_moves ?qg_World_moves ?qt_World_moves ?qR_World_moves ?mg_lcm ?hn_ ?ht_ ?z_xn_TooLarge_most ?z_xn_BadWorld_part ?z_e_BadWorld_OtherDeeds ?z_e_BadWorld_TooLarge ?z_e_NoRow_OtherDeeds ?z_e_NoRow_TooLarge ?z_e_NoStanding_OtherDeeds ?z_e_NoStanding_TooLarge ?z_e_OtherDeeds_OtherDeeds ?z_e_OtherDeeds_TooLarge ?z_e_TooLarge_OtherDeeds ?z_e_TooLarge_TooLarge ?v_MOST_STANDINGS ?v_MOST_BESIDE ?m_ValueError ?m_abs ?m_all ?m_bool ?m_dict ?m_enumerate ?m_int ?m_isinstance ?m_len ?m_list ?m_range ?m_sorted ?m_str ?m_sum ?m_tuple ?m_zip
    (case a_is_integer => k_is)
    (case a_is_integer_within => k_is)
    (case a_is_small_word => k_is)
    (case a_is_deeds => k_is)
    (case a_is_row => k_is)
    (case a_is_row_over => k_is)
    (case a_demand_row_over => k_is)
    (case a_demand_same_deeds => k_is)
    (case a_standing_still => k_is)
    (case a_followed => k_is)
    (case a_turned_back => k_is)
    (case a_rounds_of => k_is)
    (case a_order_of => k_is)
    (case a_letter_moves => k_is)
    (case a_row_move => k_is)
    (case a_world_of => k_is)
    (case a_led => k_is)
    (case a_move_of => k_is)
    (case a_order => k_is)
    (case a_beside => k_is)
    (case a_demand_standing => k_is)
    (case a_are_moves => k_is)
    (case a_is_move => k_is)
    (case a_pot => k_is)
    (case a_draw => k_is)
    (case a_any => k_is)
    (case a_deeds => k_is)
    (case a_letters => k_is)
    (case a_row => k_is)
    (case a_mixed => k_is)
    (case a_moves => k_is)
    (case a_step => k_is)
    (case a_lled => k_is)
    (case a_pairs => k_is)
    (case a_asked => k_is)
    (case a_least => k_is)
    (case a_law => k_is)
    (case aC_RunsError => k_is)
    (case aC_NoRow => k_is)
    (case aC_TooLarge => k_is)
    (case aC_OtherDeeds => k_is)
    (case aC_BadWorld => k_is)
    (case aC_NoStanding => k_is)
    (case aC_World => k_is)
    (case i_NoRow => k_is)
    (case i_TooLarge => k_is)
    (case i_OtherDeeds => k_is)
    (case i_BadWorld => k_is)
    (case i_NoStanding => k_is)
    (case mk_World => k_is)
    (case mi_World => k_is)
    (case mf_World => k_is)
    (case mc_World => k_is)
    (case pg_World => k_is)
    (case hd_World => k_is)
    (case po_World => k_is)
    (case ps_World => k_is)
    (case ia_World => k_is)
    (case io_World => k_is)
    (case im_World => exact if_pos (beq_self_eq_true _))
    (case nf_World_deeds => k_is)
    (case nf_World_size => k_is)
    (case nf_World__moves => k_is)
    (case es_World => k_is)
    (case ef_World => k_is)
    (case en_World => k_is)
    (case qa_World_moves => k_is)
    (case qg_World_moves => k_is)
    (case qt_World_moves => k_is)
    (case qR_World_moves => exact ⟨_, by k_is⟩)
    (case l_NoRow_init => k_is)
    (case c_NoRow_init => k_is)
    (case k_NoRow_init => k_is)
    (case l_TooLarge_init => k_is)
    (case c_TooLarge_init => k_is)
    (case k_TooLarge_init => k_is)
    (case l_OtherDeeds_init => k_is)
    (case c_OtherDeeds_init => k_is)
    (case k_OtherDeeds_init => k_is)
    (case l_BadWorld_init => k_is)
    (case c_BadWorld_init => k_is)
    (case k_BadWorld_init => k_is)
    (case l_NoStanding_init => k_is)
    (case c_NoStanding_init => k_is)
    (case k_NoStanding_init => k_is)
    (case l_is_integer => k_is)
    (case c_is_integer => k_is)
    (case k_is_integer => k_is)
    (case l_is_integer_within => k_is)
    (case c_is_integer_within => k_is)
    (case k_is_integer_within => k_is)
    (case l_is_small_word => k_is)
    (case c_is_small_word => k_is)
    (case k_is_small_word => k_is)
    (case l_is_deeds => k_is)
    (case c_is_deeds => k_is)
    (case k_is_deeds => k_is)
    (case l_is_row => k_is)
    (case c_is_row => k_is)
    (case k_is_row => k_is)
    (case l_is_row_over => k_is)
    (case c_is_row_over => k_is)
    (case k_is_row_over => k_is)
    (case l_demand_row_over => k_is)
    (case c_demand_row_over => k_is)
    (case k_demand_row_over => k_is)
    (case l_demand_same_deeds => k_is)
    (case c_demand_same_deeds => k_is)
    (case k_demand_same_deeds => k_is)
    (case l_standing_still => k_is)
    (case c_standing_still => k_is)
    (case k_standing_still => k_is)
    (case l_followed => k_is)
    (case c_followed => k_is)
    (case k_followed => k_is)
    (case l_turned_back => k_is)
    (case c_turned_back => k_is)
    (case k_turned_back => k_is)
    (case l_rounds_of => k_is)
    (case c_rounds_of => k_is)
    (case k_rounds_of => k_is)
    (case l_order_of => k_is)
    (case c_order_of => k_is)
    (case k_order_of => k_is)
    (case l_letter_moves => k_is)
    (case c_letter_moves => k_is)
    (case k_letter_moves => k_is)
    (case l_row_move => k_is)
    (case c_row_move => k_is)
    (case k_row_move => k_is)
    (case l_World_init => k_is)
    (case c_World_init => k_is)
    (case k_World_init => k_is)
    (case l_World_moves => k_is)
    (case c_World_moves => k_is)
    (case k_World_moves => k_is)
    (case l_World__eq_ => k_is)
    (case c_World__eq_ => k_is)
    (case k_World__eq_ => k_is)
    (case l_world_of => k_is)
    (case c_world_of => k_is)
    (case k_world_of => k_is)
    (case l_led => k_is)
    (case c_led => k_is)
    (case k_led => k_is)
    (case l_move_of => k_is)
    (case c_move_of => k_is)
    (case k_move_of => k_is)
    (case l_order => k_is)
    (case c_order => k_is)
    (case k_order => k_is)
    (case l_beside => k_is)
    (case c_beside => k_is)
    (case k_beside => k_is)
    (case l_demand_standing => k_is)
    (case c_demand_standing => k_is)
    (case k_demand_standing => k_is)
    (case l_are_moves => k_is)
    (case c_are_moves => k_is)
    (case k_are_moves => k_is)
    (case l_is_move => k_is)
    (case c_is_move => k_is)
    (case k_is_move => k_is)
    (case l_pot => k_is)
    (case c_pot => k_is)
    (case k_pot => k_is)
    (case l_draw => k_is)
    (case c_draw => k_is)
    (case k_draw => k_is)
    (case l_any => k_is)
    (case c_any => k_is)
    (case k_any => k_is)
    (case l_deeds => k_is)
    (case c_deeds => k_is)
    (case k_deeds => k_is)
    (case l_letters => k_is)
    (case c_letters => k_is)
    (case k_letters => k_is)
    (case l_row => k_is)
    (case c_row => k_is)
    (case k_row => k_is)
    (case l_mixed => k_is)
    (case c_mixed => k_is)
    (case k_mixed => k_is)
    (case l_moves => k_is)
    (case c_moves => k_is)
    (case k_moves => k_is)
    (case l_step => k_is)
    (case c_step => k_is)
    (case k_step => k_is)
    (case l_lled => k_is)
    (case c_lled => k_is)
    (case k_lled => k_is)
    (case l_pairs => k_is)
    (case c_pairs => k_is)
    (case k_pairs => k_is)
    (case l_asked => k_is)
    (case c_asked => k_is)
    (case k_asked => k_is)
    (case l_least => k_is)
    (case c_least => k_is)
    (case k_least => k_is)
    (case l_law => k_is)
    (case c_law => k_is)
    (case k_law => k_is)
    (case t_NoRow => k_is)
    (case xL_NoRow => exact ⟨_, _, _, _, [.ref _, .type "ValueError", .type "Exception", .type "BaseException", .type "object"], _, _, _, _, _, _, _, _, _, _, by k_is, by decide +kernel⟩)
    (case sa_NoRow => k_is)
    (case ga_NoRow => k_is)
    (case gg_NoRow => k_is)
    (case kC_NoRow => k_is)
    (case eC_NoRow => k_is)
    (case tC_NoRow => k_is)
    (case hC_NoRow => k_is)
    (case ha_NoRow => k_is)
    (case hm_NoRow => k_is)
    (case t_TooLarge => k_is)
    (case xL_TooLarge => exact ⟨_, _, _, _, [.ref _, .type "ValueError", .type "Exception", .type "BaseException", .type "object"], _, _, _, _, _, _, _, _, _, _, by k_is, by decide +kernel⟩)
    (case sa_TooLarge => k_is)
    (case ga_TooLarge => k_is)
    (case gg_TooLarge => k_is)
    (case kC_TooLarge => k_is)
    (case eC_TooLarge => k_is)
    (case tC_TooLarge => k_is)
    (case hC_TooLarge => k_is)
    (case ha_TooLarge => k_is)
    (case hm_TooLarge => k_is)
    (case t_OtherDeeds => k_is)
    (case xL_OtherDeeds => exact ⟨_, _, _, _, [.ref _, .type "ValueError", .type "Exception", .type "BaseException", .type "object"], _, _, _, _, _, _, _, _, _, _, by k_is, by decide +kernel⟩)
    (case sa_OtherDeeds => k_is)
    (case ga_OtherDeeds => k_is)
    (case gg_OtherDeeds => k_is)
    (case kC_OtherDeeds => k_is)
    (case eC_OtherDeeds => k_is)
    (case tC_OtherDeeds => k_is)
    (case hC_OtherDeeds => k_is)
    (case ha_OtherDeeds => k_is)
    (case hm_OtherDeeds => k_is)
    (case t_BadWorld => k_is)
    (case xL_BadWorld => exact ⟨_, _, _, _, [.ref _, .type "ValueError", .type "Exception", .type "BaseException", .type "object"], _, _, _, _, _, _, _, _, _, _, by k_is, by decide +kernel⟩)
    (case sa_BadWorld => k_is)
    (case ga_BadWorld => k_is)
    (case gg_BadWorld => k_is)
    (case kC_BadWorld => k_is)
    (case eC_BadWorld => k_is)
    (case tC_BadWorld => k_is)
    (case hC_BadWorld => k_is)
    (case ha_BadWorld => k_is)
    (case hm_BadWorld => k_is)
    (case t_NoStanding => k_is)
    (case xL_NoStanding => exact ⟨_, _, _, _, [.ref _, .type "ValueError", .type "Exception", .type "BaseException", .type "object"], _, _, _, _, _, _, _, _, _, _, by k_is, by decide +kernel⟩)
    (case sa_NoStanding => k_is)
    (case ga_NoStanding => k_is)
    (case gg_NoStanding => k_is)
    (case kC_NoStanding => k_is)
    (case eC_NoStanding => k_is)
    (case tC_NoStanding => k_is)
    (case hC_NoStanding => k_is)
    (case ha_NoStanding => k_is)
    (case hm_NoStanding => k_is)
    (case mg_lcm => k_is)
    (case hn_ => k_is)
    (case ht_ => k_is)
    (case z_xn_TooLarge_most => first | rfl | k_is)
    (case z_xn_BadWorld_part => first | rfl | k_is)
    (case z_e_BadWorld_OtherDeeds => first | rfl | k_is)
    (case z_e_BadWorld_TooLarge => first | rfl | k_is)
    (case z_e_NoRow_OtherDeeds => first | rfl | k_is)
    (case z_e_NoRow_TooLarge => first | rfl | k_is)
    (case z_e_NoStanding_OtherDeeds => first | rfl | k_is)
    (case z_e_NoStanding_TooLarge => first | rfl | k_is)
    (case z_e_OtherDeeds_OtherDeeds => first | rfl | k_is)
    (case z_e_OtherDeeds_TooLarge => first | rfl | k_is)
    (case z_e_TooLarge_OtherDeeds => first | rfl | k_is)
    (case z_e_TooLarge_TooLarge => first | rfl | k_is)
    (case v_MOST_STANDINGS => k_is)
    (case v_MOST_BESIDE => k_is)
    (case m_ValueError => k_is)
    (case m_abs => k_is)
    (case m_all => k_is)
    (case m_bool => k_is)
    (case m_dict => k_is)
    (case m_enumerate => k_is)
    (case m_int => k_is)
    (case m_isinstance => k_is)
    (case m_len => k_is)
    (case m_list => k_is)
    (case m_range => k_is)
    (case m_sorted => k_is)
    (case m_str => k_is)
    (case m_sum => k_is)
    (case m_tuple => k_is)
    (case m_zip => k_is)
#print axioms PySem.Challenge.cw_runsback_k41_whole_worlds_side_by_side_holds
