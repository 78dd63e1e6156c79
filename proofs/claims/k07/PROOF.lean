import PyProof.Rows.All
import Wide.All
import OpenK.AllK
import Wide.FinOn
import KE.KRevSl
import HandS.ForMost
import HandS.ForExc
import HandS.StrMore
import HandS.Wide
import HandS.IsInst
import HandS.ExcInit
import HandS.ExcIs
import HandS.TryMany
import HandS.Style
import HandS.Codes
import KE.LtData
import HandS.Walk
import HandS.Zip
import KE.GoesMore
import KE.GoesEnum
import KE.GoesZip
import HandS.SortInts
import HandS.DictComp
import HandS.Strs
import HandS.Conv
import HandS.Property
import HandS.OwnEq
import KE.KMathG
import KE.KEqDict
import HandS.ExcValue
import PyProof.CollectStr
import PyProof.Rows.SortStr
import PyProof.Rows.SortKeyStr
import HandS.ExcField
import PyProof.Rows.TupAdd
import HandS.More
import HandS.Flow
import HandS.TupAny
import KE.KDictCopyH
import PyProof.Rows.SortShellAny
import PySem.Challenge.RW_runsback_k07_whole_rows_along_flows
set_option Elab.async false
set_option linter.all false
set_option maxRecDepth 100000
set_option maxHeartbeats 8000000
/-! Further rules over the hand layer: swapcase, text[::-1], an exception made by C(), several except clauses with names, list(text). -/
namespace L2
open PySem PySem.Spec PyProof.Rows
theorem mt_swapcase {X : Cx} : MtR X "str.swapcase" (fun x xs H Q => ∃ a, x = .str a ∧ xs = [] ∧ a.length ≤ 5592405 ∧ Q (.str (Txt.swapcase a)) H) :=
  mt0 (C := fun a => a.length ≤ 5592405) (g := fun a => .str (Txt.swapcase a)) fun a _ s _ fits go => PyProof.Rows.SCL.swapcase fits fun _ => go _ (s.toks + 1) ⟨_, rfl⟩
/-! ### text[::-1] -/
def revS (z : Str) : Str := ⟨z.cps.toList.reverse.toArray⟩
def tRevS (te : TE) : TE := fun σ H Q => te σ H fun x H1 => ∃ z, x = .str z ∧ z.length ≤ sizeLine ∧ Q (.str (revS z)) H1
theorem rev_picked (z : Str) : ((Builtin.Str.strSliceIndices none none (-1) z.length).filterMap (z.cps[·]?)).toArray = (revS z).cps := by
  have e : Builtin.Str.strSliceIndices none none (-1) z.cps.size = sliceRange ((z.cps.size : Int) - 1) (-1) (-1) := rfl
  rw [show z.length = z.cps.size from rfl, e, PySem.W.krv_sliceRange, PySem.W.krv_range, List.filterMap_reverse, PySem.W.krv_all]; rfl
theorem pe_revS {X : Cx} {e : Expr} {te : TE} {k : Nat} {p1 p2 p3 pos : Pos} (he : PE X e te) : PE X (.Subscript e (.Slice none none (some (.UnaryOp .USub (.Constant (.int 1) k p1) p2)) p3) pos) (tRevS te) := by
  constructor
  intro pins s0 σ H Q I0 hw
  apply Subscript_
  refine thn (he.run pins s0 σ H _ I0 hw) ?_
  rintro v sA ⟨x, HA, IA, rA, z, rfl, fits, goal⟩
  obtain ⟨tok, rfl⟩ := rA
  apply wpAny_Slice
  rw [evalPart_none]
  apply wpAny_pure; apply wpAny_pure
  have last : PO X (some (.UnaryOp .USub (.Constant (.int 1) k p1) p2)) (tPart (tUn (rU fun i => .int (-i)) (tC (.int 1)))) := po_some (pe_un un_neg pe_int)
  refine thn (last.run pins sA σ HA (fun o HB => o = some (-1) ∧ HB = HA) IA ⟨1, rfl, -1, rfl, rfl, rfl⟩) ?_
  rintro vs sB ⟨o, HB, IB, part, rfl, rfl⟩
  obtain ⟨st, rfl, est⟩ := IsPart.raw part
  have IC : Inv X pins σ HB { sB with heap := sB.heap.push { cls := .type "slice", data := .fields #[.none, .none, partValue st] } } :=
    IB.kept (t' := sB.toks) fun _ _ there => Heap.get?_push_of_some _ there
  match st, est with
  | some (_, stok), rfl =>
    refine tail_any (ops := [.str z tok, .ref sB.heap.objs.size]) (typeIs_str _ _ _) F.slot_str_getitem.lookup ?_ (by with_unfolding_all rfl)
    refine wpAny_getItem_str_slice (l := none) (u := none) (st := some (-1, stok)) ⟨_, Heap.get?_push_size _ rfl, rfl, rfl⟩ rfl ?_
    show Made.post (if ((-1 : Int) == 1 && _) = true then Made.val (.str z tok) else Made.str ⟨((Builtin.Str.strSliceIndices none none (-1) z.length).filterMap (z.cps[·]?)).toArray⟩) _ _
    rw [if_neg (by simp), rev_picked]
    refine ⟨?_, .str _, HB, IC.tok _, ⟨_, rfl⟩, goal⟩
    have f2 : z.cps.size ≤ sizeLine := fits
    show z.cps.toList.reverse.toArray.size ≤ sizeLine
    simpa using f2
/-! ### C(), where __init__ does nothing: the new exception is let go with nothing stored -/
section
variable {X : Cx} {pins : List (Addr × Obj)} {σ : St} {H1 : Hp} {hp hp2 h2 : Heap} {a C : Addr}
/-- what stands at a is no part of what is tracked elsewhere -/
theorem exo_apart {c : Addr} {o : HO} (ho : o ≠ exo a C none) (e : upd H1 a (exo a C none) c = some o) : c ≠ a ∧ H1 c = some o := by
  by_cases z : c = a
  · rw [z, upd_same] at e; exact absurd (Option.some.inj e).symm ho
  · rw [upd_ne z] at e; exact ⟨z, e⟩
theorem hok_without {P : Program} {w : World} (hn : H1 a = none) (ok : HOk P w (upd H1 a (exo a C none)) h2) {G : Heap} (same : ∀ b, b ≠ a → G.get? b = h2.get? b) : HOk P w H1 G := by
  intro b o tracked
  have apart : b ≠ a := ne_of_none tracked hn
  have here : upd H1 a (exo a C none) b = some o := (upd_ne apart).trans tracked
  refine (ok b o here).stay ?_ ?_ ?_
  · rintro c v (rfl | owns) there
    · exact (same _ apart).trans there
    · exact (same c (exo_apart (fun z => exo_own z.symm) owns).1).trans there
  · exact fun c owns => (exo_apart (fun z => exo_own z.symm) owns).2
  · exact fun c xs tup => (exo_apart (fun z => exo_tup z.symm) tup).2
theorem un_without {fs : List Addr} (new : hp.objs.size ≤ a) (k : ∀ b o, hp.get? b = some o → hp2.get? b = some o) (un : Un fs [] (upd H1 a (exo a C none)) (upd H1 a (exo a C none)) hp2 h2) {G : Heap} (same : ∀ b, b ≠ a → G.get? b = h2.get? b) :
    Un fs [] H1 H1 hp G := by
  have far : ∀ b o, hp.get? b = some o → b ≠ a := fun b o there z => absurd (Heap.lt_size there) (by rw [z]; exact Nat.not_lt.mpr new)
  have free : ∀ b o, hp.get? b = some o → H1 b = none → upd H1 a (exo a C none) b = none := fun b o there z => (upd_ne (far b o there)).trans z
  refine ⟨fun b o there z f x => (same b (far b o there)).trans (un.keep b o (k b o there) (free b o there z) f x), fun b o there z f x => ?_, fun _ _ _ z _ => z, fun b o there x => ?_, fun _ _ z => z, fun _ _ _ z => z, fun _ _ z => ⟨#[], by rw [z]; simp⟩⟩
  · obtain ⟨sl, e⟩ := un.slot b o (k b o there) (free b o there z) f x
    exact ⟨sl, (same b (far b o there)).trans e⟩
  · obtain ⟨o', e⟩ := un.there b o (k b o there) x
    exact ⟨o', (same b (far b o there)).trans e⟩
theorem made_plain {Q : XK} {s1 : Shared} {g2 : Array GenState} {d2 : Drawn} {t2 : Nat} {os2 : OsState} (T : Raises X (.ref C)) (I1 : Inv X pins σ H1 s1) (new : s1.heap.objs.size ≤ a) (k : ∀ b o, s1.heap.get? b = some o → hp2.get? b = some o)
    (un : Un (frs X.stack) [] (upd H1 a (exo a C none)) (upd H1 a (exo a C none)) hp2 h2) (ok : HOk X.prog X.w (upd H1 a (exo a C none)) h2) (ho : os2 = s1.os) (hb : AllBare g2) (q : Q (.ref C) none H1) : MkP X pins σ Q (.ref a) ⟨h2, g2, d2, t2, os2⟩ := by
  obtain ⟨hp1, g1, d1, t1, os1⟩ := s1
  have hn : H1 a = none := I1.hok.fresh new
  obtain ⟨t0, obj⟩ := exo_at ok (e := a) (C := C) (d := none) upd_same
  obtain ⟨G, rest, gone⟩ := restrict h2 fun b => !decide (b = a)
  have same : ∀ b, b ≠ a → G.get? b = h2.get? b := fun b z => rest b (by simp [z])
  have away : G.get? a = none := gone a (by simp)
  have J : Inv X pins σ H1 ⟨G, g2, d2, t2, os2⟩ := I1.call' (ch := []) ho (un_without new k un same) (hok_without hn ok same) hb (fun _ z => absurd z (by simp))
  refine ⟨a, _, _, _, _, _, _, rfl, J, ?_, away, obj, ⟨rfl, rfl⟩, rfl, rfl, hn, rfl, hb, T, q⟩
  intro b o there
  have z : b ≠ a := fun z => by rw [z] at there; exact nomatch away.symm.trans there
  exact (same b z).symm.trans there
end
/-- __init__ that does nothing -/
def spPass : Sp := fun vs H Q _ => ∃ x : Addr, vs = [.ref x] ∧ Q .non H
theorem pmk_oexZ {X : Cx} {CX : CXT} {x : Str} {C fI : Addr} {k : Nat} {fd : FuncData} {ps : List Str} {p pos : Pos} (T : OexC X.K C) (iC : PySem.W.findIn X.K (.ref C) "__init__" = some (some (.ref fI))) (tI : PySem.W.typeIn X.K (.ref fI) = some (.type "function"))
    (F1 : FnOk X.prog X.w X.K X.mg X.base CX k fI fd ps spPass) (hr : Room (k + 1) X.A) (hb : Binds X.K fd ps []) (hx : Passes CX X (fun _ _ _ => False)) (hg : Gl X x) (hm : X.mg x = some (.ref C)) (hdb : (x == ("__debug__" : Str)) = false := by decide) :
    PMk X (.Call (.Name x p) [] [] pos) (fun _ H Q => Q (.ref C) none H) := by
  intro pins s σ H1 Q I1 goal
  obtain ⟨hp, g, dr, tk, os⟩ := s
  obtain ⟨nm, q, N, bs, bm, sn, sub, ab, col, dd, k0, k1, k2, k3, k5, hC, hbm⟩ := T.cls
  refine wpAny_Call_Name_kw (ld_glob I1 hg hm ?_ hdb)
  refine PySem.W.callWith_K0 I1.kIn T.kC ?_
  show wpAny _ _ (call (.ref C) []) _ _ _
  -- the new exception's place, and the heap with it
  generalize en : hp.objs.size + 1 = a
  have new : hp.objs.size ≤ a := by rw [← en]; exact Nat.le_succ _
  generalize eh : (hp.push (PySem.W.kdv_tup [])).push (PySem.HandSPX.excO C hp.objs.size) = hpA
  have kept : ∀ b o, hp.get? b = some o → hpA.get? b = some o := fun b o there => by rw [← eh]; exact Heap.get?_push_of_some _ (Heap.get?_push_of_some _ there)
  have there : hpA.get? a = some (PySem.HandSPX.excO C hp.objs.size) := by rw [← eh, ← en]; heap_get
  have I2 : Inv X pins σ (upd H1 a (exo a C none)) ⟨hpA, g, dr, tk, os⟩ := I1.laid (t' := tk) kept new (exo_ok there)
  have word : spPass [.ref a] (upd H1 a (exo a C none)) (fun v H2 => v = .non ∧ H2 = upd H1 a (exo a C none)) (fun _ _ _ => False) := ⟨_, rfl, rfl, rfl⟩
  have one : Vals [V.ref a] [Value.ref a] := .cons rfl .nil
  have hl : [Value.ref a].length = ps.length := one.length.symm.trans (F1.len _ _ _ _ word)
  have bind : BindsTo ⟨hpA, g, dr, tk, os⟩ fd ⟨[Value.ref a], []⟩ (ps.zip [Value.ref a]) := by simpa using hb ⟨hpA, g, dr, tk, os⟩ [Value.ref a] I2.kIn hl
  have run := F1.run _ X.stack _ _ ⟨[Value.ref a], []⟩ [Value.ref a] _ _ (fun _ _ _ => False) (hr.make C [] []) (I2.env0.make C [] []) bind one word
  subst eh
  subst en
  refine wpAny_call (PySem.HandSPX.call_own F.excBase_ValueError (fun Y => PySem.HandSPX.refsVE_contains Y bm hbm) (I1.kIn _ _ hC) (PySem.W.looks_findIn I1.kIn iC) (fun self => PySem.W.bind_fn I1.kIn self tI) (Nat.zero_le _) (codeAny_mono run fun r s' end_ => ?_))
  match r, end_ with
  | .error er, end_ => exact hx pins σ _ _ er s' I2 end_
  | .ok .next, end_ | .ok .brk, end_ | .ok .cont, end_ => exact end_.elim
  | .ok (.ret u), ⟨v, H2, os2, bare2, un2, ok2, rv, ev, eH⟩ =>
    subst ev
    subst eH
    exact ⟨rv, made_plain (raises_own T.exC T.tyC) I1 new kept un2 ok2 os2 bare2 goal⟩
theorem vals_by : ∀ (xs : List V) (us : List Value), xs.length = us.length → (∀ (j : Nat) (x : V) (v : Value), xs[j]? = some x → us[j]? = some v → RelV x v) → Vals xs us
  | [], [], _, _ => .nil
  | [], _ :: _, e, _ => by cases e
  | _ :: _, [], e, _ => by cases e
  | x :: xs, u :: us, e, h => .cons (h 0 x u rfl rfl) (vals_by xs us (by simpa using e) fun j y v h1 h2 => h (j + 1) y v h1 h2)
/-- list(a text): a text of one sign for each -/
theorem call_listS {X : Cx} (hc : X.calm = true) : CallR X (.type "list") (fun xs H Q => ∃ z : Str, xs = [.str z] ∧ z.length ≤ sizeLine ∧ ∀ p, H p = none → Q (.ref p) (upd H p (.lst (z.cps.toList.map fun c => V.str ⟨#[c]⟩)))) := by
  intro pins s σ H xs us Q I r word
  obtain ⟨z, rfl, hz, q⟩ := word; obtain ⟨u, rfl, t, rfl⟩ := vals1 r
  refine PySem.call_list_str (I.ok.hd hc) z t (fun h' tk acc' c' kp e it => ?_) hz
  have hsz : acc'.size = z.cps.size := it.1
  have hv : Vals (z.cps.toList.map fun c => V.str ⟨#[c]⟩) acc'.toList := by
    refine vals_by _ _ (by rw [List.length_map, Array.length_toList, Array.length_toList, hsz]) fun (j : Nat) x v h1 h2 => ?_
    obtain ⟨c, w2, hc2, rfl⟩ := it.2 j v (by simpa using h2)
    rw [List.getElem?_map, show z.cps.toList[j]? = some c by simpa using hc2] at h1
    cases h1
    exact ⟨w2, rfl⟩
  have e' : h'.get? s.heap.objs.size = some { cls := .type "list", dict := none, data := .seq acc'.toList.toArray c', slots := #[] } := e
  refine ⟨.ref s.heap.objs.size, _, I.laid (t' := tk) kp (Nat.le_refl _) (o := .lst (z.cps.toList.map fun c => V.str ⟨#[c]⟩)) ⟨?_, acc'.toList, c', hv, e'⟩, rfl, q _ (I.hok.fresh (Nat.le_refl _))⟩
  rw [List.length_map]
  exact hz

/-! ### several except clauses, with names or without -/
abbrev HdT := Value × Option Nat × (Addr → Value → Option Addr → TS)
def wManyA (K : PySem.W.Frag) (Wout : WX) (D : Ends) : List HdT → WX
  | [] => Wout
  | (c, none, ts) :: r => fun cls d σ H => ∃ b, PySem.W.exmOne K cls c = some b ∧ (b = true → ∀ a, H a = none → ts a cls d D σ H) ∧ (b = false → wManyA K Wout D r cls d σ H)
  | (c, some i, ts) :: r => fun cls d σ H => ∃ b, PySem.W.exmOne K cls c = some b ∧
      (b = true → ∀ a, H a = none → ts a cls d { nx := fun τ G => D.nx (τ.set i none) G, rt := D.rt, bk := fun τ G => D.bk (τ.set i none) G, ct := fun τ G => D.ct (τ.set i none) G } (σ.set i (some (.ref a))) H) ∧ (b = false → wManyA K Wout D r cls d σ H)
/-- an exception at a over the frame: the state it came from, the heap it stands in -/
structure Aloft (X : Cx) (pins : List (Addr × Obj)) (σ : St) (H : Hp) (old now : Shared) (B : Heap) (a : Addr) (cls : Value) (d : Option Addr) : Prop where
  inv : Inv X pins σ H old
  ground : ∀ b o, old.heap.get? b = some o → b ∉ frs X.stack → B.get? b = some o
  slots : old.heap.UpToSlots now.heap
  air : HandSPX.FlyingZ B (X.env :: X.outer) a (Zc cls d) now.heap
  free : H a = none
  sys : now.os = old.os
  gens : AllBare now.gens
section
variable {X : Cx} {pins : List (Addr × Obj)} {σ : St} {H : Hp} {old now : Shared} {B : Heap} {a : Addr} {cls : Value} {d : Option Addr}
theorem Aloft.at_ (x : Aloft X pins σ H old now B a cls d) : Inv X pins σ H now := x.inv.landed (s' := now) x.ground x.air.1 x.slots x.sys x.gens
theorem Aloft.further (x : Aloft X pins σ H old now B a cls d) {h : Heap} (up : now.heap.UpToSlots h) (fl : HandSPX.FlyingZ B (X.env :: X.outer) a (Zc cls d) h) : Aloft X pins σ H old { now with heap := h } B a cls d :=
  ⟨x.inv, x.ground, x.slots.trans up, fl, x.free, x.sys, x.gens⟩
/-- the clauses' own view: the exception is held -/
theorem Aloft.held (hf : X.env.frame = some X.env.locals) (hs : X.stack = X.env :: X.outer) (x : Aloft X pins σ H old now B a cls d) :
    ∃ oe, Zc cls d oe ∧ (∃ vs, oe.data = .fields vs) ∧ now.heap.get? a = some oe ∧ Inv (X.suite a ((a, oe) :: (X.pn ++ pins))) [] σ H now := by
  obtain ⟨oe, vs, at_, kind, data⟩ := x.air.there
  have noFrame : a ∉ frs (X.env :: X.outer) := fun m => by
    obtain ⟨_, o2, at2, other⟩ := x.air.2.2.1.mem m
    cases at_.symm.trans at2
    exact other _ data
  have nL : a ≠ X.env.locals := fun z => noFrame (List.mem_filterMap.mpr ⟨_, List.mem_cons_self, hf.trans (congrArg some z.symm)⟩)
  have nF : a ∉ X.fs := fun m => by
    obtain ⟨e, me, q⟩ := List.mem_filterMap.mp m
    exact noFrame (List.mem_filterMap.mpr ⟨e, List.mem_cons_of_mem _ me, q⟩)
  exact ⟨oe, kind, ⟨vs, data⟩, at_, x.at_.suite at_ data x.free nL nF⟩
end
/-- clauses, and what they wish of an exception -/
def PH (X : Cx) (hds : List ExceptHandler) (w : Ends → WX) : Prop := ∀ {pins : List (Addr × Obj)} {σ : St} {H : Hp} {old now : Shared} {B : Heap} {a : Addr} {cls : Value} {d : Option Addr} (D : Ends),
  Aloft X pins σ H old now B a cls d → w D cls d σ H → wpAny (model X.prog X.w) X.A (handleBy (.ref a) X.env hds) (SP X pins D) X.xe now
section
variable {X : Cx} {hds : List ExceptHandler} {Wout : WX} {l : List HdT} {x n : Str} {c : Value} {ts : Addr → Value → Option Addr → TS} {b₀ : Stmt} {suite : List Stmt} {np pos' : Pos}
theorem ph_nil (hf : X.env.frame = some X.env.locals) (hs : X.stack = X.env :: X.outer) (tk : Takes X Wout) : PH X [] (fun D => wManyA X.K Wout D []) := by
  intro pins σ H old now B a cls d D x wish
  apply wpAny_handleBy_nil
  obtain ⟨_, _, _, oe, vs, T, oT, ts', at_, kind, data, first, _⟩ := id x.air
  have out : wpAny (model X.prog X.w) X.A (setFlight (.ref a) X.env.frame) (fun _ s4 => wpAny (model X.prog X.w) X.A (throw (.ref a) : Sem Flow) (SP X pins D) X.xe s4) X.xe now := by
    rw [hf]
    refine HandSPX.setFlight_upZ x.air fun h held up => ?_
    refine wpAny_throw (tk _ _ ⟨a, B, old, pins, σ, H, cls, d, rfl, x.inv, x.ground, x.slots.trans up, .inr (.inr ?_), x.free, x.sys, x.gens, wish⟩)
    rw [hs]; exact held
  unfold PySem.passOn
  refine wpAny_bind (wpAny_field at_ data first ?_)
  have notNone : (Value.ref T == Value.none) ≠ true := by simp
  rw [if_neg notNone]
  first | exact wpAny_bind out | exact wpAny_bind (wpAny_pure (wpAny_bind out))
/-- the class of a clause is looked up -/
theorem load_cls {Y : Cx} {pins : List (Addr × Obj)} {σ : St} {H : Hp} {s : Shared} (J : Inv Y pins σ H s) (hc : Names Y x c) {Q E : Value → Shared → Prop} (q : Q c s) : wpAny (model Y.prog Y.w) Y.A (eval (.Name x np) Y.env) Q E s := by
  obtain ⟨glob, dbg, own | ⟨none_, boot, named⟩⟩ := hc
  · exact ld_glob J glob own q dbg
  · exact ld_blt J glob none_ boot q named dbg
theorem ph_cons (hf : X.env.frame = some X.env.locals) (hs : X.stack = X.env :: X.outer) (ok : X.Ok) (hc : Names X x c)
    (hsu : ∀ (a : Addr) (oe : Obj) (cls : Value) (d : Option Addr) (pn : List (Addr × Obj)), Zc cls d oe → (∃ vs, oe.data = .fields vs) → PSs (X.suite a ((a, oe) :: pn)) (b₀ :: suite) (ts a cls d))
    (rest : PH X hds fun D => wManyA X.K Wout D l) : PH X (.ExceptHandler (some (.Name x np)) none (b₀ :: suite) pos' :: hds) (fun D => wManyA X.K Wout D ((c, none, ts) :: l)) := by
  intro pins σ H old now B a cls d D y wish
  obtain ⟨b, said, yes, no⟩ := wish
  obtain ⟨oe, kind, data, at_, S⟩ := y.held hf hs
  have type : PySem.W.Looks (model X.prog X.w) now.heap (typeOf (.ref a)) cls := fun _ _ _ _ keep q => wpAny_typeOf_ref (keep _ _ at_) (kind.1.symm ▸ q)
  have answer := PySem.W.exm_one (M := model X.prog X.w) y.at_.kIn type said
  refine wpAny_handleBy_cons (codeAny_handlers_test (load_cls (Y := X.suite a ((a, oe) :: (X.pn ++ pins))) S hc (answer.here ?_))) (fun q => nomatch q)
  match b, yes, no with
  | false, _, no => exact rest D y (no rfl)
  | true, yes, _ =>
    refine codeAny_handlers_suite (HandSPX.lands_againZ y.air fun h fl up => ?_)
    obtain ⟨oe2, kind2, data2, _, S2⟩ := (y.further up fl).held hf hs
    refine wpAny_mono ((hsu a oe2 cls d (X.pn ++ pins) kind2 data2).run [] _ σ H _ S2 (yes rfl a y.free)) (fun f s6 end_ => ?_) (fun _ _ z => z.elim)
    match f, end_ with
    | .next, ⟨_, _, J, q⟩ | .brk, ⟨_, _, J, q⟩ | .cont, ⟨_, _, J, q⟩ => exact ⟨_, _, J.unsuite ok, q⟩
    | .ret _, ⟨_, _, _, J, r, q⟩ => exact ⟨_, _, _, J.unsuite ok, r, q⟩
theorem ph_consN {i : Nat} (hf : X.env.frame = some X.env.locals) (hs : X.stack = X.env :: X.outer) (ok : X.Ok) (hc : Names X x c) (hN : X.N.Nodup) (hi : X.N[i]? = some n) (hln : X.env.kindOf n = some .local)
    (hsu : ∀ (a : Addr) (oe : Obj) (cls : Value) (d : Option Addr) (pn : List (Addr × Obj)), Zc cls d oe → (∃ vs, oe.data = .fields vs) → PSs (X.suite a ((a, oe) :: pn)) (b₀ :: suite) (ts a cls d))
    (rest : PH X hds fun D => wManyA X.K Wout D l) : PH X (.ExceptHandler (some (.Name x np)) (some n) (b₀ :: suite) pos' :: hds) (fun D => wManyA X.K Wout D ((c, some i, ts) :: l)) := by
  intro pins σ H old now B a cls d D y wish
  obtain ⟨b, said, yes, no⟩ := wish
  obtain ⟨oe, kind, data, at_, S⟩ := y.held hf hs
  have type : PySem.W.Looks (model X.prog X.w) now.heap (typeOf (.ref a)) cls := fun _ _ _ _ keep q => wpAny_typeOf_ref (keep _ _ at_) (kind.1.symm ▸ q)
  have answer := PySem.W.exm_one (M := model X.prog X.w) y.at_.kIn type said
  refine wpAny_handleBy_cons (codeAny_handlers_test (load_cls (Y := X.suite a ((a, oe) :: (X.pn ++ pins))) S hc (answer.here ?_))) (fun q => nomatch q)
  match b, yes, no with
  | false, _, no => exact rest D y (no rfl)
  | true, yes, _ =>
    refine codeAny_handlers_suite_as (HandSPX.lands_againZ y.air fun h fl up => ?_)
    obtain ⟨oe2, kind2, data2, _, S2⟩ := (y.further up fl).held hf hs
    refine store_ok (X := X.suite a ((a, oe2) :: (X.pn ++ pins))) (v := .ref a) S2 hN hi (.inl hln) rfl (fun s5 S5 => ?_) (.inr hln)
    refine wpAny_mono ((hsu a oe2 cls d (X.pn ++ pins) kind2 data2).run [] s5 _ H _ S5 (yes rfl a y.free)) (fun f s6 end_ => ?_) (fun _ _ z => z.elim)
    match f, end_ with
    | .next, ⟨_, _, J, q⟩ | .brk, ⟨_, _, J, q⟩ | .cont, ⟨_, _, J, q⟩ => exact gone_ok (J.unsuite ok) hN hi hln fun _ J7 => ⟨_, _, J7, q⟩
    | .ret _, ⟨_, _, _, J, r, q⟩ => exact gone_ok (J.unsuite ok) hN hi hln fun _ J7 => ⟨_, _, _, J7, r, q⟩
end
/-- the clauses of a try, one by one -/
inductive HdsA (X : Cx) : List ExceptHandler → List HdT → Prop
  | nil : HdsA X [] []
  | cons {x : Str} {c : Value} {ts : Addr → Value → Option Addr → TS} {b₀ : Stmt} {suite : List Stmt} {np pos' : Pos} {hds : List ExceptHandler} {l : List HdT} (hc : Names X x c)
      (hsu : ∀ (a : Addr) (oe : Obj) (cls : Value) (d : Option Addr) (pn : List (Addr × Obj)), Zc cls d oe → (∃ vs, oe.data = .fields vs) → PSs (X.suite a ((a, oe) :: pn)) (b₀ :: suite) (ts a cls d)) (r : HdsA X hds l) : HdsA X (.ExceptHandler (some (.Name x np)) none (b₀ :: suite) pos' :: hds) ((c, none, ts) :: l)
  | consN {x n : Str} {i : Nat} {c : Value} {ts : Addr → Value → Option Addr → TS} {b₀ : Stmt} {suite : List Stmt} {np pos' : Pos} {hds : List ExceptHandler} {l : List HdT} (hc : Names X x c) (hN : X.N.Nodup) (hi : X.N[i]? = some n) (hln : X.env.kindOf n = some .local)
      (hsu : ∀ (a : Addr) (oe : Obj) (cls : Value) (d : Option Addr) (pn : List (Addr × Obj)), Zc cls d oe → (∃ vs, oe.data = .fields vs) → PSs (X.suite a ((a, oe) :: pn)) (b₀ :: suite) (ts a cls d)) (r : HdsA X hds l) : HdsA X (.ExceptHandler (some (.Name x np)) (some n) (b₀ :: suite) pos' :: hds) ((c, some i, ts) :: l)
theorem HdsA.ph {X : Cx} {hds : List ExceptHandler} {l : List HdT} {Wout : WX} (hf : X.env.frame = some X.env.locals) (hs : X.stack = X.env :: X.outer) (ok : X.Ok) (tk : Takes X Wout) (hh : HdsA X hds l) : PH X hds fun D => wManyA X.K Wout D l := by
  induction hh with
  | nil => exact ph_nil hf hs tk
  | cons hc hsu _ ih => exact ph_cons hf hs ok hc hsu ih
  | consN hc hN hi hln hsu _ ih => exact ph_consN hf hs ok hc hN hi hln hsu ih
theorem ps_try_manyA {X : Cx} {body : List Stmt} {h₀ : ExceptHandler} {hds : List ExceptHandler} {l : List HdT} {pos : Pos} {tb : WX → TS} {Wout : WX} (hs : X.stack = X.env :: X.outer) (hf : X.env.frame = some X.env.locals) (tk : Takes X Wout)
    (hb : ∀ (W : WX) (pn : List (Addr × Obj)) (xe : Value → Shared → Prop), Takes (X.tr pn xe) W → PassesOwn (model X.prog X.w) X.A X.env xe → PSs (X.tr pn xe) body (tb W)) (hh : HdsA X (h₀ :: hds) l) :
    PS X (.Try body (h₀ :: hds) [] [] pos) (fun D σ H => tb (wManyA X.K Wout D l) D σ H) := by
  constructor
  intro pins s σ H D I wish
  apply wpAny_Try_except
  have ok := I.ok
  have clauses : PH X (h₀ :: hds) fun D => wManyA X.K Wout D l := HdsA.ph hf hs ok tk hh
  -- what is done with what the body lets out
  let xe : Value → Shared → Prop := fun e s1 => wpAny (model X.prog X.w) X.A (noteFrame e X.env) (fun _ s2 => wpAny (model X.prog X.w) X.A (setFlight e none) (fun _ s3 => wpAny (model X.prog X.w) X.A (handleBy e X.env (h₀ :: hds)) (SP X pins D) X.xe s3) X.xe s2) X.xe s1
  have takes : Takes (X.tr (X.pn ++ pins) xe) (wManyA X.K Wout D l) := by
    rintro u s1 ⟨a, B, old, pins1, τ, G, cls, d, rfl, J, ground, up, sky, free, sys, gens, w⟩
    have sky2 : Sky B (X.env :: X.outer) a (Zc cls d) X.env.locals s1.heap := by rw [← hs]; exact sky
    refine Sky.land Zc.steady (by rw [ok.frames, hs]) hf sky2 fun h fl up2 => ?_
    exact clauses D ⟨J.ofTry ok, ground, up.trans up2, fl, free, sys, gens⟩ w
  refine wpAny_mono ((hb (wManyA X.K Wout D l) (X.pn ++ pins) xe takes PassesOwn.looking).run [] s σ H D (I.toTry _) wish) (fun f s1 end_ => ?_) (fun _ _ z => z)
  match f, end_ with
  | .next, ⟨τ, G, J, q⟩ => exact wpAny_execs_nil ⟨τ, G, J.ofTry ok, q⟩
  | .brk, ⟨τ, G, J, q⟩ | .cont, ⟨τ, G, J, q⟩ => exact ⟨τ, G, J.ofTry ok, q⟩
  | .ret _, ⟨v, τ, G, J, r, q⟩ => exact ⟨v, τ, G, J.ofTry ok, r, q⟩
end L2
/-! The rules with the written part by its own name. -/
namespace L2
open PySem PySem.Spec PyProof.Rows
section
variable {X : Cx} {K : PySem.W.Frag}
theorem ixL (e : X.K = K) : IxR X (rIxL K) := e ▸ ix_list
theorem ixT (e : X.K = K) : IxR X (rIxT K) := e ▸ ix_tup
theorem ixQ (e : X.K = K) : IxR X (rIx K) := e ▸ ix_seq
theorem slL (e : X.K = K) : SlR X (rSlL K) := e ▸ sl_list
theorem slT (e : X.K = K) : SlR X (rSlT K) := e ▸ sl_tup
theorem inQ (e : X.K = K) : OpR X (compareOp .In) (rIn K false) := e ▸ op_in_seq
theorem niQ (e : X.K = K) : OpR X (compareOp .NotIn) (rIn K true) := e ▸ op_notIn_seq
theorem catT (e : X.K = K) : OpR X (binaryOp .Add) (rCatT K) := e ▸ op_catT
theorem eqD (e : X.K = K) (hu : X.A.units + 64 < cLine) : OpR X (compareOp .Eq) (rEqD K) := e ▸ op_eqD hu
theorem neD (e : X.K = K) (hu : X.A.units + 64 < cLine) : OpR X (compareOp .NotEq) (rNeD K) := e ▸ op_neD hu
def rLenQ (K : PySem.W.Frag) : List V → Hp → VK → Prop := fun xs H Q => ∃ p ys, xs = [.ref p] ∧ (SqL K H p ys ∨ SqT K H p ys) ∧ Q (.int ys.length) H
theorem clen (e : X.K = K) : CallR X (.builtin "len") (rLenQ K) := e ▸ call_len_seq
def rLenText : List V → Hp → VK → Prop := fun vs H Q => ∃ z, vs = [.str z] ∧ z.length ≤ sizeLine ∧ Q (.int z.length) H
theorem clenS : CallR X (.builtin "len") rLenText := call_len_str
def rLstQ (K : PySem.W.Frag) : List V → Hp → VK → Prop := fun xs H Q => ∃ p ys, xs = [.ref p] ∧ (SqL K H p ys ∨ SqT K H p ys) ∧ ∀ l, H l = none → Q (.ref l) (upd H l (.lst ys))
theorem clist (e : X.K = K) : CallR X (.type "list") (rLstQ K) := e ▸ call_list_of
def rTupQ (K : PySem.W.Frag) : List V → Hp → VK → Prop := fun xs H Q => ∃ p ys, xs = [.ref p] ∧ ((SqL K H p ys ∧ ∀ l, H l = none → Q (.ref l) (upd H l (.tup ys))) ∨ (SqT K H p ys ∧ Q (.ref p) H))
theorem ctuple (e : X.K = K) : CallR X (.type "tuple") (rTupQ K) := e ▸ call_tuple_of
theorem cisi (e : X.K = K) : CallR X (.builtin "isinstance") (rIsi K) := e ▸ call_isi
theorem cisiT (e : X.K = K) : CallR X (.builtin "isinstance") (rIsiT K) := e ▸ call_isiT
theorem csum (e : X.K = K) (hc : X.calm = true) : CallR X (.builtin "sum") (rSum K) := e ▸ cr_sum hc
theorem cany (e : X.K = K) (hc : X.calm = true) : CallR X (.builtin "any") (rAny K) := e ▸ cr_any hc
theorem call_ (e : X.K = K) (hc : X.calm = true) : CallR X (.builtin "all") (rAll K) := e ▸ cr_all hc
theorem cmax (e : X.K = K) (hc : X.calm = true) : CallR X (.builtin "max") (rMax K) := e ▸ cr_max hc
theorem cmin (e : X.K = K) (hc : X.calm = true) : CallR X (.builtin "min") (rMin K) := e ▸ cr_min hc
def rJoinQ (K : PySem.W.Frag) : V → List V → Hp → VK → Prop := fun x xs H Q => ∃ a p, ∃ ys : List Str, x = .str a ∧ xs = [.ref p] ∧ (SqL K H p (ys.map V.str) ∨ SqT K H p (ys.map V.str)) ∧ (ys.map (·.length)).sum + ys.length * a.length ≤ 16777216 ∧ Q (.str (Txt.join a ys)) H
theorem mjoin (e : X.K = K) : MtR X "str.join" (rJoinQ K) := e ▸ mt_join
section
variable {T name id : String} {r : V → List V → Hp → VK → Prop} {o e : Expr} {es : List Expr} {to : TE} {t : TA} {apos cpos : Pos}
theorem pbm (q : X.K = K) (pa : PlainAttrs T) (slot : Slot T name id) (hty : typeOf (.builtin id) = pure (.type "method_descriptor")) (hm : MtR X id r) (ho : PE X o to) (ha : PA X (e :: es) t)
    (hbase : attributeBase o name X.env (eval o X.env) = eval o X.env := by rfl) (hfew : ((backTo cpos (starEach (e :: es) X.env)).all (fun x => !x.1) && (backToKw cpos (keywordEach [] X.env)).all (fun x => x.1.isSome) && decide ((e :: es).length + ([] : List Keyword).length + (if ([] : List Keyword).isEmpty then 0 else 1) < 30)) = true := by rfl)
    (hline : (apos.endLine == cpos.line) = true := by rfl) (hs :
    starEach (e :: es) X.env = (false, eval e X.env) :: starEach es X.env := by rfl) (hplain : (backTo cpos (starEach es X.env)).any (·.1) = false := by rfl) :
    PE X (.Call (.Attribute o name apos) (e :: es) [] cpos) (tBM K T r to t) := q ▸ pe_bm pa slot hty hm ho ha hbase hfew hline hs hplain
theorem pbm0 (q : X.K = K) (pa : PlainAttrs T) (slot : Slot T name id) (hty : typeOf (.builtin id) = pure (.type "method_descriptor")) (hm : MtR X id r) (ho : PE X o to)
    (hbase : attributeBase o name X.env (eval o X.env) = eval o X.env := by rfl) (hline : (apos.endLine == cpos.line) = true := by rfl) :
    PE X (.Call (.Attribute o name apos) [] [] cpos) (tBM0 K T r to) := q ▸ pe_bm0 pa slot hty hm ho hbase hline
end
def tTruQ (K : PySem.W.Frag) (ta : TE) : TT := fun σ H Q => ta σ H fun x G => ∃ k, TruV K x G k ∧ Q k G
theorem ptru {a : Expr} {ta : TE} (e : X.K = K) (ha : PE X a ta) (he : ∀ whole, isTrue a X.env whole = (do let v ← whole; standAt a.pos; holding [v] (truthy v))) : PT X a (tTruQ K ta) := e ▸ pt_truth ha he
theorem piL {tg l : Expr} {tl : TE} (e : X.K = K) (h : PE X l tl) (hs : ∀ x, foldedSetIterable l X.env x = pure x := by intro _; rfl) : PI X tg l (iList K tl) := e ▸ pi_list h
theorem piT {tg l : Expr} {tl : TE} (e : X.K = K) (h : PE X l tl) : PI X tg l (iTup K tl) := e ▸ pi_tup h
theorem pgT {es : List Expr} {k : Nat} {t : TGs} {n : Nat} {pos : Pos} (e : X.K = K) (hc : X.calm = true) (h : PGs X es t) (hn : (assignEach es X.env).length = n := by rfl)
    (hst : (assignEach es X.env).findIdx? (·.1) = none := by rfl) : PG X (.Tuple es k pos) (gTup K n t) := e ▸ pg_tup hc h hn hst
theorem prevL {e : Expr} {te : TE} {k : Nat} {p1 p2 p3 pos : Pos} (q : X.K = K) (he : PE X e te) : PE X (.Subscript e (.Slice none none (some (.UnaryOp .USub (.Constant (.int 1) k p1) p2)) p3) pos) (tRevL K te) := q ▸ pe_revL he
end
end L2
namespace L2
open PySem PySem.Spec PyProof.Rows
/-- isinstance(e, c), e what the suite holds, of the class at D and without a dict -/
def rIsX (K : PySem.W.Frag) (D a : Addr) (cls : Value) (d : Option Addr) : List V → Hp → VK → Prop := fun xs H Q => cls = .ref D ∧ d = none ∧ rIsE K D a xs H Q
theorem cisE {X : Cx} {K : PySem.W.Frag} {a D : Addr} {cls : Value} {d : Option Addr} {oe : Obj} {pn : List (Addr × Obj)} (q : X.K = K) (C : ExcC K D) (hz : Zc cls d oe) (hf : ∃ vs, oe.data = .fields vs) :
    CallR (X.suite a ((a, oe) :: pn)) (.builtin "isinstance") (rIsX K D a cls d) := by
  subst q
  rintro pins s σ H vs us Q I r ⟨rfl, rfl, word⟩
  exact call_isE C hz hf pins s σ H vs us Q I r word
end L2
/-! Rows as lists of codes: undoing, dropping neighbours, nets. -/
namespace RB
/-- the undoing of a letter (other signs stay) -/
def sw (c : Nat) : Nat := if 65 ≤ c ∧ c ≤ 90 then c + 32 else if 97 ≤ c ∧ c ≤ 122 then c - 32 else c
/-- a letter a to z or A to Z -/
def IsL (c : Nat) : Prop := (65 ≤ c ∧ c ≤ 90) ∨ (97 ≤ c ∧ c ≤ 122)
instance (c : Nat) : Decidable (IsL c) := by unfold IsL; infer_instance
theorem sw_sw {c : Nat} (h : IsL c) : sw (sw c) = c := by
  unfold IsL at h; unfold sw; split <;> split <;> (try split) <;> omega
theorem sw_L {c : Nat} (h : IsL c) : IsL (sw c) := by
  unfold IsL at *; unfold sw; split <;> (try split) <;> omega
theorem sw_ne {c : Nat} (h : IsL c) : sw c ≠ c := by
  unfold IsL at h; unfold sw; split <;> (try split) <;> omega
theorem sw_eq {a b : Nat} (ha : IsL a) (hb : IsL b) : a = sw b ↔ b = sw a :=
  ⟨fun e => by rw [e, sw_sw hb], fun e => by rw [e, sw_sw ha]⟩
/-- a row -/
def Ls (l : List Nat) : Prop := ∀ c ∈ l, IsL c
instance (l : List Nat) : Decidable (Ls l) := inferInstanceAs (Decidable (∀ c ∈ l, IsL c))
theorem Ls.nil : Ls [] := fun _ h => nomatch h
theorem Ls.app {a b : List Nat} (ha : Ls a) (hb : Ls b) : Ls (a ++ b) := fun c h => by
  rcases List.mem_append.mp h with z | z
  · exact ha c z
  · exact hb c z
theorem Ls.left {a b : List Nat} (h : Ls (a ++ b)) : Ls a := fun c hc => h c (List.mem_append_left _ hc)
theorem Ls.right {a b : List Nat} (h : Ls (a ++ b)) : Ls b := fun c hc => h c (List.mem_append_right _ hc)
theorem Ls.cons {x : Nat} {b : List Nat} (hx : IsL x) (hb : Ls b) : Ls (x :: b) := fun c h => by
  rcases List.mem_cons.mp h with h | h
  · rw [h]; exact hx
  · exact hb c h
theorem Ls.head {x : Nat} {b : List Nat} (h : Ls (x :: b)) : IsL x := h x List.mem_cons_self
theorem Ls.tail {x : Nat} {b : List Nat} (h : Ls (x :: b)) : Ls b := fun c hc => h c (List.mem_cons_of_mem _ hc)
theorem Ls.one {x : Nat} (hx : IsL x) : Ls [x] := Ls.cons hx Ls.nil
theorem Ls.rev {a : List Nat} (h : Ls a) : Ls a.reverse := fun c hc => h c (List.mem_reverse.mp hc)
theorem Ls.take {a : List Nat} (h : Ls a) (n : Nat) : Ls (a.take n) := fun c hc => h c (List.mem_of_mem_take hc)
theorem Ls.drop {a : List Nat} (h : Ls a) (n : Nat) : Ls (a.drop n) := fun c hc => h c (List.mem_of_mem_drop hc)
/-- the undoings of the letters, from the last to the first -/
def inv (l : List Nat) : List Nat := (l.map sw).reverse
theorem inv_len (l : List Nat) : (inv l).length = l.length := by unfold inv; rw [List.length_reverse, List.length_map]
theorem Ls.inv {a : List Nat} (h : Ls a) : Ls (inv a) := by
  intro c hc
  unfold RB.inv at hc
  rw [List.mem_reverse, List.mem_map] at hc
  obtain ⟨d, hd, e⟩ := hc
  rw [← e]; exact sw_L (h d hd)
theorem inv_inv {a : List Nat} (h : Ls a) : inv (inv a) = a := by
  unfold inv
  rw [List.map_reverse, List.reverse_reverse, List.map_map]
  conv => rhs; rw [← List.map_id a]
  exact List.map_congr_left fun c hc => sw_sw (h c hc)
theorem inv_app (a b : List Nat) : inv (a ++ b) = inv b ++ inv a := by
  unfold inv; rw [List.map_append, List.reverse_append]
theorem inv_cons (x : Nat) (b : List Nat) : inv (x :: b) = inv b ++ [sw x] := by
  unfold inv; rw [List.map_cons, List.reverse_cons]
/-- one letter more behind what is kept (the last one first) -/
def push (st : List Nat) (c : Nat) : List Nat := match st with
  | [] => [c]
  | t :: r => if t = sw c then r else c :: t :: r
/-- what is kept of a row, the last letter first -/
def kst (l : List Nat) : List Nat := l.foldl push []
/-- the net -/
def red (l : List Nat) : List Nat := (kst l).reverse
/-- no letter stands next to its undoing (whichever way it is read) -/
def NoPair : List Nat → Prop
  | x :: y :: r => y ≠ sw x ∧ NoPair (y :: r)
  | _ => True
theorem NoPair.tail {x : Nat} {r : List Nat} (h : NoPair (x :: r)) : NoPair r := by
  cases r with
  | nil => trivial
  | cons y r => exact h.2
theorem push_L {st : List Nat} {c : Nat} (h : Ls st) (hc : IsL c) : Ls (push st c) := by
  unfold push
  cases st with
  | nil => exact Ls.one hc
  | cons t r =>
    dsimp only
    split
    · exact h.tail
    · exact Ls.cons hc h
theorem push_np {st : List Nat} {c : Nat} (hL : Ls st) (hc : IsL c) (h : NoPair st) : NoPair (push st c) := by
  unfold push
  cases st with
  | nil => trivial
  | cons t r =>
    dsimp only
    split
    · exact h.tail
    · rename_i e
      exact ⟨e, h⟩
theorem foldl_L {l st : List Nat} (h : Ls st) (hl : Ls l) : Ls (l.foldl push st) := by
  induction l generalizing st with
  | nil => exact h
  | cons c l ih => exact ih (push_L h hl.head) hl.tail
theorem foldl_np {l st : List Nat} (h : Ls st) (hl : Ls l) (n : NoPair st) : NoPair (l.foldl push st) := by
  induction l generalizing st with
  | nil => exact n
  | cons c l ih => exact ih (push_L h hl.head) hl.tail (push_np h hl.head n)
theorem kst_L {l : List Nat} (h : Ls l) : Ls (kst l) := foldl_L Ls.nil h
theorem kst_np {l : List Nat} (h : Ls l) : NoPair (kst l) := foldl_np Ls.nil h trivial
theorem push_push {st : List Nat} {c : Nat} (hL : Ls st) (hc : IsL c) (h : NoPair st) : push (push st c) (sw c) = st := by
  cases st with
  | nil =>
    show push [c] (sw c) = []
    unfold push
    dsimp only
    rw [if_pos (sw_sw hc).symm]
  | cons t r =>
    by_cases e : t = sw c
    · have e1 : push (t :: r) c = r := if_pos e
      rw [e1]
      cases r with
      | nil =>
        show [sw c] = [t]
        rw [e]
      | cons u r =>
        have n1 : u ≠ sw t := h.1
        have n2 : ¬ u = sw (sw c) := by rw [← e]; exact n1
        show (if u = sw (sw c) then r else sw c :: u :: r) = t :: u :: r
        rw [if_neg n2, e]
    · have e1 : push (t :: r) c = c :: t :: r := if_neg e
      rw [e1]
      show (if c = sw (sw c) then t :: r else _) = t :: r
      rw [if_pos (sw_sw hc).symm]
theorem kst_app (a b : List Nat) : kst (a ++ b) = b.foldl push (kst a) := List.foldl_append
theorem kst_pair {u v : List Nat} {x : Nat} (hu : Ls u) (hx : IsL x) : kst (u ++ x :: sw x :: v) = kst (u ++ v) := by
  rw [kst_app, kst_app]
  show v.foldl push (push (push (kst u) x) (sw x)) = _
  rw [push_push (kst_L hu) hx (kst_np hu)]
theorem red_pair {u v : List Nat} {x : Nat} (hu : Ls u) (hx : IsL x) : red (u ++ x :: sw x :: v) = red (u ++ v) := by
  unfold red; rw [kst_pair hu hx]
theorem red_turn {m u v : List Nat} (hu : Ls u) (hm : Ls m) : red (u ++ m ++ inv m ++ v) = red (u ++ v) := by
  induction m generalizing u v with
  | nil => simp [inv]
  | cons x m ih =>
    have h1 := ih (u := u ++ [x]) (v := sw x :: v) (hu.app (Ls.one hm.head)) hm.tail
    have e : u ++ x :: m ++ inv (x :: m) ++ v = u ++ [x] ++ m ++ inv m ++ sw x :: v := by
      rw [inv_cons]; simp
    rw [e, h1]
    have e2 : u ++ [x] ++ sw x :: v = u ++ x :: sw x :: v := by simp
    rw [e2, red_pair hu hm.head]
theorem red_turn' {m u v : List Nat} (hu : Ls u) (hm : Ls m) : red (u ++ inv m ++ m ++ v) = red (u ++ v) := by
  have h := red_turn (m := inv m) (u := u) (v := v) hu hm.inv
  rw [inv_inv hm] at h
  exact h
theorem foldl_np_id : ∀ {l st : List Nat}, Ls l → Ls st → NoPair (l.reverse ++ st) → l.foldl push st = l.reverse ++ st
  | [], _, _, _, _ => rfl
  | c :: l, st, hl, hs, h => by
    have e : (c :: l).reverse ++ st = l.reverse ++ (c :: st) := by rw [List.reverse_cons]; simp
    rw [e] at h
    have hp : push st c = c :: st := by
      cases st with
      | nil => rfl
      | cons t r =>
        have : ∀ {a b : List Nat}, NoPair (a ++ b) → NoPair b := by
          intro a
          induction a with
          | nil => intro b z; exact z
          | cons y a ih => intro b z; exact ih z.tail
        have q := this h
        exact if_neg q.1
    show l.foldl push (push st c) = _
    rw [hp, foldl_np_id hl.tail (Ls.cons hl.head hs) h, e]
theorem NoPair.app_right : ∀ {a b : List Nat}, NoPair (a ++ b) → NoPair b
  | [], _, z => z
  | _ :: a, _, z => NoPair.app_right (a := a) z.tail
theorem NoPair.app_left : ∀ {a b : List Nat}, NoPair (a ++ b) → NoPair a
  | [], _, _ => trivial
  | [_], _, _ => trivial
  | x :: y :: a, b, z => ⟨z.1, NoPair.app_left (a := y :: a) (b := b) z.2⟩
/-- joined where the ends do not undo one another -/
theorem np_join : ∀ {a b : List Nat}, NoPair a → NoPair b → (∀ x y, a.getLast? = some x → b.head? = some y → y ≠ sw x) → NoPair (a ++ b)
  | [], _, _, hb, _ => hb
  | [x], [], _, _, _ => trivial
  | [x], y :: b, _, hb, h => ⟨h x y rfl rfl, hb⟩
  | x :: y :: a, b, ha, hb, h => ⟨ha.1, np_join (a := y :: a) ha.2 hb fun p q e1 e2 => h p q (by rw [List.getLast?_cons_cons]; exact e1) e2⟩
theorem np_rev : ∀ {l : List Nat}, Ls l → NoPair l → NoPair l.reverse
  | [], _, _ => trivial
  | [x], _, _ => trivial
  | x :: y :: l, hl, h => by
    rw [List.reverse_cons]
    refine np_join (np_rev hl.tail h.2) trivial fun p q e1 e2 => ?_
    rw [List.reverse_cons, List.getLast?_append, List.getLast?_singleton] at e1
    cases e1
    cases e2
    exact fun e => h.1 (by rw [e, sw_sw hl.tail.head])
theorem red_np {l : List Nat} (h : Ls l) : NoPair (red l) := np_rev (kst_L h) (kst_np h)
theorem red_L {l : List Nat} (h : Ls l) : Ls (red l) := (kst_L h).rev
/-- a row without neighbours that undo one another is its own net -/
theorem red_id {l : List Nat} (hl : Ls l) (h : NoPair l) : red l = l := by
  unfold red kst
  rw [foldl_np_id hl Ls.nil (by rw [List.append_nil]; exact np_rev hl h), List.append_nil, List.reverse_reverse]
theorem red_red {l : List Nat} (h : Ls l) : red (red l) = red l := red_id (red_L h) (red_np h)
theorem push_len (st : List Nat) (c : Nat) : (push st c).length ≤ st.length + 1 := by
  unfold push
  cases st with
  | nil => exact Nat.le_refl _
  | cons t r => dsimp only; split <;> simp <;> omega
theorem kst_len_aux : ∀ (l st : List Nat), (l.foldl push st).length ≤ st.length + l.length
  | [], st => Nat.le_refl _
  | c :: l, st => by
    have := kst_len_aux l (push st c)
    have := push_len st c
    show (l.foldl push (push st c)).length ≤ _
    rw [List.length_cons]; omega
theorem red_len (l : List Nat) : (red l).length ≤ l.length := by
  unfold red kst; rw [List.length_reverse]; have := kst_len_aux l []; simpa using this
/-- letters that stand next to their undoings, by place -/
theorem np_at : ∀ {l : List Nat} {i x y : Nat}, NoPair l → l[i]? = some x → l[i + 1]? = some y → y ≠ sw x
  | [], i, _, _, _, h, _ => by simp at h
  | [a], 0, _, _, _, _, h => by simp at h
  | [a], i + 1, _, _, _, h, _ => by simp at h
  | a :: b :: l, 0, x, y, n, h1, h2 => by
    cases h1; cases h2; exact n.1
  | a :: b :: l, i + 1, x, y, n, h1, h2 => np_at (l := b :: l) (i := i) n.2 h1 h2
theorem np_of_at : ∀ {l : List Nat}, (∀ i x y, l[i]? = some x → l[i + 1]? = some y → y ≠ sw x) → NoPair l
  | [], _ => trivial
  | [_], _ => trivial
  | a :: b :: l, h => ⟨h 0 a b rfl rfl, np_of_at (l := b :: l) fun i x y e1 e2 => h (i + 1) x y e1 e2⟩
/-- a pair that stands at i is taken out -/
theorem red_drop {l : List Nat} {i x : Nat} (hl : Ls l) (h1 : l[i]? = some x) (h2 : l[i + 1]? = some (sw x)) : red (l.take i ++ l.drop (i + 2)) = red l := by
  have hlen : i + 1 < l.length := by
    rcases Nat.lt_or_ge (i + 1) l.length with z | z
    · exact z
    · rw [List.getElem?_eq_none z] at h2; cases h2
  have e : l = l.take i ++ x :: sw x :: l.drop (i + 2) := by
    have a1 : l.drop i = x :: l.drop (i + 1) := by
      have : l[i]'(by omega) = x := by rw [List.getElem?_eq_getElem (by omega)] at h1; exact Option.some.inj h1
      rw [← this]; exact List.drop_eq_getElem_cons (by omega)
    have a2 : l.drop (i + 1) = sw x :: l.drop (i + 2) := by
      have : l[i + 1] = sw x := by rw [List.getElem?_eq_getElem hlen] at h2; exact Option.some.inj h2
      rw [← this]; exact List.drop_eq_getElem_cons hlen
    rw [← a2, ← a1, List.take_append_drop]
  have hx : IsL x := hl x (List.mem_of_getElem? h1)
  conv => rhs; rw [e]
  rw [red_pair (hl.take i) hx]
end RB
namespace RB
/-- a pair put in at a place -/
theorem red_put {l : List Nat} {i c : Nat} (hl : Ls l) (hc : IsL c) : red (l.take i ++ [c] ++ [sw c] ++ l.drop i) = red l := by
  have e : l.take i ++ [c] ++ [sw c] ++ l.drop i = l.take i ++ c :: sw c :: l.drop i := by simp
  rw [e, red_pair (hl.take i) hc, List.take_append_drop]
/-- the places where a letter stands ahead of its undoing -/
def pairsAt (l : List Nat) : List Nat := (List.range (l.length - 1)).filter fun i => decide (l[i + 1]? = (l[i]?).map sw)
theorem pairs_none {l : List Nat} (h : pairsAt l = []) : NoPair l := by
  refine np_of_at fun i x y h1 h2 e => ?_
  have hlen : i + 1 < l.length := by
    rcases Nat.lt_or_ge (i + 1) l.length with z | z
    · exact z
    · rw [List.getElem?_eq_none z] at h2; cases h2
  have : i ∈ pairsAt l := by
    unfold pairsAt
    rw [List.mem_filter]
    refine ⟨List.mem_range.mpr (by omega), decide_eq_true ?_⟩
    rw [h1, h2, e]; rfl
  rw [h] at this
  cases this
theorem pairs_some {l : List Nat} {i : Nat} (h : i ∈ pairsAt l) : i + 1 < l.length ∧ ∃ x, l[i]? = some x ∧ l[i + 1]? = some (sw x) := by
  unfold pairsAt at h
  rw [List.mem_filter] at h
  obtain ⟨h1, h2⟩ := h
  have h3 := List.mem_range.mp h1
  have h4 := of_decide_eq_true h2
  have hlen : i < l.length := by omega
  refine ⟨by omega, l[i], List.getElem?_eq_getElem hlen, ?_⟩
  rw [h4, List.getElem?_eq_getElem hlen]; rfl
theorem np_pairs {l : List Nat} (hl : Ls l) (h : NoPair l) : pairsAt l = [] := by
  cases e : pairsAt l with
  | nil => rfl
  | cons i r =>
    obtain ⟨_, x, h1, h2⟩ := pairs_some (l := l) (i := i) (by rw [e]; exact List.mem_cons_self)
    exact absurd rfl (np_at h h1 h2)
end RB
/-! Nets put together: what may stand for what. -/
namespace RB
/-- a may stand for b within any row -/
def Eqv (a b : List Nat) : Prop := ∀ u v, Ls u → red (u ++ a ++ v) = red (u ++ b ++ v)
theorem Eqv.refl (a : List Nat) : Eqv a a := fun _ _ _ => rfl
theorem Eqv.symm {a b : List Nat} (h : Eqv a b) : Eqv b a := fun u v hu => (h u v hu).symm
theorem Eqv.trans {a b c : List Nat} (h : Eqv a b) (k : Eqv b c) : Eqv a c := fun u v hu => (h u v hu).trans (k u v hu)
theorem Eqv.red {a b : List Nat} (h : Eqv a b) : RB.red a = RB.red b := by
  have := h [] [] Ls.nil
  simpa using this
theorem Eqv.app {a b c d : List Nat} (h : Eqv a b) (k : Eqv c d) (hb : Ls b) : Eqv (a ++ c) (b ++ d) := fun u v hu => by
  have e1 := h u (c ++ v) hu
  have e2 := k (u ++ b) v (hu.app hb)
  simp only [List.append_assoc] at *
  rw [e1, e2]
theorem eqv_pair {x : Nat} (hx : IsL x) : Eqv [x, sw x] [] := fun u v hu => by
  have := red_pair (v := v) hu hx
  simpa using this
theorem eqv_pair' {x : Nat} (hx : IsL x) : Eqv [sw x, x] [] := by
  have := eqv_pair (sw_L hx)
  rw [sw_sw hx] at this
  exact this
theorem eqv_push {st : List Nat} {c : Nat} (hs : Ls st) (hc : IsL c) : Eqv (st.reverse ++ [c]) (push st c).reverse := by
  cases st with
  | nil => exact Eqv.refl _
  | cons t r =>
    by_cases e : t = sw c
    · have e1 : push (t :: r) c = r := if_pos e
      rw [e1, e]
      have : (sw c :: r).reverse ++ [c] = r.reverse ++ [sw c, c] := by simp
      rw [this]
      have k := (Eqv.refl r.reverse).app (eqv_pair' hc) hs.tail.rev
      rw [List.append_nil] at k
      exact k
    · have e1 : push (t :: r) c = c :: t :: r := if_neg e
      rw [e1]
      have : (c :: t :: r).reverse = (t :: r).reverse ++ [c] := by simp
      rw [this]
      exact Eqv.refl _
theorem eqv_fold : ∀ (l st : List Nat), Ls st → Ls l → Eqv (st.reverse ++ l) (l.foldl push st).reverse
  | [], st, _, _ => by rw [List.append_nil]; exact Eqv.refl _
  | c :: l, st, hs, hl => by
    have e : st.reverse ++ c :: l = st.reverse ++ [c] ++ l := by simp
    rw [e]
    exact ((eqv_push hs hl.head).app (Eqv.refl l) (push_L hs hl.head).rev).trans (eqv_fold l (push st c) (push_L hs hl.head) hl.tail)
/-- a row may stand for its net -/
theorem eqv_red {l : List Nat} (h : Ls l) : Eqv l (RB.red l) := eqv_fold l [] Ls.nil h
theorem eqv_of {a b : List Nat} (ha : Ls a) (hb : Ls b) (h : RB.red a = RB.red b) : Eqv a b := (eqv_red ha).trans (h ▸ (eqv_red hb).symm)
theorem Eqv.inv {a b : List Nat} (ha : Ls a) (hb : Ls b) (h : Eqv a b) : Eqv (RB.inv a) (RB.inv b) := by
  -- inv a, then a for b, then b and inv b fall away
  have h1 : Eqv (RB.inv a ++ a ++ RB.inv b) (RB.inv b) := fun u v hu => by
    have := red_turn' (m := a) (u := u) (v := RB.inv b ++ v) hu ha
    simpa using this
  have h2 : Eqv (RB.inv a ++ (b ++ RB.inv b)) (RB.inv a) := fun u v hu => by
    have := red_turn (m := b) (u := u ++ RB.inv a) (v := v) (hu.app ha.inv) hb
    simpa using this
  have h3 : Eqv (RB.inv a ++ (b ++ RB.inv b)) (RB.inv a ++ a ++ RB.inv b) := by
    rw [List.append_assoc]
    exact (Eqv.refl _).app (h.symm.app (Eqv.refl _) ha) ha.inv
  exact h2.symm.trans (h3.trans h1)
theorem eqv_inv_r {a : List Nat} (ha : Ls a) : Eqv (a ++ RB.inv a) [] := fun u v hu => by
  have := red_turn (m := a) (u := u) (v := v) hu ha
  simpa using this
theorem eqv_inv_l {a : List Nat} (ha : Ls a) : Eqv (RB.inv a ++ a) [] := fun u v hu => by
  have := red_turn' (m := a) (u := u) (v := v) hu ha
  simpa using this
/-- the row so often -/
def rep (l : List Nat) : Nat → List Nat
  | 0 => []
  | n + 1 => l ++ rep l n
theorem rep_len (l : List Nat) : ∀ n, (rep l n).length = l.length * n
  | 0 => rfl
  | n + 1 => by show (l ++ rep l n).length = _; rw [List.length_append, rep_len l n, Nat.mul_succ]; omega
theorem Ls.rep {l : List Nat} (h : Ls l) : ∀ n, Ls (rep l n)
  | 0 => Ls.nil
  | n + 1 => h.app (Ls.rep h n)
theorem rep_snoc (l : List Nat) : ∀ n, rep l (n + 1) = rep l n ++ l
  | 0 => by show l ++ [] = [] ++ l; simp
  | n + 1 => by
    show l ++ rep l (n + 1) = (l ++ rep l n) ++ l
    rw [rep_snoc l n]; simp
theorem rep_add (l : List Nat) (m : Nat) : ∀ n, rep l (m + n) = rep l m ++ rep l n
  | 0 => by show rep l m = rep l m ++ []; simp
  | n + 1 => by
    have e : m + (n + 1) = (m + n) + 1 := by omega
    rw [e, rep_snoc, rep_add l m n, rep_snoc]; simp
theorem Eqv.rep {a b : List Nat} (h : Eqv a b) (hb : Ls b) : ∀ n, Eqv (RB.rep a n) (RB.rep b n)
  | 0 => Eqv.refl _
  | n + 1 => h.app (Eqv.rep h hb n) hb
theorem rep_rep (l : List Nat) : RB.rep l 1 = l := by show l ++ [] = l; simp
theorem inv_rep (l : List Nat) : ∀ n, inv (rep l n) = rep (inv l) n
  | 0 => rfl
  | n + 1 => by
    show inv (l ++ rep l n) = _
    rw [inv_app, inv_rep l n, rep_snoc]
/-- a net: its two ends that undo one another (a of them), and the core -/
structure Cut (l : List Nat) (a : Nat) : Prop where
  small : 2 * a ≤ l.length
  ends : ∀ i x, i < a → l[i]? = some x → l[l.length - 1 - i]? = some (sw x)
/-- the core may be repeated as it stands -/
def Core (c : List Nat) : Prop := c ≠ [] ∧ ∀ x y, c.getLast? = some x → c.head? = some y → y ≠ sw x
theorem cut_eq {l : List Nat} {a : Nat} (h : Cut l a) : l = l.take a ++ (l.drop a).take (l.length - 2 * a) ++ inv (l.take a) := by
  have hs := h.small
  have e1 : l.drop (l.length - a) = inv (l.take a) := by
    apply List.ext_getElem?
    intro i
    by_cases hi : i < a
    · have hx : l[a - 1 - i]? = some l[a - 1 - i] := List.getElem?_eq_getElem (by omega)
      have := h.ends (a - 1 - i) _ (by omega) hx
      rw [List.getElem?_drop]
      have e : l.length - 1 - (a - 1 - i) = l.length - a + i := by omega
      rw [e] at this
      rw [this]
      unfold inv
      rw [List.getElem?_reverse (by rw [List.length_map, List.length_take]; omega), List.getElem?_map, List.length_map, List.length_take, List.getElem?_take]
      have e2 : min a l.length - 1 - i = a - 1 - i := by omega
      rw [e2, if_pos (by omega), hx]; rfl
    · rw [List.getElem?_eq_none (by rw [List.length_drop]; omega), List.getElem?_eq_none (by rw [inv_len, List.length_take]; omega)]
  have e2 : l.drop a = (l.drop a).take (l.length - 2 * a) ++ l.drop (l.length - a) := by
    have := (List.take_append_drop (l.length - 2 * a) (l.drop a)).symm
    rw [List.drop_drop] at this
    have e : a + (l.length - 2 * a) = l.length - a := by omega
    rw [e] at this
    exact this
  rw [← e1, List.append_assoc, ← e2, List.take_append_drop]
theorem rep_np {c : List Nat} (h : Core c) (n : NoPair c) : ∀ k, NoPair (rep c k)
  | 0 => trivial
  | k + 1 => by
    refine np_join n (rep_np h n k) fun x y e1 e2 => ?_
    cases k with
    | zero => cases e2
    | succ k =>
      have : (rep c (k + 1)).head? = c.head? := by
        show (c ++ rep c k).head? = _
        cases c with
        | nil => exact absurd rfl h.1
        | cons a r => rfl
      rw [this] at e2
      exact h.2 x y e1 e2
theorem rep_head {c : List Nat} (h : c ≠ []) (k : Nat) : (rep c (k + 1)).head? = c.head? := by
  show (c ++ rep c k).head? = _
  cases c with
  | nil => exact absurd rfl h
  | cons a r => rfl
theorem rep_last {c : List Nat} (h : c ≠ []) (k : Nat) : (rep c (k + 1)).getLast? = c.getLast? := by
  rw [rep_snoc, List.getLast?_append]
  cases e : c.getLast? with
  | none => exact absurd (List.getLast?_eq_none_iff.mp e) h
  | some x => rfl
theorem rep_ne {c : List Nat} (h : c ≠ []) (k : Nat) : rep c (k + 1) ≠ [] := by
  intro z
  have e := congrArg List.length z
  rw [rep_len, List.length_nil] at e
  have p : 0 < c.length := List.length_pos_iff.mpr h
  have : 0 < c.length * (k + 1) := Nat.mul_pos p (by omega)
  omega
/-- put a net between other ends that fit as well -/
theorem np_between {s c c' e : List Nat} (hc : c ≠ []) (hc' : c' ≠ []) (h : NoPair (s ++ c ++ e)) (n : NoPair c') (e1 : c'.head? = c.head?) (e2 : c'.getLast? = c.getLast?) : NoPair (s ++ c' ++ e) := by
  have hs : NoPair s := (h.app_left).app_left
  have he : NoPair e := NoPair.app_right (a := s ++ c) h
  have j1 : ∀ x y, s.getLast? = some x → c.head? = some y → y ≠ sw x := by
    intro x y h1 h2
    obtain ⟨s', rfl⟩ := List.getLast?_eq_some_iff.mp h1
    cases c with
    | nil => exact absurd rfl hc
    | cons a r =>
      cases h2
      have : NoPair (s' ++ ([x] ++ y :: (r ++ e))) := by simpa using h
      exact (NoPair.app_right this).1
  have j2 : ∀ x y, c.getLast? = some x → e.head? = some y → y ≠ sw x := by
    intro x y h1 h2
    obtain ⟨s', rfl⟩ := List.getLast?_eq_some_iff.mp h1
    cases e with
    | nil => cases h2
    | cons a r =>
      cases h2
      have : NoPair ((s ++ s') ++ ([x] ++ y :: r)) := by simpa using h
      exact (NoPair.app_right this).1
  refine np_join (np_join hs n fun x y h1 h2 => j1 x y h1 (e1 ▸ h2)) he fun x y h1 h2 => ?_
  rw [List.getLast?_append] at h1
  cases q : c'.getLast? with
  | none => exact absurd (List.getLast?_eq_none_iff.mp q) hc'
  | some z =>
    rw [q] at h1
    cases h1
    exact j2 x y (e2 ▸ q) h2
/-- the power of a net, by its ends and its core -/
theorem rep_cut {s c : List Nat} (hs : Ls s) (hc : Ls c) (k : Core c) (n : NoPair (s ++ c ++ inv s)) (m : Nat) : red (rep (s ++ c ++ inv s) (m + 1)) = s ++ rep c (m + 1) ++ inv s := by
  have e : ∀ m, Eqv (rep (s ++ c ++ inv s) (m + 1)) (s ++ rep c (m + 1) ++ inv s) := by
    intro m
    induction m with
    | zero => rw [rep_rep, rep_rep]; exact Eqv.refl _
    | succ m ih =>
      have h1 : Eqv (rep (s ++ c ++ inv s) (m + 1 + 1)) ((s ++ c ++ inv s) ++ (s ++ rep c (m + 1) ++ inv s)) := (Eqv.refl _).app ih ((hs.app hc).app hs.inv)
      refine h1.trans ?_
      have h2 : (s ++ c ++ inv s) ++ (s ++ rep c (m + 1) ++ inv s) = (s ++ c) ++ ((inv s ++ s) ++ (rep c (m + 1) ++ inv s)) := by simp
      have h3 : s ++ rep c (m + 1 + 1) ++ inv s = (s ++ c) ++ ([] ++ (rep c (m + 1) ++ inv s)) := by
        show s ++ (c ++ rep c (m + 1)) ++ inv s = _
        simp
      rw [h2, h3]
      exact (Eqv.refl _).app ((eqv_inv_l hs).app (Eqv.refl _) Ls.nil) (hs.app hc)
  rw [(e m).red]
  refine red_id ((hs.app (hc.rep _)).app hs.inv) ?_
  exact np_between k.1 (rep_ne k.1 m) n (rep_np k (NoPair.app_right (a := s) n.app_left) _) (rep_head k.1 m) (rep_last k.1 m)
end RB
namespace RB
/-- the ends can't be taken any further -/
def Stop (l : List Nat) (a : Nat) : Prop := ∀ x y, 2 * a + 1 < l.length → l[a]? = some x → l[l.length - 1 - a]? = some y → y ≠ sw x
def mid (l : List Nat) (a : Nat) : List Nat := (l.drop a).take (l.length - 2 * a)
theorem mid_len {l : List Nat} {a : Nat} (h : 2 * a ≤ l.length) : (mid l a).length = l.length - 2 * a := by
  unfold mid; rw [List.length_take, List.length_drop]; omega
theorem core_of {l : List Nat} {a : Nat} (hl : Ls l) (n : NoPair l) (h0 : l ≠ []) (c : Cut l a) (s : Stop l a) : Core (mid l a) := by
  have hs := c.small
  have ml := mid_len hs
  have pos : 0 < l.length := List.length_pos_iff.mpr h0
  have ne : mid l a ≠ [] := by
    intro z
    have e0 : l.length = 2 * a := by rw [z] at ml; simp at ml; omega
    have hx : l[a - 1]? = some l[a - 1] := List.getElem?_eq_getElem (by omega)
    have := c.ends (a - 1) _ (by omega) hx
    have e : l.length - 1 - (a - 1) = a - 1 + 1 := by omega
    rw [e] at this
    exact np_at n hx this rfl
  refine ⟨ne, fun x y e1 e2 => ?_⟩
  have h1 : (mid l a).head? = l[a]? := by
    rw [List.head?_eq_getElem?]
    unfold mid
    rw [List.getElem?_take, if_pos (by have := List.length_pos_iff.mpr ne; omega), List.getElem?_drop]; rfl
  have h2 : (mid l a).getLast? = l[l.length - 1 - a]? := by
    rw [List.getLast?_eq_getElem?, ml]
    unfold mid
    have := List.length_pos_iff.mpr ne
    rw [List.getElem?_take, if_pos (by omega), List.getElem?_drop]
    congr 1; omega
  rw [h1] at e2
  rw [h2] at e1
  by_cases big : 2 * a + 1 < l.length
  · intro z
    have hx : IsL x := hl x (List.mem_of_getElem? e1)
    exact s y x big e2 e1 (by rw [z, sw_sw hx])
  · have e : l.length - 1 - a = a := by have := List.length_pos_iff.mpr ne; omega
    rw [e, e2] at e1
    cases e1
    exact fun z => sw_ne (hl _ (List.mem_of_getElem? e2)) z.symm
/-- the net so often: below 0 the undone one -/
def pw (l : List Nat) (i : Int) : List Nat := if i < 0 then red (rep (inv l) (-i).toNat) else red (rep l i.toNat)
theorem cut_rep {t : List Nat} {a n : Nat} (ht : Ls t) (np : NoPair t) (h0 : t ≠ []) (c : Cut t a) (s : Stop t a) : red (rep t (n + 1)) = t.take a ++ rep (mid t a) (n + 1) ++ inv (t.take a) := by
  have e := cut_eq c
  have hm : Ls (mid t a) := (ht.drop a).take _
  have k := core_of ht np h0 c s
  have e2 : t = t.take a ++ mid t a ++ inv (t.take a) := e
  have np2 : NoPair (t.take a ++ mid t a ++ inv (t.take a)) := by rw [← e2]; exact np
  have := rep_cut (ht.take a) hm k np2 n
  rw [← e2] at this
  exact this
theorem rep_red {l : List Nat} (h : Ls l) (n : Nat) : red (rep (red l) n) = red (rep l n) := (((eqv_red h).symm).rep h n).red
theorem inv_red {l : List Nat} (h : Ls l) : red (inv (red l)) = red (inv l) := ((eqv_red h).inv h (red_L h)).symm.red
end RB
/-! Texts as lists of codes. -/
namespace RB
open PySem PySem.Builtin PySem.Builtin.Str PyProof.Rows L2
def S (l : List Nat) : Str := ⟨l.toArray⟩
theorem S_list (l : List Nat) : (S l).cps.toList = l := rfl
theorem S_len (l : List Nat) : (S l).length = l.length := by show l.toArray.size = _; simp
theorem S_inj {a b : List Nat} (h : S a = S b) : a = b := by
  have := congrArg (fun x : Str => x.cps.toList) h
  exact this
theorem S_eq {a b : List Nat} : S a = S b ↔ a = b := ⟨S_inj, fun h => by rw [h]⟩
theorem V_eq {a b : List Nat} : (V.str (S a) = V.str (S b)) ↔ a = b := ⟨fun h => S_inj (by cases h; rfl), fun h => by rw [h]⟩
theorem dec_eq {a b : List Nat} : decide (V.str (S a) = V.str (S b)) = decide (a = b) := by
  by_cases h : a = b
  · rw [decide_eq_true h, decide_eq_true (V_eq.mpr h)]
  · rw [decide_eq_false h, decide_eq_false (fun z => h (V_eq.mp z))]
theorem S_of (z : Str) : ∃ l, z = S l := ⟨z.cps.toList, by cases z; rfl⟩
theorem S_app (a b : List Nat) : S a ++ S b = S (a ++ b) := by
  show (⟨a.toArray ++ b.toArray⟩ : Str) = ⟨(a ++ b).toArray⟩
  simp
theorem S_rev (l : List Nat) : revS (S l) = S l.reverse := rfl
theorem sIx_nat (n d : Nat) (i : Nat) : HT.sIx n d (some (i : Int)) = min i n := HT.sIx_nat n d i
theorem cut_to (l : List Nat) (i : Nat) : cutS (S l) none (some (i : Int)) = S (l.take i) := by
  unfold cutS
  rw [HT.sIx_none, sIx_nat, S_len]
  show (⟨((l.drop 0).take (min i l.length - 0)).toArray⟩ : Str) = ⟨(l.take i).toArray⟩
  rw [List.drop_zero, Nat.sub_zero]
  congr 2
  rcases Nat.le_total i l.length with h | h
  · rw [Nat.min_eq_left h]
  · rw [Nat.min_eq_right h, List.take_length, List.take_of_length_le h]
theorem cut_from (l : List Nat) (i : Nat) : cutS (S l) (some (i : Int)) none = S (l.drop i) := by
  unfold cutS
  rw [HT.sIx_none, sIx_nat, S_len]
  show (⟨((l.drop (min i l.length)).take (l.length - min i l.length)).toArray⟩ : Str) = ⟨(l.drop i).toArray⟩
  congr 2
  rcases Nat.le_total i l.length with h | h
  · rw [Nat.min_eq_left h]; exact List.take_of_length_le (by rw [List.length_drop]; exact Nat.le_refl _)
  · rw [Nat.min_eq_right h, List.drop_length, List.drop_of_length_le h]; simp
theorem cut_mid (l : List Nat) (i j : Nat) : cutS (S l) (some (i : Int)) (some (j : Int)) = S ((l.drop i).take (j - i)) := by
  unfold cutS
  rw [sIx_nat, sIx_nat, S_len]
  show (⟨((l.drop (min i l.length)).take (min j l.length - min i l.length)).toArray⟩ : Str) = ⟨((l.drop i).take (j - i)).toArray⟩
  congr 2
  rcases Nat.le_total i l.length with h | h
  · rw [Nat.min_eq_left h]
    rcases Nat.le_total j l.length with h2 | h2
    · rw [Nat.min_eq_left h2]
    · rw [Nat.min_eq_right h2, List.take_of_length_le (by rw [List.length_drop]; exact Nat.le_refl _), List.take_of_length_le (by rw [List.length_drop]; omega)]
  · rw [Nat.min_eq_right h, List.drop_length, List.drop_of_length_le h]; simp
/-! ### signs of the first half -/
def Asc (l : List Nat) : Prop := ∀ c ∈ l, c < 128
instance (l : List Nat) : Decidable (Asc l) := inferInstanceAs (Decidable (∀ c ∈ l, c < 128))
theorem Ls.asc {l : List Nat} (h : Ls l) : Asc l := fun c hc => by
  have := h c hc
  unfold IsL at this
  omega
theorem up_asc {l : List Nat} (h : Asc l) : Txt.upper (S l) = S (l.map up1) := by
  rw [upper_ascii (x := S l) h]; show (⟨l.toArray.map up1⟩ : Str) = ⟨(l.map up1).toArray⟩; simp
theorem lo_asc {l : List Nat} (h : Asc l) : Txt.lower (S l) = S (l.map lo1) := by
  rw [lower_ascii (x := S l) h]; show (⟨l.toArray.map lo1⟩ : Str) = ⟨(l.map lo1).toArray⟩; simp
theorem isU_asc : ∀ c, c < 128 → Unicode.isUpper c = decide (65 ≤ c ∧ c ≤ 90) := by decide +kernel
theorem isLo_asc : ∀ c, c < 128 → Unicode.isLower c = decide (97 ≤ c ∧ c ≤ 122) := by decide +kernel
theorem isTi_asc : ∀ c, c < 128 → Unicode.isTitle c = false := by decide +kernel
theorem isAl_asc : ∀ c, c < 128 → Unicode.isAlpha c = decide (IsL c) := by decide +kernel
theorem lowerAt_asc {x : Array Nat} {i c : Nat} (h : x[i]? = some c) (hc : c < 128) : Unicode.lowerAt x i = [lo1 c] := by
  unfold Unicode.lowerAt
  rw [h]
  have e : (c == 0x3A3) = false := beq_eq_false_iff_ne.mpr (by omega)
  simp only [e, Bool.false_and, Bool.false_eq_true, if_false]
  exact lowerOf_ascii c hc
theorem swap_asc {l : List Nat} (h : Asc l) : Txt.swapcase (S l) = S (l.map sw) := by
  have e := placed_single (S l) (fun i c => if Unicode.isUpper c then Unicode.lowerAt (S l).cps i else if Unicode.isLower c then Unicode.upperOf c else [c]) sw fun i c hc => by
    have hlt : c < 128 := h c (List.mem_of_getElem? hc)
    have hx : (S l).cps[i]? = some c := by simpa [S] using hc
    rw [isU_asc c hlt, isLo_asc c hlt, lowerAt_asc hx hlt, upperOf_ascii c hlt]
    unfold sw lo1 up1
    by_cases h1 : 65 ≤ c ∧ c ≤ 90
    · simp [h1]
    · by_cases h2 : 97 ≤ c ∧ c ≤ 122
      · simp [h1, h2]
      · simp [h1, h2]
  show (⟨placed (S l) _⟩ : Str) = _
  rw [e]
  show (⟨l.toArray.map sw⟩ : Str) = ⟨(l.map sw).toArray⟩
  simp
theorem asc_iff (l : List Nat) : Txt.isascii (S l) = decide (Asc l) := by
  unfold Txt.isascii
  show l.toArray.all _ = _
  rw [List.all_toArray]
  by_cases h : Asc l
  · rw [decide_eq_true h, List.all_eq_true]
    intro c hc; exact decide_eq_true (h c hc)
  · rw [decide_eq_false h, Bool.eq_false_iff]
    intro z; rw [List.all_eq_true] at z
    exact h fun c hc => of_decide_eq_true (z c hc)
theorem alpha_asc {l : List Nat} (h : Asc l) : Txt.isalpha (S l) = (decide (l ≠ []) && decide (Ls l)) := by
  unfold Txt.isalpha
  have e : (S l).cps.all Unicode.isAlpha = decide (Ls l) := by
    show l.toArray.all _ = _
    rw [List.all_toArray]
    by_cases q : Ls l
    · rw [decide_eq_true q, List.all_eq_true]
      intro c hc; rw [isAl_asc c (h c hc)]; exact decide_eq_true (q c hc)
    · rw [decide_eq_false q, Bool.eq_false_iff]
      intro z; rw [List.all_eq_true] at z
      refine q fun c hc => ?_
      have := z c hc
      rw [isAl_asc c (h c hc)] at this
      exact of_decide_eq_true this
  rw [e, S_len]
  cases l with
  | nil => rfl
  | cons a r => simp
theorem islo_one {c : Nat} (h : c < 128) : Txt.islower (S [c]) = decide (97 ≤ c ∧ c ≤ 122) := by
  unfold Txt.islower
  show ((#[c] : Array Nat).any Unicode.isLower && !(#[c] : Array Nat).any _) = _
  have e1 : (#[c] : Array Nat).any Unicode.isLower = Unicode.isLower c := by simp
  have e2 : (#[c] : Array Nat).any (fun c => Unicode.isUpper c || Unicode.isTitle c) = (Unicode.isUpper c || Unicode.isTitle c) := by simp
  rw [e1, e2, isLo_asc c h, isU_asc c h, isTi_asc c h]
  by_cases h2 : 97 ≤ c ∧ c ≤ 122
  · have h3 : ¬ (65 ≤ c ∧ c ≤ 90) := by omega
    simp [h2, h3]
  · simp [h2]
theorem fold_nil : ∀ (ls : List (List Nat)) (acc : Array Nat), (ls.map S).foldl (fun acc p => acc ++ (S []).cps ++ p.cps) acc = acc ++ ls.flatten.toArray
  | [], acc => by simp
  | a :: r, acc => by
    rw [List.map_cons, List.foldl_cons, fold_nil r]
    show (acc ++ #[] ++ a.toArray) ++ _ = _
    simp
theorem join_nil (ls : List (List Nat)) : Txt.join (S []) (ls.map S) = S ls.flatten := by
  show glued (S []) (ls.map S) = _
  cases ls with
  | nil => rfl
  | cons a r =>
    show (⟨(r.map S).foldl (fun acc p => acc ++ (S []).cps ++ p.cps) (S a).cps⟩ : Str) = _
    rw [fold_nil]
    show (⟨a.toArray ++ r.flatten.toArray⟩ : Str) = ⟨(a :: r).flatten.toArray⟩
    simp
end RB
/-! Rules: a text so often, < of data, a loop over a list or a tuple, isinstance of what is held with several classes. -/
namespace RB
open PySem PySem.Spec PyProof.Rows L2
theorem rep_fold (l : List Nat) : ∀ (n : Nat) (acc : Array Nat), (List.replicate n (S l).cps).foldl (· ++ ·) acc = acc ++ (rep l n).toArray
  | 0, acc => by show acc = acc ++ #[]; simp
  | n + 1, acc => by
    rw [List.replicate_succ, List.foldl_cons, rep_fold l n]
    show acc ++ l.toArray ++ (rep l n).toArray = acc ++ (l ++ rep l n).toArray
    simp
/-- text * number -/
def rRepS : R2 := fun x y H Q => ∃ (l : List Nat) (n : Nat), x = .str (S l) ∧ y = .int (n : Nat) ∧ n < 2 ^ 62 ∧ l.length * n ≤ 16777216 ∧ Q (.str (S (rep l n))) H
theorem op_repS {X : Cx} : OpR X (binaryOp .Mult) rRepS := by
  rintro pins s σ H x y v u Q I rx ry ⟨l, n, rfl, rfl, hn, fits, goal⟩
  obtain ⟨t, rfl⟩ := rx
  obtain ⟨t2, rfl⟩ := ry
  have hlen : (S l).length = l.length := S_len l
  refine P.mul_str ?_ (fun h1 _ => ?_) (fun _ _ => ?_) ?_
  · have h1 : ¬ ((n : Int) < -(2 ^ 63)) := by omega
    have h2 : ¬ ((n : Int) ≥ 2 ^ 63) := by omega
    rw [decide_eq_false h1, decide_eq_false h2]; rfl
  · rw [hlen]
    refine Int.not_lt.mpr ?_
    refine (Int.le_ediv_iff_mul_le (by omega)).mpr ?_
    have : ((l.length * n : Nat) : Int) ≤ (16777216 : Nat) := Int.ofNat_le.mpr fits
    have e : ((l.length : Nat) : Int) * (n : Nat) = ((l.length * n : Nat) : Int) := (Int.natCast_mul _ _).symm
    rw [e]; omega
  · rw [hlen, Int.toNat_natCast]; exact short24 fits
  · by_cases h1 : (n : Int) < 1
    · have n0 : n = 0 := by omega
      subst n0
      rw [if_pos h1]
      exact ⟨by decide, .str _, H, I.tok _, ⟨_, rfl⟩, goal⟩
    · rw [if_neg h1]
      by_cases h2 : ((n : Int) == 1 || (S l).length == 0) = true
      · rw [if_pos h2]
        have e : rep l n = l := by
          rcases Bool.or_eq_true_iff.mp h2 with z | z
          · have : n = 1 := by have := beq_iff_eq.mp z; omega
            rw [this, rep_rep]
          · have : l.length = 0 := by have := beq_iff_eq.mp z; rw [hlen] at this; exact this
            have : l = [] := List.length_eq_zero_iff.mp this
            subst this
            refine List.length_eq_zero_iff.mp ?_
            rw [rep_len]; simp
        rw [e] at goal
        exact ⟨.str _, H, I, ⟨t, rfl⟩, goal⟩
      · rw [if_neg h2]
        have e : (⟨(List.replicate ((n : Int).toNat) (S l).cps).foldl (· ++ ·) #[]⟩ : Str) = S (rep l n) := by
          rw [show ((n : Int).toNat) = n from Int.toNat_natCast n, rep_fold]
          show (⟨#[] ++ (rep l n).toArray⟩ : Str) = ⟨(rep l n).toArray⟩
          simp
        rw [e]
        refine ⟨?_, .str _, H, I.tok _, ⟨_, rfl⟩, goal⟩
        rw [S_len, rep_len]
        exact Nat.le_trans fits (by decide)
end RB
namespace L2
open PySem PySem.Spec PyProof.Rows
/-- x < y of data of one form -/
def rLtD (K : PySem.W.Frag) : R2 := fun x y H Q => ∃ d e, Dp K H x d ∧ Dp K H y e ∧ PySem.W.alike d e = true ∧ d ≠ .none ∧ d.depth ≤ 32 ∧ Q (.bl (PySem.W.dataLt d e)) H
theorem op_ltD {X : Cx} {K : PySem.W.Frag} (q : X.K = K) (hu : X.A.units + 64 < cLine) : OpR X (compareOp .Lt) (rLtD K) := by
  subst q
  rintro pins s σ H x y v u Q I rx ry ⟨d, e, hd, he, al, nn, dep, goal⟩
  obtain ⟨as, ra⟩ := Dp.reads I d x v hd rx; obtain ⟨bs, rb⟩ := Dp.reads I e y u he ry
  exact PySem.W.rcLt_alike d e X.A s v u as bs ra rb al nn (by have := Nat.min_le_left d.depth e.depth; omega) _ _ _ _ ⟨.bl _, H, I, rfl, goal⟩
/-- over a list or a tuple -/
def iSeq (K : PySem.W.Frag) (tl : TE) : TI := fun σ H R => iList K tl σ H R ∨ iTup K tl σ H R
theorem pi_or {X : Cx} {tg l : Expr} {w1 w2 : TI} (h1 : PI X tg l w1) (h2 : PI X tg l w2) : PI X tg l (fun σ H R => w1 σ H R ∨ w2 σ H R) :=
  ⟨fun pins s σ H R I h => h.elim (h1.run pins s σ H R I) (h2.run pins s σ H R I)⟩
theorem piQ {X : Cx} {K : PySem.W.Frag} {tg l : Expr} {tl : TE} (q : X.K = K) (h : PE X l tl) : PI X tg l (iSeq K tl) := q ▸ pi_or (pi_list h) (pi_tup h)
/-- isinstance(e, (C, D)), e what the suite holds -/
def rIsXT (K : PySem.W.Frag) (D a : Addr) (cls : Value) (d : Option Addr) : List V → Hp → VK → Prop := fun xs H Q => cls = .ref D ∧ d = none ∧
  ∃ (tp : Addr) (cs : List V) (us : List Value) (b : Bool), xs = [.ref a, .ref tp] ∧ H tp = some (.tup cs) ∧ Paired ClsV cs us ∧ PySem.W.kitAny K (.ref D) us = some b ∧ Q (.bl b) H
theorem cisET {X : Cx} {K : PySem.W.Frag} {a D : Addr} {cls : Value} {d : Option Addr} {oe : Obj} {pn : List (Addr × Obj)} (q : X.K = K) (C : ExcC K D) (hz : Zc cls d oe) (hf : ∃ vs, oe.data = .fields vs) :
    CallR (X.suite a ((a, oe) :: pn)) (.builtin "isinstance") (rIsXT K D a cls d) := by
  subst q
  rintro pins s σ H vs us Q I r ⟨rfl, rfl, tp, cs, ws, b, rfl, made, classes, answer, goal⟩
  obtain ⟨x1, x2, rfl, q1, q2⟩ := vals2 r
  cases (show x1 = Value.ref a from q1); cases (show x2 = Value.ref tp from q2)
  obtain ⟨there, _⟩ := I.pin (a, oe) (List.mem_append_left _ List.mem_cons_self)
  obtain ⟨fv, data⟩ := hf
  have inst : PySem.W.InstAt s.heap a oe D none := by
    match oe, hz, data, there with
    | ⟨_, _, _, _⟩, ⟨rfl, rfl⟩, rfl, there => exact ⟨there, rfl, rfl, trivial⟩
  obtain ⟨_, its, rv, o, o1, o2, n, o3⟩ := (show ObjOk X.prog X.w H s.heap tp (.tup cs) from I.hok tp _ made)
  cases ClsV.all classes rv
  obtain ⟨oc, od, dt, sl⟩ := o
  cases (show oc = _ from o2); cases (show dt = _ from o3)
  exact PySem.W.kia_tup (PySem.W.handS_kitx_exc C.hg C.hk C.hs C.hd C.ha C.hn C.ht C.hm) I.kIn inst o1 answer (fun z => nomatch z) fun tk => ⟨.bl b, H, I.kept (t' := tk) fun _ _ z => z, rfl, goal⟩
end L2
/-! What all the laws share: words between steps, heaps, the hand that draws. -/
namespace L2
open PySem PySem.Spec PyProof.Rows
section
variable {X : Cx}
/-- a word behind a value, a test, some arguments -/
def tMidE (t : TE) : TE := fun σ H Q => ∃ R : VK, t σ H R ∧ ∀ v H', R v H' → Q v H'
theorem pe_mid {e : Expr} {t : TE} (h : PE X e t) : PE X e (tMidE t) :=
  ⟨fun pins s σ H _ I ⟨_, h1, h2⟩ => thn (h.run pins s σ H _ I h1) fun _ _ ⟨v, H', J, r, q⟩ => ⟨v, H', J, r, h2 v H' q⟩⟩
def tMidT (t : TT) : TT := fun σ H Q => ∃ R : Bool → Hp → Prop, t σ H R ∧ ∀ v H', R v H' → Q v H'
theorem pt_mid {e : Expr} {t : TT} (h : PT X e t) : PT X e (tMidT t) :=
  ⟨fun pins s σ H _ I ⟨_, h1, h2⟩ => thn (h.run pins s σ H _ I h1) fun b _ ⟨H', J, q⟩ => ⟨H', J, h2 b H' q⟩⟩
theorem passF {P : Program} {w : World} {X : Cx} : Passes (CX P w) X (fun _ _ _ => False) := fun _ _ _ _ _ _ _ ⟨_, _, _, _, _, _, _, _, _, _, _, _, z⟩ => z.elim
theorem iteD {p A B : Prop} [Decidable p] (h1 : p → A) (h2 : ¬ p → B) : if decide p = true then A else B := by
  by_cases h : p
  · rw [decide_eq_true h, if_pos rfl]; exact h1 h
  · rw [decide_eq_false h, if_neg Bool.false_ne_true]; exact h2 h
theorem iteB {b : Bool} {A B : Prop} (h1 : b = true → A) (h2 : b = false → B) : if b = true then A else B := by
  cases b with
  | true => rw [if_pos rfl]; exact h1 rfl
  | false => rw [if_neg Bool.false_ne_true]; exact h2 rfl
theorem iteN {p A B : Prop} [Decidable p] (h1 : ¬ p → A) (h2 : p → B) : if (!decide p) = true then A else B := by
  by_cases h : p
  · rw [decide_eq_true h]; exact h2 h
  · rw [decide_eq_false h]; exact h1 h
end
theorem upd_old {H : Hp} {a p : Addr} {o u : HO} (h : H a = some o) (n : H p = none) : upd H p u a = some o := by
  rw [upd_ne (ne_of_none h n)]; exact h
theorem upd_oth {H : Hp} {a p : Addr} {o u : HO} (h : H a = some o) (n : a ≠ p) : upd H p u a = some o := by
  rw [upd_ne n]; exact h
theorem Same.new {H : Hp} {p : Addr} {o : HO} (n : H p = none) : Same H (upd H p o) := fun _ _ h => upd_old h n
/-- all that was tracked stands, but what stands at h -/
def But (h : Addr) (H H' : Hp) : Prop := ∀ b o, b ≠ h → H b = some o → H' b = some o
theorem But.refl (h : Addr) (H : Hp) : But h H H := fun _ _ _ e => e
theorem But.trans {h : Addr} {H H1 H2 : Hp} (a : But h H H1) (b : But h H1 H2) : But h H H2 := fun c o n e => b c o n (a c o n e)
theorem Same.but {h : Addr} {H H' : Hp} (a : Same H H') : But h H H' := fun b o _ e => a b o e
theorem But.set {h : Addr} {H : Hp} {o : HO} : But h H (upd H h o) := fun _ _ n e => upd_oth e n
theorem But.seq {K : PySem.W.Frag} {h : Addr} {H H' : Hp} {a : Addr} {xs : List V} (e : But h H H') (n : a ≠ h) (x : SqL K H a xs) : SqL K H' a xs := by
  rcases x with (x | ⟨o, x⟩) | x
  · exact .inl (.inl (e _ _ n x))
  · exact .inl (.inr ⟨o, e _ _ n x⟩)
  · exact .inr x
end L2
namespace L2
open PySem PySem.Spec PyProof.Rows
theorem bt_len : bootBuiltins ("len" : Str) = some (.builtin "len") := by kernel_rfl
theorem bt_abs : bootBuiltins ("abs" : Str) = some (.builtin "abs") := by kernel_rfl
theorem bt_min : bootBuiltins ("min" : Str) = some (.builtin "min") := by kernel_rfl
theorem bt_max : bootBuiltins ("max" : Str) = some (.builtin "max") := by kernel_rfl
theorem bt_int : bootBuiltins ("int" : Str) = some (.type "int") := by kernel_rfl
theorem bt_str : bootBuiltins ("str" : Str) = some (.type "str") := by kernel_rfl
theorem bt_bool : bootBuiltins ("bool" : Str) = some (.type "bool") := by kernel_rfl
theorem bt_range : bootBuiltins ("range" : Str) = some (.type "range") := by kernel_rfl
theorem bt_zip : bootBuiltins ("zip" : Str) = some (.type "zip") := by kernel_rfl
theorem bt_enumerate : bootBuiltins ("enumerate" : Str) = some (.type "enumerate") := by kernel_rfl
theorem bt_reversed : bootBuiltins ("reversed" : Str) = some (.type "reversed") := by kernel_rfl
theorem bt_sorted : bootBuiltins ("sorted" : Str) = some (.builtin "sorted") := by kernel_rfl
theorem bt_sum : bootBuiltins ("sum" : Str) = some (.builtin "sum") := by kernel_rfl
theorem bt_any : bootBuiltins ("any" : Str) = some (.builtin "any") := by kernel_rfl
theorem bt_all : bootBuiltins ("all" : Str) = some (.builtin "all") := by kernel_rfl
theorem bt_isinstance : bootBuiltins ("isinstance" : Str) = some (.builtin "isinstance") := by kernel_rfl
theorem bt_list : bootBuiltins ("list" : Str) = some (.type "list") := by kernel_rfl
theorem bt_tuple : bootBuiltins ("tuple" : Str) = some (.type "tuple") := by kernel_rfl
theorem bt_dict : bootBuiltins ("dict" : Str) = some (.type "dict") := by kernel_rfl
theorem bt_set : bootBuiltins ("set" : Str) = some (.type "set") := by kernel_rfl
theorem bt_ord : bootBuiltins ("ord" : Str) = some (.builtin "ord") := by kernel_rfl
theorem bt_chr : bootBuiltins ("chr" : Str) = some (.builtin "chr") := by kernel_rfl
theorem bt_divmod : bootBuiltins ("divmod" : Str) = some (.builtin "divmod") := by kernel_rfl
theorem bt_ValueError : bootBuiltins ("ValueError" : Str) = some (.type "ValueError") := by kernel_rfl
end L2
namespace RB
open PySem L2
/-- the hand at h: its cells at c, the next one, what is left of a great one, two numbers -/
def Hand (H : Hp) (h c : Addr) : Prop := ∃ (cells : List Int) (i held st k : Int), H h = some (.lst [.ref c, .int i, .int held, .int st, .int k]) ∧
  H c = some (.lst (cells.map V.int)) ∧ 0 ≤ i ∧ i ≤ cells.length ∧ (∀ z ∈ cells, 0 ≤ z) ∧ 0 ≤ held ∧ c ≠ h
/-- on from a heap with the hand at h to another one -/
def Go (h c : Addr) (H H' : Hp) : Prop := But h H H' ∧ Hand H' h c
theorem Go.trans {h c : Addr} {H H1 H2 : Hp} (a : Go h c H H1) (b : Go h c H1 H2) : Go h c H H2 := ⟨a.1.trans b.1, b.2⟩
theorem Hand.same {H H' : Hp} {h c : Addr} (x : Hand H h c) (e : Same H H') : Hand H' h c := by
  obtain ⟨cells, i, held, st, k, h1, h2, r⟩ := x
  exact ⟨cells, i, held, st, k, e _ _ h1, e _ _ h2, r⟩
theorem Hand.go {H H' : Hp} {h c : Addr} (x : Hand H h c) (e : Same H H') : Go h c H H' := ⟨e.but, x.same e⟩
theorem Hand.refl {H : Hp} {h c : Addr} (x : Hand H h c) : Go h c H H := ⟨But.refl _ _, x⟩
theorem Go.same {H H1 H2 : Hp} {h c : Addr} (x : Go h c H H1) (e : Same H1 H2) : Go h c H H2 := x.trans (x.2.go e)
/-- what is new is not the hand, nor its cells -/
theorem Hand.ne {H : Hp} {h c p : Addr} (x : Hand H h c) (n : H p = none) : p ≠ h ∧ p ≠ c := by
  obtain ⟨cells, i, held, st, k, h1, h2, _⟩ := x
  exact ⟨(ne_of_none h1 n).symm, (ne_of_none h2 n).symm⟩
theorem Hand.put {H : Hp} {h c p : Addr} {o : HO} (x : Hand H h c) (n : p ≠ h ∧ p ≠ c) : Hand (upd H p o) h c := by
  obtain ⟨cells, i, held, st, k, h1, h2, r⟩ := x
  exact ⟨cells, i, held, st, k, upd_oth h1 n.1.symm, upd_oth h2 n.2.symm, r⟩
/-- what was not there at first may change -/
theorem Go.put {H H1 : Hp} {h c p : Addr} {o : HO} (x : Hand H h c) (n : H p = none) (g : Go h c H H1) : Go h c H (upd H1 p o) :=
  ⟨fun b u nb hb => by rw [upd_ne (ne_of_none hb n)]; exact g.1 b u nb hb, g.2.put (x.ne n)⟩
theorem Go.new {H : Hp} {h c p : Addr} {o : HO} (x : Hand H h c) (n : H p = none) : Go h c H (upd H p o) := x.refl.put x n
theorem Same.mut {H H1 : Hp} {p : Addr} {o : HO} (n : H p = none) (g : Same H H1) : Same H (upd H1 p o) := fun b u hb => by
  rw [upd_ne (ne_of_none hb n)]; exact g b u hb
/-! ### promises of the law's own defs that every law has -/
/-- a draw below n -/
def sp_draw : Sp := fun vs H Q _ => ∃ (h c : Addr) (n : Int), vs = [.ref h, .int n] ∧ Hand H h c ∧ 0 < n ∧ n < 2 ^ 62 ∧ ∀ (d : Int) (H' : Hp), 0 ≤ d → d < n → Go h c H H' → Q (.int d) H'
/-- a new hand of the script -/
def sp_hand (K : PySem.W.Frag) : Sp := fun vs H Q _ => ∃ (a : Addr) (ns : List Int), vs = [.ref a] ∧ SqL K H a (ns.map V.int) ∧ ns.length ≤ 63 ∧ ∀ (h c : Addr) (H' : Hp), H h = none → Same H H' → Hand H' h c → Q (.ref h) H'
end RB
namespace L2
open PySem
theorem atI_int {α : Type} {xs : List α} {i : Int} {j : Nat} {x : α} (h0 : i = (j : Int)) (h : xs[j]? = some x) : atI xs i = some x := by
  subst h0
  have hj : j < xs.length := by
    rcases Nat.lt_or_ge j xs.length with q | q
    · exact q
    · rw [List.getElem?_eq_none q] at h; cases h
  unfold atI ixN
  rw [if_pos (by omega : (0 : Int) ≤ j), if_pos (by omega)]
  exact h
theorem log_lt {n : Int} (h : n < 2 ^ 62) (h0 : 0 < n) : n.natAbs.log2 < 9000 := by
  have h1 : n.natAbs < 2 ^ 62 := by omega
  have h2 : n.natAbs ≠ 0 := by omega
  exact Nat.lt_trans ((Nat.log2_lt h2).mpr h1) (by decide)
theorem mod_in {a n : Int} (h : 0 < n) : 0 ≤ a % n ∧ a % n < n := ⟨Int.emod_nonneg _ (by omega), Int.emod_lt_of_pos _ h⟩
theorem div_in {a n : Int} (h : 0 < n) (ha : 0 ≤ a) : 0 ≤ a / n := Int.ediv_nonneg ha (by omega)
end L2
namespace RB
open PySem L2
theorem S_nil : (Str.ofString "" : Str) = S [] := by decide +kernel
/-- whether a value is a row -/
inductive RowJ (K : PySem.W.Frag) (H : Hp) : V → Bool → Prop
  | str (l : List Nat) : RowJ K H (.str (S l)) (decide (Ls l))
  | non {x : V} {t : Value} (ty : TyX K H x t) (k : PySem.W.kitOne K t (.type "str") = some false) : RowJ K H x false
theorem kit_str {K : PySem.W.Frag} : PySem.W.kitOne K (.type "str") (.type "str") = some true := kit_ty (by decide +kernel)
theorem RowJ.row {K : PySem.W.Frag} {H : Hp} {l : List Nat} (h : Ls l) : RowJ K H (.str (S l)) true := by
  have := RowJ.str (K := K) (H := H) l
  rw [decide_eq_true h] at this
  exact this
theorem nil_L : Ls [] := fun _ h => nomatch h
theorem asc_dec {l : List Nat} : (decide (Asc l) && (decide (l ≠ []) && decide (Ls l))) = (decide (l ≠ []) && decide (Ls l)) := by
  by_cases h : Ls l
  · rw [decide_eq_true h.asc, Bool.true_and]
  · rw [decide_eq_false h, Bool.and_false, Bool.and_false]
end RB
namespace RB
open PySem L2 PyProof.Rows
theorem up1_L {c : Nat} (h : IsL c) : IsL (up1 c) := by unfold IsL at *; unfold up1; split <;> omega
theorem _root_.RB.Ls.up {l : List Nat} (h : Ls l) : Ls (l.map up1) := fun c hc => by
  obtain ⟨d, hd, e⟩ := List.mem_map.mp hc
  rw [← e]; exact up1_L (h d hd)
theorem sw_up {c : Nat} (h : 97 ≤ c ∧ c ≤ 122) : up1 c = sw c := by unfold up1 sw; simp [h]; omega
theorem sw_lo {c : Nat} (h : IsL c) (h2 : ¬ (97 ≤ c ∧ c ≤ 122)) : lo1 c = sw c := by
  unfold IsL at h; unfold lo1 sw; simp [show 65 ≤ c ∧ c ≤ 90 by omega]
theorem sum_one (l : List Nat) : ((l.map fun c => [c]).map S |>.map (·.length)).sum = l.length := by
  induction l with
  | nil => rfl
  | cons a r ih =>
    simp only [List.map_cons, List.sum_cons, List.length_cons] at *
    rw [ih]; show (S [a]).length + _ = _; rw [S_len]; simp; omega
theorem flat_one (l : List Nat) : (l.map fun c => [c]).flatten = l := by
  induction l with
  | nil => rfl
  | cons a r ih => simp [ih]
/-- the texts of one sign each -/
def ones (l : List Nat) : List V := l.map fun c => V.str (S [c])
theorem ones_eq (l : List Nat) : ones l = ((l.map fun c => [c]).map S).map V.str := by
  unfold ones; rw [List.map_map, List.map_map]; rfl
theorem ones_len (l : List Nat) : (ones l).length = l.length := List.length_map ..
theorem ones_at {l : List Nat} {i c : Nat} (h : l[i]? = some c) : (ones l)[i]? = some (.str (S [c])) := by
  unfold ones; rw [List.getElem?_map, h]; rfl
theorem nil_len : (Str.ofString "" : Str).length = 0 := by rw [S_nil, S_len]; rfl
theorem take_one {α : Type} {l : List α} {i : Nat} {x : α} (h : l[i]? = some x) : l.take (i + 1) = l.take i ++ [x] := by
  rw [List.take_add_one, h]; rfl
theorem cutV_to (xs : List V) (n : Nat) : cutV xs none (some (n : Int)) = xs.take n := by
  unfold cutV
  rw [HT.sIx_none, sIx_nat, List.drop_zero, Nat.sub_zero]
  rcases Nat.le_total n xs.length with h | h
  · rw [Nat.min_eq_left h]
  · rw [Nat.min_eq_right h, List.take_length, List.take_of_length_le h]
theorem cutV_from (xs : List V) (i : Nat) : cutV xs (some (i : Int)) none = xs.drop i := by
  unfold cutV
  rw [HT.sIx_none, sIx_nat]
  rcases Nat.le_total i xs.length with h | h
  · rw [Nat.min_eq_left h]; exact List.take_of_length_le (by rw [List.length_drop]; exact Nat.le_refl _)
  · rw [Nat.min_eq_right h, List.drop_length, List.drop_of_length_le h]; simp
end RB
namespace RB
open PySem L2 PyProof.Rows
/-- values that are no rows (the hand at h stands apart) -/
inductive Odd (H : Hp) (h : Addr) : V → Prop
  | non : Odd H h .non
  | bl (b : Bool) : Odd H h (.bl b)
  | int (i : Int) : Odd H h (.int i)
  | str {z : Str} (l : List Nat) (e : z = S l) (n : ¬ Ls l) : Odd H h (.str z)
  | lst {a : Addr} {xs : List V} (n : a ≠ h) (e : H a = some (.lst xs)) : Odd H h (.ref a)
  | tup {a : Addr} {xs : List V} (n : a ≠ h) (e : H a = some (.tup xs)) : Odd H h (.ref a)
  | dict {a : Addr} {xs : List (L2.Key × V)} (n : a ≠ h) (e : H a = some (.dK xs)) : Odd H h (.ref a)
theorem Odd.but {H H' : Hp} {h : Addr} {v : V} (x : Odd H h v) (b : But h H H') : Odd H' h v := by
  cases x with
  | non => exact .non
  | bl b => exact .bl b
  | int i => exact .int i
  | str l e n => exact .str l e n
  | lst n e => exact .lst n (b _ _ n e)
  | tup n e => exact .tup n (b _ _ n e)
  | dict n e => exact .dict n (b _ _ n e)
theorem Odd.row {K : PySem.W.Frag} {H : Hp} {h : Addr} {v : V} (x : Odd H h v) : RowJ K H v false := by
  cases x with
  | non => exact .non (.base .non) (kit_ty (by decide +kernel))
  | bl b => exact .non (.base (.bl b)) (kit_ty (by decide +kernel))
  | int i => exact .non (.base (.int i)) (kit_ty (by decide +kernel))
  | str l e n =>
    subst e
    have := RowJ.str (K := K) (H := H) l
    rw [decide_eq_false n] at this
    exact this
  | lst n e => exact .non (.base (.lst e)) (kit_ty (by decide +kernel))
  | tup n e => exact .non (.base (.tup e)) (kit_ty (by decide +kernel))
  | dict n e => exact .non (.base (.dK e)) (kit_ty (by decide +kernel))
theorem all_c {α : Type} {P : α → Prop} {a : α} {l : List α} (h : P a) (r : ∀ x ∈ l, P x) : ∀ x ∈ a :: l, P x := fun x hx => by
  rcases List.mem_cons.mp hx with e | e
  · rw [e]; exact h
  · exact r x e
theorem all_n {α : Type} {P : α → Prop} : ∀ x ∈ ([] : List α), P x := fun _ h => nomatch h
end RB
namespace RB
open PySem L2
theorem Go.free {H H1 : Hp} {h c p : Addr} (g : Go h c H H1) (n : p ≠ h) (e : H1 p = none) : H p = none := by
  cases q : H p with
  | none => rfl
  | some o =>
    rw [g.1 p o n q] at e
    cases e
theorem Go.put2 {H H1 : Hp} {h c p : Addr} {o : HO} (g : Go h c H H1) (n : p ≠ h ∧ p ≠ c) (hn : H p = none) : Go h c H (upd H1 p o) :=
  ⟨fun b u nb hb => by rw [upd_ne (ne_of_none hb hn)]; exact g.1 b u nb hb, g.2.put n⟩
end RB
namespace RB
open PySem L2
theorem RowJ.inv {K : PySem.W.Frag} {H : Hp} {v : V} {b : Bool} (j : RowJ K H v b) : ∀ l, v = .str (S l) → b = decide (Ls l) := by
  intro l e
  cases j with
  | str l' => cases S_inj (V.str.inj e); rfl
  | non ty k =>
    subst e
    cases ty with
    | base ty => cases ty; rw [kit_str] at k; cases k
end RB
namespace RB
open PySem L2 PyProof.Rows
/-- a display of numbers -/
def tInts : List Nat → TA
  | [] => tNil
  | n :: r => tCons (tC (.int n)) (tInts r)
theorem tInts_run : ∀ (ns : List Nat) (σ : L2.St) (H : Hp) (Q : List V → Hp → Prop), Q (ns.map fun n : Nat => V.int n) H → tInts ns σ H Q
  | [], _, _, _, q => q
  | n :: r, σ, H, Q, q => tInts_run r σ H (fun xs H2 => Q (V.int n :: xs) H2) q
/-- [..numbers..][a draw] -/
theorem rd_pick {K : PySem.W.Frag} {σ : L2.St} {H : Hp} {Q : VK} {E : XK} {h c : Addr} {i : Nat} {m : Int} (ns : List Nat) (hs : σ[i]? = some (some (.ref h))) (hH : Hand H h c) (hm : m = ns.length) (hz : 0 < ns.length ∧ ns.length ≤ 1000)
    (q : ∀ k ∈ ns, ∀ H', Go h c H H' → Q (.int (k : Nat)) H') : tOp (rIxL K) (tLst (tInts ns)) (tCall sp_draw [] E (tCons (tVar i) (tCons (tC (.int m)) tNil))) σ H Q := by
  refine tInts_run ns σ H _ ?_
  refine ⟨by rw [List.length_map]; exact Nat.le_trans hz.2 (by decide), fun p hp => ?_⟩
  refine ⟨_, hs, ?_⟩
  have g0 : Go h c H (upd H p (.lst (ns.map fun n : Nat => V.int n))) := Go.new hH hp
  refine ⟨h, c, m, rfl, g0.2, by omega, by omega, fun d H' d0 d1 g1 => ?_⟩
  obtain ⟨j, rfl⟩ : ∃ j : Nat, d = j := ⟨d.toNat, by omega⟩
  have hj : j < ns.length := by omega
  have hat : (ns.map fun n : Nat => V.int n)[j]? = some (.int (ns[j] : Nat)) := by rw [List.getElem?_map, List.getElem?_eq_getElem hj]; rfl
  exact ⟨p, _, _, _, rfl, rfl, SqL.of (g1.1 _ _ (hH.ne hp).1 upd_same), atI_int rfl hat, q _ (List.getElem_mem hj) H' (g0.trans g1)⟩
def alph : List Nat := List.range' 97 26
theorem alph_is : (Str.ofString "abcdefghijklmnopqrstuvwxyz" : Str) = S alph := by decide +kernel
theorem alph_L : Ls alph := by decide
theorem ne_self {v : V} : (!decide (v = v)) = false := by rw [decide_eq_true rfl]; rfl
end RB
namespace RB
open PySem L2
theorem RowJ.yes {K : PySem.W.Frag} {H : Hp} {v : V} {b : Bool} (j : RowJ K H v b) (e : b = true) : ∃ l, v = .str (S l) ∧ Ls l := by
  cases j with
  | str l => exact ⟨l, rfl, of_decide_eq_true e⟩
  | non ty k => cases e
end RB
namespace L2
theorem atI_neg {α : Type} {xs : List α} {i : Int} {j : Nat} {x : α} (h0 : i + xs.length = (j : Int)) (h1 : i < 0) (h : xs[j]? = some x) : atI xs i = some x := by
  unfold atI ixN
  rw [if_neg (by omega), if_pos (by omega), h0]
  exact h
end L2
namespace L2
theorem dec_ints (i j : Int) : decide (V.int i = V.int j) = decide (i = j) := by
  by_cases h : i = j
  · rw [decide_eq_true h, decide_eq_true (congrArg V.int h)]
  · rw [decide_eq_false h, decide_eq_false fun z => h (V.int.inj z)]
theorem dec_int0 (n : Nat) : decide (V.int (n : Int) = V.int 0) = decide (n = 0) := by
  by_cases h : n = 0
  · subst h; rfl
  · rw [decide_eq_false h, decide_eq_false]
    intro z
    exact h (by have := V.int.inj z; omega)
end L2
/-! What the functions of rows promise. -/
namespace RB
open PySem L2 PyProof.Rows
/-- an argument that ought to be a row: ok with its letters, or the error of the class at C -/
def Row1 (K : PySem.W.Frag) (C : Addr) (E : XK) (H : Hp) (v : V) (ok : List Nat → Prop) : Prop :=
  ∃ b, RowJ K H v b ∧ (∀ l, v = .str (S l) → Ls l → ok l) ∧ (b = false → ∀ H', Same H H' → E (.ref C) none H')
theorem Row1.yes {K : PySem.W.Frag} {C : Addr} {E : XK} {H : Hp} {l : List Nat} {ok : List Nat → Prop} (hl : Ls l) (h : ok l) : Row1 K C E H (.str (S l)) ok :=
  ⟨true, RowJ.row hl, fun l' e _ => by cases S_inj (V.str.inj e); exact h, fun z => nomatch z⟩
theorem Row1.no {K : PySem.W.Frag} {C : Addr} {E : XK} {H : Hp} {v : V} {ok : List Nat → Prop} (j : RowJ K H v false) (h : ∀ H', Same H H' → E (.ref C) none H') : Row1 K C E H v ok :=
  ⟨false, j, fun l e hl => (by have := j.inv l e; rw [decide_eq_true hl] at this; cases this), fun _ => h⟩
def sp_demand (K : PySem.W.Frag) (C : Addr) : Sp := fun vs H Q E => ∃ v, vs = [v] ∧ Row1 K C E H v fun _ => Q .non H
def sp_net (K : PySem.W.Frag) (C : Addr) : Sp := fun vs H Q E => ∃ v, vs = [v] ∧ Row1 K C E H v fun l => l.length ≤ 100000 ∧ ∀ H', Same H H' → Q (.str (S (red l))) H'
def sp_undone (K : PySem.W.Frag) (C : Addr) : Sp := fun vs H Q E => ∃ v, vs = [v] ∧ Row1 K C E H v fun l => l.length ≤ 100000 ∧ ∀ H', Same H H' → Q (.str (S (red (inv l)))) H'
def sp_undoings : Sp := fun vs H Q _ => ∃ l, vs = [.str (S l)] ∧ Ls l ∧ l.length ≤ 100000 ∧ Q (.str (S (inv l))) H
def sp_split : Sp := fun vs H Q _ => ∃ l, vs = [.str (S l)] ∧ Ls l ∧ l.length ≤ 100000 ∧
  ∀ a p H', Cut l a → Stop l a → Same H H' → H p = none → H' p = some (.tup [.str (S (l.take a)), .str (S (mid l a))]) → Q (.ref p) H'
def sp_repnet : Sp := fun vs H Q _ => ∃ (t : List Nat) (n : Nat), vs = [.str (S t), .int n] ∧ Ls t ∧ NoPair t ∧ t.length ≤ 100000 ∧ t.length * n ≤ 5000000 ∧ n < 2 ^ 62 ∧ ∀ H', Same H H' → Q (.str (S (red (rep t n)))) H'
/-- whether a value is an integer -/
inductive IntJ (K : PySem.W.Frag) (H : Hp) : V → Option Int → Prop
  | int (i : Int) : IntJ K H (.int i) (some i)
  | bl (b : Bool) : IntJ K H (.bl b) none
  | non {x : V} {t : Value} (ty : TyX K H x t) (k : PySem.W.kitOne K t (.type "int") = some false) : IntJ K H x none
def sp_isint (K : PySem.W.Frag) : Sp := fun vs H Q _ => ∃ v o, vs = [v] ∧ IntJ K H v o ∧ Q (.bl o.isSome) H
def within (o : Option Int) (a b : Int) : Bool := match o with | some i => decide (a ≤ i) && decide (i ≤ b) | none => false
def sp_within (K : PySem.W.Frag) : Sp := fun vs H Q _ => ∃ v o a b, vs = [v, .int a, .int b] ∧ IntJ K H v o ∧ Q (.bl (within o a b)) H
def sp_power (K : PySem.W.Frag) (C CN : Addr) : Sp := fun vs H Q E => ∃ v w, vs = [v, w] ∧ Row1 K C E H v fun l => ∃ o, IntJ K H w o ∧ (within o (-1000) 1000 = false → ∀ H', Same H H' → E (.ref CN) none H') ∧
  (∀ i : Int, w = .int i → -1000 ≤ i → i ≤ 1000 → l.length ≤ 5000 ∧ ∀ H', Same H H' → Q (.str (S (pw l i))) H')
def sp_turned (K : PySem.W.Frag) (C : Addr) : Sp := fun vs H Q E => ∃ v w, vs = [v, w] ∧ Row1 K C E H v fun l => Row1 K C E H w fun m => l.length + 2 * m.length ≤ 100000 ∧ ∀ H', Same H H' → Q (.str (S (red (m ++ l ++ inv m)))) H'
/-- what joined is handed -/
inductive RowsJ (K : PySem.W.Frag) (H : Hp) : V → Option (List (List Nat)) → Prop
  | bad {x : V} {t : Value} (ty : TyX K H x t) (k : PySem.W.kitAny K t [.type "list", .type "tuple"] = some false) : RowsJ K H x none
  | lst {p : Addr} {xs : List V} {bs : List Bool} (e : SqL K H p xs) (j : Paired (RowJ K H) xs bs) (n : bs.all id = false) (e2 : H p = some (.lst xs)) : RowsJ K H (.ref p) none
  | tup {p : Addr} {xs : List V} {bs : List Bool} (e : SqT K H p xs) (j : Paired (RowJ K H) xs bs) (n : bs.all id = false) (e2 : H p = some (.tup xs)) : RowsJ K H (.ref p) none
  | lstY {p : Addr} {ls : List (List Nat)} (e2 : H p = some (.lst (ls.map fun l => V.str (S l)))) (h : ∀ l ∈ ls, Ls l) : RowsJ K H (.ref p) (some ls)
  | tupY {p : Addr} {ls : List (List Nat)} (e2 : H p = some (.tup (ls.map fun l => V.str (S l)))) (h : ∀ l ∈ ls, Ls l) : RowsJ K H (.ref p) (some ls)
def sp_joined (K : PySem.W.Frag) (C : Addr) : Sp := fun vs H Q E => ∃ v o, vs = [v] ∧ RowsJ K H v o ∧ (o = none → ∀ H', Same H H' → E (.ref C) none H') ∧
  (∀ ls, o = some ls → ls.flatten.length ≤ 100000 ∧ ∀ H', Same H H' → Q (.str (S (red ls.flatten))) H')
end RB
namespace RB
open PySem L2 PyProof.Rows
theorem tyOf_same {K : PySem.W.Frag} {H H' : Hp} {v : V} {t : Value} (s : Same H H') (h : TyOf K H v t) : TyOf K H' v t := by
  cases h with
  | non => exact .non
  | bl b => exact .bl b
  | int i => exact .int i
  | str x => exact .str x
  | flt x => exact .flt x
  | lst e => exact .lst (s _ _ e)
  | frz e => exact .frz (s _ _ e)
  | tup e => exact .tup (s _ _ e)
  | dK e => exact .dK (s _ _ e)
  | dT e => exact .dT (s _ _ e)
  | ins e cl ha hn htk hm => exact .ins (s _ _ e) cl ha hn htk hm
theorem tyX_same {K : PySem.W.Frag} {H H' : Hp} {v : V} {t : Value} (s : Same H H') (h : TyX K H v t) : TyX K H' v t := by
  cases h with
  | base h => exact .base (tyOf_same s h)
  | byt b => exact .byt b
  | set e => exact .set (s _ _ e)
  | kList e c => exact .kList e c
  | kTuple e c => exact .kTuple e c
  | kDict e c => exact .kDict e c
  | fTuple e => exact .fTuple (s _ _ e)
  | fDict e => exact .fDict (s _ _ e)
theorem RowJ.same {K : PySem.W.Frag} {H H' : Hp} {v : V} {b : Bool} (s : Same H H') (j : RowJ K H v b) : RowJ K H' v b := by
  cases j with
  | str l => exact .str l
  | non ty k => exact .non (tyX_same s ty) k
theorem IntJ.same {K : PySem.W.Frag} {H H' : Hp} {v : V} {o : Option Int} (s : Same H H') (j : IntJ K H v o) : IntJ K H' v o := by
  cases j with
  | int i => exact .int i
  | bl b => exact .bl b
  | non ty k => exact .non (tyX_same s ty) k
theorem paired_at {α β : Type} {R : α → β → Prop} : ∀ {xs : List α} {bs : List β}, Paired R xs bs → ∀ {i : Nat} {x : α}, xs[i]? = some x → ∃ b, bs[i]? = some b ∧ R x b
  | _, _, .nil, _, _, h => by simp at h
  | _, _, .cons r _, 0, _, h => by cases h; exact ⟨_, rfl, r⟩
  | _, _, .cons _ p, i + 1, _, h => paired_at p (i := i) h
theorem paired_len {α β : Type} {R : α → β → Prop} : ∀ {xs : List α} {bs : List β}, Paired R xs bs → xs.length = bs.length
  | _, _, .nil => rfl
  | _, _, .cons _ p => by rw [List.length_cons, List.length_cons, paired_len p]
theorem all_at {bs : List Bool} (h : ∀ (i : Nat) (b : Bool), bs[i]? = some b → b = true) : bs.all id = true := by
  rw [List.all_eq_true]
  intro b hb
  obtain ⟨k0, hk0, e⟩ := List.getElem_of_mem hb
  exact h k0 b (by rw [List.getElem?_eq_getElem hk0, e])
/-! ### the order of rows -/
def posL (c : Nat) : Int := if 97 ≤ c then 2 * ((c : Int) - 97) else 2 * ((c : Int) - 65) + 1
def LETS : Str := "aAbBcCdDeEfFgGhHiIjJkKlLmMnNoOpPqQrRsStTuUvVwWxXyYzZ"
theorem find_let : ∀ c, c < 123 → IsL c → Txt.find LETS (S [c]) = posL c := by decide +kernel
def plD (l : List Nat) : PyData := .tuple [.int l.length, .list (l.map fun c => PyData.int (posL c))]
def earl (l m : List Nat) : Bool := PySem.W.dataLt (plD l) (plD m)
theorem dpAll_ints {K : PySem.W.Frag} {H : Hp} : ∀ ns : List Int, DpAll K H (ns.map V.int) (ns.map PyData.int)
  | [] => .nil
  | n :: r => .cons (.int n) (dpAll_ints r)
theorem alike_ints : ∀ ns ms : List Int, PySem.W.alikeAll (ns.map PyData.int) (ms.map PyData.int) = true
  | [], _ => by unfold PySem.W.alikeAll; rfl
  | _ :: _, [] => by unfold PySem.W.alikeAll; rfl
  | n :: r, m :: r2 => by
    show (PySem.W.alike (.int n) (.int m) && PySem.W.alikeAll (r.map PyData.int) (r2.map PyData.int)) = true
    rw [alike_ints r r2]; rfl
theorem pl_alike (l m : List Nat) : PySem.W.alike (plD l) (plD m) = true := by
  have h := alike_ints (l.map posL) (m.map posL)
  rw [List.map_map, List.map_map] at h
  simp only [plD, PySem.W.alike, PySem.W.alikeAll, Bool.true_and, Bool.and_true]
  exact h
def sp_place : Sp := fun vs H Q _ => ∃ l, vs = [.str (S l)] ∧ Ls l ∧ l.length ≤ 100000 ∧
  ∀ p q H', Same H H' → H' p = some (.tup [.int l.length, .ref q]) → H' q = some (.lst ((l.map posL).map V.int)) → Q (.ref p) H'
def sp_earlier (K : PySem.W.Frag) (C : Addr) : Sp := fun vs H Q E => ∃ v w, vs = [v, w] ∧ Row1 K C E H v fun l => Row1 K C E H w fun m => l.length ≤ 100000 ∧ m.length ≤ 100000 ∧ ∀ H', Same H H' → Q (.bl (earl l m)) H'
/-! ### roots -/
/-- the row looks like itself again d letters on -/
def Turn (c : List Nat) (d : Nat) : Prop := ((c ++ c).drop d).take c.length = c ∧ d ≤ c.length
def Per (c : List Nat) (d : Nat) : Prop := 1 ≤ d ∧ Turn c d ∧ ∀ k, 1 ≤ k → k < d → ¬ Turn c k
theorem at_turn (c : List Nat) (k : Nat) : PySem.StrLaws.At (S (c ++ c)) (S c) (S (c ++ c)).length k ↔ Turn c k := by
  unfold PySem.StrLaws.At Builtin.Str.subAt Turn
  rw [S_len, S_len, List.length_append]
  have e : ((S (c ++ c)).cps.extract k (k + c.length) == (S c).cps) = decide (((c ++ c).drop k).take c.length = c) := by
    show ((c ++ c).toArray.extract k (k + c.length) == c.toArray) = _
    have e1 : (c ++ c).toArray.extract k (k + c.length) = (((c ++ c).drop k).take c.length).toArray := by
      rw [List.extract_toArray, List.extract_eq_take_drop, Nat.add_sub_cancel_left]
    rw [e1]
    by_cases h : ((c ++ c).drop k).take c.length = c
    · rw [h, decide_eq_true rfl]; simp
    · rw [decide_eq_false h]
      rw [beq_eq_false_iff_ne]
      intro z
      exact h (by simpa using z)
  rw [e, decide_eq_true_iff]
  constructor
  · exact fun ⟨h1, h2⟩ => ⟨h2, by omega⟩
  · exact fun ⟨h1, h2⟩ => ⟨by omega, h1⟩
theorem find_per {c : List Nat} (h : c ≠ []) : ∃ d : Nat, Txt.find3 (S (c ++ c)) (S c) 1 = d ∧ Per c d := by
  have hl : 0 < c.length := List.length_pos_iff.mpr h
  have full : Turn c c.length := ⟨by rw [List.drop_left]; exact List.take_length .., Nat.le_refl _⟩
  unfold Txt.find3
  have ef : fromIndex (S (c ++ c)).length 1 = 1 := rfl
  rw [ef]
  rcases PySem.StrLaws.occ_head_from (S (c ++ c)) (S c) 1 1 (Nat.le_refl _) with ⟨_, hn⟩ | ⟨i, r, e, h1, ha, hn⟩
  · exact absurd ((at_turn c c.length).mpr full) (hn _ hl)
  · rw [e]
    exact ⟨i, rfl, h1, (at_turn c i).mp ha, fun k k1 k2 z => hn k k1 k2 ((at_turn c k).mpr z)⟩
def sp_rootnet : Sp := fun vs H Q _ => ∃ t : List Nat, vs = [.str (S t)] ∧ Ls t ∧ NoPair t ∧ t ≠ [] ∧ t.length ≤ 100000 ∧ ∀ a d p H', Cut t a → Stop t a → Per (mid t a) d → Same H H' → H p = none →
  H' p = some (.tup [.str (S (t.take a ++ (mid t a).take d ++ inv (t.take a))), .int ((mid t a).length / d : Nat)]) → Q (.ref p) H'
def sp_root (K : PySem.W.Frag) (C CR : Addr) : Sp := fun vs H Q E => ∃ v, vs = [v] ∧ Row1 K C E H v fun l => l.length ≤ 100000 ∧ (red l = [] → ∀ H', Same H H' → E (.ref CR) none H') ∧
  (red l ≠ [] → ∀ a d p H', Cut (red l) a → Stop (red l) a → Per (mid (red l) a) d → Same H H' → H p = none →
    H' p = some (.tup [.str (S ((red l).take a ++ (mid (red l) a).take d ++ inv ((red l).take a))), .int ((mid (red l) a).length / d : Nat)]) → Q (.ref p) H')
end RB
namespace RB
open PySem L2 PyProof.Rows
theorem kit_lst {K : PySem.W.Frag} : PySem.W.kitAny K (.type "list") [.type "list", .type "tuple"] = some true :=
  kitAny_cons (b := true) (kit_ty (by decide +kernel)) (fun z => nomatch z) (fun _ => rfl)
theorem kit_tup {K : PySem.W.Frag} : PySem.W.kitAny K (.type "tuple") [.type "list", .type "tuple"] = some true :=
  kitAny_cons (b := false) (kit_ty (by decide +kernel)) (fun _ => kitAny_cons (b := true) (kit_ty (by decide +kernel)) (fun z => nomatch z) (fun _ => rfl)) (fun z => nomatch z)
theorem sum_S (ls : List (List Nat)) : ((ls.map S).map (·.length)).sum = ls.flatten.length := by
  induction ls with
  | nil => rfl
  | cons a r ih => simp only [List.map_cons, List.sum_cons, List.flatten_cons, List.length_append, ih, S_len]
theorem map_S (ls : List (List Nat)) : (ls.map fun l => V.str (S l)) = (ls.map S).map V.str := by rw [List.map_map]; rfl
end RB
namespace RB
open PySem L2
theorem depths_ints : ∀ ns : List Int, PyData.depthAll (ns.map PyData.int) = 0
  | [] => (by simp [PyData.depthAll] : _ = 0)
  | n :: r => by
    have := depths_ints r
    simp only [List.map_cons, PyData.depth, PyData.depthAll]
    omega
theorem pl_depth (l : List Nat) : (plD l).depth ≤ 32 := by
  have h := depths_ints (l.map posL)
  rw [List.map_map] at h
  simp only [plD, PyData.depth, PyData.depthAll]
  have : PyData.depthAll (l.map fun c => PyData.int (posL c)) = 0 := h
  omega
end RB
namespace RB
open PySem L2
theorem alph_at {j : Nat} (h : j < 26) : alph[j]? = some (97 + j) := by
  unfold alph; rw [List.getElem?_range' h]; simp
theorem alph_len : alph.length = 26 := rfl
/-- deeds, ascending -/
structure Deeds (d : List Nat) : Prop where
  low : ∀ x ∈ d, 97 ≤ x ∧ x ≤ 122
  up : List.Pairwise (· < ·) d
theorem Deeds.L {d : List Nat} (h : Deeds d) : Ls d := fun c hc => .inr (h.low c hc)
theorem asc_len : ∀ (l : List Nat) (a : Nat), List.Pairwise (· < ·) l → (∀ x ∈ l, a ≤ x ∧ x ≤ 122) → l.length ≤ 123 - a
  | [], a, _, _ => Nat.zero_le (123 - a)
  | x :: r, a, p, h => by
    have h1 := h x List.mem_cons_self
    have p2 := List.pairwise_cons.mp p
    have := asc_len r (x + 1) p2.2 fun y hy => ⟨p2.1 y hy, (h y (List.mem_cons_of_mem _ hy)).2⟩
    rw [List.length_cons]; omega
theorem Deeds.len {d : List Nat} (h : Deeds d) : d.length ≤ 26 := asc_len d 97 h.up h.low
def sp_deeds : Sp := fun vs H Q _ => ∃ (h c : Addr) (n : Nat), vs = [.ref h, .int n] ∧ Hand H h c ∧ 1 ≤ n ∧ n ≤ 26 ∧ ∀ d H', Deeds d → d ≠ [] → d.length ≤ n → Go h c H H' → Q (.str (S d)) H'
end RB
namespace RB
open PySem L2
theorem within_yes {i a b : Int} (h1 : a ≤ i) (h2 : i ≤ b) : within (some i) a b = true := by
  show (decide (a ≤ i) && decide (i ≤ b)) = true
  rw [decide_eq_true h1, decide_eq_true h2]; rfl
theorem kit_int {K : PySem.W.Frag} : PySem.W.kitOne K (.type "int") (.type "int") = some true := kit_ty (by decide +kernel)
theorem IntJ.inv {K : PySem.W.Frag} {H : Hp} {v : V} {o : Option Int} (j : IntJ K H v o) : ∀ i, v = .int i → o = some i := by
  intro i e
  cases j with
  | int k => cases e; rfl
  | bl b => cases e
  | non ty k =>
    subst e
    cases ty with
    | base ty => cases ty; rw [kit_int] at k; cases k
end RB
/-! Lists of texts and of numbers compared. -/
namespace RB
open PySem L2 PyProof.Rows
theorem lay_strs : ∀ xs : List Str, (∀ x ∈ xs, PyData.strOk x = true) → PyData.canLayAll0 (xs.map PyData.str) = true
  | [], _ => by simp only [List.map_nil, PyData.canLayAll0]
  | x :: r, h => by
    have h1 := lay_strs r fun y hy => h y (List.mem_cons_of_mem _ hy)
    have h2 := h x List.mem_cons_self
    simp only [List.map_cons, PyData.canLayAll0, PyData.canLay0, h1, h2, Bool.and_self]
theorem deep_strs : ∀ xs : List Str, PyData.depthAll (xs.map PyData.str) = 0
  | [] => by simp only [List.map_nil, PyData.depthAll]
  | x :: r => by
    have := deep_strs r
    simp only [List.map_cons, PyData.depth, PyData.depthAll, this, Nat.max_self]
theorem sh_strs (xs : List Str) (h : ∀ x ∈ xs, PyData.strOk x = true) : SeqAt.shaped (.list (xs.map PyData.str)) = true := by
  have h1 := lay_strs xs h
  have h2 := deep_strs xs
  simp only [SeqAt.shaped, PyData.canLay0, PyData.depth, h1, h2, Bool.true_and]; decide
theorem sh_strsT (xs : List Str) (h : ∀ x ∈ xs, PyData.strOk x = true) : SeqAt.shaped (.tuple (xs.map PyData.str)) = true := by
  have h1 := lay_strs xs h
  have h2 := deep_strs xs
  simp only [SeqAt.shaped, PyData.canLay0, PyData.depth, h1, h2, Bool.true_and]; decide
theorem eqvAll_strs : ∀ xs ys : List Str, PyData.eqvAll (xs.map PyData.str) (ys.map PyData.str) = decide (xs = ys)
  | [], [] => by simp only [List.map_nil, PyData.eqvAll, decide_true]
  | [], y :: t => by simp only [List.map_nil, List.map_cons, PyData.eqvAll]; rw [decide_eq_false]; exact fun z => nomatch z
  | x :: r, [] => by simp only [List.map_nil, List.map_cons, PyData.eqvAll]; rw [decide_eq_false]; exact fun z => nomatch z
  | x :: r, y :: t => by
    have := eqvAll_strs r t
    simp only [List.map_cons, PyData.eqvAll, PyData.eqv, this]
    by_cases h : x = y <;> by_cases h2 : r = t <;> simp [h, h2]
theorem eqv_strsL (xs ys : List Str) : PyData.eqv (.list (xs.map PyData.str)) (.list (ys.map PyData.str)) = decide (xs = ys) := by
  have := eqvAll_strs xs ys
  simp only [PyData.eqv, this]
theorem dp_strs {K : PySem.W.Frag} {H : Hp} : ∀ xs : List Str, DpAll K H (xs.map V.str) (xs.map PyData.str)
  | [] => .nil
  | x :: r => .cons (.str x) (dp_strs r)
/-- two lists of texts, == and != -/
theorem ne_strs {K : PySem.W.Frag} {H : Hp} {Q : VK} {p q : Addr} {xs ys : List Str} (hp : SqL K H p (xs.map V.str)) (hq : SqL K H q (ys.map V.str)) (hx : ∀ x ∈ xs, PyData.strOk x = true) (hy : ∀ x ∈ ys, PyData.strOk x = true) (h : Q (.bl (!decide (xs = ys))) H) : rNeD K (.ref p) (.ref q) H Q :=
  ⟨_, _, .lst hp (dp_strs xs), .lst hq (dp_strs ys), sh_strs xs hx, sh_strs ys hy, by rw [eqv_strsL]; exact h⟩
theorem eq_strs {K : PySem.W.Frag} {H : Hp} {Q : VK} {p q : Addr} {xs ys : List Str} (hp : SqL K H p (xs.map V.str)) (hq : SqL K H q (ys.map V.str)) (hx : ∀ x ∈ xs, PyData.strOk x = true) (hy : ∀ x ∈ ys, PyData.strOk x = true) (h : Q (.bl (decide (xs = ys))) H) : rEqD K (.ref p) (.ref q) H Q :=
  ⟨_, _, .lst hp (dp_strs xs), .lst hq (dp_strs ys), sh_strs xs hx, sh_strs ys hy, by rw [eqv_strsL]; exact h⟩
theorem ok_S {l : List Nat} (h : Ls l) : PyData.strOk (S l) = true := by
  show l.toArray.all (fun c => decide (c < 0x110000)) = true
  rw [List.all_toArray, List.all_eq_true]
  intro c hc
  have := h.asc c hc
  exact decide_eq_true (by omega)
theorem ok_map {ls : List (List Nat)} (h : ∀ l ∈ ls, Ls l) : ∀ x ∈ ls.map S, PyData.strOk x = true := fun x hx => by
  obtain ⟨l, hl, e⟩ := List.mem_map.mp hx
  rw [← e]; exact ok_S (h l hl)
/-! ### the net of a row so often, by whole numbers -/
theorem zmix {l : List Nat} (h : Ls l) (a b : Nat) : Eqv (rep l a ++ rep (inv l) b) (if b ≤ a then rep l (a - b) else rep (inv l) (b - a)) := by
  by_cases q : b ≤ a
  · rw [if_pos q]
    have e : rep l a = rep l (a - b) ++ rep l b := by rw [← rep_add]; congr 1; omega
    have k : Eqv (rep l b ++ rep (inv l) b) [] := by
      have := eqv_inv_r (h.rep b)
      rw [inv_rep] at this
      exact this
    have := (Eqv.refl (rep l (a - b))).app k (h.rep _)
    rw [e, List.append_assoc]
    rw [List.append_nil] at this
    exact this
  · rw [if_neg q]
    have e : rep (inv l) b = rep (inv l) a ++ rep (inv l) (b - a) := by rw [← rep_add]; congr 1; omega
    have k : Eqv (rep l a ++ rep (inv l) a) [] := by
      have := eqv_inv_r (h.rep a)
      rw [inv_rep] at this
      exact this
    have := k.app (Eqv.refl (rep (inv l) (b - a))) Ls.nil
    rw [e, ← List.append_assoc]
    exact this
theorem pw_of {l : List Nat} (i : Int) : pw l i = red (if i < 0 then rep (inv l) (-i).toNat else rep l i.toNat) := by unfold pw; split <;> rfl
theorem zz_L {l : List Nat} (h : Ls l) (i : Int) : Ls (if i < 0 then rep (inv l) (-i).toNat else rep l i.toNat) := by
  split
  · exact h.inv.rep _
  · exact h.rep _
theorem pw_L {l : List Nat} (h : Ls l) (i : Int) : Ls (pw l i) := by rw [pw_of]; exact red_L (zz_L h i)
theorem pw_eqv {l : List Nat} (h : Ls l) (i : Int) : Eqv (pw l i) (if i < 0 then rep (inv l) (-i).toNat else rep l i.toNat) := by
  rw [pw_of]; exact (eqv_red (zz_L h i)).symm
theorem pw_add {l : List Nat} (h : Ls l) (i j : Int) : red (pw l i ++ pw l j) = pw l (i + j) := by
  have e := (pw_eqv h i).app (pw_eqv h j) (zz_L h i)
  rw [e.red, pw_of (i + j)]
  by_cases hi : i < 0 <;> by_cases hj : j < 0
  · rw [if_pos hi, if_pos hj, if_pos (by omega), ← rep_add]
    congr 2; omega
  · rw [if_pos hi, if_neg hj]
    have z := zmix h.inv (-i).toNat j.toNat
    rw [inv_inv h] at z
    rw [z.red]
    by_cases q : j.toNat ≤ (-i).toNat
    · rw [if_pos q]
      by_cases q2 : i + j < 0
      · rw [if_pos q2]; congr 2; omega
      · rw [if_neg q2]
        have e1 : (-i).toNat - j.toNat = 0 := by omega
        have e2 : (i + j).toNat = 0 := by omega
        rw [e1, e2]; rfl
    · rw [if_neg q, if_neg (by omega)]; congr 2; omega
  · rw [if_neg hi, if_pos hj]
    have z := zmix h i.toNat (-j).toNat
    rw [z.red]
    by_cases q : (-j).toNat ≤ i.toNat
    · rw [if_pos q, if_neg (by omega)]; congr 2; omega
    · rw [if_neg q, if_pos (by omega)]; congr 2; omega
  · rw [if_neg hi, if_neg hj, if_neg (by omega), ← rep_add]
    congr 2; omega
theorem pw_one (l : List Nat) : pw l 1 = red l := by
  rw [pw_of, if_neg (by decide)]
  show red (rep l 1) = _
  rw [rep_rep]
theorem pw_back (l : List Nat) : pw l (-1) = red (inv l) := by
  rw [pw_of, if_pos (by decide)]
  show red (rep (inv l) 1) = _
  rw [rep_rep]
theorem pw_len (l : List Nat) (i : Int) : (pw l i).length ≤ l.length * i.natAbs := by
  rw [pw_of]
  refine Nat.le_trans (red_len _) ?_
  split
  · rw [rep_len, inv_len]; exact Nat.le_of_eq (by congr 1; omega)
  · rw [rep_len]; exact Nat.le_of_eq (by congr 1; omega)
end RB
/-! Roots: what turns look like, the shortest one, and the greatest power. -/
namespace RB
/-- the row gone round, letter by letter -/
def cy (c : List Nat) (i : Nat) : Option Nat := c[i % c.length]?
theorem cy_low {c : List Nat} {i : Nat} (h : i < c.length) : cy c i = c[i]? := by unfold cy; rw [Nat.mod_eq_of_lt h]
theorem cy_len (c : List Nat) (i : Nat) : cy c (i + c.length) = cy c i := by unfold cy; rw [Nat.add_mod_right]
theorem two_at {c : List Nat} {i : Nat} (h : i < 2 * c.length) : (c ++ c)[i]? = cy c i := by
  by_cases q : i < c.length
  · rw [List.getElem?_append_left q, cy_low q]
  · have e : i = (i - c.length) + c.length := by omega
    rw [List.getElem?_append_right (by omega)]
    rw [e, cy_len, cy_low (by omega)]
    congr 1
    omega
theorem turn_at {c : List Nat} {d : Nat} : Turn c d ↔ d ≤ c.length ∧ ∀ i, i < c.length → cy c (i + d) = cy c i := by
  unfold Turn
  constructor
  · rintro ⟨h, hd⟩
    refine ⟨hd, fun i hi => ?_⟩
    have e : (((c ++ c).drop d).take c.length)[i]? = c[i]? := by rw [h]
    rw [List.getElem?_take, if_pos hi, List.getElem?_drop, Nat.add_comm, two_at (by omega)] at e
    rw [e, cy_low hi]
  · rintro ⟨hd, h⟩
    refine ⟨?_, hd⟩
    apply List.ext_getElem?
    intro i
    by_cases hi : i < c.length
    · rw [List.getElem?_take, if_pos hi, List.getElem?_drop, Nat.add_comm, two_at (by omega), h i hi, cy_low hi]
    · rw [List.getElem?_eq_none (by rw [List.length_take]; omega), List.getElem?_eq_none (by omega)]
theorem cy_mod (c : List Nat) (i : Nat) : cy c (i % c.length) = cy c i := by unfold cy; rw [Nat.mod_mod]
theorem turn_all {c : List Nat} {d : Nat} (h0 : c ≠ []) (h : Turn c d) (i : Nat) : cy c (i + d) = cy c i := by
  have pos := List.length_pos_iff.mpr h0
  have := (turn_at.mp h).2 (i % c.length) (Nat.mod_lt _ pos)
  rw [cy_mod] at this
  rw [← this]
  unfold cy
  rw [Nat.mod_add_mod]
theorem turn_mul {c : List Nat} {d : Nat} (h0 : c ≠ []) (h : Turn c d) (i : Nat) : ∀ k, cy c (i + d * k) = cy c i
  | 0 => rfl
  | k + 1 => by
    have e : i + d * (k + 1) = (i + d * k) + d := by rw [Nat.mul_succ]; omega
    rw [e, turn_all h0 h, turn_mul h0 h i k]
/-- the shortest turn divides the length -/
theorem per_dvd {c : List Nat} {d : Nat} (h0 : c ≠ []) (h : Per c d) : d ∣ c.length := by
  obtain ⟨h1, ht, hm⟩ := h
  apply Nat.dvd_of_mod_eq_zero
  by_cases z : c.length % d = 0
  · exact z
  · exfalso
    have lt := Nat.mod_lt c.length (by omega : d > 0)
    refine hm (c.length % d) (by omega) lt (turn_at.mpr ⟨Nat.mod_le _ _, fun i _ => ?_⟩)
    have e := turn_mul h0 ht (i + c.length % d) (c.length / d)
    have e2 : i + c.length % d + d * (c.length / d) = i + c.length := by have := Nat.mod_add_div c.length d; omega
    rw [e2, cy_len] at e
    exact e.symm
theorem rep_at {u : List Nat} : ∀ {n i : Nat}, i < n * u.length → (rep u n)[i]? = u[i % u.length]?
  | 0, i, h => by omega
  | n + 1, i, h => by
    show (u ++ rep u n)[i]? = _
    by_cases q : i < u.length
    · rw [List.getElem?_append_left q, Nat.mod_eq_of_lt q]
    · rw [List.getElem?_append_right (by omega), rep_at (by rw [Nat.succ_mul] at h; omega)]
      congr 1
      have e : i = (i - u.length) + u.length := by omega
      conv => rhs; rw [e]
      rw [Nat.add_mod_right]
/-- the row is its first letters so often -/
theorem per_rep {c : List Nat} {d : Nat} (h0 : c ≠ []) (hd : 1 ≤ d) (ht : Turn c d) (hv : d ∣ c.length) : rep (c.take d) (c.length / d) = c := by
  have dl : (c.take d).length = d := by rw [List.length_take]; have := ht.2; omega
  have ml : c.length / d * d = c.length := Nat.div_mul_cancel hv
  apply List.ext_getElem?
  intro i
  by_cases hi : i < c.length
  · rw [rep_at (by rw [dl, ml]; exact hi), dl, List.getElem?_take, if_pos (Nat.mod_lt _ (by omega))]
    have e := turn_mul h0 ht (i % d) (i / d)
    rw [Nat.mod_add_div, cy_low hi] at e
    have hlt : i % d < c.length := by have := Nat.mod_lt i (by omega : d > 0); have := ht.2; omega
    rw [cy_low hlt] at e
    exact e.symm
  · have : (rep (c.take d) (c.length / d)).length = c.length := by rw [rep_len, dl, Nat.mul_comm, ml]
    rw [List.getElem?_eq_none (by omega), List.getElem?_eq_none (by omega)]
/-- what is put together of so many alike turns by one of them -/
theorem rep_turn {u : List Nat} {n : Nat} (h0 : u ≠ []) (hn : 1 ≤ n) : Turn (rep u n) u.length := by
  have pos := List.length_pos_iff.mpr h0
  have hl : (rep u n).length = n * u.length := by rw [rep_len, Nat.mul_comm]
  have hle : u.length ≤ n * u.length := Nat.le_mul_of_pos_left _ hn
  refine turn_at.mpr ⟨by omega, fun i hi => ?_⟩
  have at_ : ∀ j, cy (rep u n) j = u[j % u.length]? := fun j => by
    unfold cy
    rw [hl, rep_at (Nat.mod_lt _ (by omega)), Nat.mod_mod_of_dvd _ (Nat.dvd_mul_left _ _)]
  rw [at_, at_, Nat.add_mod_right]
/-- a turn of the one is a turn of all -/
theorem turn_up {u : List Nat} {n k : Nat} (h0 : u ≠ []) (hn : 1 ≤ n) (h : Turn u k) : Turn (rep u n) k := by
  have pos := List.length_pos_iff.mpr h0
  have hl : (rep u n).length = n * u.length := by rw [rep_len, Nat.mul_comm]
  have hle : u.length ≤ n * u.length := Nat.le_mul_of_pos_left _ hn
  have hk := h.2
  refine turn_at.mpr ⟨by omega, fun i hi => ?_⟩
  have at_ : ∀ j, cy (rep u n) j = cy u j := fun j => by
    unfold cy
    rw [hl, rep_at (Nat.mod_lt _ (by omega)), Nat.mod_mod_of_dvd _ (Nat.dvd_mul_left _ _)]
  rw [at_, at_, turn_all h0 h]
/-- the ends of a net can be taken in one way only -/
theorem cut_one {t : List Nat} {a b : Nat} (ca : Cut t a) (sa : Stop t a) (cb : Cut t b) (sb : Stop t b) : a = b := by
  have key : ∀ {a b : Nat}, Cut t b → Stop t a → ¬ a < b := fun {a b} cb sa lt => by
    have hs := cb.small
    have hx : t[a]? = some t[a] := List.getElem?_eq_getElem (by omega)
    have hy := cb.ends a _ lt hx
    exact sa _ _ (by omega) hx hy rfl
  rcases Nat.lt_trichotomy a b with h | h | h
  · exact absurd h (key cb sa)
  · exact h
  · exact absurd h (key ca sb)
/-! a row that loses nothing is a net -/
theorem push_lt {st : List Nat} {c : Nat} : (push st c).length = st.length + 1 → push st c = c :: st := by
  cases st with
  | nil => intro _; rfl
  | cons t r =>
    intro h
    by_cases e : t = sw c
    · have e1 : push (t :: r) c = r := if_pos e
      rw [e1] at h
      simp at h; omega
    · exact if_neg e
theorem fold_full : ∀ (l st : List Nat), (l.foldl push st).length = st.length + l.length → l.foldl push st = l.reverse ++ st
  | [], st, _ => rfl
  | c :: l, st, h => by
    have h1 := kst_len_aux l (push st c)
    have h2 := push_len st c
    have h3 : (l.foldl push (push st c)).length = st.length + (l.length + 1) := h
    have h4 : (push st c).length = st.length + 1 := by omega
    have e := push_lt h4
    have h5 := fold_full l (push st c) (by omega)
    show l.foldl push (push st c) = _
    rw [h5, e]; simp
theorem red_full {l : List Nat} (h : (red l).length = l.length) : red l = l := by
  have h1 : (l.foldl push []).length = ([] : List Nat).length + l.length := by
    have : (red l).length = (kst l).length := by unfold red; rw [List.length_reverse]
    rw [h] at this
    show (kst l).length = _
    rw [← this]; simp
  have := fold_full l [] h1
  unfold red kst
  rw [this]; simp
/-- the ends may be dropped from both -/
theorem eqv_drop {s x y : List Nat} (hs : Ls s) (hx : Ls x) (hy : Ls y) (h : Eqv (s ++ x ++ inv s) (s ++ y ++ inv s)) : Eqv x y := by
  have f : ∀ {z : List Nat}, Ls z → Eqv (inv s ++ ((s ++ z ++ inv s) ++ s)) z := fun {z} hz => by
    have e : inv s ++ ((s ++ z ++ inv s) ++ s) = (inv s ++ s) ++ (z ++ (inv s ++ s)) := by simp
    rw [e]
    have k := (eqv_inv_l hs).app ((Eqv.refl z).app (eqv_inv_l hs) hz) Ls.nil
    rw [List.nil_append, List.append_nil] at k
    exact k
  exact (f hx).symm.trans (((Eqv.refl (inv s)).app (h.app (Eqv.refl s) ((hs.app hy).app hs.inv)) hs.inv).trans (f hy))
theorem rep_side {s u : List Nat} (hs : Ls s) (hu : Ls u) : ∀ n, Eqv (rep (s ++ u ++ inv s) (n + 1)) (s ++ rep u (n + 1) ++ inv s)
  | 0 => by rw [rep_rep, rep_rep]; exact Eqv.refl _
  | n + 1 => by
    have h1 : Eqv (rep (s ++ u ++ inv s) (n + 1 + 1)) ((s ++ u ++ inv s) ++ (s ++ rep u (n + 1) ++ inv s)) := (Eqv.refl _).app (rep_side hs hu n) ((hs.app hu).app hs.inv)
    refine h1.trans ?_
    have h2 : (s ++ u ++ inv s) ++ (s ++ rep u (n + 1) ++ inv s) = (s ++ u) ++ ((inv s ++ s) ++ (rep u (n + 1) ++ inv s)) := by simp
    have h3 : s ++ rep u (n + 1 + 1) ++ inv s = (s ++ u) ++ ([] ++ (rep u (n + 1) ++ inv s)) := by
      show s ++ (u ++ rep u (n + 1)) ++ inv s = _
      simp
    rw [h2, h3]
    exact (Eqv.refl _).app ((eqv_inv_l hs).app (Eqv.refl _) Ls.nil) (hs.app hu)
end RB
namespace RB
theorem core_ends {t : List Nat} {a : Nat} (c : Cut t a) : t.drop (t.length - a) = inv (t.take a) ∧ t = t.take a ++ mid t a ++ inv (t.take a) := by
  have e := cut_eq c
  have hs := c.small
  have e2 : t = t.take a ++ mid t a ++ inv (t.take a) := e
  refine ⟨?_, e2⟩
  have hl : (t.take a ++ mid t a).length = t.length - a := by
    rw [List.length_append, List.length_take, mid_len hs]; omega
  conv => lhs; rw [e2]
  have : t.length - a = (t.take a ++ mid t a).length := hl.symm
  rw [← e2, this]
  conv => lhs; arg 2; rw [e2]
  rw [List.drop_left]
theorem core_first {t : List Nat} {a e : Nat} (h : e ≤ t.length - 2 * a) : t.take (a + e) = t.take a ++ (mid t a).take e := by
  unfold mid
  rw [List.take_take, Nat.min_eq_left h, List.take_add]
/-- what the law tries, at k times -/
theorem root_test {t : List Nat} {a k : Nat} (ht : Ls t) (np : NoPair t) (h0 : t ≠ []) (c : Cut t a) (s : Stop t a) (hk : k ∣ (mid t a).length) (k1 : 1 ≤ k) :
    red (rep (t.take a ++ (mid t a).take ((mid t a).length / k) ++ inv (t.take a)) k) = t ↔ Turn (mid t a) ((mid t a).length / k) := by
  have hm : Ls (mid t a) := (ht.drop a).take _
  have hs := ht.take a
  have co := core_of ht np h0 c s
  have e2 := (core_ends c).2
  obtain ⟨n, rfl⟩ : ∃ n, k = n + 1 := ⟨k - 1, by omega⟩
  generalize hc : mid t a = m at *
  generalize he : m.length / (n + 1) = e
  have hu : Ls (m.take e) := hm.take e
  have ek : e * (n + 1) = m.length := by rw [← he]; exact Nat.div_mul_cancel hk
  have mpos : 0 < m.length := List.length_pos_iff.mpr co.1
  have e1 : 1 ≤ e := by
    rcases Nat.eq_zero_or_pos e with z | z
    · rw [z] at ek; omega
    · exact z
  have em : e ≤ m.length := by rw [← ek]; exact Nat.le_mul_of_pos_right _ (by omega)
  have ul : (m.take e).length = e := by rw [List.length_take]; omega
  have rl : (rep (m.take e) (n + 1)).length = m.length := by rw [rep_len, ul, ek]
  have side := rep_side hs hu n
  constructor
  · intro h
    have q1 : Eqv (t.take a ++ rep (m.take e) (n + 1) ++ inv (t.take a)) (t.take a ++ m ++ inv (t.take a)) := by
      refine eqv_of ((hs.app (hu.rep _)).app hs.inv) ((hs.app hm).app hs.inv) ?_
      rw [← side.red, h, ← e2, red_id ht np]
    have q2 := eqv_drop hs (hu.rep _) hm q1
    have npm : NoPair m := by
      have : NoPair (t.take a ++ m ++ inv (t.take a)) := by rw [← e2]; exact np
      exact NoPair.app_right (a := t.take a) this.app_left
    have q3 : red (rep (m.take e) (n + 1)) = m := by rw [q2.red, red_id hm npm]
    have q4 : rep (m.take e) (n + 1) = m := (red_full (by rw [q3, rl])).symm.trans q3
    have ne : m.take e ≠ [] := fun z => by rw [z] at ul; simp at ul; omega
    have := rep_turn (n := n + 1) ne (by omega)
    rw [q4, ul] at this
    exact this
  · intro h
    have hv : e ∣ m.length := ⟨n + 1, ek.symm⟩
    have q := per_rep co.1 e1 h hv
    have dv : m.length / e = n + 1 := by rw [← ek]; exact Nat.mul_div_cancel_left _ (by omega)
    rw [dv] at q
    rw [side.red, q, ← e2, red_id ht np]
/-- at the root's times it is the whole -/
theorem root_whole {t : List Nat} {a d : Nat} (ht : Ls t) (np : NoPair t) (h0 : t ≠ []) (c : Cut t a) (s : Stop t a) (p : Per (mid t a) d) :
    red (rep (t.take a ++ (mid t a).take d ++ inv (t.take a)) ((mid t a).length / d)) = t := by
  have co := core_of ht np h0 c s
  have hv := per_dvd co.1 p
  have mpos : 0 < (mid t a).length := List.length_pos_iff.mpr co.1
  have k1 : 1 ≤ (mid t a).length / d := Nat.div_pos p.2.1.2 p.1
  have kd : (mid t a).length / d * d = (mid t a).length := Nat.div_mul_cancel hv
  have e : (mid t a).length / ((mid t a).length / d) = d := by
    conv => lhs; arg 1; rw [← kd]
    exact Nat.mul_div_cancel_left _ k1
  have := (root_test (k := (mid t a).length / d) ht np h0 c s ⟨d, kd.symm⟩ k1).mpr (by rw [e]; exact p.2.1)
  rw [e] at this
  exact this
/-- above them it is not -/
theorem root_above {t : List Nat} {a d k : Nat} (ht : Ls t) (np : NoPair t) (h0 : t ≠ []) (c : Cut t a) (s : Stop t a) (p : Per (mid t a) d) (hk : k ∣ (mid t a).length) (gt : (mid t a).length / d < k) :
    red (rep (t.take a ++ (mid t a).take ((mid t a).length / k) ++ inv (t.take a)) k) ≠ t := by
  intro h
  have kpos : 0 < k := Nat.lt_of_le_of_lt (Nat.zero_le _) gt
  have co := core_of ht np h0 c s
  have mpos : 0 < (mid t a).length := List.length_pos_iff.mpr co.1
  have hv := per_dvd co.1 p
  have ht2 := (root_test ht np h0 c s hk kpos).mp h
  obtain ⟨e, ee⟩ := hk
  have eq : (mid t a).length / k = e := by rw [ee]; exact Nat.mul_div_cancel_left _ kpos
  rw [eq] at ht2
  have e1 : 1 ≤ e := by
    rcases Nat.eq_zero_or_pos e with z | z
    · rw [z] at ee; omega
    · exact z
  refine p.2.2 e e1 ?_ ht2
  have kd : (mid t a).length / d * d = (mid t a).length := Nat.div_mul_cancel hv
  rcases Nat.lt_or_ge e d with q | q
  · exact q
  · exfalso
    have h1 : ((mid t a).length / d) * d < k * d := Nat.mul_lt_mul_of_pos_right gt (by have := p.1; omega)
    have h2 : k * d ≤ k * e := Nat.mul_le_mul_left k q
    omega
/-- the root: its ends are those of the whole, and what is between is no power -/
theorem root_root {t : List Nat} {a d : Nat} (ht : Ls t) (np : NoPair t) (h0 : t ≠ []) (c : Cut t a) (s : Stop t a) (p : Per (mid t a) d) :
    ∃ r, r = t.take a ++ (mid t a).take d ++ inv (t.take a) ∧ Ls r ∧ NoPair r ∧ r ≠ [] ∧ Cut r a ∧ Stop r a ∧ r.take a = t.take a ∧ mid r a = (mid t a).take d ∧ (∀ e, Per ((mid t a).take d) e → e = d) ∧ ((mid t a).take d).length = d := by
  have hm : Ls (mid t a) := (ht.drop a).take _
  have hs := ht.take a
  have co := core_of ht np h0 c s
  have e2 := (core_ends c).2
  have cs := c.small
  have ml := mid_len cs
  have hv := per_dvd co.1 p
  have kd : (mid t a).length / d * d = (mid t a).length := Nat.div_mul_cancel hv
  have k1 : 1 ≤ (mid t a).length / d := Nat.div_pos p.2.1.2 p.1
  have rp := per_rep co.1 p.1 p.2.1 hv
  obtain ⟨n, en⟩ : ∃ n, (mid t a).length / d = n + 1 := ⟨(mid t a).length / d - 1, by omega⟩
  rw [en] at rp
  have ul : ((mid t a).take d).length = d := by rw [List.length_take]; have := p.2.1.2; omega
  have une : (mid t a).take d ≠ [] := fun z => by rw [z] at ul; have := p.1; simp at ul; omega
  have uL : Ls ((mid t a).take d) := hm.take d
  have hh : ((mid t a).take d).head? = (mid t a).head? := by rw [← rep_head une n, rp]
  have hl : ((mid t a).take d).getLast? = (mid t a).getLast? := by rw [← rep_last une n, rp]
  have np2 : NoPair (t.take a ++ mid t a ++ inv (t.take a)) := by rw [← e2]; exact np
  have npm : NoPair (mid t a) := NoPair.app_right (a := t.take a) np2.app_left
  have npu : NoPair ((mid t a).take d) := by
    have : (mid t a).take d ++ (mid t a).drop d = mid t a := List.take_append_drop _ _
    rw [← this] at npm
    exact npm.app_left
  have npr := np_between co.1 une np2 npu hh hl
  have tl : (t.take a).length = a := by rw [List.length_take]; omega
  refine ⟨_, rfl, (hs.app uL).app hs.inv, npr, ?_, ?_, ?_, ?_, ?_, ?_, ul⟩
  · intro z
    have := congrArg List.length z
    have d1 := p.1
    simp only [List.length_append, ul, List.length_nil] at this
    omega
  · refine ⟨by rw [List.length_append, List.length_append, inv_len, ul, tl]; omega, fun i x hi hx => ?_⟩
    rw [List.append_assoc, List.getElem?_append_left (by omega)] at hx
    have hx2 : t[i]? = some x := by rw [List.getElem?_take, if_pos hi] at hx; exact hx
    have := c.ends i x hi hx2
    have el : (t.take a ++ (mid t a).take d ++ inv (t.take a)).length - 1 - i = (t.take a ++ (mid t a).take d).length + (a - 1 - i) := by
      simp only [List.length_append, inv_len, ul, tl]; omega
    rw [el, List.getElem?_append_right (by omega), Nat.add_sub_cancel_left]
    have el2 : t.length - 1 - i = (t.length - a) + (a - 1 - i) := by omega
    rw [el2, ← List.getElem?_drop, (core_ends c).1] at this
    exact this
  · intro x y big hx hy
    have ll : (t.take a ++ (mid t a).take d ++ inv (t.take a)).length = 2 * a + d := by
      simp only [List.length_append, inv_len, ul, tl]; omega
    rw [ll] at big
    have hx2 : t[a]? = some x := by
      rw [List.append_assoc, List.getElem?_append_right (by omega), tl, Nat.sub_self, List.getElem?_append_left (by omega)] at hx
      rw [List.getElem?_take, if_pos (by omega)] at hx
      unfold mid at hx
      rw [List.getElem?_take, if_pos (by have := p.2.1.2; omega), List.getElem?_drop] at hx
      exact hx
    have hy2 : t[t.length - 1 - a]? = some y := by
      have el : (t.take a ++ (mid t a).take d ++ inv (t.take a)).length - 1 - a = a + (d - 1) := by omega
      rw [el, List.append_assoc, List.getElem?_append_right (by omega), tl, Nat.add_sub_cancel_left, List.getElem?_append_left (by omega)] at hy
      have g : ((mid t a).take d).getLast? = some y := by rw [List.getLast?_eq_getElem?, ul]; exact hy
      rw [hl, List.getLast?_eq_getElem?, ml] at g
      unfold mid at g
      have dm := p.2.1.2
      rw [List.getElem?_take, if_pos (by omega), List.getElem?_drop] at g
      rw [← g]; congr 1; omega
    exact s x y (by have := p.2.1.2; omega) hx2 hy2
  · rw [List.append_assoc, List.take_left' tl]
  · unfold mid
    rw [List.append_assoc, List.drop_left' tl]
    have el : (t.take a ++ ((t.drop a).take (t.length - 2 * a)).take d ++ inv (t.take a)).length - 2 * a = (((t.drop a).take (t.length - 2 * a)).take d).length := by
      simp only [List.length_append, inv_len, tl]; omega
    rw [← List.append_assoc, el, List.take_left]
  · intro e pe
    have et := turn_up (n := n + 1) une (by omega) pe.2.1
    rw [rp] at et
    have le := pe.2.1.2
    rw [ul] at le
    rcases Nat.lt_or_ge e d with q | q
    · exact absurd et (p.2.2 e pe.1 q)
    · omega
end RB
namespace RB
open PySem L2
/-! ### the order of rows, letter by letter -/
def lexI (xs ys : List Int) : Bool := PyProof.Rows.lexLt PyProof.Rows.itemOrd (PySem.W.keyToksAll (xs.map PyData.int)) (PySem.W.keyToksAll (ys.map PyData.int))
theorem lexI_nil : lexI [] [] = false := by
  unfold lexI
  simp only [List.map_nil, PySem.W.keyToksAll]
  rfl
theorem lexI_same (x : Int) (xs ys : List Int) : lexI (x :: xs) (x :: ys) = lexI xs ys :=
  PySem.W.dataLt_all_yes (x := .int x) (y := .int x) rfl (by simp [PyData.eqv])
theorem lexI_ne {x y : Int} (h : x ≠ y) (xs ys : List Int) : lexI (x :: xs) (y :: ys) = decide (x < y) := by
  have := PySem.W.dataLt_all_no (x := .int x) (y := .int y) (xs := xs.map PyData.int) (ys := ys.map PyData.int) rfl (by simp [PyData.eqv, h])
  rw [PySem.W.dataLt_int] at this
  exact this
theorem al_int (i j : Int) : PySem.W.alike (.int i) (.int j) = true := by simp only [PySem.W.alike]
theorem earl_len {l m : List Nat} (h : l.length ≠ m.length) : earl l m = decide (l.length < m.length) := by
  unfold earl plD
  have e1 : PyData.eqv (.int (l.length : Nat)) (.int (m.length : Nat)) = false := by simp [PyData.eqv]; omega
  rw [PySem.W.dataLt_tuple, PySem.W.dataLt_all_no (al_int _ _) e1, PySem.W.dataLt_int]
  by_cases q : l.length < m.length
  · rw [decide_eq_true q, decide_eq_true (by omega)]
  · rw [decide_eq_false q, decide_eq_false (by omega)]
theorem alike_lists (ns ms : List Int) : PySem.W.alike (.list (ns.map PyData.int)) (.list (ms.map PyData.int)) = true := by
  have := alike_ints ns ms
  simp only [PySem.W.alike, this]
theorem map_ints (l : List Nat) : (l.map fun c => PyData.int (posL c)) = (l.map posL).map PyData.int := by rw [List.map_map]; rfl
theorem eqv_intsAll : ∀ ns ms : List Int, PyData.eqvAll (ns.map PyData.int) (ms.map PyData.int) = decide (ns = ms)
  | [], [] => by simp [PyData.eqvAll]
  | [], b :: t => by simp [PyData.eqvAll]
  | a :: r, [] => by simp [PyData.eqvAll]
  | a :: r, b :: t => by
    have ih := eqv_intsAll r t
    simp only [List.map_cons, PyData.eqvAll, PyData.eqv, ih]
    by_cases h : a = b <;> by_cases h2 : r = t <;> simp [h, h2]
theorem lexI_self : ∀ ns : List Int, lexI ns ns = false
  | [] => lexI_nil
  | n :: r => by rw [lexI_same]; exact lexI_self r
theorem earl_same {l m : List Nat} (h : l.length = m.length) : earl l m = lexI (l.map posL) (m.map posL) := by
  unfold earl plD
  have e1 : PyData.eqv (.int (l.length : Nat)) (.int (m.length : Nat)) = true := by simp [PyData.eqv, h]
  rw [PySem.W.dataLt_tuple, PySem.W.dataLt_all_yes (al_int _ _) e1, map_ints, map_ints]
  cases q : PyData.eqv (.list ((l.map posL).map PyData.int)) (.list ((m.map posL).map PyData.int)) with
  | false => rw [PySem.W.dataLt_all_no (alike_lists _ _) q, PySem.W.dataLt_list]; rfl
  | true =>
    rw [PySem.W.dataLt_all_yes (alike_lists _ _) q]
    have e2 := eqv_intsAll (l.map posL) (m.map posL)
    simp only [PyData.eqv] at q
    rw [e2] at q
    rw [of_decide_eq_true q, lexI_self]
    exact lexI_nil
theorem posL_inj {x y : Nat} (hx : IsL x) (hy : IsL y) (h : posL x = posL y) : x = y := by
  unfold IsL at hx hy
  unfold posL at h
  split at h <;> split at h <;> omega
theorem drop_at {l : List Nat} {i x : Nat} (h : l[i]? = some x) : l.drop i = x :: l.drop (i + 1) := by
  have hlt : i < l.length := by
    rcases Nat.lt_or_ge i l.length with q | q
    · exact q
    · rw [List.getElem?_eq_none q] at h; cases h
  rw [List.drop_eq_getElem_cons hlt]
  congr 1
  rw [List.getElem?_eq_getElem hlt] at h
  exact Option.some.inj h
end RB
namespace RB
open PySem L2
theorem per_one {c : List Nat} {d e : Nat} (h : Per c d) (k : Per c e) : d = e := by
  rcases Nat.lt_trichotomy d e with q | q | q
  · exact absurd h.2.1 (k.2.2 d h.1 q)
  · exact q
  · exact absurd k.2.1 (h.2.2 e k.1 q)
theorem sh_rt {l : List Nat} (h : Ls l) (i : Int) : SeqAt.shaped (.tuple [.str (S l), .int i]) = true := by
  have := ok_S h
  simp only [SeqAt.shaped, PyData.canLay0, PyData.canLayAll0, PyData.depth, PyData.depthAll, this]; rfl
theorem eq_rt (l : List Nat) (i : Int) : PyData.eqv (.tuple [.str (S l), .int i]) (.tuple [.str (S l), .int i]) = true := by
  simp [PyData.eqv, PyData.eqvAll]
theorem dp_rt {K : PySem.W.Frag} {H : Hp} {p : Addr} {l : List Nat} {i : Int} (h : H p = some (.tup [.str (S l), .int i])) : Dp K H (.ref p) (.tuple [.str (S l), .int i]) :=
  .tup (SqT.of h) (.cons (.str _) (.cons (.int _) .nil))
/-- a root and its times compared with another one -/
theorem ne_rt {K : PySem.W.Frag} {H : Hp} {Q : VK} {p q : Addr} {l : List Nat} {i : Int} (hl : Ls l) (hp : H p = some (.tup [.str (S l), .int i])) (hq : H q = some (.tup [.str (S l), .int i])) (h : Q (.bl false) H) : rNeD K (.ref p) (.ref q) H Q :=
  ⟨_, _, dp_rt hp, dp_rt hq, sh_rt hl i, sh_rt hl i, by rw [eq_rt]; exact h⟩
theorem eq_rts {K : PySem.W.Frag} {H : Hp} {Q : VK} {p q : Addr} {l : List Nat} {i : Int} (hl : Ls l) (hp : H p = some (.tup [.str (S l), .int i])) (hq : H q = some (.tup [.str (S l), .int i])) (h : Q (.bl true) H) : rEqD K (.ref p) (.ref q) H Q :=
  ⟨_, _, dp_rt hp, dp_rt hq, sh_rt hl i, sh_rt hl i, by rw [eq_rt]; exact h⟩
end RB
/-! Rules: enumerate over a tuple, zip of two texts. -/
namespace L2
open PySem PySem.Spec PyProof.Rows
/-- number and item, a new pair each, of the tuple at t -/
def IteT (K : PySem.W.Frag) (t : Addr) : It :=
  ⟨fun i G => ∃ (ys : List V) (y : V), SqT K G t ys ∧ ys[i]? = some y,
   fun i G v G' => ∃ T y, v = .ref T ∧ G T = none ∧ G' = upd G T (.tup [.int (i : Nat), y]) ∧ ∀ ys, SqT K G t ys → ys[i]? = some y,
   fun i G => ∃ ys : List V, SqT K G t ys ∧ ys.length = i⟩
theorem turn_enumT {P : Program} {w : World} {K : PySem.W.Frag} {es : List Expr} {kk : Nat} {tp : Pos} {t e it : Addr} (nt : t ≠ it) (ne : t ≠ e) (nei : e ≠ it) :
    Turn P w K (.Tuple es kk tp) (IteT K t) [e, it] e (fun i h => (∃ old, IsEnum h e it ((i : Nat) : Int) old) ∧ h.IsTupleIter it t i) where
  mem := List.mem_cons_self
  obj := fun i h st b hb => by
    obtain ⟨⟨old, he⟩, o, ho, hc, hd⟩ := st
    rcases List.mem_cons.mp hb with z | z
    · subst z; exact ⟨_, he, fun v q => nomatch q⟩
    · rw [List.mem_singleton.mp z]
      exact ⟨o, ho, fun v q => by rw [hd] at q; cases q⟩
  keep := fun i h h' st k => ⟨⟨st.1.choose, k e List.mem_cons_self _ st.1.choose_spec⟩, st.2.at fun o q => k it (by simp) o q⟩
  item := by
    intro X hP hw hK hc i pins s σ G E I hf st hg
    subst hP hw hK
    obtain ⟨⟨old, he⟩, hit⟩ := st
    obtain ⟨ys, y, hq, hy⟩ := hg
    obtain ⟨its, rv, p, hz⟩ := I.tuple hq
    obtain ⟨u, hu, ru⟩ := rv.get hy
    have pt : s.heap.IsTuple t its.toArray := p
    have el : e < s.heap.objs.size := Heap.lt_size he
    have il : it < s.heap.objs.size := by obtain ⟨_, q, _⟩ := hit; exact Heap.lt_size q
    have il' : i < its.toArray.size := by
      rcases Nat.lt_or_ge i its.length with q | q
      · simpa using q
      · rw [List.getElem?_eq_none q] at hu; cases hu
    refine wpAny_pyNext_enum_itemD (Draws.tuple (A := X.A.in1) (I.ok.hd hc) it t nt its.toArray) he ⟨hit, pt⟩ il' nei (by simp [nei, ne.symm]) fun x h' tk hx ho hst hT hsz hk => ?_
    obtain rfl : u = x := by
      have hx2 : its[i]? = some x := by simpa using hx
      rw [hu] at hx2; exact Option.some.inj hx2
    refine ⟨_, rfl, wpAny_letOwnedTupleGo_enum (s := { s with heap := h', toks := tk + 1 }) ho fun h2 he2 sb => ?_⟩
    have hT2 : h2.get? s.heap.objs.size = some { cls := .type "tuple", data := .seq #[.int i tk, u] } := (sb.2 _ (Nat.ne_of_gt el)).trans hT
    have fresh : ObjOk X.prog X.w (upd G s.heap.objs.size (.tup [.int (i : Nat), y])) h2 s.heap.objs.size (.tup [.int (i : Nat), y]) :=
      ⟨by show 2 ≤ sizeLine; decide, [.int i tk, u], .cons ⟨tk, rfl⟩ (.cons ru .nil), ⟨_, hT2, rfl, _, rfl⟩⟩
    have J : Inv X pins σ (upd G s.heap.objs.size (.tup [.int (i : Nat), y])) { s with heap := h2, toks := tk + 1 } :=
      I.turnedNew (t' := tk + 1) (ch := [e, it]) (fun b o nb q => (sb.2 b (fun z => nb (by simp [z]))).trans (hk b o (fun z => nb (by simp [z])) (fun z => nb (by simp [z])) q)) hf (Nat.le_refl _) fresh
    refine ⟨.ref s.heap.objs.size, _, J, rfl, ⟨_, y, rfl, I.hok.fresh (Nat.le_refl _), rfl, fun zs hzs => by rw [I.tuple_inj hzs hq]; exact hy⟩, ⟨⟨u, ?_⟩, hst.1.at fun o q => (sb.2 it nei.symm).trans q⟩, fun b hb => ?_⟩
    · rw [show ((i + 1 : Nat) : Int) = (i : Int) + 1 by omega]; exact he2
    · have bl : b < s.heap.objs.size := by
        rcases List.mem_cons.mp hb with z | z
        · rw [z]; exact el
        · rw [List.mem_singleton.mp z]; exact il
      rw [upd_ne (Nat.ne_of_lt bl)]; exact (hf b hb).1
  done := by
    intro X hP hw hK hc i pins s σ G E I hf st hg
    subst hP hw hK
    obtain ⟨⟨old, he⟩, hit⟩ := st
    obtain ⟨ys, hq, hy⟩ := hg
    obtain ⟨its, rv, p, hz⟩ := I.tuple hq
    obtain ⟨f0, f1, f2, f3, f4, f5⟩ := hf it (by simp)
    have hl : its.toArray.size = i := by rw [List.size_toArray, ← rv.length]; exact hy
    subst hl
    exact wpAny_pyNext_enum_endD (Draws.tuple (A := X.A.in1) (I.ok.hd hc) it t nt its.toArray) he ⟨hit, p⟩ fun h' eb => ⟨rfl, I.turned (t' := s.toks) (fun b o nb q => eb b o nb q) f0 f1 f3 f4 f5⟩
  self := fun A i s Q E st h => wpAny_pyIter_enum st.1.choose_spec h
set_option maxHeartbeats 1000000 in
theorem meets_enum_tuple {v : Value} {o : Obj} {Z : Heap → Prop} (B : Begins v o Z) :
    Meets (Builtin.«enumerate.__new__» ⟨[.type "enumerate", v], []⟩) (fun _ R s => Z s.heap ∧
      R (.ok (.ret (.ref (s.heap.push o).objs.size))) { s with heap := (s.heap.push o).push { cls := .type "enumerate", data := .fields #[.none, .bool false, .ref s.heap.objs.size, rawInt 0, .none, .none] } }) :=
  .of_wp fun pr wo A R s hyp => by
    obtain ⟨hp, gs, dr, tk, sy⟩ := s
    obtain ⟨z1, fin⟩ := hyp
    have hsub := sub_enumerate
    have it1 : ∀ {A' : Around} {E : Value → Shared → Prop} {Q : Value → Shared → Prop}, Q (.ref hp.objs.size) ⟨hp.push o, gs, dr, tk, sy⟩ → wpAny (model pr wo) A' (pyIter v) Q E ⟨hp, gs, dr, tk, sy⟩ :=
      fun q => B.iter pr wo _ _ ⟨hp, gs, dr, tk, sy⟩ _ z1 q
    wp_walk using it1
    refine wpAny_stack_any fun st => wpAny_pure ?_
    split
    · rename_i c _ _ _ _ _
      cases (c == Value.type "enumerate") <;> (wp_walk using it1; exact ⟨_, rfl, fin⟩)
    · wp_walk using it1
      exact ⟨_, rfl, fin⟩
theorem call_enum_begins {prog : Program} {w : World} {A : Around} {E : Value → Shared → Prop} {s : Shared} {v : Value} {o : Obj} {Z : Heap → Prop} {Q : Value → Shared → Prop} (B : Begins v o Z) (z : Z s.heap)
    (fin : ∀ h', IsEnum h' (s.heap.objs.size + 1) s.heap.objs.size 0 .none → h'.get? s.heap.objs.size = some o → (∀ b u, s.heap.get? b = some u → h'.get? b = some u) → Q (.ref (s.heap.objs.size + 1)) { s with heap := h' }) :
    wpAny (model prog w) A (call (.type "enumerate") [v]) Q E s := by
  refine callType_new F.called_enumerate (by decide) (F.typeCall_enumerate_1 _) (F.newCall_enumerate_1 _) (fun ob => F.args_object_init_2 ob _) F.entry_enumerate_new (meets_enum_tuple B) ⟨z, ?_⟩
  have sz : (s.heap.push o).objs.size = s.heap.objs.size + 1 := Heap.size_push ..
  show _ ∧ _
  rw [sz]
  have new : IsEnum ((s.heap.push o).push { cls := .type "enumerate", data := .fields #[.none, .bool false, .ref s.heap.objs.size, rawInt 0, .none, .none] }) (s.heap.objs.size + 1) s.heap.objs.size 0 .none := by
    have q := Heap.get?_push_size (s.heap.push o) (o := { cls := .type "enumerate", data := .fields #[.none, .bool false, .ref s.heap.objs.size, rawInt 0, .none, .none] }) rfl
    rw [sz] at q; exact q
  exact ⟨⟨_, new, rfl⟩, fin _ new (Heap.get?_push_of_some _ (Heap.get?_push_size _ B.free)) fun b u x => Heap.get?_push_of_some _ (Heap.get?_push_of_some _ x)⟩
def iEnumT (K : PySem.W.Frag) (ta : TA) : TI := fun σ G R => ta σ G fun vs G1 => ∃ t ys, vs = [.ref t] ∧ SqT K G1 t ys ∧ R (IteT K t) G1
theorem pi_enumT {X : Cx} {K : PySem.W.Frag} (eK : X.K = K) {x : Expr} {ta : TA} {p cp tp : Pos} {es : List Expr} {kk : Nat} (hg : Gl X "enumerate") (hm : X.mg "enumerate" = none) (ha : PA X [x] ta) (hs : starEach [x] X.env = [(false, eval x X.env)] := by rfl) :
    PI X (.Tuple es kk tp) (.Call (.Name "enumerate" p) [x] [] cp) (iEnumT K ta) := by
  subst eK
  refine ⟨fun pins s σ G R I h => ?_⟩
  refine Call_ (ld_blt I hg hm boot_enumerate (PyProof.Rows.callWith_type1 (thn (ha.run cp pins s σ G _ I h) fun us s1 ⟨vs, G1, I1, r1, q1⟩ => ?_) hs rfl))
  obtain ⟨t, ys, ex, hq, q⟩ := q1
  subst ex
  obtain ⟨u1, rfl, r⟩ := vals1 r1
  cases r
  obtain ⟨its, rv, pt, hz⟩ := I1.tuple hq
  have pt' : s1.heap.IsTuple t its.toArray := pt
  have tl : t < s1.heap.objs.size := by obtain ⟨o, ho, _⟩ := pt'; exact Heap.lt_size ho
  refine call_enum_begins (begins_tuple t its.toArray) pt' fun h' he hit hk => wpAny_pyIter_enum he ?_
  have I2 : Inv X pins σ G1 { s1 with heap := h' } := I1.kept (t' := s1.toks) hk
  refine ⟨s1.heap.objs.size + 1, [s1.heap.objs.size + 1, s1.heap.objs.size], _, _, G1, rfl, I2, turn_enumT (Nat.ne_of_lt tl) (Nat.ne_of_lt (Nat.lt_succ_of_lt tl)) (Nat.succ_ne_self _), ⟨⟨.none, he⟩, ⟨_, hit, rfl, rfl⟩⟩, fun b hb => ?_, q⟩
  have le : s1.heap.objs.size ≤ b := by
    rcases List.mem_cons.mp hb with z | z
    · rw [z]; exact Nat.le_add_right _ _
    · rw [List.mem_singleton.mp z]; exact Nat.le_refl _
  exact I1.fpOk le (I1.hok.fresh le)
theorem walk_enumT {K : PySem.W.Frag} {t : Addr} {ys : List V} : Walk (IteT K t) ys.length (fun G => SqT K G t ys) (YPair (fun i => some (.int (i : Nat))) (fun i => ys[i]?)) := by
  refine ⟨fun i _ hi q => ⟨ys, ys[i], q, by simp [hi]⟩, fun _ q => ⟨ys, q, rfl⟩, fun i G v G' _ q z => ?_⟩
  obtain ⟨T, y, h1, h2, h3, h4⟩ := z
  exact ⟨T, .int (i : Nat), y, h1, h2, h3, rfl, h4 ys q⟩
/-! ### zip of two texts -/
def ItzS (x y : Str) : It :=
  ⟨fun i _ => i < x.cps.size ∧ i < y.cps.size,
   fun i G v G' => ∃ T c d, v = .ref T ∧ G T = none ∧ G' = upd G T (.tup [.str ⟨#[c]⟩, .str ⟨#[d]⟩]) ∧ x.cps[i]? = some c ∧ y.cps[i]? = some d,
   fun i _ => i = min x.cps.size y.cps.size⟩
theorem turn_zipS {P : Program} {w : World} {K : PySem.W.Frag} {es : List Expr} {kk : Nat} {tp : Pos} {x y : Str} {t u : Tok} {z a b i1 i2 : Addr} (D : ZipSep2 z a b i1 i2 [i1] [i2]) :
    Turn P w K (.Tuple es kk tp) (ItzS x y) [z, a, b, i1, i2] z (fun i h => IsZip h z a b .none ∧ IsTupOf2 h a (.ref i1) (.ref i2) ∧ (∃ p q, IsTupOf2 h b p q) ∧ h.IsStrIter i1 (strIterType x) x t i ∧ h.IsStrIter i2 (strIterType y) y u i) where
  mem := List.mem_cons_self
  obj := fun i h st c hc => by
    obtain ⟨hz, ha, ⟨p, q, hb⟩, ⟨o1, e1, _, d1⟩, ⟨o2, e2, _, d2⟩⟩ := st
    simp only [List.mem_cons, List.not_mem_nil, or_false] at hc
    rcases hc with k | k | k | k | k <;> subst k
    · exact ⟨_, hz, fun v q => nomatch q⟩
    · exact ⟨_, ha, fun v q => nomatch q⟩
    · exact ⟨_, hb, fun v q => nomatch q⟩
    · exact ⟨o1, e1, fun v q => by rw [d1] at q; cases q⟩
    · exact ⟨o2, e2, fun v q => by rw [d2] at q; cases q⟩
  keep := fun i h h' st k => by
    obtain ⟨hz, ha, ⟨p, q, hb⟩, ⟨o1, e1, r1⟩, ⟨o2, e2, r2⟩⟩ := st
    exact ⟨k z (by simp) _ hz, k a (by simp) _ ha, ⟨p, q, k b (by simp) _ hb⟩, ⟨o1, k i1 (by simp) o1 e1, r1⟩, ⟨o2, k i2 (by simp) o2 e2, r2⟩⟩
  item := by
    intro X hP hw hK hc i pins s σ G E I hf st hg
    subst hP hw hK
    obtain ⟨hz, ha, ⟨p, q, hb⟩, h1, h2⟩ := st
    have zl : z < s.heap.objs.size := Heap.lt_size hz
    refine wpAny_pyNext_zipD2_item D (Draws.text (A := X.A.in1) (I.ok.hd hc) i1 x t) (Draws.text (A := X.A.in1) (I.ok.hd hc) i2 y u) hz ha hb h1 h2 hg.1 hg.2 fun x1 x2 h' tk p1 p2 hz' hb' h1' h2' hT hsz hk => ?_
    obtain ⟨c, k1, hc1, rfl⟩ := p1
    obtain ⟨d, k2, hd1, rfl⟩ := p2
    refine ⟨_, rfl, wpAny_letOwnedTupleGo_zip (s := { s with heap := h', toks := tk }) hz' fun h3 hz3 sb => ?_⟩
    have hT2 : h3.get? s.heap.objs.size = some { cls := .type "tuple", data := .seq #[.str ⟨#[c]⟩ k1, .str ⟨#[d]⟩ k2] } := (sb.2 _ (Nat.ne_of_gt zl)).trans hT
    have fresh : ObjOk X.prog X.w (upd G s.heap.objs.size (.tup [.str ⟨#[c]⟩, .str ⟨#[d]⟩])) h3 s.heap.objs.size (.tup [.str ⟨#[c]⟩, .str ⟨#[d]⟩]) :=
      ⟨by show 2 ≤ sizeLine; decide, [.str ⟨#[c]⟩ k1, .str ⟨#[d]⟩ k2], .cons ⟨k1, rfl⟩ (.cons ⟨k2, rfl⟩ .nil), ⟨_, hT2, rfl, _, rfl⟩⟩
    have J : Inv X pins σ (upd G s.heap.objs.size (.tup [.str ⟨#[c]⟩, .str ⟨#[d]⟩])) { s with heap := h3, toks := tk } :=
      I.turnedNew (t' := tk) (ch := [z, a, b, i1, i2]) (fun m o nb q => (sb.2 m (fun e => nb (by simp [e]))).trans (hk m o (fun e => nb (by simp [e])) (fun e => nb (by simp [e])) (fun e => nb (by simp [e])) (fun e => nb (by simp [e])) q)) hf (Nat.le_refl _) fresh
    refine ⟨.ref s.heap.objs.size, _, J, rfl, ⟨_, c, d, rfl, I.hok.fresh (Nat.le_refl _), rfl, hc1, hd1⟩, ⟨hz3, ?_, ⟨_, _, (sb.2 _ D.TOz).trans hb'⟩, ?_, ?_⟩, fun m hm => ?_⟩
    · exact (sb.2 _ D.TIz).trans (hk _ _ D.TIz D.TITO D.TIi1 D.TIi2 ha)
    · obtain ⟨o, e, r⟩ := h1'; exact ⟨o, (sb.2 _ D.zi1.symm).trans e, r⟩
    · obtain ⟨o, e, r⟩ := h2'; exact ⟨o, (sb.2 _ D.zi2.symm).trans e, r⟩
    · have lt : m < s.heap.objs.size := by
        simp only [List.mem_cons, List.not_mem_nil, or_false] at hm
        rcases hm with k | k | k | k | k <;> subst k
        · exact zl
        · exact Heap.lt_size ha
        · exact Heap.lt_size hb
        · obtain ⟨_, e1, _⟩ := h1; exact Heap.lt_size e1
        · obtain ⟨_, e2, _⟩ := h2; exact Heap.lt_size e2
      rw [upd_ne (Nat.ne_of_lt lt)]; exact (hf m hm).1
  done := by
    intro X hP hw hK hc i pins s σ G E I hf st hg
    subst hP hw hK
    obtain ⟨hz, ha, ⟨p, q, hb⟩, h1, h2⟩ := st
    have hg' : i = min x.cps.size y.cps.size := hg
    exact wpAny_pyNext_zipD2_end D (Draws.text (A := X.A.in1) (I.ok.hd hc) i1 x t) (Draws.text (A := X.A.in1) (I.ok.hd hc) i2 y u) hz ha hb h1 h2 (by omega) (by omega) (by omega) fun h' tk hk => ⟨rfl, I.turnedL (t' := tk) (ch := [z, a, b, i1, i2]) (fun m o nb q => hk m o (fun e => nb (by simp [e])) (fun e => nb (by simp [e])) (fun e => nb (by simp [e])) (fun e => nb (by simp [e])) q) hf⟩
  self := fun A i s Q E st h => wpAny_pyIter_zip st.1 h
def iZipS (ta : TA) : TI := fun σ G R => ta σ G fun vs G1 => ∃ x y, vs = [.str x, .str y] ∧ R (ItzS x y) G1
theorem ne1 {a b : Nat} (h : a ≠ b) : a ∉ [b] := fun z => h (List.mem_singleton.mp z)
theorem sep_new (n : Nat) : ZipSep2 (n + 4) (n + 2) (n + 3) n (n + 1) [n] [n + 1] where
  TIz := show (n + 2 : Nat) ≠ n + 4 by omega
  TOz := show (n + 3 : Nat) ≠ n + 4 by omega
  TITO := show (n + 2 : Nat) ≠ n + 3 by omega
  TIi1 := show (n + 2 : Nat) ≠ n by omega
  mem1 := List.mem_singleton_self _
  zf1 := ne1 (show (n + 4 : Nat) ≠ n by omega)
  Tf1 := ne1 (show (n + 3 : Nat) ≠ n by omega)
  TIi2 := show (n + 2 : Nat) ≠ n + 1 by omega
  mem2 := List.mem_singleton_self _
  zf2 := ne1 (show (n + 4 : Nat) ≠ n + 1 by omega)
  Tf2 := ne1 (show (n + 3 : Nat) ≠ n + 1 by omega)
  sep1_2 := ne1 (show (n : Nat) ≠ n + 1 by omega)
  sep2_1 := ne1 (show (n + 1 : Nat) ≠ n by omega)
theorem pi_zipS {X : Cx} {x x2 : Expr} {ta : TA} {p cp tp : Pos} {es : List Expr} {kk : Nat} (hg : Gl X "zip") (hm : X.mg "zip" = none) (ha : PA X [x, x2] ta)
    (hs : starEach [x, x2] X.env = (false, eval x X.env) :: starEach [x2] X.env := by rfl) (hpl : (backTo cp (starEach [x2] X.env)).any (·.1) = false := by rfl) :
    PI X (.Tuple es kk tp) (.Call (.Name "zip" p) [x, x2] [] cp) (iZipS ta) := by
  refine ⟨fun pins s σ G R I h => ?_⟩
  refine Call_ (ld_blt I hg hm PyProof.Rows.boot_zip (PyProof.Rows.callWith_type1 (thn (ha.run cp pins s σ G _ I h) fun us s1 ⟨vs, G1, I1, r1, q1⟩ => ?_) hs hpl))
  obtain ⟨z1, z2, ex, q⟩ := q1
  subst ex
  obtain ⟨u1, u2, rfl, r, r'⟩ := vals2 r1
  obtain ⟨t1, rfl⟩ := r
  obtain ⟨t2, rfl⟩ := r'
  refine zip_begins2 (begins_text z1 t1) (begins_text z2 t2) trivial trivial fun h' hz ha hb h1 h2 hsz hk => wpAny_pyIter_zip hz ?_
  have I2 : Inv X pins σ G1 { s1 with heap := h' } := I1.kept (t' := s1.toks) hk
  refine ⟨s1.heap.objs.size + 4, [s1.heap.objs.size + 4, s1.heap.objs.size + 2, s1.heap.objs.size + 3, s1.heap.objs.size, s1.heap.objs.size + 1], _, _, G1, rfl, I2, turn_zipS (t := t1) (u := t2) (sep_new _), ⟨hz, ha, ⟨_, _, hb⟩, ⟨_, h1, rfl, rfl⟩, ⟨_, h2, rfl, rfl⟩⟩, fun c hc => ?_, q⟩
  have le : s1.heap.objs.size ≤ c := by
    simp only [List.mem_cons, List.not_mem_nil, or_false] at hc
    rcases hc with k | k | k | k | k <;> subst k
    · exact Nat.le_add_right _ _
    · exact Nat.le_add_right _ _
    · exact Nat.le_add_right _ _
    · exact Nat.le_refl _
    · exact Nat.le_add_right _ _
  exact I1.fpOk le (I1.hok.fresh le)
theorem walk_zipS {x y : Str} {n : Nat} (hn : n = min x.cps.size y.cps.size) : Walk (ItzS x y) n (fun _ => True)
    (fun i G v G' => ∃ T c d, v = .ref T ∧ G T = none ∧ G' = upd G T (.tup [.str ⟨#[c]⟩, .str ⟨#[d]⟩]) ∧ x.cps[i]? = some c ∧ y.cps[i]? = some d) :=
  ⟨fun i _ hi _ => ⟨by omega, by omega⟩, fun _ _ => hn, fun _ _ _ _ _ _ z => z⟩
end L2
/-! Rules: sorted of a tuple, the place of a number in a tuple, lcm, dicts of data compared. -/
namespace L2
open PySem PySem.Spec PyProof.Rows
section
variable {prog : Program} {w : World} {A : Around} {E : Value → Shared → Prop} {s : Shared}
/-- the list that is gathered of a tuple -/
def gath (h : Heap) (vs : List Value) : Heap := (h.push (seqObj "list" #[] 0)).update h.objs.size (Obj.mapSeq (· ++ vs.toArray))
theorem gath_size (h : Heap) (vs : List Value) : (gath h vs).objs.size = h.objs.size + 1 := by unfold gath; rw [Heap.size_update, size_push']
theorem collect_tup {t : Addr} {vs : List Value} {Q : List Value → Shared → Prop} (ht : s.heap.IsTuple t vs.toArray) (fin : Q vs { s with heap := gath s.heap vs }) (sz : vs.length ≤ sizeLine) :
    wpAny (model prog w) A (collect (.ref t)) Q E s := by
  obtain ⟨o, ho, hc, n, hd⟩ := id ht
  unfold collect
  refine wpAny_bind (wpAny_runValue (codeAny_builtin entry_proto_collect' ?_))
  show wpAny _ _ (do again (.builtin "list.__iadd__" ⟨[← newList [], .ref t], []⟩)) _ _ s
  refine wpAny_bind (wpAny_newList (wpAny_pure ⟨Code.quiet_builtin _ (by decide +kernel), codeAny_builtin entry_list_iadd' ?_⟩))
  show wpAny _ _ (Builtin.List.listExtendWith (.ref s.heap.objs.size) (.ref t) (.ref s.heap.objs.size)) _ _ { s with heap := s.heap.push (seqObj "list" #[] 0) }
  unfold Builtin.List.listExtendWith
  have ho2 : (s.heap.push (seqObj "list" #[] 0)).get? t = some o := Heap.get?_push_of_some _ ho
  refine wpAny_bind (wpAny_typeOf (T := "tuple") ⟨o, ho2, hc⟩ ?_)
  rw [if_pos (by rw [show (Value.type "tuple" == Value.type "tuple") = true from rfl]; simp)]
  refine wpAny_bind (listItems_at ho2 hd ?_)
  refine wpAny_bind (listItems_at (n := 0) (xs := #[]) (Heap.get?_push_size _ rfl) rfl ?_)
  rw [if_neg (by simp)]
  refine wpAny_bind (listUpdate_at (n := 0) (xs := #[]) (Heap.get?_push_size _ rfl) rfl ?_ (Nat.zero_le _) (by show (#[] ++ vs.toArray).size ≤ sizeLine + 1; rw [Array.size_append, List.size_toArray]; simp; omega))
  refine wpAny_pure ?_
  show wpAny (model prog w) A (do
      let ob ← load s.heap.objs.size
      match ob.data with
      | .seq xs _ => pure xs.toList
      | _ => unsupported "internal:collect") Q E { s with heap := gath s.heap vs }
  refine wpAny_bind (wpAny_load (get?_update_seq (Heap.get?_push_size _ rfl) _) ?_)
  show wpAny _ _ (pure ((#[] : Array Value) ++ vs.toArray).toList) Q E _
  rw [show ((#[] : Array Value) ++ vs.toArray).toList = vs by simp]
  exact wpAny_pure fin
theorem sorted_tup {t : Addr} {vs : List Value} {lt : Value → Value → Bool} {Q : Value → Shared → Prop} (O : SrtO.Swo lt) (ht : s.heap.IsTuple t vs.toArray) (sz : vs.length ≤ sizeLine)
    (can : 2 ≤ vs.length → ∀ (h₁ : Heap) (a : Addr), SrtO.SortableO prog w A.in1.in1 { s with heap := h₁ } a vs lt)
    (fin : ∀ out : List Value, SrtO.Srtd lt out → SrtO.Stb lt out vs → Q (.ref (s.heap.objs.size + 1)) { s with heap := sortedAll s.heap vs out.toArray }) :
    wpAny (model prog w) A (call (.builtin "sorted") [.ref t]) Q E s := by
  refine Calls.call_function_entry kind_sorted plain_sorted entry_sorted (args_sorted1 _) ?_
  unfold Builtin.«sorted»
  refine wpAny_bind (m := checkCount "sorted" 1 1 _) (wpAny_pure ?_)
  refine wpAny_bind (collect_tup ht ?_ sz)
  refine wpAny_bind (wpAny_newList ?_ sz)
  have here : ((gath s.heap vs).push (seqObj "list" vs.toArray 0)).get? (s.heap.objs.size + 1) = some (seqObj "list" vs.toArray 0) := by
    rw [← gath_size s.heap vs]; exact Heap.get?_push_size _ rfl
  show wpAny _ _ _ _ _ { s with heap := (gath s.heap vs).push (seqObj "list" vs.toArray 0) }
  rw [gath_size]
  refine wpAny_bind (wpAny_holding (wpAny_call_entry slot_list_sort ⟨_, here, rfl⟩ entry_list_sort (SrtO.list_sort_ord O here sz (fun two => can two _ _) fun out z1 z2 => ⟨_, rfl, ?_⟩) (args_list_sort _)))
  exact wpAny_pure ⟨_, rfl, fin out z1 z2⟩
end
/-- sorted(t), t a tuple of numbers -/
def rSortedTI (K : PySem.W.Frag) : List V → Hp → VK → Prop := fun vs H Q => ∃ (t : Addr) (ns : List Int), vs = [V.ref t] ∧ SqT K H t (ns.map V.int) ∧
  ∀ (ms : List Int) (p : Addr), ms.Perm ns → ms.Pairwise (· ≤ ·) → H p = none → Q (.ref p) (upd H p (.lst (ms.map V.int)))
section
variable {X : Cx} {K : PySem.W.Frag}
theorem csortedTI (eK : X.K = K) : CallR X (.builtin "sorted") (rSortedTI K) := by
  subst eK
  intro pins s σ H vs us Q I r h
  obtain ⟨t, ns, rfl, hs, q⟩ := h
  obtain ⟨its, rv, pl, hz⟩ := I.tuple hs
  rw [Vals.ref1 r]
  have hints := rv.ints
  refine sorted_tup SrtO.swo_int (show s.heap.IsTuple t its.toArray from pl) (by rw [← rv.length]; exact hz) (fun two h₁ a => SrtO.ints_sortable hints two) fun out z1 z2 => ?_
  obtain ⟨k1, k2, k3⟩ := SrtO.ints_out hints z1 z2
  obtain ⟨ep, at_⟩ := PyProof.Rows.sortedAll_at s.heap its out.toArray
  have size : ((out.map SrtO.iv).map V.int).length ≤ sizeLine := by
    rw [List.length_map, k2.length_eq]
    rw [List.length_map] at hz
    exact hz
  exact ⟨.ref _, upd H (s.heap.objs.size + 1) (.lst ((out.map SrtO.iv).map V.int)), I.laid (t' := s.toks) (fun _ _ => PyProof.Rows.sortedAll_old) (Nat.le_succ _) ⟨size, out, ep, vals_of_ints k1, at_⟩, rfl, q _ _ k2 k3 (I.hok.fresh (Nat.le_succ _))⟩
/-! ### the place of a number in a tuple -/
def rTupIx (K : PySem.W.Frag) : V → List V → Hp → VK → Prop := fun x xs H Q => ∃ (p : Addr) (ns : List Int) (z : Int) (j : Nat), x = .ref p ∧ xs = [.int z] ∧ SqT K H p (ns.map V.int) ∧ ns[j]? = some z ∧ (∀ m, m < j → ns[m]? ≠ some z) ∧ Q (.int (j : Nat)) H
theorem flat_ints (ns : List Int) : (ns.map V.int).all flatV = true := by
  induction ns with
  | nil => rfl
  | cons n r ih => rw [List.map_cons, List.all_cons, ih]; rfl
theorem mtupix (eK : X.K = K) : MtR X "tuple.index" (rTupIx K) := by
  subst eK
  intro pins s σ H x xs v us Q I rx rs h
  obtain ⟨p, ns, z, j, rfl, rfl, hq, hy, no, q⟩ := h
  cases rx
  obtain ⟨u, rfl, tz, rfl⟩ := vals1 rs
  obtain ⟨its, r, pl, hz⟩ := I.tuple hq
  obtain ⟨⟨cls, dd, dt, sl⟩, ho, hc, n, hd⟩ := pl
  simp only at hc hd
  subst hc; subst hd
  have sz : its.toArray.size = ns.length := by rw [List.size_toArray, ← r.length, List.length_map]
  have jl : j < its.toArray.size := by rw [sz]; exact (List.getElem?_eq_some_iff.mp hy).1
  have item : ∀ (m : Nat) (hm : m < its.toArray.size), ∃ y t2, ns[m]? = some y ∧ its.toArray[m] = Value.int y t2 := fun m hm => by
    have hm2 : m < ns.length := by rw [← sz]; exact hm
    obtain ⟨w, hw, t2, hw2⟩ := r.get (i := m) (x := .int ns[m]) (by simp [hm2])
    refine ⟨ns[m], t2, List.getElem?_eq_getElem hm2, ?_⟩
    have e := (List.getElem?_eq_some_iff.mp hw).2
    rw [← hw2, ← e]
    simp
  refine call_meets PySem.F.slot_tuple_index ⟨_, ho, rfl⟩ PySem.F.entry_tuple_index (PySem.F.args_tuple_index_2 _ _) (TI.tuple_indexAt p its.toArray n dd sl (.int z tz) (eqU (.int z)) j jl ?_ ?_)
    ⟨ho, fun w hw => mem_eqAt (x := .int z) ⟨tz, rfl⟩ rfl r (flat_ints ns) w (by simpa using hw), ⟨.int (j : Nat), H, I.tok _, ⟨_, rfl⟩, q⟩⟩
  · obtain ⟨y, t2, e1, e2⟩ := item j jl
    rw [hy] at e1
    cases e1
    rw [e2]
    exact beq_self_eq_true z
  · intro m hm lt
    obtain ⟨y, t2, e1, e2⟩ := item m hm
    rw [e2]
    exact beq_eq_false_iff_ne.mpr fun e => no m lt (e ▸ e1)
/-! ### lcm -/
/-- f(x, ..), f a name of the module that holds a built-in function -/
theorem pe_callG {x : Str} {p pos : Pos} {e : Expr} {es : List Expr} {t : TA} {id : String} {r : List V → Hp → VK → Prop} (hc : CallR X (.builtin id) r) (hg : Gl X x) (hm : X.mg x = some (.builtin id)) (ha : PA X (e :: es) t)
    (hdb : (x == ("__debug__" : Str)) = false := by decide) (he : starEach (e :: es) X.env = (false, eval e X.env) :: starEach es X.env := by rfl) (hpl : (backTo pos (starEach es X.env)).any (·.1) = false := by rfl) :
    PE X (.Call (.Name x p) (e :: es) [] pos) (tCB r t) := by
  refine ⟨fun pins s σ H Q I h => wpAny_Call_Name_kw (ld_glob I hg hm ?_ hdb)⟩
  exact PyProof.Rows.callWith_builtin1 (thn (ha.run pos pins s σ H _ I h) fun us s1 ⟨vs, H1, I1, r1, q1⟩ => hc pins s1 σ H1 vs us Q I1 r1 q1) he hpl
def rLcm : List V → Hp → VK → Prop := fun xs H Q => ∃ a b : Nat, xs = [.int a, .int b] ∧ 0 < a ∧ 0 < b ∧ a < 2 ^ 63 ∧ b < 2 ^ 63 ∧ Q (.int (Nat.lcm a b : Nat)) H
theorem call_lcm : CallR X (.builtin "math.lcm") rLcm := by
  intro pins s σ H xs us Q I r h
  obtain ⟨a, b, rfl, a0, b0, a1, b1, q⟩ := h
  obtain ⟨u1, u2, rfl, ⟨t1, rfl⟩, ⟨t2, rfl⟩⟩ := vals2 r
  have e : ((Nat.lcm 1 (a : Int).natAbs).lcm (b : Int).natAbs) = Nat.lcm a b := by
    rw [Int.natAbs_natCast, Int.natAbs_natCast, Nat.lcm_one_left]
  have up : Nat.lcm a b < 2 ^ 126 := by
    have h1 : Nat.lcm a b ≤ a * b := Nat.div_le_self _ _
    have h2 : a * b ≤ 2 ^ 63 * b := Nat.mul_le_mul_right b (Nat.le_of_lt a1)
    have h3 : 2 ^ 63 * b < 2 ^ 63 * 2 ^ 63 := Nat.mul_lt_mul_of_pos_left b1 (by decide)
    calc Nat.lcm a b ≤ a * b := h1
      _ ≤ 2 ^ 63 * b := h2
      _ < 2 ^ 63 * 2 ^ 63 := h3
      _ = 2 ^ 126 := by decide
  have pos : Nat.lcm a b ≠ 0 := Nat.ne_of_gt (Nat.lcm_pos a0 b0)
  refine PySem.W.mg_lcm (a := (a : Int)) (t := t1) (b := (b : Int)) (u := t2) (by omega) (by omega) ?_ ?_
  · rw [e, Int.natAbs_natCast, bitsLine_eq]
    exact Nat.lt_trans ((Nat.log2_lt pos).mpr up) (by decide)
  · rw [e]
    exact ⟨.int (Nat.lcm a b : Nat), H, I.tok _, ⟨_, rfl⟩, q⟩
/-! ### dicts of data compared -/
def dEq (f : V → PyData) (ks ls : List (L2.Key × V)) : Bool :=
  ks.length == ls.length && ks.all fun p => match valV ls p.1 with | none => false | some y => PyData.eqv (f p.2) (f y)
def rEqDK (K : PySem.W.Frag) : R2 := fun x y H Q => ∃ (a b : Addr) (ks ls : List (L2.Key × V)) (f : V → PyData), x = .ref a ∧ y = .ref b ∧ Rd H a (.dK ks) ∧ Rd H b (.dK ls) ∧
  (∀ p ∈ ks, Dp K H p.2 (f p.2) ∧ SeqAt.shaped (f p.2) = true) ∧ (∀ p ∈ ls, Dp K H p.2 (f p.2) ∧ SeqAt.shaped (f p.2) = true) ∧ Q (.bl (dEq f ks ls)) H
def rNeDK (K : PySem.W.Frag) : R2 := fun x y H Q => rEqDK K x y H fun v H' => ∃ b, v = .bl b ∧ Q (.bl (!b)) H'
theorem valV_mem {ls : List (L2.Key × V)} {k : L2.Key} {y : V} (h : valV ls k = some y) : (k, y) ∈ ls := by
  unfold valV at h
  obtain ⟨p, hp, e⟩ := Option.map_eq_some_iff.mp h
  have h1 := List.mem_of_find?_eq_some hp
  have h2 : p.1 = k := by have := List.find?_some hp; simpa using this
  rw [← h2, ← e]; exact h1
theorem un1 {A : Around} {k : Nat} (hr : Room k A) : A.in1.units + 64 < cLine := by have := hr.un; show A.units + 1 + 64 < cLine; omega
theorem hits_data {pins : List (Addr × Obj)} {σ : L2.St} {H : Hp} {s : Shared} {f : V → PyData} {ls : List (L2.Key × V)} {vb : List (L2.Key × Value)} (I : Inv X pins σ H s) (hu : X.A.in1.units + 64 < cLine) (rb : L2.KV ls vb)
    (hl : ∀ p ∈ ls, Dp X.K H p.2 (f p.2) ∧ SeqAt.shaped (f p.2) = true) : ∀ {ks : List (L2.Key × V)} {va : List (L2.Key × Value)}, L2.KV ks va → (∀ p ∈ ks, Dp X.K H p.2 (f p.2) ∧ SeqAt.shaped (f p.2) = true) →
    PySem.W.KeqHits X.A.in1 s vb va (ks.all fun p => match valV ls p.1 with | none => false | some y => PyData.eqv (f p.2) (f y)) := by
  intro ks va ra
  unfold L2.KV at ra
  induction ra with
  | nil => intro _; exact .nil
  | @cons p q l1 l2 pq t ih =>
    intro hk
    obtain ⟨k, v⟩ := p
    obtain ⟨k2, u⟩ := q
    obtain ⟨e1, ru⟩ := pq
    cases (show k = k2 from e1)
    have rest := ih fun p hp => hk p (List.mem_cons_of_mem _ hp)
    have rel := rb.val k
    rw [List.all_cons]
    cases hv : valV ls k with
    | none =>
      rw [hv] at rel
      cases hw : valueAt vb k with
      | none => exact .miss hw
      | some w => rw [hw] at rel; exact rel.elim
    | some y =>
      rw [hv] at rel
      cases hw : valueAt vb k with
      | none => rw [hw] at rel; exact rel.elim
      | some w =>
        rw [hw] at rel
        obtain ⟨d1, s1⟩ := hk (k, v) List.mem_cons_self
        obtain ⟨d2, s2⟩ := hl (k, y) (valV_mem hv)
        obtain ⟨as, r1⟩ := Dp.reads I _ v u d1 ru
        obtain ⟨bs, r2⟩ := Dp.reads I _ y w d2 rel
        exact .hit hw (PySem.W.keq_at r1 r2 s1 s2 hu) rest
theorem eq_dk {k : Nat} (eK : X.K = K) (hr : Room k X.A) : OpR X (compareOp .Eq) (rEqDK K) := by
  subst eK
  intro pins s σ H x y v u Q I rx ry h
  obtain ⟨a, b, ks, ls, f, rfl, rfl, ea, eb, hk, hl, q⟩ := h
  cases (show v = Value.ref a from rx)
  cases (show u = Value.ref b from ry)
  obtain ⟨_, ya, va, ra, da⟩ := dk_rd I.hok ea
  obtain ⟨_, yb, vb, rb, db⟩ := dk_rd I.hok eb
  refine PySem.W.keq_eq (knd := mixKind X.prog X.w) ya yb da db hr.units0 (fun _ => hits_data I (un1 hr) rb hl ra hk) (fin_bl I q ?_)
  unfold dEq
  rw [ra.length, rb.length]
theorem ne_dk {k : Nat} (eK : X.K = K) (hr : Room k X.A) : OpR X (compareOp .NotEq) (rNeDK K) := by
  subst eK
  intro pins s σ H x y v u Q I rx ry h
  obtain ⟨a, b, ks, ls, f, rfl, rfl, ea, eb, hk, hl, bb, eb2, q⟩ := h
  cases (show v = Value.ref a from rx)
  cases (show u = Value.ref b from ry)
  obtain ⟨_, ya, va, ra, da⟩ := dk_rd I.hok ea
  obtain ⟨_, yb, vb, rb, db⟩ := dk_rd I.hok eb
  refine PySem.W.keq_ne (knd := mixKind X.prog X.w) ya yb da db hr.units0 (fun _ => hits_data I (un1 hr) rb hl ra hk) (fin_bl I q ?_)
  have e2 := V.bl.inj eb2
  rw [← e2]
  unfold dEq
  rw [ra.length, rb.length]
end
section
variable {X : Cx} {K : PySem.W.Frag}
/-- tuple(a list): the new tuple as the object that it is -/
def rTupF (K : PySem.W.Frag) : List V → Hp → VK → Prop := fun xs H Q => ∃ (p : Addr) (ys : List V), xs = [.ref p] ∧ SqL K H p ys ∧ ∀ (l : Addr) (o : Obj), H l = none → o.cls = .type "tuple" → o.dict = none → Q (.ref l) (upd H l (.frz o (.tup ys)))
theorem ctupF (eK : X.K = K) : CallR X (.type "tuple") (rTupF K) := by
  subst eK
  intro pins s σ H xs us Q I r h
  obtain ⟨p, ys, rfl, hq, q⟩ := h
  obtain ⟨u, rfl, rx⟩ := vals1 r
  cases rx
  obtain ⟨its, rr, pl, hz⟩ := I.list hq
  have hl := rr.length
  refine call_tuple_list pl.isList (fun h' kp => ?_) (by rw [List.size_toArray]; omega)
  have J : Inv X pins σ H { s with heap := h' } := I.kept (t' := s.toks) kp
  have J2 : Inv X pins σ (upd H h'.objs.size (.frz { cls := .type "tuple", data := .seq its.toArray } (.tup ys))) { s with heap := h'.push { cls := .type "tuple", data := .seq its.toArray } } :=
    J.laid (t' := s.toks) (fun b o e => Heap.get?_push_of_some _ e) (Nat.le_refl _) (show ObjOk X.prog X.w _ _ _ (.frz _ (.tup ys)) from ⟨Heap.get?_push_size _ rfl, hz, its, rr, IsTup.new _ _⟩)
  exact ⟨.ref h'.objs.size, _, J2, rfl, q _ _ (J.hok.fresh (Nat.le_refl _)) rfl rfl⟩
/-- a tuple whose object is known to have no attributes -/
def tyF (x : V) (H : Hp) : Prop := match x with
  | .ref p => ∃ (o : Obj) (ys : List V), H p = some (.frz o (.tup ys)) ∧ o.cls = .type "tuple" ∧ o.dict = none
  | _ => False
def tBMF (r : V → List V → Hp → VK → Prop) (to : TE) (t : TA) : TE := fun σ H Q => to σ H fun x H1 => tyF x H1 ∧ t σ H1 fun xs H2 => r x xs H2 Q
theorem pbmF {name id : String} {r : V → List V → Hp → VK → Prop} {o e : Expr} {es : List Expr} {to : TE} {t : TA} {apos cpos : Pos} (pa : PlainAttrs "tuple") (slot : Slot "tuple" name id) (hty : typeOf (.builtin id) = pure (.type "method_descriptor")) (hm : MtR X id r) (ho : PE X o to) (ha : PA X (e :: es) t)
    (hbase : attributeBase o name X.env (eval o X.env) = eval o X.env := by rfl) (hfew : ((backTo cpos (starEach (e :: es) X.env)).all (fun x => !x.1) && (backToKw cpos (keywordEach [] X.env)).all (fun x => x.1.isSome) && decide ((e :: es).length + ([] : List Keyword).length + (if ([] : List Keyword).isEmpty then 0 else 1) < 30)) = true := by rfl)
    (hline : (apos.endLine == cpos.line) = true := by rfl) (hs : starEach (e :: es) X.env = (false, eval e X.env) :: starEach es X.env := by rfl) (hplain : (backTo cpos (starEach es X.env)).any (·.1) = false := by rfl) :
    PE X (.Call (.Attribute o name apos) (e :: es) [] cpos) (tBMF r to t) := by
  refine ⟨fun pins s σ H Q I h => wpAny_Call_method_late hbase hfew hline rfl (thn (ho.run pins s σ H _ I h) fun v s1 ⟨x, H1, I1, r1, ty, q1⟩ => ?_)⟩
  have z : s1.TypeIs v "tuple" ∧ ∀ a, v = .ref a → ∃ ob, s1.heap.get? a = some ob ∧ ob.dict = none := by
    cases x with
    | ref p =>
      obtain ⟨ob, ys, e, c, dn⟩ := ty
      cases r1
      obtain ⟨at_, _⟩ := (show ObjOk X.prog X.w H1 s1.heap p (.frz ob (.tup ys)) from I1.hok p _ e)
      refine ⟨⟨ob, at_, c⟩, fun a ea => ?_⟩
      cases ea
      exact ⟨ob, at_, dn⟩
    | _ => exact False.elim ty
  refine ⟨"tuple", id, pa, slot, hty, z.1, z.2, ?_⟩
  have args := ha.run cpos pins s1 σ H1 _ I1 q1
  rw [hs] at args ⊢
  refine Calls.callWith_builtin (by show (false || (backTo cpos (starEach es X.env)).any (·.1)) = false; rw [hplain] <;> rfl) (Calls.evalArgs_plain (thn args fun us s2 ⟨vs, H2, I2, r2, q2⟩ => hm pins s2 σ H2 x vs v us Q I2 r1 r2 q2))
end
end L2
/-! Moves: lists that lead 0 to n - 1 one to one; how often each is gone until it is back. -/
namespace MV
/-- where the move m leads s -/
def go1 (m : List Nat) (s : Nat) : Nat := m.getD s 0
theorem go1_at {m : List Nat} {s : Nat} (h : s < m.length) : m[s]? = some (go1 m s) := by
  unfold go1; rw [List.getD_eq_getElem?_getD, List.getElem?_eq_getElem h]; rfl
theorem go1_map {m : List Nat} {f : Nat → Nat} {s : Nat} (h : s < m.length) : go1 (m.map f) s = f (go1 m s) := by
  have h1 := go1_at (m := m.map f) (s := s) (by simpa using h)
  rw [List.getElem?_map, go1_at h] at h1
  exact (Option.some.inj h1).symm
theorem go1_range {n s : Nat} (h : s < n) : go1 (List.range n) s = s := by
  have h1 := go1_at (m := List.range n) (s := s) (by simpa using h)
  rw [List.getElem?_range h] at h1
  exact (Option.some.inj h1).symm
/-- m leads 0 to n - 1, r leads back -/
structure Bk (n : Nat) (m r : List Nat) : Prop where
  lm : m.length = n
  lr : r.length = n
  hm : ∀ s, s < n → go1 m s < n
  hr : ∀ s, s < n → go1 r s < n
  rm : ∀ s, s < n → go1 r (go1 m s) = s
  mr : ∀ s, s < n → go1 m (go1 r s) = s
theorem Bk.flip {n : Nat} {m r : List Nat} (b : Bk n m r) : Bk n r m := ⟨b.lr, b.lm, b.hr, b.hm, b.mr, b.rm⟩
theorem Bk.inj {n : Nat} {m r : List Nat} (b : Bk n m r) {s t : Nat} (hs : s < n) (ht : t < n) (e : go1 m s = go1 m t) : s = t := by
  rw [← b.rm s hs, e, b.rm t ht]
theorem Bk.id (n : Nat) : Bk n (List.range n) (List.range n) :=
  ⟨List.length_range, List.length_range, fun s h => by rw [go1_range h]; exact h, fun s h => by rw [go1_range h]; exact h, fun s h => by rw [go1_range h, go1_range h], fun s h => by rw [go1_range h, go1_range h]⟩
/-- the one and then the other -/
def fol (a b : List Nat) : List Nat := a.map (go1 b)
theorem fol_go {n : Nat} {a b : List Nat} {s : Nat} (ha : a.length = n) (h : s < n) : go1 (fol a b) s = go1 b (go1 a s) := go1_map (by omega)
theorem Bk.fol {n : Nat} {a ra b rb : List Nat} (x : Bk n a ra) (y : Bk n b rb) : Bk n (fol a b) (MV.fol rb ra) := by
  refine ⟨by unfold MV.fol; rw [List.length_map]; exact x.lm, by unfold MV.fol; rw [List.length_map]; exact y.lr, fun s h => ?_, fun s h => ?_, fun s h => ?_, fun s h => ?_⟩
  · rw [fol_go x.lm h]; exact y.hm _ (x.hm s h)
  · rw [fol_go y.lr h]; exact x.hr _ (y.hr s h)
  · rw [fol_go x.lm h, fol_go y.lr (y.hm _ (x.hm s h)), y.rm _ (x.hm s h), x.rm s h]
  · rw [fol_go y.lr h, fol_go x.lm (x.hr _ (y.hr s h)), x.mr _ (y.hr s h), y.mr s h]
theorem mv_ext {n : Nat} {a b : List Nat} (ha : a.length = n) (hb : b.length = n) (h : ∀ s, s < n → go1 a s = go1 b s) : a = b := by
  refine List.ext_getElem? fun i => ?_
  rcases Nat.lt_or_ge i n with q | q
  · rw [go1_at (by omega), go1_at (by omega), h i q]
  · rw [List.getElem?_eq_none (by omega), List.getElem?_eq_none (by omega)]
theorem Bk.one {n : Nat} {m r r' : List Nat} (x : Bk n m r) (y : Bk n m r') : r = r' :=
  mv_ext x.lr y.lr fun s h => by
    have := x.rm (go1 r' s) (y.hr s h)
    rw [y.mr s h] at this
    exact this
/-- the first place -/
theorem Bk.first {n : Nat} {m r : List Nat} (b : Bk n m r) {s : Nat} (h : s < n) : m[go1 r s]? = some s ∧ ∀ j, j < go1 r s → m[j]? ≠ some s := by
  refine ⟨?_, fun j hj e => ?_⟩
  · rw [go1_at (by rw [b.lm]; exact b.hr s h), b.mr s h]
  · have hl : j < n := Nat.lt_trans hj (b.hr s h)
    rw [go1_at (by rw [b.lm]; exact hl)] at e
    have e1 := Option.some.inj e
    have := b.rm j hl
    rw [e1] at this
    omega
/-- of a list that is told by the numbers below n in another order -/
theorem bk_perm {n : Nat} {m : List Nat} (p : m.Perm (List.range n)) : ∃ r, Bk n m r := by
  have nd : m.Nodup := p.nodup_iff.mpr List.nodup_range
  have lm : m.length = n := by rw [p.length_eq, List.length_range]
  have mem : ∀ s, s < n → s ∈ m := fun s h => p.mem_iff.mpr (List.mem_range.mpr h)
  have il : ∀ s, s < n → m.idxOf s < n := fun s h => by have := List.idxOf_lt_length_of_mem (mem s h); omega
  have gi : ∀ s, s < n → go1 m (m.idxOf s) = s := fun s h => by
    have h1 := go1_at (m := m) (s := m.idxOf s) (by rw [lm]; exact il s h)
    rw [List.getElem?_eq_getElem (by rw [lm]; exact il s h), List.getElem_idxOf] at h1
    exact (Option.some.inj h1).symm
  have gl : ∀ s, s < n → go1 m s < n := fun s h => by
    have h1 := go1_at (m := m) (s := s) (by omega)
    exact List.mem_range.mp (p.mem_iff.mp (List.mem_of_getElem? h1))
  have rl : ∀ s, s < n → go1 ((List.range n).map fun s => m.idxOf s) s = m.idxOf s := fun s h => by
    rw [go1_map (by simpa using h), go1_range h]
  refine ⟨(List.range n).map fun s => m.idxOf s, lm, by rw [List.length_map, List.length_range], gl, fun s h => by rw [rl s h]; exact il s h, fun s h => ?_, fun s h => by rw [rl s h]; exact gi s h⟩
  rw [rl _ (gl s h)]
  have e := gi _ (gl s h)
  have h1 := go1_at (m := m) (s := s) (by omega)
  have h2 := go1_at (m := m) (s := m.idxOf (go1 m s)) (by rw [lm]; exact il _ (gl s h))
  rw [e] at h2
  have hs : s < m.length := by omega
  exact ((List.getElem?_inj hs nd).mp (h1.trans h2.symm)).symm
/-! ### round and round -/
/-- k times -/
def it (m : List Nat) : Nat → Nat → Nat
  | 0, s => s
  | k + 1, s => go1 m (it m k s)
theorem it_lt {n : Nat} {m r : List Nat} (b : Bk n m r) {s : Nat} (h : s < n) : ∀ k, it m k s < n
  | 0 => h
  | k + 1 => b.hm _ (it_lt b h k)
theorem it_add (m : List Nat) (j : Nat) (s : Nat) : ∀ k, it m (k + j) s = it m k (it m j s)
  | 0 => by rw [Nat.zero_add]; rfl
  | k + 1 => by rw [Nat.add_right_comm]; exact congrArg (go1 m) (it_add m j s k)
theorem it_canc {n : Nat} {m r : List Nat} (b : Bk n m r) {s t : Nat} (hs : s < n) (ht : t < n) : ∀ k, it m k s = it m k t → s = t
  | 0, e => e
  | k + 1, e => it_canc b hs ht k (b.inj (it_lt b hs k) (it_lt b ht k) e)
theorem pig : ∀ (n : Nat) (l : List Nat), l.Nodup → (∀ x ∈ l, x < n) → l.length ≤ n
  | 0, [], _, _ => Nat.le_refl _
  | 0, x :: l, _, h => absurd (h x List.mem_cons_self) (Nat.not_lt_zero _)
  | n + 1, l, nd, h => by
    by_cases hn : n ∈ l
    · have h1 := pig n (l.erase n) (nd.erase n) fun x hx => by
        have h2 := (nd.mem_erase_iff).mp hx
        have h3 := h x h2.2
        have h4 : x ≠ n := h2.1
        omega
      rw [List.length_erase_of_mem hn] at h1
      omega
    · have h1 := pig n l nd fun x hx => by
        have h3 := h x hx
        have h4 : x ≠ n := fun e => hn (e ▸ hx)
        omega
      omega
theorem back_some {n : Nat} {m r : List Nat} (b : Bk n m r) {s : Nat} (h : s < n) : ∃ k, 0 < k ∧ k ≤ n ∧ it m k s = s := by
  apply Classical.byContradiction
  intro no
  have nd : ((List.range (n + 1)).map fun k => it m k s).Nodup := by
    refine List.pairwise_map.mpr ((List.pairwise_lt_range).imp_of_mem fun {i j} hi hj lt e => ?_)
    have hj' := List.mem_range.mp hj
    refine no ⟨j - i, by omega, by omega, ?_⟩
    have e2 : it m j s = it m i (it m (j - i) s) := by rw [← it_add]; congr 1; omega
    rw [e2] at e
    exact (it_canc b h (it_lt b h _) i e).symm
  have := pig n _ nd fun x hx => by
    obtain ⟨k, _, e⟩ := List.mem_map.mp hx
    rw [← e]; exact it_lt b h k
  rw [List.length_map, List.length_range] at this
  omega
/-- p is how often s is gone until it is back -/
structure Rd1 (m : List Nat) (s p : Nat) : Prop where
  pos : 0 < p
  back : it m p s = s
  no : ∀ k, 0 < k → k < p → it m k s ≠ s
theorem rd1_some {n : Nat} {m r : List Nat} (b : Bk n m r) {s : Nat} (h : s < n) : ∃ p, p ≤ n ∧ Rd1 m s p := by
  obtain ⟨k, k0, kn, e⟩ := back_some b h
  induction k using Nat.strongRecOn with
  | ind k ih =>
    by_cases q : ∃ j, 0 < j ∧ j < k ∧ it m j s = s
    · obtain ⟨j, j0, jk, ej⟩ := q
      exact ih j jk j0 (by omega) ej
    · exact ⟨k, kn, k0, e, fun j j0 jk ej => q ⟨j, j0, jk, ej⟩⟩
theorem Rd1.one {m : List Nat} {s p q : Nat} (x : Rd1 m s p) (y : Rd1 m s q) : p = q := by
  rcases Nat.lt_trichotomy p q with h | h | h
  · exact absurd x.back (y.no p x.pos h)
  · exact h
  · exact absurd y.back (x.no q y.pos h)
/-- the round's other standings have as many -/
theorem Rd1.on {n : Nat} {m r : List Nat} (b : Bk n m r) {s p : Nat} (h : s < n) (x : Rd1 m s p) (j : Nat) : Rd1 m (it m j s) p := by
  have comm : ∀ k, it m k (it m j s) = it m j (it m k s) := fun k => by rw [← it_add, ← it_add, Nat.add_comm]
  refine ⟨x.pos, by rw [comm, x.back], fun k k0 kp e => x.no k k0 kp ?_⟩
  rw [comm] at e
  exact it_canc b (it_lt b h k) h j e
theorem it_rev {n : Nat} {m r : List Nat} (b : Bk n m r) {s : Nat} (h : s < n) : ∀ k, it r k (it m k s) = s
  | 0 => rfl
  | k + 1 => by
    have e : it r (k + 1) (it m (k + 1) s) = it r k (it r 1 (it m (k + 1) s)) := it_add r 1 _ k
    rw [e]
    show it r k (go1 r (go1 m (it m k s))) = s
    rw [b.rm _ (it_lt b h k)]; exact it_rev b h k
theorem Rd1.rev {n : Nat} {m r : List Nat} (b : Bk n m r) {s p : Nat} (h : s < n) (x : Rd1 m s p) : Rd1 r s p := by
  refine ⟨x.pos, ?_, fun k k0 kp e => x.no k k0 kp ?_⟩
  · have := it_rev b h p
    rw [x.back] at this; exact this
  · have := it_rev b.flip h k
    rw [e] at this; exact this
/-! ### the least common multiple of all rounds -/
def lcmA (l : List Nat) : Nat := l.foldl Nat.lcm 1
theorem lcmA_dvd (l : List Nat) (k : Nat) : ∀ a, l.foldl Nat.lcm a ∣ k ↔ a ∣ k ∧ ∀ x ∈ l, x ∣ k := by
  induction l with
  | nil => intro a; simp
  | cons y l ih =>
    intro a
    rw [List.foldl_cons, ih]
    constructor
    · rintro ⟨h1, h2⟩
      refine ⟨Nat.dvd_trans (Nat.dvd_lcm_left a y) h1, fun x hx => ?_⟩
      rcases List.mem_cons.mp hx with e | e
      · rw [e]; exact Nat.dvd_trans (Nat.dvd_lcm_right a y) h1
      · exact h2 x e
    · rintro ⟨h1, h2⟩
      exact ⟨Nat.lcm_dvd h1 (h2 y List.mem_cons_self), fun x hx => h2 x (List.mem_cons_of_mem _ hx)⟩
theorem lcmA_iff {l : List Nat} {k : Nat} : lcmA l ∣ k ↔ ∀ x ∈ l, x ∣ k := by
  unfold lcmA
  rw [lcmA_dvd]
  exact ⟨fun h => h.2, fun h => ⟨Nat.one_dvd _, h⟩⟩
theorem lcmA_app (l : List Nat) (x : Nat) : lcmA (l ++ [x]) = Nat.lcm (lcmA l) x := by unfold lcmA; rw [List.foldl_append]; rfl
theorem lcmA_eq {l l' : List Nat} (h1 : ∀ x ∈ l, ∃ y ∈ l', x ∣ y) (h2 : ∀ x ∈ l', ∃ y ∈ l, x ∣ y) : lcmA l = lcmA l' := by
  refine Nat.dvd_antisymm (lcmA_iff.mpr fun x hx => ?_) (lcmA_iff.mpr fun x hx => ?_)
  · obtain ⟨y, hy, d⟩ := h1 x hx
    exact Nat.dvd_trans d (lcmA_iff.mp (Nat.dvd_refl _) y hy)
  · obtain ⟨y, hy, d⟩ := h2 x hx
    exact Nat.dvd_trans d (lcmA_iff.mp (Nat.dvd_refl _) y hy)
def big : Nat := 5342931457063200
theorem big_dvd : ∀ x, x ≤ 40 → 0 < x → x ∣ big := by
  have h : ∀ x, x < 41 → 0 < x → x ∣ big := by decide
  exact fun x hx => h x (by omega)
theorem lcmA_le {l : List Nat} (h : ∀ x ∈ l, x ≤ 40 ∧ 0 < x) : 0 < lcmA l ∧ lcmA l ≤ big := by
  have d : lcmA l ∣ big := lcmA_iff.mpr fun x hx => big_dvd x (h x hx).1 (h x hx).2
  have b0 : 0 < big := by decide
  exact ⟨Nat.pos_of_dvd_of_pos d b0, Nat.le_of_dvd b0 d⟩
/-- N is the least common multiple of the rounds of 0 to n - 1 -/
structure Ord (n : Nat) (m : List Nat) (N : Nat) : Prop where
  all : ∀ s p, s < n → Rd1 m s p → p ∣ N
  least : ∀ k, (∀ s p, s < n → Rd1 m s p → p ∣ k) → N ∣ k
theorem Ord.one {n : Nat} {m : List Nat} {N M : Nat} (x : Ord n m N) (y : Ord n m M) : N = M := Nat.dvd_antisymm (x.least M y.all) (y.least N x.all)
theorem Ord.rev {n : Nat} {m r : List Nat} {N : Nat} (b : Bk n m r) (x : Ord n m N) : Ord n r N :=
  ⟨fun s p h y => x.all s p h (y.rev b.flip h), fun k hk => x.least k fun s p h y => hk s p h (y.rev b h)⟩
/-- the least multiple, found by adding -/
theorem lcm_step {f q t : Nat} (f0 : 0 < f) (q0 : 0 < q) (ht : f * t ≤ Nat.lcm f q) (t0 : 0 < t) : (f * t % q = 0 ↔ f * t = Nat.lcm f q) := by
  constructor
  · intro h
    have d : Nat.lcm f q ∣ f * t := Nat.lcm_dvd (Nat.dvd_mul_right _ _) (Nat.dvd_of_mod_eq_zero h)
    have := Nat.le_of_dvd (Nat.mul_pos f0 t0) d
    omega
  · intro h
    rw [h]; exact Nat.mod_eq_zero_of_dvd (Nat.dvd_lcm_right f q)
end MV
/-! Worlds as they stand in the heap, and the promises of what is said of them. -/
namespace RB
open PySem L2 PyProof.Rows MV
/-! ### the pot that draws -/
/-- all that was tracked stands, but what stands at h and g -/
def BG (h g : Addr) (H H' : Hp) : Prop := ∀ b o, b ≠ h ∧ b ≠ g → H b = some o → H' b = some o
theorem BG.refl (h g : Addr) (H : Hp) : BG h g H H := fun _ _ _ e => e
theorem BG.trans {h g : Addr} {H H1 H2 : Hp} (a : BG h g H H1) (b : BG h g H1 H2) : BG h g H H2 := fun c o n e => b c o n (a c o n e)
theorem _root_.L2.Same.bg {h g : Addr} {H H' : Hp} (a : Same H H') : BG h g H H' := fun b o _ e => a b o e
theorem BG.s1 {h g : Addr} {H H1 : Hp} {o : HO} (a : BG h g H H1) : BG h g H (upd H1 h o) := fun b u n e => by rw [upd_ne n.1]; exact a b u n e
theorem BG.s2 {h g : Addr} {H H1 : Hp} {o : HO} (a : BG h g H H1) : BG h g H (upd H1 g o) := fun b u n e => by rw [upd_ne n.2]; exact a b u n e
/-- the pot at h: its great numbers at g, its small ones, how often one has drawn, a number -/
def Pot (H : Hp) (h g : Addr) : Prop := ∃ (s : Addr) (gs ss : List Int) (t k : Int), H h = some (.lst [.ref g, .ref s, .int t, .int k]) ∧ H g = some (.lst (gs.map V.int)) ∧ H s = some (.lst (ss.map V.int)) ∧
  ss ≠ [] ∧ ss.length ≤ 1000 ∧ 0 ≤ t ∧ (∀ z ∈ gs, 0 ≤ z) ∧ (∀ z ∈ ss, 0 ≤ z) ∧ 0 ≤ k ∧ g ≠ h ∧ s ≠ h ∧ s ≠ g
/-- the small numbers stay where they are -/
def Stay (h g : Addr) (H H' : Hp) : Prop := ∀ s z, H h = some (.lst (.ref g :: .ref s :: z)) → ∃ z', H' h = some (.lst (.ref g :: .ref s :: z'))
def PG2 (h g : Addr) (H H' : Hp) : Prop := BG h g H H' ∧ Pot H' h g ∧ Stay h g H H'
theorem PG2.trans {h g : Addr} {H H1 H2 : Hp} (a : PG2 h g H H1) (b : PG2 h g H1 H2) : PG2 h g H H2 := ⟨a.1.trans b.1, b.2.1, fun s z e => by
  obtain ⟨z1, e1⟩ := a.2.2 s z e
  exact b.2.2 s z1 e1⟩
theorem Pot.same {H H' : Hp} {h g : Addr} (x : Pot H h g) (e : Same H H') : Pot H' h g := by
  obtain ⟨s, gs, ss, t, k, h1, h2, h3, r⟩ := x
  exact ⟨s, gs, ss, t, k, e _ _ h1, e _ _ h2, e _ _ h3, r⟩
theorem PG2.same {H H1 H2 : Hp} {h g : Addr} (x : PG2 h g H H1) (e : Same H1 H2) : PG2 h g H H2 := x.trans ⟨e.bg, x.2.1.same e, fun s z k => ⟨z, e _ _ k⟩⟩
theorem Pot.refl {H : Hp} {h g : Addr} (x : Pot H h g) : PG2 h g H H := ⟨BG.refl _ _ _, x, fun s z k => ⟨z, k⟩⟩
theorem Pot.go {H H' : Hp} {h g : Addr} (x : Pot H h g) (e : Same H H') : PG2 h g H H' := x.refl.same e
theorem Pot.ne {H : Hp} {h g p : Addr} (x : Pot H h g) (n : H p = none) : p ≠ h ∧ p ≠ g := by
  obtain ⟨s, gs, ss, t, k, h1, h2, _⟩ := x
  exact ⟨(ne_of_none h1 n).symm, (ne_of_none h2 n).symm⟩
/-- what was not there at first may change -/
theorem PG2.put {H H1 : Hp} {h g p : Addr} {o : HO} (a : Pot H h g) (x : PG2 h g H H1) (hn : H p = none) : PG2 h g H (upd H1 p o) := by
  have pn := a.ne hn
  obtain ⟨s0, gs0, ss0, t0, k0, a1, a2, a3, ar⟩ := a
  have ps : p ≠ s0 := (ne_of_none a3 hn).symm
  obtain ⟨b, ⟨s, gs, ss, t, k, h1, h2, h3, r⟩, st⟩ := x
  obtain ⟨z', e⟩ := st s0 _ a1
  rw [h1] at e
  cases e
  exact ⟨fun c u nc hc => by rw [upd_ne (ne_of_none hc hn)]; exact b c u nc hc, ⟨s0, gs, ss, t, k, upd_oth h1 pn.1.symm, upd_oth h2 pn.2.symm, upd_oth h3 ps.symm, r⟩, fun s z e => by
    rw [a1] at e; cases e
    exact ⟨_, upd_oth h1 pn.1.symm⟩⟩
theorem PG2.free {H H1 : Hp} {h g p : Addr} (x : PG2 h g H H1) (n : H1 p = none) : H p = none := by
  cases e : H p with
  | none => rfl
  | some o =>
    have pn := x.2.1.ne n
    rw [x.1 p o pn e] at n; cases n
def sp_pdraw : Sp := fun vs H Q _ => ∃ (h g : Addr) (n : Int), vs = [.ref h, .int n] ∧ Pot H h g ∧ 0 < n ∧ n < 2 ^ 62 ∧ ∀ (d : Int) (H' : Hp), 0 ≤ d → d < n → PG2 h g H H' → Q (.int d) H'
def sp_pot (K : PySem.W.Frag) : Sp := fun vs H Q _ => ∃ (a : Addr) (ns : List Int), vs = [.ref a] ∧ SqL K H a (ns.map V.int) ∧ ns.length ≤ 63 ∧ ∀ (h g : Addr) (H' : Hp), Same H H' → Pot H' h g → H h = none → H g = none → Q (.ref h) H'
def sp_pany (K : PySem.W.Frag) : Sp := fun vs H Q _ => ∃ (h g p : Addr) (xs : List V), vs = [.ref h, .ref p] ∧ Pot H h g ∧ (SqL K H p xs ∨ SqT K H p xs) ∧ p ≠ h ∧ p ≠ g ∧ xs ≠ [] ∧ xs.length ≤ 1000000 ∧
  ∀ (i : Nat) (x : V) (H' : Hp), xs[i]? = some x → PG2 h g H H' → Q x H'
theorem BG.sqL {K : PySem.W.Frag} {h g : Addr} {H H' : Hp} {a : Addr} {xs : List V} (e : BG h g H H') (n : a ≠ h ∧ a ≠ g) (x : SqL K H a xs) : SqL K H' a xs := by
  rcases x with (x | ⟨o, x⟩) | x
  · exact .inl (.inl (e _ _ n x))
  · exact .inl (.inr ⟨o, e _ _ n x⟩)
  · exact .inr x
theorem BG.sqT {K : PySem.W.Frag} {h g : Addr} {H H' : Hp} {a : Addr} {xs : List V} (e : BG h g H H') (n : a ≠ h ∧ a ≠ g) (x : SqT K H a xs) : SqT K H' a xs := by
  rcases x with (x | ⟨o, x⟩) | x
  · exact .inl (.inl (e _ _ n x))
  · exact .inl (.inr ⟨o, e _ _ n x⟩)
  · exact .inr x
/-- deeds as they are passed -/
structure Dds (d : List Nat) : Prop where
  de : Deeds d
  ne : d ≠ []
  le : d.length ≤ 4
def sp_pdeeds : Sp := fun vs H Q _ => ∃ (h g : Addr) (n : Nat), vs = [.ref h, .int n] ∧ Pot H h g ∧ 1 ≤ n ∧ n ≤ 4 ∧ ∀ d H', Dds d → d.length ≤ n → (∀ c ∈ d, c ≤ 120) → PG2 h g H H' → Q (.str (S d)) H'
/-! ### rows over deeds -/
def OverD (d l : List Nat) : Prop := ∀ c ∈ l, lo1 c ∈ d
instance (d l : List Nat) : Decidable (OverD d l) := inferInstanceAs (Decidable (∀ c ∈ l, lo1 c ∈ d))
/-- whether a value is a row over the deeds -/
inductive OvJ (K : PySem.W.Frag) (H : Hp) (d : List Nat) : V → Option (List Nat) → Prop
  | yes {l : List Nat} (hl : Ls l) (hz : l.length ≤ 100000) (o : OverD d l) : OvJ K H d (.str (S l)) (some l)
  | not {l : List Nat} (hl : Ls l) (hz : l.length ≤ 100000) (o : ¬ OverD d l) : OvJ K H d (.str (S l)) none
  | bad {v : V} (j : RowJ K H v false) : OvJ K H d v none
def sp_rowover (K : PySem.W.Frag) : Sp := fun vs H Q _ => ∃ d v o, vs = [.str (S d), v] ∧ Deeds d ∧ OvJ K H d v o ∧ ∀ H', Same H H' → Q (.bl o.isSome) H'
def sp_dover (K : PySem.W.Frag) (C : Addr) : Sp := fun vs H Q E => ∃ d v o, vs = [.str (S d), v] ∧ Deeds d ∧ OvJ K H d v o ∧ (o = none → ∀ H', Same H H' → E (.ref C) none H') ∧ (o ≠ none → ∀ H', Same H H' → Q .non H')
theorem OvJ.same {K : PySem.W.Frag} {H H' : Hp} {d : List Nat} {v : V} {o : Option (List Nat)} (s : Same H H') (j : OvJ K H d v o) : OvJ K H' d v o := by
  cases j with
  | yes a b c => exact .yes a b c
  | not a b c => exact .not a b c
  | bad j => exact .bad (j.same s)
theorem islow_all {l : List Nat} (h : ∀ c ∈ l, 97 ≤ c ∧ c ≤ 122) (n : l ≠ []) : Txt.islower (S l) = true := by
  unfold Txt.islower
  show (l.toArray.any Unicode.isLower && !l.toArray.any _) = true
  rw [List.any_toArray, List.any_toArray]
  have e1 : l.any Unicode.isLower = true := by
    cases l with
    | nil => exact absurd rfl n
    | cons a r =>
      have q := h a List.mem_cons_self
      rw [List.any_cons, isLo_asc a (by omega), decide_eq_true q, Bool.true_or]
  have e2 : (l.any fun c => Unicode.isUpper c || Unicode.isTitle c) = false := by
    rw [List.any_eq_false]
    intro c hc
    have q := h c hc
    rw [isU_asc c (by omega), isTi_asc c (by omega), decide_eq_false (by omega)]
    simp
  rw [e1, e2]; rfl
/-! ### moves and worlds -/
def iv (m : List Nat) : List Int := m.map fun k : Nat => (k : Int)
def mv (m : List Nat) : List V := (iv m).map V.int
theorem iv_len (m : List Nat) : (iv m).length = m.length := List.length_map ..
theorem mv_len (m : List Nat) : (mv m).length = m.length := by unfold mv; rw [List.length_map, iv_len]
theorem mv_at {m : List Nat} {s : Nat} (h : s < m.length) : (mv m)[s]? = some (.int (go1 m s : Nat)) := by
  unfold mv iv; rw [List.getElem?_map, List.getElem?_map, go1_at h]; rfl
theorem iv_at {m : List Nat} {s : Nat} (h : s < m.length) : (iv m)[s]? = some (go1 m s : Nat) := by
  unfold iv; rw [List.getElem?_map, go1_at h]; rfl
/-- the dict of moves as the law has it -/
def dct (d : List Nat) (a : Nat → Addr) : List (L2.Key × V) := d.map fun c => (Sum.inr (S [c]), .ref (a c))
theorem val_dct (d : List Nat) (a : Nat → Addr) (k : L2.Key) : valV (dct d a) k = (d.find? fun c => decide ((Sum.inr (S [c]) : L2.Key) = k)).map fun c => V.ref (a c) := by
  unfold dct
  induction d with
  | nil => rfl
  | cons b d ih =>
    rw [List.map_cons, List.find?_cons]
    by_cases e : (Sum.inr (S [b]) : L2.Key) = k
    · rw [valV_pos e, decide_eq_true e]; rfl
    · rw [valV_neg e, decide_eq_false e]; exact ih
theorem val_in {d : List Nat} (a : Nat → Addr) {c : Nat} (h : c ∈ d) : valV (dct d a) (Sum.inr (S [c])) = some (.ref (a c)) := by
  rw [val_dct]
  induction d with
  | nil => cases h
  | cons b d ih =>
    rw [List.find?_cons]
    by_cases e : b = c
    · subst e; rw [decide_eq_true rfl]; rfl
    · have ne : ¬ ((Sum.inr (S [b]) : L2.Key) = Sum.inr (S [c])) := fun q => e (by have := S_inj (Sum.inr.inj q); cases this; rfl)
      rw [decide_eq_false ne]
      exact ih ((List.mem_cons.mp h).resolve_left fun q => e q.symm)
theorem val_out {d : List Nat} (a : Nat → Addr) {k : L2.Key} (h : ∀ c ∈ d, (Sum.inr (S [c]) : L2.Key) ≠ k) : valV (dct d a) k = none := by
  rw [val_dct]
  rw [List.find?_eq_none.mpr fun c hc => by simpa using h c hc]; rfl
theorem put_dct {d : List Nat} {a : Nat → Addr} {c : Nat} (v : V) (h : c ∉ d) : putK (dct d a) (Sum.inr (S [c])) v = dct d a ++ [(Sum.inr (S [c]), v)] :=
  putK_new v (val_out a fun b hb e => h (by have := S_inj (Sum.inr.inj e); cases this; exact hb))
theorem d_take {d : List Nat} (hd : Deeds d) {i c : Nat} (h : d[i]? = some c) : ∀ x ∈ d.take i, x < c := fun x hx => by
  obtain ⟨j, hj⟩ := List.mem_iff_getElem?.mp hx
  rw [List.getElem?_take] at hj
  split at hj
  · rename_i ji
    obtain ⟨hl1, e1⟩ := List.getElem?_eq_some_iff.mp hj
    obtain ⟨hl2, e2⟩ := List.getElem?_eq_some_iff.mp h
    have := (List.pairwise_iff_getElem.mp hd.up) j i hl1 hl2 ji
    omega
  · cases hj
theorem rg_mv (n : Nat) : rgV 0 ((n : Nat) : Int) = mv (List.range n) := by
  unfold rgV mv iv
  rw [show (((n : Nat) : Int) - 0).toNat = n by omega, List.map_map]
  refine List.map_congr_left fun i _ => ?_
  show V.int (0 + (i : Nat)) = V.int (i : Nat)
  rw [Int.zero_add]
theorem mv_set (l : List Nat) (j k : Nat) : (mv l).set j (.int (k : Nat)) = mv (l.set j k) := by unfold mv iv; rw [List.map_set, List.map_set]
theorem go1_set {l : List Nat} {j x s : Nat} (hs : s < l.length) (hj : j < l.length) : go1 (l.set j x) s = if s = j then x else go1 l s := by
  have h1 := go1_at (m := l.set j x) (s := s) (by simpa using hs)
  rw [List.getElem?_set] at h1
  by_cases e : s = j
  · subst e
    rw [if_pos rfl, if_pos hs] at h1
    rw [if_pos rfl]; exact (Option.some.inj h1).symm
  · rw [if_neg (fun q => e q.symm), go1_at hs] at h1
    rw [if_neg e]; exact (Option.some.inj h1).symm
/-- what is told of the way back behind i turns -/
def bkl (n : Nat) (r : List Nat) (i : Nat) : List Nat := (List.range n).map fun s => if go1 r s < i then go1 r s else 0
theorem bkl_len (n : Nat) (r : List Nat) (i : Nat) : (bkl n r i).length = n := by unfold bkl; rw [List.length_map, List.length_range]
theorem bkl_go {n : Nat} {r : List Nat} {i s : Nat} (h : s < n) : go1 (bkl n r i) s = if go1 r s < i then go1 r s else 0 := by
  unfold bkl; rw [go1_map (by simpa using h), go1_range h]
theorem rep0 : ∀ n : Nat, List.replicate n (V.int 0) = (List.replicate n [V.int 0]).flatten
  | 0 => rfl
  | n + 1 => by rw [List.replicate_succ, List.replicate_succ, List.flatten_cons, ← rep0 n]; rfl
theorem bkl_zero (n : Nat) (r : List Nat) : mv (bkl n r 0) = (List.replicate n [V.int 0]).flatten := by
  have e : bkl n r 0 = List.replicate n 0 := mv_ext (n := n) (bkl_len _ _ _) List.length_replicate fun s h => by
    rw [bkl_go h, if_neg (Nat.not_lt_zero _)]
    have := go1_at (m := List.replicate n 0) (s := s) (by simpa using h)
    rw [List.getElem?_replicate, if_pos h] at this
    exact Option.some.inj this
  rw [e]
  unfold mv iv
  rw [List.map_replicate, List.map_replicate]
  exact rep0 n
theorem bkl_set {n : Nat} {m r : List Nat} (b : Bk n m r) {i : Nat} (h : i < n) : (bkl n r i).set (go1 m i) i = bkl n r (i + 1) := by
  refine mv_ext (n := n) (by rw [List.length_set, bkl_len]) (bkl_len _ _ _) fun s hs => ?_
  rw [go1_set (by rw [bkl_len]; exact hs) (by rw [bkl_len]; exact b.hm i h), bkl_go hs, bkl_go hs]
  by_cases e : s = go1 m i
  · rw [if_pos e, e, b.rm i h, if_pos (Nat.lt_succ_self i)]
  · rw [if_neg e]
    have ne : go1 r s ≠ i := fun q => e (by rw [← q, b.mr s hs])
    by_cases lt : go1 r s < i
    · rw [if_pos lt, if_pos (by omega)]
    · rw [if_neg lt, if_neg (by omega)]
theorem bkl_all {n : Nat} {m r : List Nat} (b : Bk n m r) : bkl n r n = r :=
  mv_ext (n := n) (bkl_len _ _ _) b.lr fun s hs => by rw [bkl_go hs, if_pos (b.hr s hs)]
theorem ix_nat {l : Nat} {k : Nat} (h : k < l) : ixN l (k : Int) = some k := by
  unfold ixN
  rw [if_pos (by omega), if_pos (by omega)]
  rfl
/-- the flags of 0 to n - 1 -/
def bls (n : Nat) (f : Nat → Bool) : List V := (List.range n).map fun s => V.bl (f s)
theorem bls_len (n : Nat) (f : Nat → Bool) : (bls n f).length = n := by unfold bls; rw [List.length_map, List.length_range]
theorem bls_at {n s : Nat} {f : Nat → Bool} (h : s < n) : (bls n f)[s]? = some (.bl (f s)) := by unfold bls; rw [List.getElem?_map, List.getElem?_range h]; rfl
theorem bls_set {n j : Nat} {f : Nat → Bool} : (bls n f).set j (.bl true) = bls n fun s => decide (s = j) || f s := by
  refine List.ext_getElem? fun s => ?_
  rw [List.getElem?_set]
  rcases Nat.lt_or_ge s n with h | h
  · rw [bls_at h, bls_at h, bls_len]
    by_cases e : j = s
    · subst e; rw [if_pos rfl, if_pos h, decide_eq_true rfl, Bool.true_or]
    · rw [if_neg e, decide_eq_false (fun q => e q.symm), Bool.false_or]
  · have h1 : (bls n f)[s]? = none := List.getElem?_eq_none (by rw [bls_len]; exact h)
    have h2 : (bls n fun s => decide (s = j) || f s)[s]? = none := List.getElem?_eq_none (by rw [bls_len]; exact h)
    rw [h1, h2, bls_len]
    by_cases e : j = s
    · rw [if_pos e, if_neg (by omega)]
    · rw [if_neg e]
theorem bls0 : ∀ n : Nat, (List.replicate n [V.bl false]).flatten = bls n fun _ => false := fun n => by
  unfold bls
  have e : ∀ k : Nat, (List.replicate k [V.bl false]).flatten = List.replicate k (V.bl false) := fun k => by
    induction k with
    | zero => rfl
    | succ k ih => rw [List.replicate_succ, List.replicate_succ, List.flatten_cons, ih]; rfl
  rw [e]
  refine List.ext_getElem? fun s => ?_
  rw [List.getElem?_replicate, List.getElem?_map]
  rcases Nat.lt_or_ge s n with h | h
  · rw [if_pos h, List.getElem?_range h]; rfl
  · rw [if_neg (by omega), List.getElem?_eq_none (by simpa using h)]; rfl
/-- what has been seen is whole rounds -/
structure Cl (n : Nat) (m : List Nat) (f : Nat → Bool) (i : Nat) (ls : List Nat) : Prop where
  fw : ∀ s, s < n → f s = true → f (go1 m s) = true
  bw : ∀ s, s < n → f (go1 m s) = true → f s = true
  up : ∀ s, s < i → f s = true
  l1 : ∀ p ∈ ls, ∃ s, s < n ∧ Rd1 m s p
  l2 : ∀ s p, s < n → f s = true → Rd1 m s p → p ∈ ls
def Orb (m : List Nat) (i j : Nat) (f f' : Nat → Bool) : Prop := ∀ s, f' s = true ↔ f s = true ∨ ∃ t, t < j ∧ it m t i = s
theorem orb0 {m : List Nat} {i : Nat} {f : Nat → Bool} : Orb m i 0 f f := fun s => ⟨.inl, fun h => h.elim id fun ⟨_, z, _⟩ => absurd z (Nat.not_lt_zero _)⟩
theorem orb_step {m : List Nat} {i j : Nat} {f f' : Nat → Bool} (o : Orb m i j f f') : Orb m i (j + 1) f fun s => decide (s = it m j i) || f' s := fun s => by
  rw [Bool.or_eq_true, decide_eq_true_iff, o s]
  constructor
  · rintro (h | h | ⟨t, h1, h2⟩)
    · exact .inr ⟨j, Nat.lt_succ_self j, h.symm⟩
    · exact .inl h
    · exact .inr ⟨t, by omega, h2⟩
  · rintro (h | ⟨t, h1, h2⟩)
    · exact .inr (.inl h)
    · by_cases e : t = j
      · subst e; exact .inl h2.symm
      · exact .inr (.inr ⟨t, by omega, h2⟩)
theorem cl_back {n : Nat} {m r : List Nat} (b : Bk n m r) {f : Nat → Bool} {i : Nat} {ls : List Nat} (c : Cl n m f i ls) {s : Nat} (h : s < n) : ∀ k, f (it m k s) = true → f s = true
  | 0, e => e
  | k + 1, e => cl_back b c h k (c.bw _ (it_lt b h k) e)
theorem orb_stop {n : Nat} {m r : List Nat} (b : Bk n m r) {f f' : Nat → Bool} {i j p : Nat} {ls : List Nat} (c : Cl n m f i ls) (h : i < n) (nf : f i = false) (x : Rd1 m i p) (o : Orb m i j f f') (jp : j ≤ p) : f' (it m j i) = true ↔ j = p := by
  rw [o]
  constructor
  · rintro (q | ⟨t, tj, e⟩)
    · rw [cl_back b c h j q] at nf; cases nf
    · apply Classical.byContradiction
      intro ne
      refine x.no (j - t) (by omega) (by omega) ?_
      have e2 : it m j i = it m t (it m (j - t) i) := by rw [← it_add]; congr 1; omega
      rw [e2] at e
      exact (it_canc b h (it_lt b h _) t e).symm
  · intro e
    subst e
    exact .inr ⟨0, x.pos, x.back.symm⟩
theorem cl_seen {n : Nat} {m : List Nat} {f : Nat → Bool} {i : Nat} {ls : List Nat} (c : Cl n m f i ls) (s : f i = true) : Cl n m f (i + 1) ls :=
  ⟨c.fw, c.bw, fun k hk => by
    by_cases e : k = i
    · rw [e]; exact s
    · exact c.up k (by omega), c.l1, c.l2⟩
theorem cl_new {n : Nat} {m r : List Nat} (b : Bk n m r) {f f' : Nat → Bool} {i p : Nat} {ls : List Nat} (c : Cl n m f i ls) (h : i < n) (x : Rd1 m i p) (o : Orb m i p f f') : Cl n m f' (i + 1) (ls ++ [p]) := by
  refine ⟨fun s hs e => ?_, fun s hs e => ?_, fun k hk => ?_, fun q hq => ?_, fun s q hs e y => ?_⟩
  · rw [o] at e ⊢
    rcases e with e | ⟨t, tp, e⟩
    · exact .inl (c.fw s hs e)
    · by_cases z : t + 1 = p
      · refine .inr ⟨0, x.pos, ?_⟩
        rw [← e]
        show i = it m (t + 1) i
        rw [z, x.back]
      · exact .inr ⟨t + 1, by omega, by rw [← e]; rfl⟩
  · rw [o] at e ⊢
    rcases e with e | ⟨t, tp, e⟩
    · exact .inl (c.bw s hs e)
    · right
      cases t with
      | zero =>
        refine ⟨p - 1, by omega, b.inj (it_lt b h _) hs ?_⟩
        rw [← e]
        have := x.back
        rw [show p = (p - 1) + 1 by have := x.pos; omega] at this
        exact this
      | succ t => exact ⟨t, by omega, b.inj (it_lt b h _) hs e⟩
  · rw [o]
    by_cases e : k = i
    · exact .inr ⟨0, x.pos, e.symm⟩
    · exact .inl (c.up k (by omega))
  · rcases List.mem_append.mp hq with z | z
    · exact c.l1 q z
    · rw [List.mem_singleton.mp z]; exact ⟨i, h, x⟩
  · rw [o] at e
    rcases e with e | ⟨t, tp, e⟩
    · exact List.mem_append_left _ (c.l2 s q hs e y)
    · have z := x.on b h t
      rw [e] at z
      rw [y.one z]
      exact List.mem_append_right _ (List.mem_singleton_self _)
theorem cl_ord {n : Nat} {m r : List Nat} (b : Bk n m r) {f : Nat → Bool} {ls : List Nat} (c : Cl n m f n ls) : MV.Ord n m (lcmA ls) :=
  ⟨fun s p h x => lcmA_iff.mp (Nat.dvd_refl _) p (c.l2 s p h (c.up s h) x), fun k hk => lcmA_iff.mpr fun p hp => by
    obtain ⟨s, h, x⟩ := c.l1 p hp
    exact hk s p h x⟩
/-- so many times yes -/
def yes (n : Nat) : List V := (List.replicate n true).map V.bl
theorem yes_succ (n : Nat) : yes n ++ [V.bl true] = yes (n + 1) := by unfold yes; rw [List.replicate_succ', List.map_append]; rfl
theorem yes_len (n : Nat) : (yes n).length = n := by unfold yes; rw [List.length_map, List.length_replicate]
theorem all_rep (n : Nat) : (List.replicate n true).all id = true := List.all_eq_true.mpr fun x hx => by rw [List.eq_of_mem_replicate hx]; rfl
theorem lt_one {c e : Nat} (h : c < e) : ([c] : List Nat) < [e] := List.Lex.rel h
/-- what leads back -/
def rv (n : Nat) (m : List Nat) : List Nat := (List.range n).map fun s => m.idxOf s
theorem bk_rv {n : Nat} {m r : List Nat} (b : Bk n m r) : Bk n m (rv n m) := by
  have e : rv n m = r := mv_ext (n := n) (by unfold rv; rw [List.length_map, List.length_range]) b.lr fun s h => by
    unfold rv
    rw [go1_map (by simpa using h), go1_range h]
    have f := b.first h
    have mem : s ∈ m := List.mem_of_getElem? f.1
    have il : m.idxOf s < m.length := List.idxOf_lt_length_of_mem mem
    have ge := go1_at il
    rw [List.getElem?_eq_getElem il, List.getElem_idxOf] at ge
    have q := b.rm (m.idxOf s) (by rw [← b.lm]; exact il)
    rw [← Option.some.inj ge] at q
    exact q.symm
  rw [e]; exact b
/-- the move of a letter -/
def A1 (n : Nat) (M : Nat → List Nat) (x : Nat) : List Nat := if 97 ≤ x then M x else rv n (M (lo1 x))
def Mok (n : Nat) (d : List Nat) (M : Nat → List Nat) : Prop := ∀ c ∈ d, ∃ r, Bk n (M c) r
theorem lo1_low {c : Nat} (h : 97 ≤ c) : lo1 c = c := by unfold lo1; rw [if_neg (by omega)]
theorem A1_bk {n : Nat} {d : List Nat} {M : Nat → List Nat} (k : Mok n d M) {x : Nat} (h : lo1 x ∈ d) : ∃ r, Bk n (A1 n M x) r := by
  obtain ⟨r, b⟩ := k _ h
  unfold A1
  split
  · rename_i q; rw [lo1_low q] at b; exact ⟨r, b⟩
  · exact ⟨_, (bk_rv b).flip⟩
/-- letters that undo one another lead there and back -/
theorem A1_sw {n : Nat} {d : List Nat} {M : Nat → List Nat} (k : Mok n d M) {x : Nat} (hx : IsL x) (h : lo1 x ∈ d) : Bk n (A1 n M x) (A1 n M (sw x)) := by
  obtain ⟨r, b⟩ := k _ h
  unfold IsL at hx
  unfold A1
  rcases hx with q | q
  · have e1 : sw x = x + 32 := by unfold sw; rw [if_pos (by omega)]
    have e2 : lo1 x = x + 32 := by unfold lo1; rw [if_pos (by omega)]
    rw [if_neg (by omega), if_pos (by omega), e1]
    rw [e2] at b ⊢
    exact (bk_rv b).flip
  · have e1 : sw x = x - 32 := by unfold sw; rw [if_neg (by omega), if_pos (by omega)]
    have e2 : lo1 (x - 32) = x := by unfold lo1; rw [if_pos (by omega)]; omega
    rw [if_pos (by omega), if_neg (by omega), e1, e2]
    rw [lo1_low (by omega)] at b
    exact bk_rv b
/-- where a row leads -/
def wk (A : Nat → List Nat) (l : List Nat) (s : Nat) : Nat := l.foldl (fun s x => go1 (A x) s) s
def rowMv (A : Nat → List Nat) (n : Nat) (l : List Nat) : List Nat := l.foldl (fun m x => fol m (A x)) (List.range n)
theorem rowMv_app (A : Nat → List Nat) (n : Nat) (l : List Nat) (x : Nat) : rowMv A n (l ++ [x]) = fol (rowMv A n l) (A x) := by unfold rowMv; rw [List.foldl_append]; rfl
theorem wk_app (A : Nat → List Nat) (l m : List Nat) (s : Nat) : wk A (l ++ m) s = wk A m (wk A l s) := by unfold wk; rw [List.foldl_append]
def AllBk (n : Nat) (A : Nat → List Nat) (l : List Nat) : Prop := ∀ x ∈ l, ∃ r, Bk n (A x) r
theorem rowMv_bk {n : Nat} {A : Nat → List Nat} : ∀ {l : List Nat}, AllBk n A l → ∃ r, Bk n (rowMv A n l) r := by
  intro l
  rw [← List.reverse_reverse l]
  induction l.reverse with
  | nil => intro _; exact ⟨_, Bk.id n⟩
  | cons x l ih =>
    rw [List.reverse_cons]
    intro h
    obtain ⟨r, b⟩ := ih fun y hy => h y (List.mem_append_left _ hy)
    obtain ⟨r2, b2⟩ := h x (List.mem_append_right _ (List.mem_singleton_self _))
    rw [rowMv_app]
    exact ⟨_, b.fol b2⟩
theorem rowMv_len {n : Nat} {A : Nat → List Nat} (l : List Nat) : (rowMv A n l).length = n := by
  rw [← List.reverse_reverse l]
  induction l.reverse with
  | nil => exact List.length_range
  | cons x l ih => rw [List.reverse_cons, rowMv_app]; unfold fol; rw [List.length_map]; exact ih
theorem rowMv_wk {n : Nat} {A : Nat → List Nat} (l : List Nat) {s : Nat} (h : s < n) : go1 (rowMv A n l) s = wk A l s := by
  rw [← List.reverse_reverse l]
  induction l.reverse with
  | nil => exact go1_range h
  | cons x l ih => rw [List.reverse_cons, rowMv_app, fol_go (rowMv_len _) h, ih, wk_app]; rfl
theorem wk_lt {n : Nat} {A : Nat → List Nat} : ∀ {l : List Nat} {s : Nat}, AllBk n A l → s < n → wk A l s < n
  | [], _, _, h => h
  | x :: l, s, k, h => by
    obtain ⟨r, b⟩ := k x List.mem_cons_self
    exact wk_lt (l := l) (fun y hy => k y (List.mem_cons_of_mem _ hy)) (b.hm s h)
/-- the net leads as the row -/
theorem wk_red {n : Nat} {A : Nat → List Nat} {l : List Nat} (k : ∀ x ∈ l, Bk n (A x) (A (sw x))) {s : Nat} (h : s < n) : wk A (red l) s = wk A l s := by
  have key : ∀ (l st : List Nat), (∀ x ∈ l, Bk n (A x) (A (sw x))) → AllBk n A st.reverse → wk A (l.foldl push st).reverse s = wk A (st.reverse ++ l) s := by
    intro l
    induction l with
    | nil => intro st _ _; rw [List.append_nil]; rfl
    | cons x l ih =>
      intro st hl hst
      have b := hl x List.mem_cons_self
      have hx : ∃ r, Bk n (A x) r := ⟨_, b⟩
      have hl2 : ∀ y ∈ l, Bk n (A y) (A (sw y)) := fun y hy => hl y (List.mem_cons_of_mem _ hy)
      rw [List.foldl_cons]
      cases st with
      | nil =>
        have one : AllBk n A [x].reverse := fun y hy => by
          have q : y = x := by simpa using hy
          rw [q]; exact hx
        have := ih [x] hl2 one
        exact this
      | cons t r =>
        have hr : AllBk n A r.reverse := fun y hy => hst y (by rw [List.reverse_cons]; exact List.mem_append_left _ hy)
        by_cases e : t = sw x
        · rw [show push (t :: r) x = r by unfold push; simp [e], ih r hl2 hr, List.reverse_cons, List.append_assoc, wk_app, wk_app, wk_app]
          have lt := wk_lt hr h
          have e2 : wk A [t] (wk A r.reverse s) = go1 (A t) (wk A r.reverse s) := rfl
          have e3 : wk A (x :: l) (wk A [t] (wk A r.reverse s)) = wk A l (go1 (A x) (go1 (A t) (wk A r.reverse s))) := rfl
          rw [e3, e, b.mr _ lt]
        · rw [show push (t :: r) x = x :: t :: r by unfold push; simp [e], ih _ hl2 (fun y hy => by
            rw [List.reverse_cons] at hy
            rcases List.mem_append.mp hy with q | q
            · exact hst y q
            · rw [List.mem_singleton.mp q]; exact hx)]
          rw [List.reverse_cons, List.append_assoc]; rfl
  have := key l [] k (fun _ hy => nomatch hy)
  simpa [red, kst] using this
/-- a move at t: a tuple, whether new or made so that no attribute hides its methods -/
def TP (H : Hp) (t : Addr) (m : List Nat) : Prop := ∃ u, H t = some u ∧ (u = .tup (mv m) ∨ ∃ o : Obj, u = .frz o (.tup (mv m)) ∧ o.cls = .type "tuple" ∧ o.dict = none)
theorem TP.of {H : Hp} {t : Addr} {m : List Nat} (h : H t = some (.tup (mv m))) : TP H t m := ⟨_, h, .inl rfl⟩
theorem TP.sq {K : PySem.W.Frag} {H : Hp} {t : Addr} {m : List Nat} (h : TP H t m) : SqT K H t (mv m) := by
  obtain ⟨u, e, rfl | ⟨o, rfl, _⟩⟩ := h
  · exact .inl (.inl e)
  · exact .inl (.inr ⟨o, e⟩)
theorem TP.same {H H' : Hp} {t : Addr} {m : List Nat} (h : TP H t m) (s : Same H H') : TP H' t m := by
  obtain ⟨u, e, r⟩ := h; exact ⟨u, s _ _ e, r⟩
theorem TP.old {H : Hp} {t p : Addr} {m : List Nat} {o : HO} (h : TP H t m) (n : H p = none) : TP (upd H p o) t m := by
  obtain ⟨u, e, r⟩ := h; exact ⟨u, upd_old e n, r⟩
theorem TP.oth {H : Hp} {t p : Addr} {m : List Nat} {o : HO} (h : TP H t m) (n : t ≠ p) : TP (upd H p o) t m := by
  obtain ⟨u, e, r⟩ := h; exact ⟨u, upd_oth e n, r⟩
theorem TP.bg {H H' : Hp} {t a b : Addr} {m : List Nat} (h : TP H t m) (s : BG a b H H') (n : t ≠ a ∧ t ≠ b) : TP H' t m := by
  obtain ⟨u, e, r⟩ := h; exact ⟨u, s _ _ n e, r⟩
theorem TP.but {H H' : Hp} {t a : Addr} {m : List Nat} (h : TP H t m) (s : But a H H') (n : t ≠ a) : TP H' t m := by
  obtain ⟨u, e, r⟩ := h; exact ⟨u, s _ _ n e, r⟩
theorem TP.nn {H : Hp} {t p : Addr} {m : List Nat} (h : TP H t m) (n : H p = none) : t ≠ p := by
  obtain ⟨u, e, r⟩ := h; exact ne_of_none e n
theorem TP.nk {H : Hp} {t p : Addr} {m : List Nat} {kvs : List (L2.Key × V)} (h : TP H t m) (n : H p = some (.dK kvs)) : t ≠ p := by
  obtain ⟨u, e, rfl | ⟨o, rfl, _⟩⟩ := h
  · exact ne_of e n (by intro q; cases q)
  · exact ne_of e n (by intro q; cases q)
theorem TP.nf {H : Hp} {t p : Addr} {m : List Nat} {o2 : Obj} {kvs : List (L2.Key × V)} (h : TP H t m) (n : H p = some (.frz o2 (.dK kvs))) : t ≠ p := by
  obtain ⟨u, e, rfl | ⟨o, rfl, _⟩⟩ := h
  · exact ne_of e n (by intro q; cases q)
  · exact ne_of e n (by intro q; cases q)
theorem TP.ni {H : Hp} {t p C dx : Addr} {m : List Nat} {fs : List (Str × V)} (h : TP H t m) (n : H p = some (.ins C dx fs)) : t ≠ p := by
  obtain ⟨u, e, rfl | ⟨o, rfl, _⟩⟩ := h
  · exact ne_of e n (by intro q; cases q)
  · exact ne_of e n (by intro q; cases q)
theorem TP.ty {K : PySem.W.Frag} {H : Hp} {t : Addr} {m : List Nat} (h : TP H t m) : TyX K H (.ref t) (.type "tuple") := by
  obtain ⟨u, e, rfl | ⟨o, rfl, _⟩⟩ := h
  · exact .base (.tup e)
  · exact .fTuple e
/-- a move that the law has made -/
def TF (H : Hp) (t : Addr) (m : List Nat) : Prop := ∃ o : Obj, H t = some (.frz o (.tup (mv m))) ∧ o.cls = .type "tuple" ∧ o.dict = none
theorem TF.tp {H : Hp} {t : Addr} {m : List Nat} (h : TF H t m) : TP H t m := by
  obtain ⟨o, e, r⟩ := h; exact ⟨_, e, .inr ⟨o, rfl, r⟩⟩
theorem TF.same {H H' : Hp} {t : Addr} {m : List Nat} (h : TF H t m) (s : Same H H') : TF H' t m := by
  obtain ⟨o, e, r⟩ := h; exact ⟨o, s _ _ e, r⟩
theorem TF.bg {H H' : Hp} {t a b : Addr} {m : List Nat} (h : TF H t m) (s : BG a b H H') (n : t ≠ a ∧ t ≠ b) : TF H' t m := by
  obtain ⟨o, e, r⟩ := h; exact ⟨o, s _ _ n e, r⟩
theorem TF.old {H : Hp} {t p : Addr} {m : List Nat} {o : HO} (h : TF H t m) (n : H p = none) : TF (upd H p o) t m := by
  obtain ⟨u, e, r⟩ := h; exact ⟨u, upd_old e n, r⟩
theorem TF.oth {H : Hp} {t p : Addr} {m : List Nat} {o : HO} (h : TF H t m) (n : t ≠ p) : TF (upd H p o) t m := by
  obtain ⟨u, e, r⟩ := h; exact ⟨u, upd_oth e n, r⟩
/-- a world in the heap -/
def WorldAt (C : Addr) (H : Hp) (p : Addr) (d : List Nat) (n : Nat) (M : Nat → List Nat) : Prop := ∃ (dx q : Addr) (a : Nat → Addr),
  H p = some (.ins C dx [("deeds", .str (S d)), ("size", .int n), ("_moves", .ref q)]) ∧ H q = some (.dK (dct d a)) ∧ ∀ c ∈ d, TP H (a c) (M c)
theorem WorldAt.same {C : Addr} {H H' : Hp} {p : Addr} {d : List Nat} {n : Nat} {M : Nat → List Nat} (x : WorldAt C H p d n M) (s : Same H H') : WorldAt C H' p d n M := by
  obtain ⟨dx, q, a, h1, h2, h3⟩ := x
  exact ⟨dx, q, a, s _ _ h1, s _ _ h2, fun c hc => (h3 c hc).same s⟩
/-- what the dict of all letters' moves holds -/
def LM (H : Hp) (d : List Nat) (n : Nat) (A : Nat → List Nat) (kvs : List (L2.Key × V)) : Prop :=
  (∀ l v, valV kvs (Sum.inr (S l)) = some v → ∃ t, v = .ref t ∧ TP H t (rowMv A n l)) ∧ valV kvs (Sum.inr (S [])) ≠ none ∧ (∀ x, IsL x → lo1 x ∈ d → valV kvs (Sum.inr (S [x])) ≠ none)
theorem rowMv_one {n : Nat} {A : Nat → List Nat} {x : Nat} (h : (A x).length = n) : rowMv A n [x] = A x :=
  mv_ext (n := n) (rowMv_len _) h fun s hs => by rw [rowMv_wk _ hs]; rfl
theorem lm_mono {H H' : Hp} {d : List Nat} {n : Nat} {A : Nat → List Nat} {kvs : List (L2.Key × V)} (h : ∀ t m, TP H t m → TP H' t m) (x : LM H d n A kvs) : LM H' d n A kvs :=
  ⟨fun l v e => by obtain ⟨t, e1, e2⟩ := x.1 l v e; exact ⟨t, e1, h _ _ e2⟩, x.2⟩
theorem put_some {kvs : List (L2.Key × V)} {k j : L2.Key} {v : V} (h : valV kvs j ≠ none) : valV (putK kvs k v) j ≠ none := by
  rw [valV_put]; split
  · exact fun z => nomatch z
  · exact h
theorem lm_put {H : Hp} {d : List Nat} {n : Nat} {A : Nat → List Nat} {kvs : List (L2.Key × V)} {l : List Nat} {t : Addr} (x : LM H d n A kvs) (h : TP H t (rowMv A n l)) : LM H d n A (putK kvs (Sum.inr (S l)) (.ref t)) := by
  refine ⟨fun l2 v e => ?_, put_some x.2.1, fun y h1 h2 => put_some (x.2.2 y h1 h2)⟩
  rw [valV_put] at e
  split at e
  · rename_i q
    have := S_inj (Sum.inr.inj q)
    subst this
    exact ⟨t, (Option.some.inj e).symm, h⟩
  · exact x.1 l2 v e
theorem lm_two {H : Hp} {d : List Nat} {n c : Nat} {A : Nat → List Nat} {kvs : List (L2.Key × V)} (x : LM H d n A kvs) (hc : 97 ≤ c ∧ c ≤ 122) (h1 : valV kvs (Sum.inr (S [c])) ≠ none) (h2 : valV kvs (Sum.inr (S [up1 c])) ≠ none) : LM H (d ++ [c]) n A kvs := by
  refine ⟨x.1, x.2.1, fun y hy e => ?_⟩
  rcases List.mem_append.mp e with q | q
  · exact x.2.2 y hy q
  · have e2 := List.mem_singleton.mp q
    unfold IsL at hy
    rcases hy with k | k
    · have e3 : lo1 y = y + 32 := by unfold lo1; rw [if_pos (by omega)]
      have e4 : up1 c = y := by unfold up1; rw [if_pos hc]; omega
      rw [← e4]; exact h2
    · rw [lo1_low k.1] at e2
      rw [e2]; exact h1
theorem put_here {kvs : List (L2.Key × V)} {k : L2.Key} {v : V} : valV (putK kvs k v) k ≠ none := by
  rw [valV_put, if_pos rfl]; exact fun z => nomatch z
theorem A1_low {n : Nat} {M : Nat → List Nat} {c : Nat} (h : 97 ≤ c) : A1 n M c = M c := by unfold A1; rw [if_pos h]
theorem A1_up {n : Nat} {M : Nat → List Nat} {c : Nat} (h : 97 ≤ c ∧ c ≤ 122) : A1 n M (up1 c) = rv n (M c) := by
  have e : up1 c = c - 32 := by unfold up1; rw [if_pos h]
  have e2 : lo1 (c - 32) = c := by unfold lo1; rw [if_pos (by omega)]; omega
  unfold A1
  rw [e, if_neg (by omega), e2]
theorem rv_len (n : Nat) (m : List Nat) : (rv n m).length = n := by unfold rv; rw [List.length_map, List.length_range]
end RB
/-! Numbers compared: lists and tuples of them, pairs of a word and a number, a move, or None. -/
namespace RB
open PySem L2 PyProof.Rows MV
theorem lay_ints : ∀ ns : List Int, PyData.canLayAll0 (ns.map PyData.int) = true
  | [] => by simp only [List.map_nil, PyData.canLayAll0]
  | n :: r => by
    have := lay_ints r
    simp only [List.map_cons, PyData.canLayAll0, PyData.canLay0, this, Bool.true_and]
theorem eqvAll_ints : ∀ xs ys : List Int, PyData.eqvAll (xs.map PyData.int) (ys.map PyData.int) = decide (xs = ys)
  | [], [] => by simp only [List.map_nil, PyData.eqvAll, decide_true]
  | [], y :: t => by simp only [List.map_nil, List.map_cons, PyData.eqvAll]; rw [decide_eq_false]; exact fun z => nomatch z
  | x :: r, [] => by simp only [List.map_nil, List.map_cons, PyData.eqvAll]; rw [decide_eq_false]; exact fun z => nomatch z
  | x :: r, y :: t => by
    have := eqvAll_ints r t
    simp only [List.map_cons, PyData.eqvAll, PyData.eqv, this]
    by_cases h : x = y <;> by_cases h2 : r = t <;> simp [h, h2]
theorem sh_intsL (ns : List Int) : SeqAt.shaped (.list (ns.map PyData.int)) = true := by
  have h1 := lay_ints ns
  have h2 := depths_ints ns
  simp only [SeqAt.shaped, PyData.canLay0, PyData.depth, h1, h2, Bool.true_and]; decide
theorem sh_intsT (ns : List Int) : SeqAt.shaped (.tuple (ns.map PyData.int)) = true := by
  have h1 := lay_ints ns
  have h2 := depths_ints ns
  simp only [SeqAt.shaped, PyData.canLay0, PyData.depth, h1, h2, Bool.true_and]; decide
/-- lists of numbers, == -/
theorem eq_ints {K : PySem.W.Frag} {H : Hp} {Q : VK} {p q : Addr} {xs ys : List Int} (hp : SqL K H p (xs.map V.int)) (hq : SqL K H q (ys.map V.int)) (h : Q (.bl (decide (xs = ys))) H) : rEqD K (.ref p) (.ref q) H Q :=
  ⟨_, _, .lst hp (dpAll_ints xs), .lst hq (dpAll_ints ys), sh_intsL xs, sh_intsL ys, by simp only [PyData.eqv, eqvAll_ints]; exact h⟩
/-- moves, != -/
theorem ne_mvs {K : PySem.W.Frag} {H : Hp} {Q : VK} {p q : Addr} {m r : List Nat} (hp : SqT K H p (mv m)) (hq : SqT K H q (mv r)) (h : Q (.bl (!decide (iv m = iv r))) H) : rNeD K (.ref p) (.ref q) H Q :=
  ⟨_, _, .tup hp (dpAll_ints (iv m)), .tup hq (dpAll_ints (iv r)), sh_intsT _, sh_intsT _, by simp only [PyData.eqv, eqvAll_ints]; exact h⟩
theorem iv_inj {m r : List Nat} (h : iv m = iv r) : m = r := by
  have := congrArg (List.map Int.toNat) h
  unfold iv at this
  rw [List.map_map, List.map_map] at this
  have e : (Int.toNat ∘ fun k : Nat => (k : Int)) = id := funext fun k => by simp
  rw [e, List.map_id, List.map_id] at this
  exact this
theorem iv_dec (m r : List Nat) : decide (iv m = iv r) = decide (m = r) := by
  by_cases h : m = r
  · subst h; rw [decide_eq_true rfl, decide_eq_true rfl]
  · rw [decide_eq_false h, decide_eq_false fun z => h (iv_inj z)]
/-- what the law's question tells -/
inductive Tel (K : PySem.W.Frag) (H : Hp) : V → PyData → Prop
  | int (k : Int) : Tel K H (.int k) (.int k)
  | non : Tel K H .non .none
  | mv {p : Addr} {m : List Nat} (h : SqT K H p (mv m)) : Tel K H (.ref p) (.tuple ((iv m).map PyData.int))
theorem Tel.dp {K : PySem.W.Frag} {H : Hp} {v : V} {d : PyData} (t : Tel K H v d) : Dp K H v d := by
  cases t with
  | int k => exact .int k
  | non => exact .non
  | mv h => exact .tup h (dpAll_ints _)
theorem Tel.sh {K : PySem.W.Frag} {H : Hp} {v : V} {d : PyData} {z : Str} (hz : PyData.strOk z = true) (t : Tel K H v d) : SeqAt.shaped (.tuple [.str z, d]) = true := by
  cases t with
  | int k => simp only [SeqAt.shaped, PyData.canLay0, PyData.canLayAll0, PyData.depth, PyData.depthAll, hz, Bool.true_and]; rfl
  | non => simp only [SeqAt.shaped, PyData.canLay0, PyData.canLayAll0, PyData.depth, PyData.depthAll, hz, Bool.true_and]; rfl
  | @mv p m h =>
    have h1 := lay_ints (iv m)
    have h2 := depths_ints (iv m)
    simp only [SeqAt.shaped, PyData.canLay0, PyData.canLayAll0, PyData.depth, PyData.depthAll, hz, h1, h2, Bool.true_and]; decide
/-- pairs of a word and what is told, != : alike -/
theorem ne_tel {K : PySem.W.Frag} {H : Hp} {Q : VK} {p q : Addr} {z : Str} {v u : V} {d e : PyData} (hz : PyData.strOk z = true) (hp : SqT K H p [.str z, v]) (hq : SqT K H q [.str z, u]) (tv : Tel K H v d) (tu : Tel K H u e) (eq : PyData.eqv d e = true) (h : Q (.bl false) H) : rNeD K (.ref p) (.ref q) H Q := by
  refine ⟨.tuple [.str z, d], .tuple [.str z, e], .tup hp (.cons (.str z) (.cons tv.dp .nil)), .tup hq (.cons (.str z) (.cons tu.dp .nil)), tv.sh hz, tu.sh hz, ?_⟩
  have e2 : PyData.eqv (.tuple [.str z, d]) (.tuple [.str z, e]) = true := by
    simp only [PyData.eqv, PyData.eqvAll, eq, Bool.and_true]
    exact beq_self_eq_true z
  rw [e2]; exact h
theorem eqv_mv (m : List Nat) : PyData.eqv (.tuple ((iv m).map PyData.int)) (.tuple ((iv m).map PyData.int)) = true := by
  simp only [PyData.eqv, eqvAll_ints, decide_true]
theorem eqv_int (k : Int) : PyData.eqv (.int k) (.int k) = true := by simp [PyData.eqv]
theorem sorted_iv {n : Nat} {m : List Nat} {ms : List Int} (pm : m.Perm (List.range n)) (p : ms.Perm (iv m)) (s : ms.Pairwise (· ≤ ·)) : ms = iv (List.range n) := by
  have p2 : ms.Perm (iv (List.range n)) := p.trans (pm.map _)
  have s2 : (iv (List.range n)).Pairwise (· ≤ ·) := by
    unfold iv
    refine List.pairwise_map.mpr ((List.pairwise_lt_range).imp fun {a b} h => ?_)
    omega
  exact List.Perm.eq_of_pairwise (fun a b _ _ h1 h2 => Int.le_antisymm h1 h2) s s2 p2
/-- the data of a move that stands in the heap -/
def datI : V → PyData
  | .int i => .int i
  | _ => .none
def datV (H : Hp) : V → PyData
  | .ref t => match H t with
    | some (.tup xs) => .tuple (xs.map datI)
    | some (.frz _ (.tup xs)) => .tuple (xs.map datI)
    | _ => .none
  | _ => .none
theorem dat_mv {H : Hp} {t : Addr} {m : List Nat} (h : TP H t m) : datV H (.ref t) = .tuple ((iv m).map PyData.int) := by
  have e0 : (mv m).map datI = (iv m).map PyData.int := by unfold mv; rw [List.map_map]; rfl
  obtain ⟨u, e, rfl | ⟨o, rfl, _⟩⟩ := h
  · simp only [datV, e, e0]
  · simp only [datV, e, e0]
theorem deq_dct {H : Hp} {d : List Nat} {a b : Nat → Addr} {M : Nat → List Nat} (h1 : ∀ c ∈ d, TP H (a c) (M c)) (h2 : ∀ c ∈ d, TP H (b c) (M c)) : dEq (datV H) (dct d a) (dct d b) = true := by
  unfold dEq
  have e : (dct d a).length = (dct d b).length := by unfold dct; rw [List.length_map, List.length_map]
  rw [e, Bool.and_eq_true]
  refine ⟨beq_self_eq_true _, List.all_eq_true.mpr fun p hp => ?_⟩
  unfold dct at hp
  obtain ⟨c, hc, rfl⟩ := List.mem_map.mp hp
  dsimp only
  rw [val_in b hc]
  dsimp only
  rw [dat_mv (h1 c hc), dat_mv (h2 c hc)]
  exact eqv_mv _
theorem dp_dct {K : PySem.W.Frag} {H : Hp} {d : List Nat} {a : Nat → Addr} {M : Nat → List Nat} (h : ∀ c ∈ d, TP H (a c) (M c)) : ∀ p ∈ dct d a, Dp K H p.2 (datV H p.2) ∧ SeqAt.shaped (datV H p.2) = true := fun p hp => by
  unfold dct at hp
  obtain ⟨c, hc, rfl⟩ := List.mem_map.mp hp
  dsimp only
  rw [dat_mv (h c hc)]
  exact ⟨.tup (h c hc).sq (dpAll_ints _), sh_intsT _⟩
def WEq (C : Addr) (a b : Addr) (H : Hp) : Prop := ∃ d n M, WorldAt C H a d n M ∧ WorldAt C H b d n M
theorem Pot.apart {H : Hp} {h g p : Addr} {u : HO} (x : Pot H h g) (e : H p = some u) (nl : ∀ xs, u ≠ .lst xs) : p ≠ h ∧ p ≠ g := by
  obtain ⟨s, gs, ss, t, k, h1, h2, _⟩ := x
  exact ⟨ne_of e h1 (nl _), ne_of e h2 (nl _)⟩
/-- the pot, the world and the moves of which it is made -/
structure LW (C : Addr) (H : Hp) (h g w q : Addr) (d : List Nat) (n : Nat) (M : Nat → List Nat) (a : Nat → Addr) : Prop where
  pot : Pot H h g
  wld : WorldAt C H w d n M
  dic : H q = some (.dK (dct d a))
  mvs : ∀ c ∈ d, TF H (a c) (M c)
theorem LW.same {C : Addr} {H H' : Hp} {h g w q : Addr} {d : List Nat} {n : Nat} {M : Nat → List Nat} {a : Nat → Addr} (x : LW C H h g w q d n M a) (s : Same H H') : LW C H' h g w q d n M a :=
  ⟨x.pot.same s, x.wld.same s, s _ _ x.dic, fun c hc => (x.mvs c hc).same s⟩
theorem TF.apart {H : Hp} {h g t : Addr} {m : List Nat} (x : Pot H h g) (e : TF H t m) : t ≠ h ∧ t ≠ g := by
  obtain ⟨o, e, _⟩ := e
  exact x.apart e fun xs z => nomatch z
theorem TP.apart {H : Hp} {h g t : Addr} {m : List Nat} (x : Pot H h g) (e : TP H t m) : t ≠ h ∧ t ≠ g := by
  obtain ⟨u, e, rfl | ⟨o, rfl, _⟩⟩ := e
  · exact x.apart e fun xs z => nomatch z
  · exact x.apart e fun xs z => nomatch z
theorem LW.go {C : Addr} {H H' : Hp} {h g w q : Addr} {d : List Nat} {n : Nat} {M : Nat → List Nat} {a : Nat → Addr} (x : LW C H h g w q d n M a) (s : PG2 h g H H') : LW C H' h g w q d n M a := by
  refine ⟨s.2.1, ?_, s.1 _ _ (x.pot.apart x.dic fun xs z => nomatch z) x.dic, fun c hc => (x.mvs c hc).bg s.1 ((x.mvs c hc).apart x.pot)⟩
  obtain ⟨dx, qq, b, h1, h2, h3⟩ := x.wld
  exact ⟨dx, qq, b, s.1 _ _ (x.pot.apart h1 fun xs z => nomatch z) h1, s.1 _ _ (x.pot.apart h2 fun xs z => nomatch z) h2, fun c hc => (h3 c hc).bg s.1 ((h3 c hc).apart x.pot)⟩
theorem mem_rep {l : List Nat} {c : Nat} : ∀ n, c ∈ rep l n → c ∈ l
  | 0, h => by cases h
  | n + 1, h => by
    rcases List.mem_append.mp h with z | z
    · exact z
    · exact mem_rep n z
theorem wk_row {A : Nat → List Nat} {n : Nat} {l : List Nat} : (List.range n).map (wk A l) = rowMv A n l :=
  mv_ext (n := n) (by rw [List.length_map, List.length_range]) (rowMv_len l) fun s hs => by rw [go1_map (by simpa using hs), go1_range hs, rowMv_wk l hs]
theorem push_mem : ∀ (l st : List Nat) (c : Nat), c ∈ l.foldl push st → c ∈ l ∨ c ∈ st
  | [], st, c, h => .inr h
  | x :: l, st, c, h => by
    rcases push_mem l (push st x) c h with q | q
    · exact .inl (List.mem_cons_of_mem _ q)
    · have : c = x ∨ c ∈ st := by
        cases st with
        | nil => exact .inl (by simpa [push] using q)
        | cons t r =>
          by_cases e : t = sw x
          · rw [show push (t :: r) x = r by unfold push; simp [e]] at q
            exact .inr (List.mem_cons_of_mem _ q)
          · rw [show push (t :: r) x = x :: t :: r by unfold push; simp [e]] at q
            rcases List.mem_cons.mp q with z | z
            · exact .inl z
            · exact .inr z
      rcases this with z | z
      · exact .inl (z ▸ List.mem_cons_self)
      · exact .inr z
theorem red_mem {l : List Nat} {c : Nat} (h : c ∈ red l) : c ∈ l := by
  unfold red kst at h
  rcases push_mem l [] c (List.mem_reverse.mp h) with q | q
  · exact q
  · cases q
theorem wk_inv {n : Nat} {A : Nat → List Nat} : ∀ {l : List Nat} {s : Nat}, (∀ x ∈ l, Bk n (A x) (A (sw x))) → s < n → wk A (inv l) (wk A l s) = s
  | [], s, _, _ => rfl
  | x :: l, s, k, h => by
    have b := k x List.mem_cons_self
    rw [inv_cons, wk_app]
    have e : wk A (x :: l) s = wk A l (go1 (A x) s) := rfl
    rw [e, wk_inv (fun y hy => k y (List.mem_cons_of_mem _ hy)) (b.hm s h)]
    exact b.rm s h
theorem wk_inv2 {n : Nat} {A : Nat → List Nat} : ∀ {l : List Nat} {s : Nat}, (∀ x ∈ l, Bk n (A x) (A (sw x))) → s < n → wk A (inv l) s < n ∧ wk A l (wk A (inv l) s) = s
  | [], s, _, h => ⟨h, rfl⟩
  | x :: l, s, k, h => by
    have b := k x List.mem_cons_self
    obtain ⟨h1, h2⟩ := wk_inv2 (fun y hy => k y (List.mem_cons_of_mem _ hy)) h
    rw [inv_cons, wk_app]
    have e : ∀ z, wk A [sw x] z = go1 (A (sw x)) z := fun z => rfl
    have e2 : ∀ z, wk A (x :: l) z = wk A l (go1 (A x) z) := fun z => rfl
    rw [e, e2, b.mr _ h1]
    exact ⟨b.hr _ h1, h2⟩
theorem rowMv_back {n : Nat} {A : Nat → List Nat} {l : List Nat} (k : ∀ x ∈ l, Bk n (A x) (A (sw x))) : Bk n (rowMv A n l) (rowMv A n (inv l)) := by
  have lt : ∀ s, s < n → wk A l s < n := fun s h => wk_lt (fun x hx => ⟨_, k x hx⟩) h
  refine ⟨rowMv_len _, rowMv_len _, fun s h => by rw [rowMv_wk _ h]; exact lt s h, fun s h => by rw [rowMv_wk _ h]; exact (wk_inv2 k h).1, fun s h => ?_, fun s h => ?_⟩
  · rw [rowMv_wk _ h, rowMv_wk _ (lt s h)]; exact wk_inv k h
  · rw [rowMv_wk _ h, rowMv_wk _ (wk_inv2 k h).1]; exact (wk_inv2 k h).2
theorem sw_over {d : List Nat} {x : Nat} (hx : IsL x) (h : lo1 x ∈ d) : lo1 (sw x) ∈ d := by
  unfold IsL at hx
  rcases hx with q | q
  · have e1 : sw x = x + 32 := by unfold sw; rw [if_pos (by omega)]
    have e2 : lo1 x = x + 32 := by unfold lo1; rw [if_pos (by omega)]
    rw [e1, lo1_low (by omega), ← e2]; exact h
  · have e1 : sw x = x - 32 := by unfold sw; rw [if_neg (by omega), if_pos (by omega)]
    have e2 : lo1 (x - 32) = x := by unfold lo1; rw [if_pos (by omega)]; omega
    rw [e1, e2, ← lo1_low q.1]; exact h
theorem inv_over {d l : List Nat} (hl : Ls l) (h : OverD d l) : OverD d (inv l) := fun c hc => by
  unfold inv at hc
  have : ∃ b ∈ l, sw b = c := by simpa using hc
  obtain ⟨b, hb, rfl⟩ := this
  exact sw_over (hl b hb) (h b hb)
/-- what is no row over the deeds, none of it being the pot's -/
inductive NoR (H : Hp) (d : List Nat) (h g : Addr) : V → Prop
  | non : NoR H d h g .non
  | bl (b : Bool) : NoR H d h g (.bl b)
  | int (i : Int) : NoR H d h g (.int i)
  | str {z : Str} (l : List Nat) (e : z = S l) (n : ¬ Ls l) : NoR H d h g (.str z)
  | ov {z : Str} (l : List Nat) (e : z = S l) (y : Ls l) (s : l.length ≤ 100000) (n : ¬ OverD d l) : NoR H d h g (.str z)
  | lst {a : Addr} {xs : List V} (n : a ≠ h ∧ a ≠ g) (e : H a = some (.lst xs)) : NoR H d h g (.ref a)
  | tup {a : Addr} {xs : List V} (n : a ≠ h ∧ a ≠ g) (e : H a = some (.tup xs)) : NoR H d h g (.ref a)
  | dict {a : Addr} {xs : List (L2.Key × V)} (n : a ≠ h ∧ a ≠ g) (e : H a = some (.dK xs)) : NoR H d h g (.ref a)
theorem NoR.bg {H H' : Hp} {d : List Nat} {h g : Addr} {v : V} (x : NoR H d h g v) (b : BG h g H H') : NoR H' d h g v := by
  cases x with
  | non => exact .non
  | bl b => exact .bl b
  | int i => exact .int i
  | str l e n => exact .str l e n
  | ov l e y s n => exact .ov l e y s n
  | lst n e => exact .lst n (b _ _ n e)
  | tup n e => exact .tup n (b _ _ n e)
  | dict n e => exact .dict n (b _ _ n e)
theorem NoR.ovj {K : PySem.W.Frag} {H : Hp} {d : List Nat} {h g : Addr} {v : V} (x : NoR H d h g v) : OvJ K H d v none := by
  cases x with
  | non => exact .bad (.non (.base .non) (kit_ty (by decide +kernel)))
  | bl b => exact .bad (.non (.base (.bl b)) (kit_ty (by decide +kernel)))
  | int i => exact .bad (.non (.base (.int i)) (kit_ty (by decide +kernel)))
  | str l e n =>
    subst e
    have := RowJ.str (K := K) (H := H) l
    rw [decide_eq_false n] at this
    exact .bad this
  | ov l e y s n => subst e; exact .not y s n
  | lst n e => exact .bad (.non (.base (.lst e)) (kit_ty (by decide +kernel)))
  | tup n e => exact .bad (.non (.base (.tup e)) (kit_ty (by decide +kernel)))
  | dict n e => exact .bad (.non (.base (.dK e)) (kit_ty (by decide +kernel)))
/-- what is no standing below n -/
inductive NoS (H : Hp) (n : Nat) (h g : Addr) : V → Prop
  | non : NoS H n h g .non
  | bl (b : Bool) : NoS H n h g (.bl b)
  | int {i : Int} (w : i < 0 ∨ (n : Int) ≤ i) : NoS H n h g (.int i)
  | str (z : Str) : NoS H n h g (.str z)
  | lst {a : Addr} {xs : List V} (k : a ≠ h ∧ a ≠ g) (e : H a = some (.lst xs)) : NoS H n h g (.ref a)
  | tup {a : Addr} {xs : List V} (k : a ≠ h ∧ a ≠ g) (e : H a = some (.tup xs)) : NoS H n h g (.ref a)
  | dict {a : Addr} {xs : List (L2.Key × V)} (k : a ≠ h ∧ a ≠ g) (e : H a = some (.dK xs)) : NoS H n h g (.ref a)
theorem NoS.bg {H H' : Hp} {n : Nat} {h g : Addr} {v : V} (x : NoS H n h g v) (b : BG h g H H') : NoS H' n h g v := by
  cases x with
  | non => exact .non
  | bl b => exact .bl b
  | int i => exact .int i
  | str z => exact .str z
  | lst n e => exact .lst n (b _ _ n e)
  | tup n e => exact .tup n (b _ _ n e)
  | dict n e => exact .dict n (b _ _ n e)
theorem NoS.ij {K : PySem.W.Frag} {H : Hp} {n : Nat} {h g : Addr} {v : V} (x : NoS H n h g v) : ∃ o, IntJ K H v o ∧ within o 0 ((n : Nat) - 1) = false := by
  cases x with
  | non => exact ⟨none, .non (.base .non) (kit_ty (by decide +kernel)), rfl⟩
  | bl b => exact ⟨none, .bl b, rfl⟩
  | @int i w =>
    refine ⟨some i, .int i, ?_⟩
    show (decide ((0 : Int) ≤ i) && decide (i ≤ (n : Int) - 1)) = false
    rw [Bool.and_eq_false_iff]
    rcases w with w | w
    · exact .inl (decide_eq_false (by omega))
    · exact .inr (decide_eq_false (by omega))
  | str z => exact ⟨none, .non (.base (.str z)) (kit_ty (by decide +kernel)), rfl⟩
  | lst n e => exact ⟨none, .non (.base (.lst e)) (kit_ty (by decide +kernel)), rfl⟩
  | tup n e => exact ⟨none, .non (.base (.tup e)) (kit_ty (by decide +kernel)), rfl⟩
  | dict n e => exact ⟨none, .non (.base (.dK e)) (kit_ty (by decide +kernel)), rfl⟩
end RB
/-! Pairs of standings: the pair move, its walk, its order, three side by side. -/
namespace RB
open PySem L2 PyProof.Rows MV
/-- the pair move: s * n2 + t -/
def pm (n2 : Nat) (m k : List Nat) : List Nat := m.flatMap fun g => k.map fun s => g * n2 + s
theorem pm_len (n2 : Nat) (k : List Nat) : ∀ m : List Nat, (pm n2 m k).length = m.length * k.length
  | [] => by rw [List.length_nil, Nat.zero_mul]; rfl
  | g :: m => by
    have := pm_len n2 k m
    unfold pm at this ⊢
    rw [List.flatMap_cons, List.length_append, List.length_map, this, List.length_cons, Nat.add_mul, Nat.one_mul, Nat.add_comm]
theorem pm_one (n2 : Nat) (m k : List Nat) (g : Nat) : pm n2 (m ++ [g]) k = pm n2 m k ++ k.map fun s => g * n2 + s := by
  unfold pm; rw [List.flatMap_append]; simp
def pms (n2 : Nat) (M M2 : Nat → List Nat) : Nat → List Nat := fun c => pm n2 (M c) (M2 c)
theorem pm_get {n2 : Nat} {k : List Nat} (lk : k.length = n2) {t : Nat} (ht : t < n2) : ∀ {m : List Nat} {s : Nat}, s < m.length → (pm n2 m k)[s * n2 + t]? = some (go1 m s * n2 + go1 k t)
  | [], s, h => absurd h (Nat.not_lt_zero _)
  | g :: m, 0, _ => by
    show ((k.map fun s => g * n2 + s) ++ pm n2 m k)[0 * n2 + t]? = _
    rw [List.getElem?_append_left (by rw [List.length_map]; omega), Nat.zero_mul, Nat.zero_add, List.getElem?_map, go1_at (by omega)]
    rfl
  | g :: m, s + 1, h => by
    show ((k.map fun s => g * n2 + s) ++ pm n2 m k)[(s + 1) * n2 + t]? = _
    have e : (s + 1) * n2 + t = n2 + (s * n2 + t) := by rw [Nat.add_mul, Nat.one_mul]; omega
    rw [e, List.getElem?_append_right (by rw [List.length_map]; omega), List.length_map, lk, Nat.add_sub_cancel_left, pm_get lk ht (Nat.lt_of_succ_lt_succ h)]
    rfl
theorem pm_at {n2 : Nat} {m k : List Nat} {s t : Nat} (lk : k.length = n2) (hs : s < m.length) (ht : t < n2) : go1 (pm n2 m k) (s * n2 + t) = go1 m s * n2 + go1 k t := by
  unfold go1
  rw [List.getD_eq_getElem?_getD, pm_get lk ht hs]; rfl
theorem pair_lt {n n2 s t : Nat} (hs : s < n) (ht : t < n2) : s * n2 + t < n * n2 := by
  have : (s + 1) * n2 ≤ n * n2 := Nat.mul_le_mul_right _ hs
  rw [Nat.add_mul, Nat.one_mul] at this
  omega
theorem pair_of {n n2 x : Nat} (h : x < n * n2) : ∃ s t, s < n ∧ t < n2 ∧ x = s * n2 + t := by
  have z : 0 < n2 := by
    rcases Nat.eq_zero_or_pos n2 with q | q
    · rw [q, Nat.mul_zero] at h; omega
    · exact q
  exact ⟨x / n2, x % n2, (Nat.div_lt_iff_lt_mul z).mpr h, Nat.mod_lt _ z, by rw [Nat.mul_comm]; exact (Nat.div_add_mod x n2).symm⟩
theorem pair_inj {n2 s t s' t' : Nat} (ht : t < n2) (ht' : t' < n2) (e : s * n2 + t = s' * n2 + t') : s = s' ∧ t = t' := by
  have z : 0 < n2 := by omega
  have e1 : s = s' := by
    have h := congrArg (· / n2) e
    rw [Nat.mul_comm s, Nat.mul_comm s', Nat.mul_add_div z, Nat.mul_add_div z, Nat.div_eq_of_lt ht, Nat.div_eq_of_lt ht'] at h
    omega
  subst e1
  exact ⟨rfl, by omega⟩
theorem pm_bk {n n2 : Nat} {m r k q : List Nat} (b : Bk n m r) (c : Bk n2 k q) : Bk (n * n2) (pm n2 m k) (pm n2 r q) := by
  refine ⟨by rw [pm_len, b.lm, c.lm], by rw [pm_len, b.lr, c.lr], fun x h => ?_, fun x h => ?_, fun x h => ?_, fun x h => ?_⟩
  all_goals obtain ⟨s, t, hs, ht, rfl⟩ := pair_of h
  · rw [pm_at c.lm (by rw [b.lm]; exact hs) ht]; exact pair_lt (b.hm s hs) (c.hm t ht)
  · rw [pm_at c.lr (by rw [b.lr]; exact hs) ht]; exact pair_lt (b.hr s hs) (c.hr t ht)
  · rw [pm_at c.lm (by rw [b.lm]; exact hs) ht, pm_at c.lr (by rw [b.lr]; exact b.hm s hs) (c.hm t ht), b.rm s hs, c.rm t ht]
  · rw [pm_at c.lr (by rw [b.lr]; exact hs) ht, pm_at c.lm (by rw [b.lm]; exact b.hr s hs) (c.hr t ht), b.mr s hs, c.mr t ht]
theorem pms_ok {n n2 : Nat} {d : List Nat} {M M2 : Nat → List Nat} (k : Mok n d M) (k2 : Mok n2 d M2) : Mok (n * n2) d (pms n2 M M2) := fun c hc => by
  obtain ⟨r, b⟩ := k c hc
  obtain ⟨q, b2⟩ := k2 c hc
  exact ⟨_, pm_bk b b2⟩
theorem A1_pm {n n2 : Nat} {d : List Nat} {M M2 : Nat → List Nat} (k : Mok n d M) (k2 : Mok n2 d M2) {x : Nat} (h : lo1 x ∈ d) : A1 (n * n2) (pms n2 M M2) x = pm n2 (A1 n M x) (A1 n2 M2 x) := by
  unfold A1
  split
  · rfl
  · obtain ⟨r, b⟩ := k _ h
    obtain ⟨q, b2⟩ := k2 _ h
    exact (bk_rv (pm_bk b b2)).one (pm_bk (bk_rv b) (bk_rv b2))
theorem wk_pm {n n2 : Nat} {d : List Nat} {M M2 : Nat → List Nat} (k : Mok n d M) (k2 : Mok n2 d M2) : ∀ {l : List Nat} {s t : Nat}, OverD d l → s < n → t < n2 →
    wk (A1 (n * n2) (pms n2 M M2)) l (s * n2 + t) = wk (A1 n M) l s * n2 + wk (A1 n2 M2) l t
  | [], s, t, _, _, _ => rfl
  | x :: l, s, t, ov, hs, ht => by
    have hx := ov x List.mem_cons_self
    obtain ⟨r, b⟩ := A1_bk k hx
    obtain ⟨q, b2⟩ := A1_bk k2 hx
    show wk _ l (go1 (A1 (n * n2) (pms n2 M M2) x) (s * n2 + t)) = wk _ l (go1 (A1 n M x) s) * n2 + wk _ l (go1 (A1 n2 M2 x) t)
    rw [A1_pm k k2 hx, pm_at b2.lm (by rw [b.lm]; exact hs) ht]
    exact wk_pm k k2 (fun c hc => ov c (List.mem_cons_of_mem _ hc)) (b.hm s hs) (b2.hm t ht)
theorem rowMv_pm {n n2 : Nat} {d : List Nat} {M M2 : Nat → List Nat} (k : Mok n d M) (k2 : Mok n2 d M2) {l : List Nat} (ov : OverD d l) :
    rowMv (A1 (n * n2) (pms n2 M M2)) (n * n2) l = pm n2 (rowMv (A1 n M) n l) (rowMv (A1 n2 M2) n2 l) := by
  refine mv_ext (n := n * n2) (rowMv_len _) (by rw [pm_len, rowMv_len, rowMv_len]) fun x h => ?_
  obtain ⟨s, t, hs, ht, rfl⟩ := pair_of h
  rw [rowMv_wk _ h, wk_pm k k2 ov hs ht, pm_at (rowMv_len _) (by rw [rowMv_len]; exact hs) ht, rowMv_wk _ hs, rowMv_wk _ ht]
/-! ### orders -/
theorem it_mul {m : List Nat} {s p : Nat} (e : it m p s = s) : ∀ j, it m (j * p) s = s
  | 0 => by rw [Nat.zero_mul]; rfl
  | j + 1 => by rw [Nat.add_mul, Nat.one_mul, it_add, e]; exact it_mul e j
theorem rd_dvd {m : List Nat} {s p k : Nat} (x : Rd1 m s p) : p ∣ k ↔ it m k s = s := by
  constructor
  · rintro ⟨j, rfl⟩
    rw [Nat.mul_comm]; exact it_mul x.back j
  · intro e
    have h : it m (k % p + k / p * p) s = s := by
      have := Nat.div_add_mod k p
      rw [show k % p + k / p * p = k by rw [Nat.mul_comm (k / p)]; omega]; exact e
    rw [it_add, it_mul x.back] at h
    rcases Nat.eq_zero_or_pos (k % p) with z | z
    · exact Nat.dvd_of_mod_eq_zero z
    · exact absurd h (x.no _ z (Nat.mod_lt _ x.pos))
theorem ord_it {n : Nat} {m r : List Nat} {N : Nat} (b : Bk n m r) (o : Ord n m N) (k : Nat) : N ∣ k ↔ ∀ s, s < n → it m k s = s := by
  constructor
  · intro h s hs
    obtain ⟨p, _, x⟩ := rd1_some b hs
    exact (rd_dvd x).mp (Nat.dvd_trans (o.all s p hs x) h)
  · exact fun h => o.least k fun s p hs x => (rd_dvd x).mpr (h s hs)
theorem it_pm {n n2 : Nat} {m r k q : List Nat} (b : Bk n m r) (c : Bk n2 k q) {s t : Nat} (hs : s < n) (ht : t < n2) : ∀ j, it (pm n2 m k) j (s * n2 + t) = it m j s * n2 + it k j t
  | 0 => rfl
  | j + 1 => by
    show go1 (pm n2 m k) (it (pm n2 m k) j (s * n2 + t)) = _
    rw [it_pm b c hs ht j, pm_at c.lm (by rw [b.lm]; exact it_lt b hs j) (it_lt c ht j)]
    rfl
theorem ord_pm {n n2 : Nat} {m r k q : List Nat} {N N1 N2 : Nat} (b : Bk n m r) (c : Bk n2 k q) (n0 : 0 < n) (n20 : 0 < n2) (o1 : Ord n m N1) (o2 : Ord n2 k N2) (o : Ord (n * n2) (pm n2 m k) N) : N = Nat.lcm N1 N2 := by
  have key : ∀ j, N ∣ j ↔ N1 ∣ j ∧ N2 ∣ j := fun j => by
    rw [ord_it (pm_bk b c) o, ord_it b o1, ord_it c o2]
    constructor
    · intro h
      refine ⟨fun s hs => ?_, fun t ht => ?_⟩
      · have := h _ (pair_lt hs n20)
        rw [it_pm b c hs n20] at this
        exact (pair_inj (it_lt c n20 j) n20 this).1
      · have := h _ (pair_lt n0 ht)
        rw [it_pm b c n0 ht] at this
        exact (pair_inj (it_lt c ht j) ht this).2
    · rintro ⟨h1, h2⟩ x hx
      obtain ⟨s, t, hs, ht, rfl⟩ := pair_of hx
      rw [it_pm b c hs ht, h1 s hs, h2 t ht]
  refine Nat.dvd_antisymm ((key _).mpr ⟨Nat.dvd_lcm_left _ _, Nat.dvd_lcm_right _ _⟩) ?_
  have := (key N).mp (Nat.dvd_refl _)
  exact Nat.lcm_dvd this.1 this.2
/-- three side by side, either way -/
theorem pm_three (n2 n3 : Nat) (m k q : List Nat) : pm (n2 * n3) m (pm n3 k q) = pm n3 (pm n2 m k) q := by
  unfold pm
  rw [List.flatMap_assoc]
  congr 1
  funext g
  rw [List.map_flatMap, List.flatMap_map]
  congr 1
  funext s
  rw [List.map_map]
  congr 1
  funext t
  show g * (n2 * n3) + (s * n3 + t) = (g * n2 + s) * n3 + t
  rw [Nat.add_mul, Nat.mul_assoc, Nat.add_assoc]
end RB
/-! Rule: sorted of a text. -/
namespace SrtO
open PySem PyProof.Rows Srt
section
variable {prog : Program} {w : World} {A : Around} {E : Value → Shared → Prop} {s : Shared}
/-- the sign of a text of one sign -/
def sg : Value → Nat
  | .str z _ => z.cps.toList.headD 0
  | _ => 0
def ltSg (v u : Value) : Bool := decide (sg v < sg u)
theorem swo_sg : Swo ltSg :=
  ⟨fun x y h => decide_eq_false (Nat.lt_asymm (of_decide_eq_true h)), fun x y z h1 h2 => decide_eq_false (Nat.not_lt.mpr (Nat.le_trans (Nat.not_lt.mp (of_decide_eq_false h1)) (Nat.not_lt.mp (of_decide_eq_false h2))))⟩
def Signs (vs : List Value) : Prop := ∀ v ∈ vs, ∃ c t, v = Value.str ⟨#[c]⟩ t
theorem signs_are : ∀ {vs : List Value}, Signs vs → ∃ ss, StrsAre vs ss
  | [], _ => ⟨[], .nil⟩
  | v :: vs, h => by
    obtain ⟨c, t, rfl⟩ := h v List.mem_cons_self
    obtain ⟨ss, k⟩ := signs_are (vs := vs) fun u hu => h u (List.mem_cons_of_mem _ hu)
    exact ⟨_, .cons _ t k⟩
theorem sign_lt (c d : Nat) : decide ((⟨#[c]⟩ : PySem.Str).cps.toList < (⟨#[d]⟩ : PySem.Str).cps.toList) = decide (c < d) := by
  have e : ((⟨#[c]⟩ : PySem.Str).cps.toList < (⟨#[d]⟩ : PySem.Str).cps.toList) ↔ c < d := by
    show [c] < [d] ↔ c < d
    rw [List.cons_lt_cons_iff]
    simp
  by_cases h : c < d
  · rw [decide_eq_true h, decide_eq_true (e.mpr h)]
  · rw [decide_eq_false h, decide_eq_false fun z => h (e.mp z)]
theorem signs_sort {a : Addr} {vs : List Value} (g : Signs vs) (two : 2 ≤ vs.length) : SortableO prog w A s a vs ltSg := by
  intro h' _
  refine ⟨oneType', fun Q E fin => ?_, fun p q hp hq => ?_⟩
  · obtain ⟨ss, k⟩ := signs_are g
    match vs, k, two with
    | v1 :: v2 :: rest, k, _ => rw [keyKind_strs k]; exact wpAny_pure fin
    | [], _, z => exact absurd z (by decide)
    | [v], _, z => exact absurd z (by simp)
  · obtain ⟨c, t, e1⟩ := g _ hp
    obtain ⟨d, u, e2⟩ := g _ hq
    show wpAny (model prog w) A (keyLt' oneType' p.1 q.1) (fun r s' => s' = { s with heap := h' } ∧ r = ltSg p.1 q.1) (fun _ _ => False) { s with heap := h' }
    rw [e1, e2, keyLt'_oneType]
    exact oneLt_str ⟨rfl, sign_lt c d⟩
end
end SrtO
namespace L2
open PySem PySem.Spec PyProof.Rows
/-- sorted(z), z a text -/
def rSortTxt (xs : List V) (H : Hp) (Q : VK) : Prop := ∃ z : Str, xs = [.str z] ∧ z.length ≤ sizeLine ∧
  ∀ (l : List Nat) (p : Addr), l.Perm z.cps.toList → l.Pairwise (· ≤ ·) → H p = none → Q (.ref p) (upd H p (.lst (l.map fun c => V.str ⟨#[c]⟩)))
theorem vals_signs : ∀ {vs : List Value}, SrtO.Signs vs → Vals ((vs.map SrtO.sg).map fun c => V.str ⟨#[c]⟩) vs
  | [], _ => .nil
  | v :: vs, h => by
    obtain ⟨c, t, rfl⟩ := h v List.mem_cons_self
    exact .cons ⟨t, rfl⟩ (vals_signs fun u hu => h u (List.mem_cons_of_mem _ hu))
section
variable {X : Cx}
theorem csortedS (hc : X.calm = true) : CallR X (.builtin "sorted") rSortTxt := by
  intro pins s σ H xs us Q I r word
  obtain ⟨z, rfl, hz, q⟩ := word
  obtain ⟨u, rfl, t, rfl⟩ := vals1 r
  refine Calls.call_function_entry kind_sorted plain_sorted entry_sorted (args_sorted1 _) ?_
  unfold Builtin.«sorted»
  refine wpAny_bind (m := checkCount "sorted" 1 1 _) (wpAny_pure ?_)
  refine wpAny_bind (wpAny_collect_str (A := X.A.in1) (hn := hz) (show X.A.in1.handled = none from I.ok.hd hc) z t fun s2 acc kept gens drawn os items => ?_)
  obtain ⟨hp, g2, d2, tk, o2⟩ := s2
  dsimp only at gens drawn os kept
  subst gens drawn os
  have good : SrtO.Signs acc.toList := fun v hv => by
    obtain ⟨j, hj⟩ := List.getElem?_of_mem hv
    obtain ⟨c, u, _, e⟩ := items.2 j v (by simpa using hj)
    exact ⟨c, u, e⟩
  have same : acc.toList.map SrtO.sg = z.cps.toList := by
    refine List.ext_getElem? fun i => ?_
    rw [List.getElem?_map]
    cases e : acc.toList[i]? with
    | none =>
      have : z.cps.toList.length ≤ i := by
        have h1 := List.getElem?_eq_none_iff.mp e
        rw [Array.length_toList] at h1 ⊢
        rw [← items.1]; exact h1
      rw [List.getElem?_eq_none this]; rfl
    | some v =>
      obtain ⟨c, u, h1, rfl⟩ := items.2 i v (by simpa using e)
      rw [show z.cps.toList[i]? = some c by simpa using h1]
      rfl
  have sz : acc.toList.length ≤ sizeLine := by rw [Array.length_toList, items.1]; exact hz
  have free : s.heap.get? hp.objs.size = none := by
    cases e : s.heap.get? hp.objs.size with
    | none => rfl
    | some o => exact absurd (Heap.lt_size (kept _ _ e)) (Nat.lt_irrefl _)
  have new : H hp.objs.size = none := (I.hok.kept kept).fresh (Nat.le_refl _)
  refine wpAny_bind (wpAny_newList ?_ sz)
  have here : (hp.push (seqObj "list" acc.toList.toArray 0)).get? hp.objs.size = some (seqObj "list" acc.toList.toArray 0) := Heap.get?_push_size _ rfl
  refine wpAny_bind (wpAny_holding (wpAny_call_entry slot_list_sort ⟨_, here, rfl⟩ entry_list_sort (SrtO.list_sort_ord SrtO.swo_sg here sz (fun two => SrtO.signs_sort good two) fun out z1 z2 => ⟨_, rfl, ?_⟩) (args_list_sort _)))
  have p : (out.map SrtO.sg).Perm z.cps.toList := by rw [← same]; exact z2.perm.map _
  have gout : SrtO.Signs out := fun v hv => good v (z2.perm.mem_iff.mp hv)
  have srt : (out.map SrtO.sg).Pairwise (· ≤ ·) := List.pairwise_map.mpr (z1.imp fun {x y} h => Nat.not_lt.mp (of_decide_eq_false (p := SrtO.sg y < SrtO.sg x) h))
  obtain ⟨ep, at_⟩ := PyProof.Rows.sortedHeap_at (vs := acc.toList) (out := out.toArray) here
  refine wpAny_pure ⟨_, rfl, .ref hp.objs.size, upd H hp.objs.size (.lst ((out.map SrtO.sg).map fun c => V.str ⟨#[c]⟩)), I.laidN (t' := tk) (fun b o hb => ?_) free new ⟨?_, out, ep, vals_signs gout, at_⟩, rfl, q _ _ p srt new⟩
  · have h1 := kept _ _ hb
    have h2 := Heap.lt_size h1
    rw [PyProof.Rows.sortedHeap_old (Nat.ne_of_lt h2) (by rw [size_push']; exact Nat.lt_succ_of_lt h2)]
    exact Heap.get?_push_of_some _ h1
  · rw [List.length_map, p.length_eq]; exact hz
end
end L2
/-! Rules: a comprehension within a comprehension's block, a dict comprehension over any walk, a list comprehension of two fors. -/
namespace L2
open PySem PySem.Spec PyProof.Rows
/-- what a block looks up that is free or a cell outside is so within the block's own names -/
theorem relabel_free {env : Env} : ∀ {names : List (Str × NameKind)} {x : Str}, (names.lookup x = some .cell ∨ names.lookup x = some .free) →
    ((names.map fun (n, k) => if (k == .free && env.scope.kind == .function && env.kindOf n == some .cell) then (n, NameKind.cell) else (n, k)).lookup x = some .cell ∨
      (names.map fun (n, k) => if (k == .free && env.scope.kind == .function && env.kindOf n == some .cell) then (n, NameKind.cell) else (n, k)).lookup x = some .free)
  | [], x, h => by rcases h with h | h <;> cases h
  | (n, k) :: r, x, h => by
    have ih := relabel_free (env := env) (names := r) (x := x)
    rw [List.map_cons]
    dsimp only
    cases hx : x == n with
    | true =>
      rw [List.lookup_cons, hx] at h
      split
      · rw [List.lookup_cons, hx]; exact .inl rfl
      · rw [List.lookup_cons, hx]; exact h
    | false =>
      rw [List.lookup_cons, hx] at h
      split
      · rw [List.lookup_cons, hx]; exact ih h
      · rw [List.lookup_cons, hx]; exact ih h
/-- the names of a block within a block -/
theorem blk_in {N : List Str} {sc scope : Scope} {env : Env} {own : List (Str × Nat)} (h : blkC N sc scope own = true) : BlkOk N (relabel sc env) scope own := by
  have b := blkOk_by h
  exact { kind := b.kind, uniq := b.uniq, ix := b.ix, own := b.own, free := fun y hy e => relabel_free (b.free y hy e) }
section
variable {J J1 : It} {n : Nat} {G : Hp → Prop} {Y : Nat → Hp → V → Hp → Prop}
/-- a dict comprehension over a walk -/
theorem dc_it (w : Walk J n G Y) {g : TG} {tt : TT} {tk tv : TE} {vs : List Nat} {σ : St} {H1 : Hp} {D : Addr} {Qd : Hp → Prop} (Pv : Nat → Hp → Prop) (z : Pv 0 (upd H1 D (.dK []))) (keeps : ∀ i H, i ≤ n → Pv i H → G H)
    (turn : ∀ i x H H', i < n → Pv i H → Y i H x H' → g x (wipe σ vs) H' fun σ2 H2 => wipe σ2 vs = wipe σ vs ∧ tt σ2 H2 fun b H3 =>
      if b = true then tk σ2 H3 fun y H4 => tv σ2 H4 fun u H5 => ∃ kvs k, y = kV k ∧ H5 D = some (.dK kvs) ∧ kvs.length < sizeLine ∧ Pv (i + 1) (upd H5 D (.dK (putK kvs k u))) else Pv (i + 1) H3)
    (fin : ∀ H, Pv n H → Qd H) :
    ∃ W : Nat → Nat → Hp → Prop, (∃ m, W 0 m (upd H1 D (.dK []))) ∧ ∀ i m H, W i m H →
      (J.stop i H ∧ Qd H) ∨ (J.go i H ∧ ∃ Nx : Hp → Prop, (∀ H', Nx H' → ∃ m', m' < m ∧ W (i + 1) m' H') ∧ ∀ x H', J.yld i H x H' → g x (wipe σ vs) H' fun σ2 H2 => wipe σ2 vs = wipe σ vs ∧ tt σ2 H2 fun b H3 =>
        if b = true then tk σ2 H3 fun y H4 => tv σ2 H4 fun u H5 => ∃ kvs k, y = kV k ∧ H5 D = some (.dK kvs) ∧ kvs.length < sizeLine ∧ Nx (upd H5 D (.dK (putK kvs k u))) else Nx H3) := by
  refine ⟨fun i m H => i + m = n ∧ Pv i H, ⟨n, Nat.zero_add n, z⟩, fun i m H ⟨e, p⟩ => ?_⟩
  have here := keeps i H (by omega) p
  cases m with
  | zero =>
    have : i = n := by omega
    subst this
    exact .inl ⟨w.stops H here, fin H p⟩
  | succ m =>
    have less : i < n := by omega
    exact .inr ⟨w.goes i H less here, Pv (i + 1), fun H' p' => ⟨m, by omega, by omega, p'⟩, fun x H' y => turn i x H H' less p (w.yields i H x H' less here y)⟩
/-- the inner for of a comprehension of two -/
theorem lc2_in {n1 : Nat} {G1 : Hp → Prop} {Y1 : Nat → Hp → V → Hp → Prop} (w : Walk J1 n1 G1 Y1) {g1 : TG} {tt1 : TT} {te : TE} {vs1 : List Nat} {σ2 : St} {D : Addr} {H4 : Hp} {Nx : Hp → Prop} (Pv : Nat → Hp → Prop) (z : Pv 0 H4) (keeps : ∀ i H, i ≤ n1 → Pv i H → G1 H)
    (turn : ∀ i x H H', i < n1 → Pv i H → Y1 i H x H' → g1 x (wipe σ2 vs1) H' fun σ3 H5 => wipe σ3 vs1 = wipe σ2 vs1 ∧ tt1 σ3 H5 fun b H6 =>
      if b = true then te σ3 H6 fun y H7 => ∃ acc, H7 D = some (.lst acc) ∧ acc.length < sizeLine ∧ Pv (i + 1) (upd H7 D (.lst (acc ++ [y]))) else Pv (i + 1) H6)
    (fin : ∀ H, Pv n1 H → Nx H) :
    ∃ W1 : Nat → Nat → Hp → Prop, (∃ m, W1 0 m H4) ∧ ∀ j k H, W1 j k H →
      (J1.stop j H ∧ Nx H) ∨ (J1.go j H ∧ ∃ Nx1 : Hp → Prop, (∀ H', Nx1 H' → ∃ k', k' < k ∧ W1 (j + 1) k' H') ∧ ∀ x H', J1.yld j H x H' → g1 x (wipe σ2 vs1) H' fun σ3 H5 => wipe σ3 vs1 = wipe σ2 vs1 ∧ tt1 σ3 H5 fun b H6 =>
        if b = true then te σ3 H6 fun y H7 => ∃ acc, H7 D = some (.lst acc) ∧ acc.length < sizeLine ∧ Nx1 (upd H7 D (.lst (acc ++ [y]))) else Nx1 H6) := by
  refine ⟨fun i m H => i + m = n1 ∧ Pv i H, ⟨n1, Nat.zero_add n1, z⟩, fun i m H ⟨e, p⟩ => ?_⟩
  have here := keeps i H (by omega) p
  cases m with
  | zero =>
    have : i = n1 := by omega
    subst this
    exact .inl ⟨w.stops H here, fin H p⟩
  | succ m =>
    have less : i < n1 := by omega
    exact .inr ⟨w.goes i H less here, Pv (i + 1), fun H' p' => ⟨m, by omega, by omega, p'⟩, fun x H' y => turn i x H H' less p (w.yields i H x H' less here y)⟩
/-- the outer for of a comprehension of two -/
theorem lc2_out (w : Walk J n G Y) {wi1 : TI} {g g1 : TG} {tt tt1 : TT} {te : TE} {vs vs1 : List Nat} {σ : St} {H1 : Hp} {D : Addr} {Qd : Hp → Prop} (Pv : Nat → Hp → Prop) (z : Pv 0 (upd H1 D (.lst []))) (keeps : ∀ i H, i ≤ n → Pv i H → G H)
    (turn : ∀ i x H H', i < n → Pv i H → Y i H x H' → g x (wipe σ vs) H' fun σ2 H2 => wipe σ2 vs = wipe σ vs ∧ tt σ2 H2 fun b H3 =>
      if b = true then wi1 σ2 H3 fun J1 H4 => ∃ W1 : Nat → Nat → Hp → Prop, (∃ m, W1 0 m H4) ∧ ∀ j k H, W1 j k H →
        (J1.stop j H ∧ Pv (i + 1) H) ∨ (J1.go j H ∧ ∃ Nx1 : Hp → Prop, (∀ H', Nx1 H' → ∃ k', k' < k ∧ W1 (j + 1) k' H') ∧ ∀ x H', J1.yld j H x H' → g1 x (wipe σ2 vs1) H' fun σ3 H5 => wipe σ3 vs1 = wipe σ2 vs1 ∧ tt1 σ3 H5 fun b H6 =>
          if b = true then te σ3 H6 fun y H7 => ∃ acc, H7 D = some (.lst acc) ∧ acc.length < sizeLine ∧ Nx1 (upd H7 D (.lst (acc ++ [y]))) else Nx1 H6)
      else Pv (i + 1) H3)
    (fin : ∀ H, Pv n H → Qd H) :
    ∃ W : Nat → Nat → Hp → Prop, (∃ m, W 0 m (upd H1 D (.lst []))) ∧ ∀ i m H, W i m H →
      (J.stop i H ∧ Qd H) ∨ (J.go i H ∧ ∃ Nx : Hp → Prop, (∀ H', Nx H' → ∃ m', m' < m ∧ W (i + 1) m' H') ∧ ∀ x H', J.yld i H x H' → g x (wipe σ vs) H' fun σ2 H2 => wipe σ2 vs = wipe σ vs ∧ tt σ2 H2 fun b H3 =>
        if b = true then wi1 σ2 H3 fun J1 H4 => ∃ W1 : Nat → Nat → Hp → Prop, (∃ m, W1 0 m H4) ∧ ∀ j k H, W1 j k H →
          (J1.stop j H ∧ Nx H) ∨ (J1.go j H ∧ ∃ Nx1 : Hp → Prop, (∀ H', Nx1 H' → ∃ k', k' < k ∧ W1 (j + 1) k' H') ∧ ∀ x H', J1.yld j H x H' → g1 x (wipe σ2 vs1) H' fun σ3 H5 => wipe σ3 vs1 = wipe σ2 vs1 ∧ tt1 σ3 H5 fun b H6 =>
            if b = true then te σ3 H6 fun y H7 => ∃ acc, H7 D = some (.lst acc) ∧ acc.length < sizeLine ∧ Nx1 (upd H7 D (.lst (acc ++ [y]))) else Nx1 H6)
        else Nx H3) := by
  refine ⟨fun i m H => i + m = n ∧ Pv i H, ⟨n, Nat.zero_add n, z⟩, fun i m H ⟨e, p⟩ => ?_⟩
  have here := keeps i H (by omega) p
  cases m with
  | zero =>
    have : i = n := by omega
    subst this
    exact .inl ⟨w.stops H here, fin H p⟩
  | succ m =>
    have less : i < n := by omega
    exact .inr ⟨w.goes i H less here, Pv (i + 1), fun H' p' => ⟨m, by omega, by omega, p'⟩, fun x H' y => turn i x H H' less p (w.yields i H x H' less here y)⟩
end
section
variable {X : Cx}
/-- name = {k: v for ..}, the name a local, both on one line -/
theorem ps_setDc {i : Nat} {y : Str} {py : Pos} {kx vx tg iter : Expr} {ifs : List Expr} {scope : Scope} {own : List (Str × Nat)} {pos spos : Pos} {wi : TI} {g : TG} {tt : TT} {tk tv : TE} (hc : X.calm = true) (nd : X.N.Nodup) (at_ : X.N[i]? = some y) (loc : X.env.scope.names.lookup y = some .local)
    (sw : swapsWith (.DictComp kx vx [⟨tg, iter, ifs, 0⟩] scope pos) (some (.Name y py)) spos.line X.env = pure true) (hi : PI X tg iter wi) (ok : BlkOk X.N X.env.scope scope own)
    (pg : ∀ (s : Shared) (H : Hp) (C : Addr) (cl : List (Str × Addr)) (fp : List Addr), PG (X.blk s H scope (compEnvC scope cl C X.env) fp) tg g) (pt : ∀ (s : Shared) (H : Hp) (C : Addr) (cl : List (Str × Addr)) (fp : List Addr), PTs (X.blk s H scope (compEnvC scope cl C X.env) fp) ifs tt)
    (pk : ∀ (s : Shared) (H : Hp) (C : Addr) (cl : List (Str × Addr)) (fp : List Addr), PE (X.blk s H scope (compEnvC scope cl C X.env) fp) kx tk)
    (pv : ∀ (s : Shared) (H : Hp) (C : Addr) (cl : List (Str × Addr)) (fp : List Addr), PE (X.blk s H scope (compEnvC scope cl C X.env) fp) vx tv) (hs : ∀ x, foldedSetIterable iter X.env x = pure x := by intro _; rfl) :
    PS X (.Assign [.Name y py] (.DictComp kx vx [⟨tg, iter, ifs, 0⟩] scope pos) spos) (tAsg (tDc wi g tt tk tv (own.map (·.2))) (gName i)) := by
  constructor
  intro pins s σ H D I h
  have h : tDc wi g tt tk tv (own.map (·.2)) σ H (fun x G => gName i x σ G D.nx) := h
  rw [exec_Assign_Name_used _ _ _ _ sw]
  refine wpAny_bind (wpAny_standAt (wpAny_bind ?_))
  show wpAny _ X.A (do let _ ← comprehension (.DictComp kx vx [⟨tg, iter, ifs, 0⟩] scope pos) scope X.env (firstIterPos [⟨tg, iter, ifs, 0⟩] pos) newDict false (eval iter X.env) (some (assign (.Name y py) X.env))) _ _ s
  refine wpAny_bind (thn (dc_core (Qf := fun _ u => SP X pins D .next u) hc nd I hi ok pg pt pk pv hs h fun L C u m G J q ns fp => ?_) fun _ u e => wpAny_pure (wpAny_pure e))
  obtain ⟨p0, p1, p2, p3, p4, p5⟩ := fp
  show wpAny _ _ (assign (.Name y py) X.env (.ref L)) _ _ _
  refine wpAny_assign_Name (store_ok2 (v := V.ref L) J nd at_ (.inl loc) rfl (fun v J2 ⟨a, same, where_⟩ => ?_) (.inr loc))
  have apart : C ≠ a := where_.elim (fun z => z ▸ p1) fun z e => p4 y a z e.symm
  exact ⟨m, ns.sameBut same apart, fun h3 but => ⟨_, G, J2.turned (t' := v.toks) (fun b o hb e => (but.2 b hb).trans e) p0 p1 p3 p4 p5, q⟩⟩
theorem sw_dc {kx vx : Expr} {gs : List Comprehension} {scope : Scope} {pos py : Pos} {y : Str} {l : Nat} {env : Env} (kind : env.scope.kind = .function) (loc : env.scope.names.lookup y = some .local) (line : (py.line == pos.line) = true)
    (not_own : (scope.names.any fun (n, k) => n == y && (k == .local || k == .cell)) = false) : swapsWith (.DictComp kx vx gs scope pos) (some (.Name y py)) l env = pure true := by
  have k1 : env.kindOf y = some .local := loc
  have k2 : env.blockKind = .function := by unfold Env.blockKind; rw [kind]; rfl
  unfold swapsWith
  simp only [k1, k2, not_own, Expr.pos, line]
  rfl
/-- a field of an own object, the written part by name -/
theorem pe_fldK {K : PySem.W.Frag} {e : Expr} {ta : TE} {f : Str} {pos : Pos} (eK : X.K = K) (he : PE X e ta) (hb : attributeBase e f X.env (eval e X.env) = eval e X.env) : PE X (.Attribute e f pos) (tFld K ta f) := by
  subst eK; exact pe_fld he hb
end
end L2
/-! == and != of own objects by their own __eq__, whatever it answers. -/
namespace OW
open PySem PySem.Spec PyProof.Rows
section
variable {M : Model} {prog : Program} {w : World} {A : Around} {E : Value → Shared → Prop} {s : Shared} {K : PySem.W.Frag} {x y C f : Addr} {ox : Obj} {od : Option Obj}
theorem bound_ne {args : List Value} {Q : Option Value → Shared → Prop} (X : K.In s.heap) (I : PySem.W.InstAt s.heap x ox C od) (hs : PySem.W.findIn K (.ref C) "__ne__" = some (some (.builtin "object.__ne__")))
    (h : wpAny M A (call (.builtin "object.__ne__") (.ref x :: args)) (fun v => Q (some v)) E s) : wpAny M A (callSpecialIfBound? (.ref x) "__ne__" args) Q E s := by
  simp only [callSpecialIfBound?, bindSpecialIfBound?]
  refine wpAny_holding (wpAny_bind (wpAny_bind (wpAny_bind (I.type.here ((PySem.W.looks_findIn X hs).here ?_)))))
  refine wpAny_bind (wpAny_askSetting (wpAny_ite ?_))
  have fin : wpAny M A (call (.builtin "object.__ne__") ([.ref x] ++ args) >>= fun v => pure (some v)) Q E s := wpAny_bind (wpAny_mono h (fun v s' h' => wpAny_pure h') fun _ _ h' => h')
  split
  · exact wpAny_bind (wpAny_of_eq (F.cmp_object.ne.bind _) (wpAny_pure (by exact fin)))
  · exact wpAny_tryCatch (wpAny_bind (wpAny_of_eq (F.cmp_object.ne.bind _) (wpAny_pure (by exact fin))))
theorem entry_ne {b : Value} {Q : Fin → Shared → Prop} (X : K.In s.heap) (I : PySem.W.InstAt s.heap x ox C od) (hs : PySem.W.findIn K (.ref C) "__eq__" = some (some (.ref f))) (hf : PySem.W.isFn K (.ref f) = true) (hu : A.units < cLine)
    (h : wpAny M A (call (.ref f) [.ref x, b]) (fun v s' => ∃ k, v = .bool k ∧ Q (.done (.ret (.bool (!k)))) s') E s) : wpAny M A (Builtin.«object.__ne__» ⟨[.ref x, b], []⟩) Q E s := by
  unfold Builtin.«object.__ne__»
  repeat (first
    | with_reducible refine wpAny_cRoomFor hu ?_
    | (refine wpAny_bind (m := callSpecialIfBound? (.ref x) (Str.ofString "__eq__") [b])
        (PySem.W.ifBound_K X I hs hf (wpAny_mono h (fun v s' hr => by
          obtain ⟨k, rfl, hq⟩ := hr
          repeat (first | exact hq | exact wpAny_pure hq | exact wpAny_truthy_bool hq | (refine wpAny_bind (m := truthy (.bool _)) (wpAny_truthy_bool ?_)) | wp_step)) fun _ _ e => e)))
    | wp_step)
theorem call_ne {b : Value} {Q : Value → Shared → Prop} (X : K.In s.heap) (I : PySem.W.InstAt s.heap x ox C od) (hm : PySem.W.mroIn K C (.type "object") = some true) (hs : PySem.W.findIn K (.ref C) "__eq__" = some (some (.ref f))) (hf : PySem.W.isFn K (.ref f) = true) (hu : A.units + 1 < cLine)
    (h : wpAny (model prog w) A.in1 (call (.ref f) [.ref x, b]) (fun v s' => ∃ k, v = .bool k ∧ Q (.bool (!k)) s') E s) : wpAny (model prog w) A (call (.builtin "object.__ne__") [.ref x, b]) Q E s :=
  wpAny_call (codeAny_call_builtin F.cmp_object.ne.plain F.cmpEntry_ne (PySem.W.check_slot F.cmpKind_ne F.cmpSplit_ne (I.type.andThen (PySem.W.looks_mroIn X hm)) (F.cmpArgs_ne _ _) (entry_ne X I hs hf hu h)))
theorem cmp_ne {b tb : Value} {Q : Value → Shared → Prop} (hu : A.units + 1 < cLine) (X : K.In s.heap) (I : PySem.W.InstAt s.heap x ox C od) (hb : PySem.W.Looks (model prog w) s.heap (typeOf b) tb) (hn : PySem.W.notFirst K C tb = true) (hm : PySem.W.mroIn K C (.type "object") = some true)
    (hs : PySem.W.findIn K (.ref C) "__eq__" = some (some (.ref f))) (hf : PySem.W.isFn K (.ref f) = true) (hne : PySem.W.findIn K (.ref C) "__ne__" = some (some (.builtin "object.__ne__")))
    (h : wpAny (model prog w) A.in1 (call (.ref f) [.ref x, b]) (fun v s' => ∃ k, v = .bool k ∧ Q (.bool (!k)) s') E s) : wpAny (model prog w) A (richCompare .NotEq (.ref x) b) Q E s := by
  have one : wpAny (model prog w) A (tryCompare (.ref x) "__ne__" b) (fun r s' => ∃ v, r = some v ∧ Q v s') E s := by
    unfold tryCompare
    refine wpAny_bind (bound_ne X I hne (call_ne X I hm hs hf hu (wpAny_mono h (fun v s' hv => ?_) fun _ _ e => e)))
    obtain ⟨k, rfl, hq⟩ := hv
    exact ⟨k, rfl, wpAny_pure ⟨_, rfl, hq⟩⟩
  unfold richCompare
  simp only [oneThing_ref]
  refine wpAny_holding (wpAny_bind (wpAny_cRoomFor (Nat.lt_of_succ_lt hu) ?_))
  rw [cmpInfo_NotEq]
  dsimp only
  refine wpAny_bind (I.type.here (wpAny_bind (hb.here ?_)))
  split
  · rename_i q
    have e : PySem.W.subIn K tb (.ref C) = some false := by
      rcases Bool.or_eq_true_iff.mp hn with e | e
      · rw [beq_iff_eq.mp e] at q; simp at q
      · exact beq_iff_eq.mp e
    refine wpAny_bind ((PySem.W.looks_subIn X e).here ?_)
    simp only [Bool.false_eq_true, if_false]
    refine wpAny_bind (wpAny_mono one (fun r s' z => ?_) fun _ _ e => e)
    obtain ⟨v, rfl, hq⟩ := z
    exact wpAny_pure hq
  · refine wpAny_bind (wpAny_pure ?_)
    simp only [Bool.false_eq_true, if_false]
    refine wpAny_bind (wpAny_mono one (fun r s' z => ?_) fun _ _ e => e)
    obtain ⟨v, rfl, hq⟩ := z
    exact wpAny_pure hq
end
end OW
namespace L2
open PySem PySem.Spec PyProof.Rows
/-- what an own == promises, of either outcome -/
def spEqB (R : Addr → Addr → Bool → Hp → Prop) : Sp := fun vs H Q _ => ∃ a b r, vs = [.ref a, .ref b] ∧ R a b r H ∧ ∀ H', Ext H H' → Q (.bl r) H'
/-- == and != of two instances of the class at C -/
def rOwn (C : Addr) (R : Addr → Addr → Bool → Hp → Prop) (g : Bool → Bool) : R2 := fun x y H Q => ∃ a b dx dy fs gs r, x = .ref a ∧ y = .ref b ∧ H a = some (.ins C dx fs) ∧ H b = some (.ins C dy gs) ∧ R a b r H ∧ ∀ H', Ext H H' → Q (.bl (g r)) H'
section
variable {X : Cx} {CX : CXT} {C f : Addr} {n : Nat} {fd : FuncData} {ps : List Str} {R : Addr → Addr → Bool → Hp → Prop} {E : XK} {K : PySem.W.Frag}
theorem own_call {A : Around} {pins : List (Addr × Obj)} {σ : St} {H : Hp} {s : Shared} {a b : Addr} {r : Bool} {Q : Value → Shared → Prop} (F : FnOk X.prog X.w X.K X.mg X.base CX n f fd ps (spEqB R)) (hb : Binds X.K fd ps []) (hx : Passes CX X E)
    (sb : Sub X n A) (I : Inv X pins σ H s) (hr : R a b r H) (q : ∀ s' H', Inv X pins σ H' s' → Ext H H' → Q (.bool r) s') : wpAny (model X.prog X.w) A (call (.ref f) [.ref a, .ref b]) Q X.xe s := by
  have hsp : spEqB R [.ref a, .ref b] H (fun v H' => v = .bl r ∧ Ext H H') E := ⟨a, b, r, rfl, hr, fun H' e => ⟨rfl, e⟩⟩
  have e0 : Env0 X.prog X.w X.K X.mg X.base A X.stack s H := by
    have e := I.env0
    exact ⟨by rw [sb.fr]; exact e.frames, e.mod, e.bs, e.bsz, e.funs, e.frf, e.hok, e.bare⟩
  have hl := F.len _ _ _ _ hsp
  have r2 : Vals [V.ref a, V.ref b] [Value.ref a, Value.ref b] := .cons rfl (.cons rfl .nil)
  refine wpAny_call (codeAny_mono (F.run A X.stack s H ⟨[.ref a, .ref b], []⟩ [.ref a, .ref b] [.ref a, .ref b] _ E sb.room e0 (by
    have := hb s [.ref a, .ref b] I.kIn (by simpa using hl)
    simpa using this) r2 hsp) fun r s' hq => ?_)
  cases r with
  | error e => exact hx pins σ H s e s' I hq
  | ok fl =>
    cases fl with
    | ret w =>
      obtain ⟨z, H', I', rz, ez, ex⟩ := I.after hq
      subst ez
      cases rz
      exact q s' H' I' ex
    | next => exact False.elim hq
    | brk => exact False.elim hq
    | cont => exact False.elim hq
theorem op_own_eq (q : X.K = K) (F : FnOk X.prog X.w X.K X.mg X.base CX n f fd ps (spEqB R)) (hs : PySem.W.findIn K (.ref C) "__eq__" = some (some (.ref f))) (hf : PySem.W.isFn K (.ref f) = true) (hb : Binds K fd ps []) (hx : Passes CX X E) (hr : Room n X.A) :
    OpR X (compareOp .Eq) (rOwn C R fun r => r) := by
  subst q
  intro pins s σ H x y v u Q I rx ry hq
  obtain ⟨a, b, dx, dy, fs, gs, r, rfl, rfl, ha, hb', hR, go⟩ := hq
  cases rx
  cases ry
  obtain ⟨mA, J, _⟩ := ins_get I.hok ha
  obtain ⟨mB, J', _⟩ := ins_get I.hok hb'
  obtain ⟨od, J, _⟩ := J.look
  obtain ⟨od', J', _⟩ := J'.look
  obtain ⟨m, hF⟩ := I.fr
  show wpAny (model X.prog X.w) X.A (richCompare .Eq (.ref a) (.ref b)) (EP X pins σ Q) X.xe s
  refine PySem.W.cmp_K (op := .Eq) (tb := .ref C) hr.units0 hF I.ok.mod.kin J J'.type (by simp [PySem.W.notFirst]) hs hf (own_call F hb hx ⟨hr, rfl⟩ I hR fun s' H' I' ex => ?_)
  exact ⟨.bl r, H', I', rfl, go H' ex⟩
theorem op_own_ne (q : X.K = K) (F : FnOk X.prog X.w X.K X.mg X.base CX n f fd ps (spEqB R)) (hs : PySem.W.findIn K (.ref C) "__eq__" = some (some (.ref f))) (hf : PySem.W.isFn K (.ref f) = true) (hne : PySem.W.findIn K (.ref C) "__ne__" = some (some (.builtin "object.__ne__")))
    (hm : PySem.W.mroIn K C (.type "object") = some true) (hb : Binds K fd ps []) (hx : Passes CX X E) (hr : Room (n + 1) X.A) :
    OpR X (compareOp .NotEq) (rOwn C R fun r => !r) := by
  subst q
  intro pins s σ H x y v u Q I rx ry hq
  obtain ⟨a, b, dx, dy, fs, gs, r, rfl, rfl, ha, hb', hR, go⟩ := hq
  cases rx
  cases ry
  obtain ⟨mA, J, _⟩ := ins_get I.hok ha
  obtain ⟨mB, J', _⟩ := ins_get I.hok hb'
  obtain ⟨od, J, _⟩ := J.look
  obtain ⟨od', J', _⟩ := J'.look
  show wpAny (model X.prog X.w) X.A (richCompare .NotEq (.ref a) (.ref b)) (EP X pins σ Q) X.xe s
  refine OW.cmp_ne (tb := .ref C) (by have := hr.un; omega) I.kIn J J'.type (by simp [PySem.W.notFirst]) hm hs hf hne ?_
  refine own_call F hb hx ⟨hr.in1, rfl⟩ I hR fun s' H' I' ex => ?_
  exact ⟨r, rfl, .bl (!r), H', I', rfl, go H' ex⟩
end
end L2
/-! Single steps through a reading, each by the word at its head. -/
namespace GO
open PySem PySem.Spec PyProof.Rows L2 RB
section
variable {σ σ1 σ2 : L2.St} {H : Hp} {Q : VK} {K : PySem.W.Frag}
theorem var {i : Nat} {v : V} (h : σ[i]? = some (some v)) (k : Q v H) : tVar i σ H Q := ⟨v, h, k⟩
theorem con {v : V} (k : Q v H) : tC v σ H Q := k
theorem op {r : R2} {ta tb : TE} (k : ta σ H fun x H1 => tb σ H1 fun y H2 => r x y H2 Q) : tOp r ta tb σ H Q := k
theorem un {r : V → Hp → VK → Prop} {ta : TE} (k : ta σ H fun x H1 => r x H1 Q) : tUn r ta σ H Q := k
theorem nil {R : List V → Hp → Prop} (k : R [] H) : tNil σ H R := k
theorem cons {R : List V → Hp → Prop} {ta : TE} {tr : TA} (k : ta σ H fun x H1 => tr σ H1 fun xs H2 => R (x :: xs) H2) : tCons ta tr σ H R := k
theorem tup {t : TA} (k : t σ H fun xs H1 => xs.length ≤ sizeLine ∧ ∀ p, H1 p = none → Q (.ref p) (upd H1 p (.tup xs))) : tTup t σ H Q := k
theorem lst {t : TA} (k : t σ H fun xs H1 => xs.length ≤ sizeLine ∧ ∀ p, H1 p = none → Q (.ref p) (upd H1 p (.lst xs))) : tLst t σ H Q := k
theorem call {sp : Sp} {dvs : List V} {E : XK} {t : TA} (k : t σ H fun vs H1 => sp (vs ++ dvs) H1 Q E) : tCall sp dvs E t σ H Q := k
theorem callS {sp : Sp} {E : L2.St → XK} {t : TA} (k : t σ H fun vs H1 => sp vs H1 Q (E σ)) : tCallS sp E t σ H Q := k
theorem made {C : Addr} {sp : Sp} {dvs : List V} {E : XK} {t : TA} (k : t σ H fun vs H1 => ∀ x dx, H1 x = none → H1 dx = none → dx ≠ x → sp (.ref x :: (vs ++ dvs)) (upd (upd H1 dx (.own x)) x (.ins C dx [])) (fun v H2 => v = .non ∧ Q (.ref x) H2) E) : tMake C sp dvs E t σ H Q := k
theorem cb {r : List V → Hp → VK → Prop} {t : TA} (k : t σ H fun vs H1 => r vs H1 Q) : tCB r t σ H Q := k
theorem fld {ta : TE} {f : Str} (k : ta σ H fun x H1 => ∃ a C dx fs v, x = .ref a ∧ H1 a = some (.ins C dx fs) ∧ Cls K C ∧ NoAttr K C f ∧ fs.lookup f = some v ∧ Q v H1) : tFld K ta f σ H Q := k
theorem bm {T : String} {r : V → List V → Hp → VK → Prop} {to : TE} {t : TA} (k : to σ H fun x H1 => tyV K T x H1 ∧ t σ H1 fun xs H2 => r x xs H2 Q) : tBM K T r to t σ H Q := k
theorem bm0 {T : String} {r : V → List V → Hp → VK → Prop} {to : TE} (k : to σ H fun x H1 => tyV K T x H1 ∧ r x [] H1 Q) : tBM0 K T r to σ H Q := k
theorem sl {r : V → Option Int → Option Int → Hp → VK → Prop} {te : TE} {tl th : TO} (k : te σ H fun x H1 => tl σ H1 fun l H2 => th σ H2 fun u H3 => r x l u H3 Q) : tSl r te tl th σ H Q := k
theorem nopart {R : Option Int → Hp → Prop} (k : R none H) : tNoPart σ H R := k
theorem part {R : Option Int → Hp → Prop} {t : TE} (k : t σ H fun x H1 => ∃ i, x = .int i ∧ R (some i) H1) : tPart t σ H R := k
theorem partI {R : Int → Prop} {i : Int} (k : R i) : ∃ j, V.int i = V.int j ∧ R j := ⟨i, rfl, k⟩
/-- what a dict's item, its membership ask -/
def DG (x y : V) (H : Hp) (Q : VK) : Prop := ∃ a v, x = .ref a ∧ DGet H a y (some v) ∧ Q v H
def DI (x y : V) (H : Hp) (R : Option V → Prop) : Prop := ∃ a o, x = .ref a ∧ DGet H a y o ∧ R o
def DP (x y v : V) (H : Hp) (R : Hp → Prop) : Prop := ∃ a H4, x = .ref a ∧ DPut H a y v H4 ∧ R H4
theorem dput {td ty tv : TE} {D : Ends} (k : tv σ H fun v H1 => td σ H1 fun x H2 => ty σ H2 fun y H3 => DP x y v H3 (D.nx σ)) : sDPut td ty tv D σ H := k
theorem dget {td ty : TE} (k : td σ H fun x H1 => ty σ H1 fun y H2 => DG x y H2 Q) : tDGet td ty σ H Q := k
theorem din {td ty : TE} (k : ty σ H fun y H1 => td σ H1 fun x H2 => DI x y H2 fun o => Q (.bl o.isSome) H2) : tDIn ty td σ H Q := k
theorem dnin {td ty : TE} (k : ty σ H fun y H1 => td σ H1 fun x H2 => DI x y H2 fun o => Q (.bl (!o.isSome)) H2) : tDNotIn ty td σ H Q := k
theorem if_ {t : TT} {ta tb : TE} (k : t σ H fun c H1 => if c = true then ta σ H1 Q else tb σ H1 Q) : tIf t ta tb σ H Q := k
theorem andV {ta tb : TE} (k : ta σ H fun x H1 => ∃ c, x = .bl c ∧ if c = true then tb σ H1 Q else Q (.bl false) H1) : tAndV ta tb σ H Q := k
theorem orV {ta tb : TE} (k : ta σ H fun x H1 => ∃ c, x = .bl c ∧ if c = true then Q (.bl true) H1 else tb σ H1 Q) : tOrV ta tb σ H Q := k
theorem notV {ta : TE} (k : ta σ H fun x H1 => ∃ c, x = .bl c ∧ Q (.bl (!c)) H1) : tNotV ta σ H Q := k
theorem isB {R : Bool → Prop} {b : Bool} (k : R b) : ∃ c, V.bl b = V.bl c ∧ R c := ⟨b, rfl, k⟩
theorem isR {R : Addr → Prop} {a : Addr} (k : R a) : ∃ c, V.ref a = V.ref c ∧ R c := ⟨a, rfl, k⟩
theorem isI {R : Int → Prop} {a : Int} (k : R a) : ∃ c, V.int a = V.int c ∧ R c := ⟨a, rfl, k⟩
theorem isS {R : Str → Prop} {a : Str} (k : R a) : ∃ c, V.str a = V.str c ∧ R c := ⟨a, rfl, k⟩
theorem chain {r r' : R2} {ta tb tc : TE} (k : ta σ H fun x H1 => tb σ H1 fun y H2 => r x y H2 fun z H3 => ∃ k, z = .bl k ∧ (if k = true then tc σ H3 fun w' H4 => r' y w' H4 Q else Q (.bl false) H3)) : tChain r r' ta tb tc σ H Q := k
-- tests
variable {R : Bool → Hp → Prop}
theorem yes (k : R true H) : tYes σ H R := k
theorem test {t : TE} (k : t σ H fun x H' => ∃ k, x = .bl k ∧ R k H') : tTest t σ H R := k
theorem tb {t : TE} (k : t σ H fun x H' => ∃ k, x = .bl k ∧ R k H') : tB t σ H R := k
theorem not {t : TT} (k : t σ H fun c H1 => R (!c) H1) : tNot t σ H R := k
theorem and {t u : TT} (k : t σ H fun c H1 => if c = true then u σ H1 R else R false H1) : tAnd t u σ H R := k
theorem or {t u : TT} (k : t σ H fun c H1 => if c = true then R true H1 else u σ H1 R) : tOr t u σ H R := k
-- numbers
theorem i0 {g : Int → Int → V} {i j : Int} (k : Q (g i j) H) : rI0 g (.int i) (.int j) H Q := ⟨i, j, rfl, rfl, k⟩
theorem iC {C : Int → Int → Prop} {g : Int → Int → V} {i j : Int} (c : C i j) (k : Q (g i j) H) : rI C g (.int i) (.int j) H Q := ⟨i, j, rfl, rfl, c, k⟩
theorem addI {i j : Int} (k : Q (.int (i + j)) H) : rAdd (.int i) (.int j) H Q := ⟨i, j, rfl, rfl, k⟩
theorem dI (i j : Int) : decide (V.int i = V.int j) = decide (i = j) := by congr 1; exact propext ⟨fun z => V.int.inj z, fun z => z ▸ rfl⟩
theorem dS (i j : Str) : decide (V.str i = V.str j) = decide (i = j) := by congr 1; exact propext ⟨fun z => V.str.inj z, fun z => z ▸ rfl⟩
theorem eqI {i j : Int} (k : Q (.bl (decide (i = j))) H) : rEq (.int i) (.int j) H Q := ⟨rfl, by rw [dI]; exact k⟩
theorem neI {i j : Int} (k : Q (.bl (!decide (i = j))) H) : rNe (.int i) (.int j) H Q := ⟨rfl, by rw [dI]; exact k⟩
theorem eqS {l m : List Nat} (k : Q (.bl (decide (l = m))) H) : rEq (.str (S l)) (.str (S m)) H Q := ⟨rfl, by
  have e : decide (V.str (S l) = V.str (S m)) = decide (l = m) := by congr 1; exact propext ⟨fun z => S_inj (V.str.inj z), fun z => z ▸ rfl⟩
  rw [e]; exact k⟩
theorem neS {l m : List Nat} (k : Q (.bl (!decide (l = m))) H) : rNe (.str (S l)) (.str (S m)) H Q := ⟨rfl, by
  have e : decide (V.str (S l) = V.str (S m)) = decide (l = m) := by congr 1; exact propext ⟨fun z => S_inj (V.str.inj z), fun z => z ▸ rfl⟩
  rw [e]; exact k⟩
theorem eqZ {a b : Str} (k : Q (.bl (decide (a = b))) H) : rEq (.str a) (.str b) H Q := ⟨rfl, by rw [dS]; exact k⟩
theorem neZ {a b : Str} (k : Q (.bl (!decide (a = b))) H) : rNe (.str a) (.str b) H Q := ⟨rfl, by rw [dS]; exact k⟩
-- statements
variable {D : Ends}
theorem seq {t u : TS} (k : t { D with nx := u D } σ H) : tSeq t u D σ H := k
theorem next (k : D.nx σ H) : tNext D σ H := k
theorem brk (k : D.bk σ H) : tBreak D σ H := k
theorem cnt (k : D.ct σ H) : tCont D σ H := k
theorem drop {te : TE} (k : te σ H fun _ H1 => D.nx σ H1) : tDrop te D σ H := k
theorem ret {te : TE} (k : te σ H D.rt) : tRet te D σ H := k
theorem retN (k : D.rt .non H) : tRetN D σ H := k
theorem ifS {c : TT} {t u : TS} (k : c σ H fun b H1 => if b = true then t D σ H1 else u D σ H1) : tIfS c t u D σ H := k
theorem asg {te : TE} {g : TG} (k : te σ H fun x H1 => g x σ H1 D.nx) : tAsg te g D σ H := k
theorem name {i : Nat} {v : V} {R : L2.St → Hp → Prop} (e : σ.set i (some v) = σ1) (k : R σ1 H) : gName i v σ H R := by subst e; exact k
theorem gnil {R : L2.St → Hp → Prop} (k : R σ H) : gNil [] σ H R := ⟨rfl, k⟩
theorem gcons {v : V} {r : List V} {t : TG} {u : TGs} {R : L2.St → Hp → Prop} (k : t v σ H fun σ' H' => u r σ' H' R) : gCons t u (v :: r) σ H R := ⟨v, r, rfl, k⟩
theorem gtup {n : Nat} {a : Addr} {xs : List V} {t : TGs} {R : L2.St → Hp → Prop} (h : SqT K H a xs) (l : xs.length = n) (k : t xs σ H R) : gTup K n t (.ref a) σ H R := ⟨a, xs, rfl, h, l, k⟩
theorem gsub {to ti : TE} {t : TSet} {v : V} {R : L2.St → Hp → Prop} (k : to σ H fun o H1 => ti σ H1 fun i H2 => t o i v H2 fun H3 => R σ H3) : gSub to ti t v σ H R := k
theorem aug {i : Nat} {te : TE} {ti : TIp} {x : V} (h : σ[i]? = some (some x)) (k : te σ H fun y H1 => ti x y H1 fun z H2 => D.nx (σ.set i (some z)) H2) : tAug i te ti D σ H := ⟨x, h, k⟩
-- reading of objects
theorem ixl {p : Addr} {xs : List V} {i : Int} {v : V} (h : SqL K H p xs) (e : atI xs i = some v) (k : Q v H) : rIxL K (.ref p) (.int i) H Q := ⟨p, xs, i, v, rfl, rfl, h, e, k⟩
theorem ixt {p : Addr} {xs : List V} {i : Int} {v : V} (h : SqT K H p xs) (e : atI xs i = some v) (k : Q v H) : rIxT K (.ref p) (.int i) H Q := ⟨p, xs, i, v, rfl, rfl, h, e, k⟩
theorem fldR {a C dx : Addr} {fs : List (Str × V)} {f : Str} {v : V} (h : H a = some (.ins C dx fs)) (c : Cls K C) (n : NoAttr K C f) (l : fs.lookup f = some v) (k : Q v H) :
    ∃ a' C dx fs v, V.ref a = .ref a' ∧ H a' = some (.ins C dx fs) ∧ Cls K C ∧ NoAttr K C f ∧ fs.lookup f = some v ∧ Q v H := ⟨a, C, dx, fs, v, rfl, h, c, n, l, k⟩
theorem lenQ {p : Addr} {xs : List V} {n : Nat} (h : SqL K H p xs ∨ SqT K H p xs) (e : xs.length = n) (k : Q (.int n) H) : rLenQ K [.ref p] H Q := ⟨p, xs, rfl, h, by subst e; exact k⟩
theorem lenT {z : Str} (h : z.length ≤ sizeLine) (k : Q (.int z.length) H) : rLenText [.str z] H Q := ⟨z, rfl, h, k⟩
theorem lenS {l : List Nat} (h : l.length ≤ sizeLine) (k : Q (.int l.length) H) : rLenText [.str (S l)] H Q := ⟨S l, rfl, by rw [S_len]; exact h, by rw [S_len]; exact k⟩
-- known tests
theorem yesD {p : Prop} [Decidable p] {A B : Prop} (h : p) (k : A) : if decide p = true then A else B := by rw [decide_eq_true h, if_pos rfl]; exact k
theorem noD {p : Prop} [Decidable p] {A B : Prop} (h : ¬ p) (k : B) : if decide p = true then A else B := by rw [decide_eq_false h, if_neg Bool.false_ne_true]; exact k
theorem yesN {p : Prop} [Decidable p] {A B : Prop} (h : ¬ p) (k : A) : if (!decide p) = true then A else B := by rw [decide_eq_false h]; exact k
theorem noN {p : Prop} [Decidable p] {A B : Prop} (h : p) (k : B) : if (!decide p) = true then A else B := by rw [decide_eq_true h]; exact k
theorem yesT {A B : Prop} (k : A) : if true = true then A else B := k
theorem noF {A B : Prop} (k : B) : if false = true then A else B := k
theorem yesNF {A B : Prop} (k : A) : if (!false) = true then A else B := k
theorem noNT {A B : Prop} (k : B) : if (!true) = true then A else B := k
end
/-- what a store to a field asks -/
def SF (K : PySem.W.Frag) (f : Str) (x y : V) (R : Hp → Prop) (H : Hp) : Prop := ∃ a C dx fs, x = .ref a ∧ H a = some (.ins C dx fs) ∧ Cls K C ∧ NoAttr K C f ∧ fs.length < 1000 ∧ R (upd H a (.ins C dx (putF f y fs)))
theorem sfR {K : PySem.W.Frag} {H : Hp} {a C dx : Addr} {fs : List (Str × V)} {f : Str} {y : V} {R : Hp → Prop} (h : H a = some (.ins C dx fs)) (c : Cls K C) (n : NoAttr K C f) (l : fs.length < 1000) (k : R (upd H a (.ins C dx (putF f y fs)))) : SF K f (.ref a) y R H := ⟨a, C, dx, fs, rfl, h, c, n, l, k⟩
theorem sfl {K : PySem.W.Frag} {σ : L2.St} {H : Hp} {D : Ends} {ta tv : TE} {f : Str} (k : tv σ H fun y H1 => ta σ H1 fun x H2 => SF K f x y (D.nx σ) H2) : sFld K ta tv f D σ H := k
theorem lkS {H H' : Hp} {p : Addr} {o : HO} (s : Same H H') (h : H p = some o) : H' p = some o := s _ _ h
end GO

namespace L2
open PySem PySem.Spec PyProof.Rows
theorem ps_fldK {X : Cx} {K : PySem.W.Frag} {o value : Expr} {f : Str} {pos pos' : Pos} {ta tv : TE} (q : X.K = K) (ha : PE X o ta) (hv : PE X value tv) (hs : swapsWith value (some (.Attribute o f pos')) pos.line X.env = pure false) : PS X (.Assign [.Attribute o f pos'] value pos) (sFld K ta tv f) := q ▸ ps_fld ha hv hs
end L2
namespace L2
open PySem PySem.Spec PyProof.Rows
theorem ps_fldaugK {X : Cx} {K : PySem.W.Frag} {o value : Expr} {f : Str} {pos tpos : Pos} {ta tv : TE} {op : Operator} {rd : V → V → Hp → VK → Prop} (q : X.K = K) (ha : PE X o ta) (hv : PE X value tv) (hop : InOp X op rd) : PS X (.AugAssign (.Attribute o f tpos) op value pos) (sFldAug K ta tv rd f) := q ▸ ps_fldaug ha hv hop
end L2
/-! Programs: statements with the blocks of the parts that they name, and what is made of them. -/
namespace PG
open PySem L2 RB
inductive T where
  | dot (r : List Nat)
  | alt (o : Bool) (bs : List (List T))
  | loop (b : List T)
  | undo (b : List T)
  | part (n : List Nat) (b : List T)
/-- as they stand in the heap -/
def wAlt (o : Bool) : Str := if o then "other" else "either"
mutual
def dS : T → PyData
  | .dot r => .tuple [.str "do", .str (S r)]
  | .alt o bs => .tuple [.str (wAlt o), .tuple (dBs bs)]
  | .loop b => .tuple [.str "loop", .tuple (dL b)]
  | .undo b => .tuple [.str "undo", .tuple (dL b)]
  | .part n _ => .tuple [.str "part", .str (S n)]
def dL : List T → List PyData
  | [] => []
  | s :: r => dS s :: dL r
def dBs : List (List T) → List PyData
  | [] => []
  | b :: r => .tuple (dL b) :: dBs r
end
theorem dL_map : ∀ b : List T, dL b = b.map dS
  | [] => by simp [dL]
  | s :: r => by simp [dL, dL_map r]
theorem dBs_map : ∀ bs : List (List T), dBs bs = bs.map fun b => .tuple (dL b)
  | [] => by simp [dBs]
  | b :: r => by simp [dBs, dBs_map r]
-- undone
mutual
def unS : T → T
  | .dot r => .dot (inv r)
  | .alt o bs => .alt o (unBs bs)
  | .loop b => .loop (unL b)
  | .undo b => .alt false [b]
  | .part _ b => .undo b
def unL : List T → List T
  | [] => []
  | s :: r => unL r ++ [unS s]
def unBs : List (List T) → List (List T)
  | [] => []
  | b :: r => unL b :: unBs r
end
theorem unL_map : ∀ b : List T, unL b = (b.map unS).reverse
  | [] => by simp [unL]
  | s :: r => by simp [unL, unL_map r]
theorem unBs_map : ∀ bs : List (List T), unBs bs = bs.map unL
  | [] => by simp [unBs]
  | b :: r => by simp [unBs, unBs_map r]
theorem unL_len (b : List T) : (unL b).length = b.length := by rw [unL_map, List.length_reverse, List.length_map]
theorem unL_mem {b : List T} {s : T} : s ∈ unL b ↔ ∃ t ∈ b, unS t = s := by rw [unL_map, List.mem_reverse, List.mem_map]
-- how many places and arrows
mutual
def szS : T → Nat × Nat
  | .dot r => (r.length - 1, max r.length 1)
  | .alt o bs => ((szBs bs).1 + (if o then 1 + bs.length else 0), (szBs bs).2 + (if o then 1 + bs.length else 0))
  | .loop b => ((szL b).1 + (b.length - 1) + 1, (if b = [] then 1 else (szL b).2) + 2)
  | .undo b => ((szL b).1 + (b.length - 1), if b = [] then 1 else (szL b).2)
  | .part _ b => ((szL b).1 + (b.length - 1), if b = [] then 1 else (szL b).2)
/-- the sums over the statements -/
def szL : List T → Nat × Nat
  | [] => (0, 0)
  | s :: r => ((szS s).1 + (szL r).1, (szS s).2 + (szL r).2)
def szBs : List (List T) → Nat × Nat
  | [] => (0, 0)
  | b :: r => ((szL b).1 + (b.length - 1) + (szBs r).1, (if b = [] then 1 else (szL b).2) + (szBs r).2)
end
def szB (b : List T) : Nat × Nat := ((szL b).1 + (b.length - 1), if b = [] then 1 else (szL b).2)
theorem szL_sum (b : List T) : szL b = ((b.map szS).map Prod.fst |>.sum, (b.map szS).map Prod.snd |>.sum) := by
  induction b with
  | nil => rfl
  | cons s r ih => simp only [szL, ih, List.map_cons, List.sum_cons]
theorem szBs_sum (bs : List (List T)) : szBs bs = ((bs.map szB).map Prod.fst |>.sum, (bs.map szB).map Prod.snd |>.sum) := by
  induction bs with
  | nil => rfl
  | cons s r ih => simp only [szBs, ih, List.map_cons, List.sum_cons, szB]
theorem szL_app (a b : List T) : szL (a ++ b) = ((szL a).1 + (szL b).1, (szL a).2 + (szL b).2) := by
  induction a with
  | nil => simp [szL]
  | cons s r ih => simp only [List.cons_append, szL, ih]; ext <;> simp <;> omega
mutual
def nmS : T → List (List Nat)
  | .dot _ => []
  | .alt _ bs => nmBs bs
  | .loop b => nmL b
  | .undo b => nmL b
  | .part n _ => [n]
def nmL : List T → List (List Nat)
  | [] => []
  | s :: r => nmS s ++ nmL r
def nmBs : List (List T) → List (List Nat)
  | [] => []
  | b :: r => nmL b ++ nmBs r
end
-- how deep blocks stand in it
mutual
def depS : T → Nat
  | .dot _ => 0
  | .alt _ bs => 1 + depBs bs
  | .loop b => 1 + depL b
  | .undo b => 1 + depL b
  | .part _ _ => 0
def depL : List T → Nat
  | [] => 0
  | s :: r => max (depS s) (depL r)
def depBs : List (List T) → Nat
  | [] => 0
  | b :: r => max (depL b) (depBs r)
end
theorem depL_le {b : List T} {n : Nat} : depL b ≤ n ↔ ∀ s ∈ b, depS s ≤ n := by
  induction b with
  | nil => simp [depL]
  | cons s r ih => simp only [depL, Nat.max_le, ih, List.forall_mem_cons]
theorem depBs_le {bs : List (List T)} {n : Nat} : depBs bs ≤ n ↔ ∀ b ∈ bs, depL b ≤ n := by
  induction bs with
  | nil => simp [depBs]
  | cons s r ih => simp only [depBs, Nat.max_le, ih, List.forall_mem_cons]
theorem nmL_app (a b : List T) : nmL (a ++ b) = nmL a ++ nmL b := by
  induction a with
  | nil => simp [nmL]
  | cons s r ih => simp only [List.cons_append, nmL, ih, List.append_assoc]
theorem nmL_take {b : List T} {i : Nat} {t : T} (h : b[i]? = some t) : nmL (b.take (i + 1)) = nmL (b.take i) ++ nmS t := by
  rw [List.take_add_one, h, nmL_app]
  simp [nmL]
theorem nmBs_app (a b : List (List T)) : nmBs (a ++ b) = nmBs a ++ nmBs b := by
  induction a with
  | nil => simp [nmBs]
  | cons s r ih => simp only [List.cons_append, nmBs, ih, List.append_assoc]
theorem nmBs_take {b : List (List T)} {i : Nat} {t : List T} (h : b[i]? = some t) : nmBs (b.take (i + 1)) = nmBs (b.take i) ++ nmL t := by
  rw [List.take_add_one, h, nmBs_app]
  simp [nmBs]
theorem nmL_split {b : List T} {i : Nat} {t : T} (h : b[i]? = some t) : nmL b = nmL (b.take i) ++ nmS t ++ nmL (b.drop (i + 1)) := by
  rw [← nmL_take h, ← nmL_app, List.take_append_drop]
theorem nmBs_split {b : List (List T)} {i : Nat} {t : List T} (h : b[i]? = some t) : nmBs b = nmBs (b.take i) ++ nmL t ++ nmBs (b.drop (i + 1)) := by
  rw [← nmBs_take h, ← nmBs_app, List.take_append_drop]
/-- rows over the deeds, parts by their blocks, of at most this height -/
inductive R (d : List Nat) (ps : List Nat → Option (List T)) : Nat → T → Prop
  | dot {n : Nat} {r : List Nat} : Ls r → OverD d r → r.length ≤ 12 → R d ps n (.dot r)
  | alt {n : Nat} {o : Bool} {bs : List (List T)} : 1 ≤ bs.length → bs.length ≤ 4 → (∀ b ∈ bs, b.length ≤ 8) → (∀ b ∈ bs, ∀ s ∈ b, R d ps n s) → R d ps (n + 1) (.alt o bs)
  | loop {n : Nat} {b : List T} : b.length ≤ 8 → (∀ s ∈ b, R d ps n s) → R d ps (n + 1) (.loop b)
  | undo {n : Nat} {b : List T} : b.length ≤ 8 → (∀ s ∈ b, R d ps n s) → R d ps (n + 1) (.undo b)
  | part {n : Nat} {m : List Nat} {b : List T} : ps m = some b → b.length ≤ 8 → (∀ s ∈ b, R d ps n s) → R d ps (n + 1) (.part m b)
def RB_ (d : List Nat) (ps : List Nat → Option (List T)) (n : Nat) (b : List T) : Prop := b.length ≤ 8 ∧ ∀ s ∈ b, R d ps n s
theorem R.up {d : List Nat} {ps : List Nat → Option (List T)} {n : Nat} {t : T} (h : R d ps n t) : R d ps (n + 1) t := by
  induction h with
  | dot a b c => exact .dot a b c
  | alt a b c _ ih => exact .alt a b c ih
  | loop a _ ih => exact .loop a ih
  | undo a _ ih => exact .undo a ih
  | part a b _ ih => exact .part a b ih
theorem R.le {d : List Nat} {ps : List Nat → Option (List T)} {n m : Nat} {t : T} (h : R d ps n t) (k : n ≤ m) : R d ps m t := by
  induction k with
  | refl => exact h
  | step _ ih => exact ih.up
theorem RB_.le {d : List Nat} {ps : List Nat → Option (List T)} {n m : Nat} {b : List T} (h : RB_ d ps n b) (k : n ≤ m) : RB_ d ps m b := ⟨h.1, fun s hs => (h.2 s hs).le k⟩
theorem R.un {d : List Nat} {ps : List Nat → Option (List T)} {n : Nat} {t : T} (h : R d ps n t) : R d ps n (unS t) := by
  induction h with
  | dot a b c => exact .dot (Ls.inv a) (inv_over a b) (by rw [inv_len]; exact c)
  | @alt n o bs a b c h ih =>
    refine .alt (by rw [unBs_map, List.length_map]; exact a) (by rw [unBs_map, List.length_map]; exact b) (fun x hx => ?_) fun x hx s hs => ?_
    · rw [unBs_map] at hx
      obtain ⟨y, hy, rfl⟩ := List.mem_map.mp hx
      rw [unL_len]; exact c y hy
    · rw [unBs_map] at hx
      obtain ⟨y, hy, rfl⟩ := List.mem_map.mp hx
      obtain ⟨t, ht, rfl⟩ := unL_mem.mp hs
      exact ih y hy t ht
  | loop a h ih =>
    refine .loop (by rw [unL_len]; exact a) fun s hs => ?_
    obtain ⟨t, ht, rfl⟩ := unL_mem.mp hs
    exact ih t ht
  | undo a h ih =>
    refine .alt (Nat.le_refl 1) (show 1 ≤ 4 by decide) (fun x hx => ?_) fun x hx s hs => ?_
    · rw [List.mem_singleton.mp hx]; exact a
    · rw [List.mem_singleton.mp hx] at hs; exact h s hs
  | part a b h ih => exact .undo b h
theorem RB_.un {d : List Nat} {ps : List Nat → Option (List T)} {n : Nat} {b : List T} (h : RB_ d ps n b) : RB_ d ps n (unL b) := ⟨by rw [unL_len]; exact h.1, fun s hs => by
  obtain ⟨t, ht, rfl⟩ := unL_mem.mp hs
  exact (h.2 t ht).un⟩
theorem unL_nil {b : List T} : unL b = [] ↔ b = [] := by rw [← List.length_eq_zero_iff, unL_len, List.length_eq_zero_iff]
mutual
theorem szS_un : ∀ t : T, szS (unS t) = szS t
  | .dot r => by simp only [unS, szS, inv_len]
  | .alt o bs => by
    have e : (unBs bs).length = bs.length := by rw [unBs_map, List.length_map]
    simp only [unS, szS, szBs_un bs, e]
  | .loop b => by simp only [unS, szS, szL_un b, unL_len, unL_nil]
  | .undo b => by simp [unS, szS, szBs]
  | .part _ b => by simp only [unS, szS]
theorem szL_un : ∀ b : List T, szL (unL b) = szL b
  | [] => rfl
  | s :: r => by
    simp only [unL, szL_app, szL, szL_un r, szS_un s]
    ext <;> simp <;> omega
theorem szBs_un : ∀ bs : List (List T), szBs (unBs bs) = szBs bs
  | [] => rfl
  | b :: r => by simp only [unBs, szBs, szL_un b, unL_len, unL_nil, szBs_un r]
end
theorem szB_un (b : List T) : szB (unL b) = szB b := by simp only [szB, szL_un, unL_len, unL_nil]
/-! ### flows -/
structure LS where
  many : Nat
  arr : List (Nat × List Nat × Nat)
  oth : List Nat
def LS.push (st : LS) (p : Nat) (l : List Nat) (q : Nat) : LS := { st with arr := st.arr ++ [(p, l, q)] }
/-- the stops of n things from p to q, the first place between being m -/
def stop (p q m n i : Nat) : Nat := if i = 0 then p else if i < n then m + (i - 1) else q
def run (f : T → Nat → Nat → LS → LS) (g : Nat → Nat) : List T → Nat → LS → LS
  | [], _, st => st
  | s :: r, i, st => run f g r (i + 1) (f s (g i) (g (i + 1)) st)
def blk (f : T → Nat → Nat → LS → LS) (b : List T) (p q : Nat) (st : LS) : LS :=
  if b = [] then st.push p [] q else run f (stop p q st.many b.length) b 0 { st with many := st.many + (b.length - 1) }
def rowR (g : Nat → Nat) : List Nat → Nat → LS → LS
  | [], _, st => st
  | c :: r, i, st => rowR g r (i + 1) (st.push (g i) [c] (g (i + 1)))
def layR (r : List Nat) (p q : Nat) (st : LS) : LS :=
  if r = [] then st.push p [] q else rowR (stop p q st.many r.length) r 0 { st with many := st.many + (r.length - 1) }
/-- an other's blocks, from m on to q -/
def oths (f : List T → Nat → Nat → LS → LS) (m q : Nat) : List (List T) → LS → LS
  | [], st => st
  | b :: r, st => oths f m q r (f b st.many q (({ st with many := st.many + 1 } : LS).push m [] st.many))
def eits (f : List T → Nat → Nat → LS → LS) (p q : Nat) : List (List T) → LS → LS
  | [], st => st
  | b :: r, st => eits f p q r (f b p q st)
def lay : Nat → T → Nat → Nat → LS → LS
  | _, .dot r, p, q, st => layR r p q st
  | 0, _, _, _, st => st
  | n + 1, .alt false bs, p, q, st => eits (blk (lay n)) p q bs st
  | n + 1, .alt true bs, p, q, st => oths (blk (lay n)) st.many q bs (({ st with many := st.many + 1, oth := st.oth ++ [st.many] } : LS).push p [] st.many)
  | n + 1, .loop b, p, q, st => (blk (lay n) b st.many st.many (({ st with many := st.many + 1 } : LS).push p [] st.many)).push st.many [] q
  | n + 1, .undo b, p, q, st => blk (lay n) (unL b) p q st
  | n + 1, .part _ b, p, q, st => blk (lay n) b p q st
theorem run_ext {f f' : T → Nat → Nat → LS → LS} {g : Nat → Nat} : ∀ {b : List T} {i : Nat} {st : LS}, (∀ s ∈ b, f s = f' s) → run f g b i st = run f' g b i st
  | [], _, _, _ => rfl
  | s :: r, i, st, h => by
    show run f g r (i + 1) (f s _ _ st) = run f' g r (i + 1) (f' s _ _ st)
    rw [h s List.mem_cons_self]
    exact run_ext fun s hs => h s (List.mem_cons_of_mem _ hs)
theorem blk_ext {f f' : T → Nat → Nat → LS → LS} {b : List T} (h : ∀ s ∈ b, f s = f' s) : blk f b = blk f' b := by
  funext p q st
  unfold blk
  split
  · rfl
  · exact run_ext h
theorem eits_ext {f f' : List T → Nat → Nat → LS → LS} {p q : Nat} : ∀ {bs : List (List T)} {st : LS}, (∀ b ∈ bs, f b = f' b) → eits f p q bs st = eits f' p q bs st
  | [], _, _ => rfl
  | b :: r, st, h => by
    show eits f p q r (f b p q st) = eits f' p q r (f' b p q st)
    rw [h b List.mem_cons_self]
    exact eits_ext fun s hs => h s (List.mem_cons_of_mem _ hs)
theorem oths_ext {f f' : List T → Nat → Nat → LS → LS} {m q : Nat} : ∀ {bs : List (List T)} {st : LS}, (∀ b ∈ bs, f b = f' b) → oths f m q bs st = oths f' m q bs st
  | [], _, _ => rfl
  | b :: r, st, h => by
    show oths f m q r (f b _ q _) = oths f' m q r (f' b _ q _)
    rw [h b List.mem_cons_self]
    exact oths_ext fun s hs => h s (List.mem_cons_of_mem _ hs)
theorem lay_up {d : List Nat} {ps : List Nat → Option (List T)} {n : Nat} : ∀ {t : T}, R d ps n t → lay (n + 1) t = lay n t := by
  induction n with
  | zero =>
    intro t h
    cases h with
    | dot _ _ _ => funext p q st; simp only [lay]
  | succ n ih =>
    intro t h
    have hb : ∀ b : List T, (∀ s ∈ b, R d ps n s) → blk (lay (n + 1)) b = blk (lay n) b := fun b k => blk_ext fun s hs => ih (k s hs)
    funext p q st
    cases h with
    | dot _ _ _ => simp only [lay]
    | @alt _ o bs _ _ _ k => cases o with
      | false => simp only [lay]; exact eits_ext fun b hx => hb b (k b hx)
      | true => simp only [lay]; exact oths_ext fun b hx => hb b (k b hx)
    | loop _ k => simp only [lay]; rw [hb _ k]
    | @undo _ b _ k =>
      simp only [lay]
      rw [hb (unL b) fun s hs => by
        obtain ⟨t, ht, rfl⟩ := unL_mem.mp hs
        exact (k t ht).un]
    | part _ _ k => simp only [lay]; rw [hb _ k]
theorem lay_le {d : List Nat} {ps : List Nat → Option (List T)} {n m : Nat} {t : T} (h : R d ps n t) (k : n ≤ m) : lay m t = lay n t := by
  induction k with
  | refl => rfl
  | step le ih => rw [lay_up (h.le le), ih]
theorem blk_le {d : List Nat} {ps : List Nat → Option (List T)} {n m : Nat} {b : List T} (h : RB_ d ps n b) (k : n ≤ m) : blk (lay m) b = blk (lay n) b := blk_ext fun s hs => lay_le (h.2 s hs) k
def flowOf (n : Nat) (b : List T) : LS := blk (lay n) b 0 1 ⟨2, [], []⟩
theorem blk_one (f : T → Nat → Nat → LS → LS) (s : T) (p q : Nat) (st : LS) : blk f [s] p q st = f s p q st := by
  unfold blk
  rw [if_neg (by simp)]
  show f s (stop p q _ 1 0) (stop p q _ 1 (0 + 1)) { st with many := st.many + (1 - 1) } = _
  rfl
end PG
/-! Programs as they stand in the heap. -/
namespace PG
open PySem L2 PyProof.Rows RB
theorem rd_same {H H' : Hp} {a : Addr} {u : HO} (s : Same H H') (h : Rd H a u) : Rd H' a u := by
  rcases h with e | ⟨o, e⟩
  · exact .inl (s _ _ e)
  · exact .inr ⟨o, s _ _ e⟩
theorem sqT_same {K : PySem.W.Frag} {H H' : Hp} {a : Addr} {xs : List V} (s : Same H H') (h : SqT K H a xs) : SqT K H' a xs := h.elim (fun x => .inl (rd_same s x)) .inr
theorem sqL_same {K : PySem.W.Frag} {H H' : Hp} {a : Addr} {xs : List V} (s : Same H H') (h : SqL K H a xs) : SqL K H' a xs := h.elim (fun x => .inl (rd_same s x)) .inr
theorem sqT_ty {K : PySem.W.Frag} {H : Hp} {a : Addr} {xs : List V} (h : SqT K H a xs) : TyX K H (.ref a) (.type "tuple") := by
  rcases h with (e | ⟨o, e⟩) | ⟨o, its, n, k, c, _⟩
  · exact .base (.tup e)
  · exact .fTuple e
  · exact .kTuple k c
theorem sqT_len {K : PySem.W.Frag} {H : Hp} {a : Addr} {xs : List V} (h : SqT K H a xs) : True := trivial
-- what holds no list in it
mutual
def noL : PyData → Bool
  | .list _ => false
  | .tuple ds => noLs ds
  | _ => true
def noLs : List PyData → Bool
  | [] => true
  | d :: r => noL d && noLs r
end
mutual
theorem dp_mono {K : PySem.W.Frag} {H H' : Hp} (st : ∀ a xs, SqT K H a xs → SqT K H' a xs) : ∀ (d : PyData) (v : V), noL d = true → Dp K H v d → Dp K H' v d
  | .none, _, _, h => by cases h; exact .non
  | .bool b, _, _, h => by cases h; exact .bl b
  | .int i, _, _, h => by cases h; exact .int i
  | .str z, _, _, h => by cases h; exact .str z
  | .list _, _, n, _ => by simp [noL] at n
  | .tuple ds, _, n, h => by
    cases h with
    | tup a b => exact .tup (st _ _ a) (dpAll_mono st ds _ (by simpa [noL] using n) b)
  | .dict _, _, _, h => by cases h
theorem dpAll_mono {K : PySem.W.Frag} {H H' : Hp} (st : ∀ a xs, SqT K H a xs → SqT K H' a xs) : ∀ (ds : List PyData) (vs : List V), noLs ds = true → DpAll K H vs ds → DpAll K H' vs ds
  | [], _, _, h => by cases h; exact .nil
  | d :: r, _, n, h => by
    have q : noL d = true ∧ noLs r = true := by simpa [noLs] using n
    cases h with
    | cons a b => exact .cons (dp_mono st d _ q.1 a) (dpAll_mono st r _ q.2 b)
end
mutual
theorem dp_same {K : PySem.W.Frag} {H H' : Hp} (s : Same H H') : ∀ (d : PyData) (v : V), Dp K H v d → Dp K H' v d
  | .none, _, h => by cases h; exact .non
  | .bool b, _, h => by cases h; exact .bl b
  | .int i, _, h => by cases h; exact .int i
  | .str z, _, h => by cases h; exact .str z
  | .list ds, _, h => by
    cases h with
    | lst a b => exact .lst (sqL_same s a) (dpAll_same s ds _ b)
  | .tuple ds, _, h => by
    cases h with
    | tup a b => exact .tup (sqT_same s a) (dpAll_same s ds _ b)
  | .dict _, _, h => by cases h
theorem dpAll_same {K : PySem.W.Frag} {H H' : Hp} (s : Same H H') : ∀ (ds : List PyData) (vs : List V), DpAll K H vs ds → DpAll K H' vs ds
  | [], _, h => by cases h; exact .nil
  | d :: r, _, h => by
    cases h with
    | cons a b => exact .cons (dp_same s d _ a) (dpAll_same s r _ b)
end
mutual
theorem noL_S : ∀ t : T, noL (dS t) = true
  | .dot r => by simp [dS, noL, noLs]
  | .alt o bs => by simp [dS, noL, noLs, noL_Bs bs]
  | .loop b => by simp [dS, noL, noLs, noL_L b]
  | .undo b => by simp [dS, noL, noLs, noL_L b]
  | .part n _ => by simp [dS, noL, noLs]
theorem noL_L : ∀ b : List T, noLs (dL b) = true
  | [] => by simp [dL, noLs]
  | s :: r => by simp [dL, noLs, noL_S s, noL_L r]
theorem noL_Bs : ∀ bs : List (List T), noLs (dBs bs) = true
  | [] => by simp [dBs, noLs]
  | b :: r => by simp [dBs, noLs, noL, noL_L b, noL_Bs r]
end
/-- a value that reads as the data -/
theorem dp_tup {K : PySem.W.Frag} {H : Hp} {v : V} {ds : List PyData} (h : Dp K H v (.tuple ds)) : ∃ a xs, v = .ref a ∧ SqT K H a xs ∧ DpAll K H xs ds := by
  cases h with
  | tup a b => exact ⟨_, _, rfl, a, b⟩
theorem dpAll_len {K : PySem.W.Frag} {H : Hp} : ∀ {xs : List V} {ds : List PyData}, DpAll K H xs ds → xs.length = ds.length
  | _, _, .nil => rfl
  | _, _, .cons _ t => by rw [List.length_cons, List.length_cons, dpAll_len t]
theorem dpAll_at {K : PySem.W.Frag} {H : Hp} : ∀ {xs : List V} {ds : List PyData}, DpAll K H xs ds → ∀ {i : Nat} {x : V}, xs[i]? = some x → ∃ d, ds[i]? = some d ∧ Dp K H x d
  | _, _, .nil, _, _, e => by simp at e
  | _, _, .cons r _, 0, _, e => by cases e; exact ⟨_, rfl, r⟩
  | _, _, .cons _ t, i + 1, _, e => dpAll_at t (i := i) e
theorem dpAll_get {K : PySem.W.Frag} {H : Hp} : ∀ {xs : List V} {ds : List PyData}, DpAll K H xs ds → ∀ {i : Nat} {d : PyData}, ds[i]? = some d → ∃ x, xs[i]? = some x ∧ Dp K H x d
  | _, _, .nil, _, _, e => by simp at e
  | _, _, .cons r _, 0, _, e => by cases e; exact ⟨_, rfl, r⟩
  | _, _, .cons _ t, i + 1, _, e => dpAll_get t (i := i) e
theorem dpAll_app {K : PySem.W.Frag} {H : Hp} : ∀ {xs ys : List V} {ds es : List PyData}, DpAll K H xs ds → DpAll K H ys es → DpAll K H (xs ++ ys) (ds ++ es)
  | _, _, _, _, .nil, h => h
  | _, _, _, _, .cons r t, h => .cons r (dpAll_app t h)
theorem dpAll_of {K : PySem.W.Frag} {H : Hp} : ∀ {xs : List V} {ds : List PyData}, xs.length = ds.length → (∀ (i : Nat) (x : V) (d : PyData), xs[i]? = some x → ds[i]? = some d → Dp K H x d) → DpAll K H xs ds
  | [], [], _, _ => .nil
  | [], _ :: _, e, _ => by cases e
  | _ :: _, [], e, _ => by cases e
  | x :: xs, d :: ds, e, h => .cons (h 0 x d rfl rfl) (dpAll_of (by simpa using e) fun i y z a b => h (i + 1) y z a b)
theorem dpAll_snoc {K : PySem.W.Frag} {H : Hp} {xs : List V} {ds : List PyData} {x : V} {d : PyData} (h : DpAll K H xs ds) (k : Dp K H x d) : DpAll K H (xs ++ [x]) (ds ++ [d]) := dpAll_app h (.cons k .nil)
theorem dpAll_rev {K : PySem.W.Frag} {H : Hp} : ∀ {xs : List V} {ds : List PyData}, DpAll K H xs ds → DpAll K H xs.reverse ds.reverse
  | _, _, .nil => .nil
  | _, _, .cons r t => by rw [List.reverse_cons, List.reverse_cons]; exact dpAll_snoc (dpAll_rev t) r
theorem dpAll_drop {K : PySem.W.Frag} {H : Hp} : ∀ {xs : List V} {ds : List PyData} (n : Nat), DpAll K H xs ds → DpAll K H (xs.drop n) (ds.drop n)
  | _, _, 0, h => h
  | _, _, _ + 1, .nil => .nil
  | _, _, n + 1, .cons _ t => dpAll_drop n t
theorem dpAll_take {K : PySem.W.Frag} {H : Hp} : ∀ {xs : List V} {ds : List PyData} (n : Nat), DpAll K H xs ds → DpAll K H (xs.take n) (ds.take n)
  | _, _, 0, _ => .nil
  | _, _, _ + 1, .nil => .nil
  | _, _, n + 1, .cons r t => .cons r (dpAll_take n t)
abbrev Blk (K : PySem.W.Frag) (H : Hp) (v : V) (b : List T) : Prop := Dp K H v (.tuple (dL b))
abbrev Stm (K : PySem.W.Frag) (H : Hp) (v : V) (t : T) : Prop := Dp K H v (dS t)
section
variable {K : PySem.W.Frag} {H H' : Hp} {v : V}
theorem Blk.same {b : List T} (s : Same H H') (h : Blk K H v b) : Blk K H' v b := dp_same s _ _ h
theorem Stm.same {t : T} (s : Same H H') (h : Stm K H v t) : Stm K H' v t := dp_same s _ _ h
theorem Blk.open_ {b : List T} (h : Blk K H v b) : ∃ a xs, v = .ref a ∧ SqT K H a xs ∧ xs.length = b.length ∧ DpAll K H xs (dL b) := by
  obtain ⟨a, xs, e, q, r⟩ := dp_tup h
  exact ⟨a, xs, e, q, by rw [dpAll_len r, dL_map, List.length_map], r⟩
theorem dL_at {xs : List V} {b : List T} (h : DpAll K H xs (dL b)) {i : Nat} {x : V} (e : xs[i]? = some x) : ∃ s, b[i]? = some s ∧ Stm K H x s := by
  obtain ⟨d, e2, r⟩ := dpAll_at h e
  rw [dL_map, List.getElem?_map] at e2
  cases q : b[i]? with
  | none => rw [q] at e2; cases e2
  | some s => rw [q] at e2; cases e2; exact ⟨s, rfl, r⟩
theorem dBs_at {xs : List V} {bs : List (List T)} (h : DpAll K H xs (dBs bs)) {i : Nat} {x : V} (e : xs[i]? = some x) : ∃ b, bs[i]? = some b ∧ Blk K H x b := by
  obtain ⟨d, e2, r⟩ := dpAll_at h e
  rw [dBs_map, List.getElem?_map] at e2
  cases q : bs[i]? with
  | none => rw [q] at e2; cases e2
  | some s => rw [q] at e2; cases e2; exact ⟨s, rfl, r⟩
theorem two {x y : PyData} (h : Dp K H v (.tuple [x, y])) : ∃ a p q, v = .ref a ∧ SqT K H a [p, q] ∧ Dp K H p x ∧ Dp K H q y := by
  obtain ⟨a, xs, rfl, q, r⟩ := dp_tup h
  cases r with
  | cons r1 t =>
    cases t with
    | cons r2 t2 => cases t2; exact ⟨a, _, _, rfl, q, r1, r2⟩
theorem dp_str {z : Str} (h : Dp K H v (.str z)) : v = .str z := by cases h; rfl
theorem dp_int {i : Int} (h : Dp K H v (.int i)) : v = .int i := by cases h; rfl
/-- a statement is a pair of its word and what is in it -/
def wS : T → Str
  | .dot _ => "do"
  | .alt o _ => wAlt o
  | .loop _ => "loop"
  | .undo _ => "undo"
  | .part _ _ => "part"
def iS : T → PyData
  | .dot r => .str (S r)
  | .alt _ bs => .tuple (dBs bs)
  | .loop b => .tuple (dL b)
  | .undo b => .tuple (dL b)
  | .part n _ => .str (S n)
theorem dS_eq (t : T) : dS t = .tuple [.str (wS t), iS t] := by cases t <;> simp only [dS, wS, iS]
theorem Stm.open_ {t : T} (h : Stm K H v t) : ∃ a p, v = .ref a ∧ SqT K H a [.str (wS t), p] ∧ Dp K H p (iS t) := by
  have h2 : Dp K H v (dS t) := h
  rw [dS_eq] at h2
  obtain ⟨a, p, q, e, s, r1, r2⟩ := two h2
  rw [dp_str r1] at s
  exact ⟨a, q, e, s, r2⟩
end
/-- the parts in a dict -/
def Prt (K : PySem.W.Frag) (H : Hp) (kvs : List (L2.Key × V)) (ps : List (List Nat × List T)) : Prop := Paired (fun (kv : L2.Key × V) (p : List Nat × List T) => kv.1 = Sum.inr (S p.1) ∧ Blk K H kv.2 p.2) kvs ps
def look (ps : List (List Nat × List T)) : List Nat → Option (List T) := fun n => ps.lookup n
theorem Prt.same {K : PySem.W.Frag} {H H' : Hp} {kvs : List (L2.Key × V)} {ps : List (List Nat × List T)} (s : Same H H') (h : Prt K H kvs ps) : Prt K H' kvs ps := Paired.mapP h fun _ _ z => ⟨z.1, z.2.same s⟩
theorem Prt.len {K : PySem.W.Frag} {H : Hp} {kvs : List (L2.Key × V)} {ps : List (List Nat × List T)} (h : Prt K H kvs ps) : kvs.length = ps.length := Paired.length h
theorem Prt.get {K : PySem.W.Frag} {H : Hp} : ∀ {kvs : List (L2.Key × V)} {ps : List (List Nat × List T)}, Prt K H kvs ps → ∀ {n : List Nat} {b : List T}, look ps n = some b → ∃ v, valV kvs (Sum.inr (S n)) = some v ∧ Blk K H v b
  | _, _, .nil, _, _, e => by simp [look] at e
  | kv :: kvs, p :: ps, .cons r t, n, b, e => by
    obtain ⟨k, v⟩ := kv
    obtain ⟨m, c⟩ := p
    obtain ⟨r1, r2⟩ := r
    dsimp only at r1 r2
    subst r1
    by_cases h : n = m
    · subst h
      have : c = b := by simpa [look] using e
      subst this
      refine ⟨v, ?_, r2⟩
      unfold valV; simp
    · have e2 : look ps n = some b := by
        unfold look at e ⊢
        rw [List.lookup_cons] at e
        have : (n == m) = false := by simpa using h
        rw [this] at e
        exact e
      obtain ⟨w, q1, q2⟩ := Prt.get t e2
      refine ⟨w, ?_, q2⟩
      rw [← q1]
      unfold valV
      have ne : ¬ (Sum.inr (S m) : L2.Key) = Sum.inr (S n) := fun z => h (S_inj (Sum.inr.inj z)).symm
      simp [ne]
theorem lock_same {H H' : Hp} {d : Addr} {u : HO} {od : Obj} (h : H d = some u) (s : Same (upd H d (.frz od u)) H') : Same H (upd H' d u) := fun b o e => by
  by_cases q : b = d
  · subst q; rw [h] at e; cases e; exact upd_same
  · rw [upd_ne q]; exact s _ _ (by rw [upd_ne q]; exact e)
end PG
/-! t + u and t[::-1], tuples of any length. -/
namespace HT
open PySem PySem.Spec PyProof.Rows
section
variable {prog : Program} {w : World} {A : Around} {E : Value → Shared → Prop} {s : Shared}
theorem sliceApplied_back {sl : Addr} {vl vu vs : Value} {n : Nat} {Q : Int × Int × Nat → Shared → Prop} (hs : s.heap.IsSliceOf sl vl vu vs) (pl : IsPart vl none) (pu : IsPart vu none) (pk : IsPart vs (some (-1)))
    (h : Q ((n : Int) - 1, -1, n) s) : wpAny (model prog w) A (Builtin.Slice.sliceApplied (.ref sl) (pure (n : Int))) Q E s := by
  obtain ⟨os, hos, hcs, hds⟩ := id hs
  unfold Builtin.Slice.sliceApplied Builtin.Slice.sliceFields
  refine wpAny_bind (wpAny_bind (wpAny_field hos hds (x := vl) rfl (wpAny_bind (wpAny_field hos hds (x := vu) rfl (wpAny_bind (wpAny_field hos hds (x := vs) rfl (wpAny_pure ?_)))))))
  refine wpAny_bind (slicePart_ pk ?_)
  show wpAny _ _ (if ((-1 : Int) == 0) = true then _ else _) _ _ s
  rw [if_neg (by decide)]
  refine wpAny_bind (slicePart_ pl (wpAny_bind (slicePart_ pu (wpAny_bind (wpAny_pure ?_)))))
  have e1 : Builtin.Slice.sliceAdjust none none (-1) (n : Int) = ((n : Int) - 1, -1) := rfl
  show wpAny _ _ (match Builtin.Slice.sliceAdjust none none (-1) (n : Int) with | (lo, hi) => pure (lo, (-1 : Int), Builtin.Slice.slicePlaces lo hi (-1))) _ _ s
  rw [e1]
  show wpAny _ _ (pure ((n : Int) - 1, (-1 : Int), Builtin.Slice.slicePlaces ((n : Int) - 1) (-1) (-1))) _ _ s
  have e2 : Builtin.Slice.slicePlaces ((n : Int) - 1) (-1) (-1) = n := by
    unfold Builtin.Slice.slicePlaces
    simp
    try (intros; omega)
    try omega
  rw [e2]
  exact wpAny_pure h
theorem pick_back (xs : Array Value) : ((List.range xs.size).filterMap fun (m : Nat) => xs[(((xs.size : Int) - 1) + (m : Int) * (-1)).toNat]?).toArray = xs.toList.reverse.toArray := by
  congr 1
  refine List.ext_getElem? fun i => ?_
  have e : (List.range xs.size).filterMap (fun (m : Nat) => xs[(((xs.size : Int) - 1) + (m : Int) * (-1)).toNat]?) = (List.range xs.size).map fun m => xs[xs.size - 1 - m]! := by
    have key : ∀ l : List Nat, (∀ m ∈ l, m < xs.size) → l.filterMap (fun (m : Nat) => xs[(((xs.size : Int) - 1) + (m : Int) * (-1)).toNat]?) = l.map fun m => xs[xs.size - 1 - m]! := by
      intro l
      induction l with
      | nil => intro _; rfl
      | cons m r ih =>
        intro hl
        have hm := hl m List.mem_cons_self
        have k : (((xs.size : Int) - 1) + (m : Int) * (-1)).toNat = xs.size - 1 - m := by omega
        have lt : xs.size - 1 - m < xs.size := by omega
        have e1 : xs[(((xs.size : Int) - 1) + (m : Int) * (-1)).toNat]? = some (xs[xs.size - 1 - m]!) := by rw [k]; simp [lt]
        rw [List.filterMap_cons, e1, List.map_cons, ← ih fun x hx => hl x (List.mem_cons_of_mem _ hx)]
    exact key _ fun m hm => List.mem_range.mp hm
  rw [e, List.getElem?_map]
  rcases Nat.lt_or_ge i xs.size with h | h
  · rw [List.getElem?_range h, List.getElem?_reverse (by simpa using h)]
    have lt : xs.size - 1 - i < xs.size := by omega
    simp [lt]
  · rw [List.getElem?_eq_none (by simpa using h), List.getElem?_eq_none (by simpa using h)]; rfl
theorem getItem_tuple_back {t sl : Addr} {items : Array Value} {vl vu vs : Value} {Q : Value → Shared → Prop} (ht : IsTup s.heap t items) (hs : s.heap.IsSliceOf sl vl vu vs) (pl : IsPart vl none) (pu : IsPart vu none) (pk : IsPart vs (some (-1)))
    (h : Q (.ref s.heap.objs.size) { s with heap := s.heap.push { cls := .type "tuple", data := .seq items.toList.reverse.toArray } })
    (hsz : items.size ≤ sizeLine) : wpAny (model prog w) A (getItem (.ref t) (.ref sl)) Q E s := by
  have htake : sizeOk (.seq items.toList.reverse.toArray) := by
    show items.toList.reverse.toArray.size ≤ sizeLine
    simpa using hsz
  obtain ⟨os, hos, hcs, hds⟩ := id hs
  have hTs : s.TypeIs (.ref sl) "slice" := ⟨os, hos, hcs⟩
  unfold getItem
  try with_reducible refine wpAny_holding ?_
  first | refine wpAny_bind (wpAny_pure ?_) | skip
  refine wpAny_bind (wpAny_sequenceKey ht.typeIs (by decide) ?_)
  refine wpAny_bind (wpAny_callSpecial?_slot (name := Str.ofString "__getitem__") ht.typeIs PyProof.Rows.slot_tuple_getitem
    (wpAny_call_entry PyProof.Rows.slot_tuple_getitem ht.typeIs entry_tuple_getitem ?_ (args_tuple_getitem _ _)))
  show wpAny _ _ (Builtin.Tuple.tupleItemsOf (.ref t) >>= _) _ _ s
  refine wpAny_bind (tupleItemsOf_ ht ?_)
  refine wpAny_bind (wpAny_typeOf hTs ?_)
  rw [if_pos (by decide)]
  refine wpAny_bind (sliceApplied_back hs pl pu pk ?_)
  show wpAny _ _ (if (((items.size : Int) - 1 == 0 && (-1 : Int) == 1 && items.size == items.size) = true) then _ else _) _ _ s
  rw [if_neg (by simp), pick_back]
  first
    | exact wpAny_bind (m := Builtin.Tuple.tupleExact _) (wpAny_newObj_type (wpAny_pure ⟨_, rfl, wpAny_pure h⟩) htake)
    | exact wpAny_bind (m := Builtin.Tuple.tupleExact _) (wpAny_newObj_type (wpAny_bind (wpAny_pure (wpAny_pure ⟨_, rfl, wpAny_pure h⟩))) htake)
    | exact wpAny_bind (wpAny_bind (m := Builtin.Tuple.tupleExact _) (wpAny_newObj_type (wpAny_pure (wpAny_pure ⟨_, rfl, wpAny_pure h⟩)) htake))
    | exact wpAny_bind (wpAny_bind (m := Builtin.Tuple.tupleExact _) (wpAny_newObj_type (wpAny_pure ⟨_, rfl, wpAny_pure h⟩) htake))
end
end HT
namespace L2
open PySem PySem.Spec PyProof.Rows
/-- t[::-1], t a tuple -/
def tRevT (K : PySem.W.Frag) (te : TE) : TE := fun σ H Q => te σ H fun x H1 => ∃ a xs, x = .ref a ∧ SqT K H1 a xs ∧ ∀ p, H1 p = none → Q (.ref p) (upd H1 p (.tup xs.reverse))
theorem pe_revT {X : Cx} {K : PySem.W.Frag} {e : Expr} {te : TE} {k : Nat} {p1 p2 p3 pos : Pos} (q0 : X.K = K) (he : PE X e te) : PE X (.Subscript e (.Slice none none (some (.UnaryOp .USub (.Constant (.int 1) k p1) p2)) p3) pos) (tRevT K te) := by
  subst q0
  constructor
  intro pins s σ H Q I word
  refine Subscript_ (thn (he.run pins s σ H _ I word) ?_)
  rintro v s1 ⟨x, H1, I1, r1, a, xs, rfl, hx, q⟩
  cases r1
  have step : PO X (some (.UnaryOp .USub (.Constant (.int 1) k p1) p2)) (tPart (tUn (rU fun i => .int (-i)) (tC (.int 1)))) := po_some (pe_un un_neg pe_int)
  refine wpAny_Slice (thn (po_none.run pins s1 σ H1 (fun o H2 => o = none ∧ H2 = H1) I1 ⟨rfl, rfl⟩) ?_)
  rintro vl s2 ⟨o2, H2, I2, pl, e2, f2⟩
  subst e2 f2
  refine thn (po_none.run pins s2 σ _ (fun o H3 => o = none ∧ H3 = _) I2 ⟨rfl, rfl⟩) ?_
  rintro vu s3 ⟨o3, H3, I3, pu, e3, f3⟩
  subst e3 f3
  refine thn (step.run pins s3 σ _ (fun o H4 => o = some (-1) ∧ H4 = _) I3 ⟨1, rfl, -1, rfl, rfl, rfl⟩) ?_
  rintro vs s4 ⟨o4, H4, I4, ps, e4, f4⟩
  subst e4 f4
  have I5 : Inv X pins σ H4 { s4 with heap := s4.heap.push { cls := .type "slice", data := .fields #[vl, vu, vs] } } := I4.kept (t' := s4.toks) fun b ob q => Heap.get?_push_of_some _ q
  obtain ⟨its, r, ht, hz⟩ := I5.tuple hx
  show wpAny (model X.prog X.w) X.A (subscriptTail e (.Slice none none (some (.UnaryOp .USub (.Constant (.int 1) k p1) p2)) p3) (.ref a) (.ref s4.heap.objs.size)) (EP X pins σ Q) X.xe { s4 with heap := s4.heap.push { cls := .type "slice", data := .fields #[vl, vu, vs] } }
  refine tail_any (ops := [.ref a, .ref s4.heap.objs.size]) ht.typeIs PyProof.Rows.slot_tuple_getitem.lookup ?_ (by with_unfolding_all rfl)
  refine HT.getItem_tuple_back ht (Heap.IsSliceOf.new _ vl vu vs) pl pu ps ?_ (by rw [List.size_toArray, ← r.length]; exact hz)
  refine ⟨.ref _, _, I5.laid (t' := s4.toks) (o := .tup xs.reverse) (fun b ob q => Heap.get?_push_of_some _ q) (Nat.le_refl _) ?_, rfl, q _ (I5.hok.fresh (Nat.le_refl _))⟩
  exact ⟨by rw [List.length_reverse]; exact hz, _, by simpa using r.reverse, IsTup.new _ _⟩
/-- t + u, tuples -/
def rCatOwn (K : PySem.W.Frag) : R2 := fun x y H Q => ∃ a b xs ys, x = .ref a ∧ y = .ref b ∧ SqT K H a xs ∧ SqT K H b ys ∧ xs.length + ys.length ≤ sizeLine ∧
  (xs = [] → Q (.ref b) H) ∧ (xs ≠ [] → ys = [] → Q (.ref a) H) ∧ (xs ≠ [] → ys ≠ [] → ∀ p, H p = none → Q (.ref p) (upd H p (.tup (xs ++ ys))))
theorem op_catOwn {X : Cx} {K : PySem.W.Frag} (q0 : X.K = K) : OpR X (binaryOp .Add) (rCatOwn K) := by
  subst q0
  rintro pins s σ H x y v u Q I rx ry ⟨a, b, xs, ys, rfl, rfl, ha, hb, hz, q0, q1, q2⟩
  cases rx
  cases ry
  obtain ⟨vs, r1, p1, _⟩ := I.tuple ha
  obtain ⟨ws, r2, p2, _⟩ := I.tuple hb
  have n1 : vs = [] ↔ xs = [] := r1.nil_iff
  have n2 : ws = [] ↔ ys = [] := r2.nil_iff
  have sz : vs.length + ws.length ≤ sizeLine := by rw [← r1.length, ← r2.length]; exact hz
  obtain ⟨⟨cls, dd, data, sl⟩, ho, hc, n, hd⟩ := id p1
  obtain ⟨⟨cls2, dd2, data2, sl2⟩, ho2, hc2, n3, hd2⟩ := id p2
  simp only at hc hd hc2 hd2
  subst hc hd hc2 hd2
  have join : vs.toArray ++ ws.toArray = (vs ++ ws).toArray := by simp
  by_cases hv : vs = []
  · exact concat_meets ⟨_, ho, rfl⟩ ⟨_, ho2, rfl⟩ noFill_tuple_add seq_tuple_add PySem.F.slot_tuple_add PySem.F.entry_tuple_add (PySem.F.args_tuple_add_2 _ _)
      (tuple_addW0 a b vs.toArray ws.toArray n n3 dd dd2 sl sl2 (by simp [hv])) ⟨ho, ho2, .ref b, H, I, rfl, q0 (n1.mp hv)⟩
  · by_cases hw : ws = []
    · exact concat_meets ⟨_, ho, rfl⟩ ⟨_, ho2, rfl⟩ noFill_tuple_add seq_tuple_add PySem.F.slot_tuple_add PySem.F.entry_tuple_add (PySem.F.args_tuple_add_2 _ _)
        (tuple_addW1 a b vs.toArray ws.toArray n n3 dd dd2 sl sl2 (by simpa using hv) (by simp [hw])) ⟨ho, ho2, .ref a, H, I, rfl, q1 (fun z => hv (n1.mpr z)) (n2.mp hw)⟩
    · refine concat_meets ⟨_, ho, rfl⟩ ⟨_, ho2, rfl⟩ noFill_tuple_add seq_tuple_add PySem.F.slot_tuple_add PySem.F.entry_tuple_add (PySem.F.args_tuple_add_2 _ _)
        (tuple_addW2 a b vs.toArray ws.toArray n n3 dd dd2 sl sl2 (by simpa using hv) (by simpa using hw) (by rw [List.size_toArray, List.size_toArray]; exact sz)) ⟨ho, ho2, ?_⟩
      rw [join]
      refine ⟨.ref s.heap.objs.size, _, I.laid (t' := s.toks) (o := .tup (xs ++ ys)) (fun b ob q => Heap.get?_push_of_some _ q) (Nat.le_refl _) ?_, rfl, q2 (fun z => hv (n1.mpr z)) (fun z => hw (n2.mpr z)) _ (I.hok.fresh (Nat.le_refl _))⟩
      exact ⟨by rw [List.length_append]; exact hz, _, r1.append r2, IsTup.new _ _⟩
end L2
/-! Comprehensions and loops in which what was tracked stays. -/
namespace GO
open PySem PySem.Spec PyProof.Rows L2 RB PG
/-- at a comprehension's turn: what stood in H1 stands, the new list at D holds what F tells -/
def LP (H1 : Hp) (D : Addr) (F : Nat → List V → Hp → Prop) (i : Nat) (G : Hp) : Prop := ∃ acc, Same H1 G ∧ G D = some (.lst acc) ∧ F i acc G
/-- the item y is made -/
def LN (H1 : Hp) (D : Addr) (F : Nat → List V → Hp → Prop) (i : Nat) (y : V) (G : Hp) : Prop := ∃ acc, G D = some (.lst acc) ∧ acc.length < sizeLine ∧ LP H1 D F (i + 1) (upd G D (.lst (acc ++ [y])))
/-- F is told of what may not be the list itself -/
def Off (D : Addr) (F : Nat → List V → Hp → Prop) : Prop := ∀ i acc y xs G, G D = some (.lst xs) → F i acc G → F i acc (upd G D (.lst y))
theorem ln {H1 G H4 : Hp} {D : Addr} {F : Nat → List V → Hp → Prop} {i : Nat} {y : V} {acc : List V} (hD : H1 D = none) (hm : Off D F) (hz : acc.length ≤ 1000000) (s : Same H1 G) (e : G D = some (.lst acc)) (s4 : Same G H4) (f4 : F (i + 1) (acc ++ [y]) H4) : LN H1 D F i y H4 :=
  ⟨acc, s4 _ _ e, Nat.lt_of_le_of_lt hz (by decide), acc ++ [y], Same.mut hD (s.trans s4), upd_same, hm _ _ _ _ _ (s4 _ _ e) f4⟩
theorem lcS {J : It} {n : Nat} {Gw : Hp → Prop} {Y : Nat → Hp → V → Hp → Prop} (w : Walk J n Gw Y) {g : TG} {tt : TT} {te : TE} {vs : List Nat} {σ : L2.St} {H1 : Hp} {D : Addr} {Qd : Hp → Prop} (F : Nat → List V → Hp → Prop)
    (hD : H1 D = none) (h0 : F 0 [] (upd H1 D (.lst []))) (hG : ∀ i acc G, i ≤ n → Same H1 G → F i acc G → Gw G)
    (hs : ∀ i x acc G G', i < n → Same H1 G → G D = some (.lst acc) → F i acc G → Y i G x G' → g x (wipe σ vs) G' fun σ2 H2 => wipe σ2 vs = wipe σ vs ∧ tt σ2 H2 fun b H3 =>
      if b = true then te σ2 H3 fun y H4 => LN H1 D F i y H4 else LP H1 D F (i + 1) H3)
    (hd : ∀ acc G, Same H1 G → G D = some (.lst acc) → F n acc G → Qd G) :
    ∃ W : Nat → Nat → Hp → Prop, (∃ m, W 0 m (upd H1 D (.lst []))) ∧ ∀ i m H, W i m H →
      (J.stop i H ∧ Qd H) ∨ (J.go i H ∧ ∃ Nx : Hp → Prop, (∀ H', Nx H' → ∃ m', m' < m ∧ W (i + 1) m' H') ∧ ∀ x H', J.yld i H x H' → g x (wipe σ vs) H' fun σ2 H2 => wipe σ2 vs = wipe σ vs ∧ tt σ2 H2 fun b H3 =>
        if b = true then te σ2 H3 fun y H4 => ∃ acc, H4 D = some (.lst acc) ∧ acc.length < sizeLine ∧ Nx (upd H4 D (.lst (acc ++ [y]))) else Nx H3) := by
  refine lc_it w (LP H1 D F) ⟨[], Same.new hD, upd_same, h0⟩ (fun i G hi ⟨acc, s, _, f⟩ => hG i acc G hi s f) ?_ (fun G ⟨acc, s, e, f⟩ => hd acc G s e f)
  rintro i x G G' hi ⟨acc, s, e, f⟩ y
  exact hs i x acc G G' hi s e f y
/-- all of what is made is True -/
def FY : Nat → List V → Hp → Prop := fun i acc _ => acc = RB.yes i
theorem offY {D : Addr} : Off D FY := fun _ _ _ _ _ _ h => by unfold FY at h ⊢; exact h
theorem lnY {H1 G H4 : Hp} {D : Addr} {i : Nat} {acc : List V} (hD : H1 D = none) (hi : i ≤ 1000000) (s : Same H1 G) (e : G D = some (.lst acc)) (f : FY i acc G) (s4 : Same G H4) : LN H1 D FY i (.bl true) H4 := by
  have f' : acc = RB.yes i := f
  subst f'
  refine ln hD offY (by rw [yes_len]; exact hi) s e s4 ?_
  exact yes_succ i
theorem allY {K : PySem.W.Frag} {H : Hp} {Q : VK} {D : Addr} {n : Nat} (h : H D = some (.lst (RB.yes n))) (k : Q (.bl true) H) : rAll K [.ref D] H Q :=
  ⟨D, _, rfl, SqL.of h, by rw [all_rep]; exact k⟩
/-- what is made reads as data -/
def FD (K : PySem.W.Frag) (f : Nat → PyData) : Nat → List V → Hp → Prop := fun i acc G => DpAll K G acc ((List.range i).map f)
theorem sqT_off {K : PySem.W.Frag} {G : Hp} {D : Addr} {xs y : List V} (e : G D = some (.lst xs)) : ∀ a zs, SqT K G a zs → SqT K (upd G D (.lst y)) a zs := fun a zs h => by
  rcases h with (k | ⟨o, k⟩) | k
  · exact .inl (.inl (upd_oth k (ne_of k e fun z => nomatch z)))
  · exact .inl (.inr ⟨o, upd_oth k (ne_of k e fun z => nomatch z)⟩)
  · exact .inr k
theorem offD {K : PySem.W.Frag} {D : Addr} {f : Nat → PyData} (hf : ∀ i, noL (f i) = true) : Off D (FD K f) := fun i acc y xs G e h => by
  have nl : ∀ l : List Nat, noLs (l.map f) = true := fun l => by
    induction l with
    | nil => rfl
    | cons a r ih => simp only [List.map_cons, noLs, hf a, ih, Bool.and_self]
  exact dpAll_mono (sqT_off e) _ _ (nl _) h
theorem fd_succ {K : PySem.W.Frag} {f : Nat → PyData} {i : Nat} {acc : List V} {y : V} {G : Hp} (h : FD K f i acc G) (k : Dp K G y (f i)) : FD K f (i + 1) (acc ++ [y]) G := by
  unfold FD
  rw [List.range_succ, List.map_append]
  exact dpAll_snoc h k
theorem fd_len {K : PySem.W.Frag} {f : Nat → PyData} {i : Nat} {acc : List V} {G : Hp} (h : FD K f i acc G) : acc.length = i := by
  have := dpAll_len h
  rw [List.length_map, List.length_range] at this; exact this
theorem fd_same {K : PySem.W.Frag} {f : Nat → PyData} {i : Nat} {acc : List V} {G G' : Hp} (s : Same G G') (h : FD K f i acc G) : FD K f i acc G' := dpAll_same s _ _ h
-- isinstance
theorem isi {K : PySem.W.Frag} {H : Hp} {Q : VK} {x : V} {t : Value} {c : String} {b : Bool} (ty : TyX K H x t) (k : PySem.W.kitOne K t (.type c) = some b) (q : Q (.bl b) H) : rIsi K [x, .ty c] H Q := ⟨x, .ty c, t, .type c, b, rfl, .ty _, ty, k, q⟩
-- in a tuple, a list
theorem inT {K : PySem.W.Frag} {H : Hp} {Q : VK} {p : Addr} {x : V} {xs : List V} {b : Bool} (h : SqT K H p xs) (f : flatV x = true) (fs : xs.all flatV = true) (e : inV x xs = b) (q : Q (.bl b) H) : rIn K false x (.ref p) H Q :=
  ⟨p, xs, rfl, .inr h, f, fs, by subst e; exact q⟩
theorem inL {K : PySem.W.Frag} {H : Hp} {Q : VK} {p : Addr} {x : V} {xs : List V} {b : Bool} (h : SqL K H p xs) (f : flatV x = true) (fs : xs.all flatV = true) (e : inV x xs = b) (q : Q (.bl b) H) : rIn K false x (.ref p) H Q :=
  ⟨p, xs, rfl, .inl h, f, fs, by subst e; exact q⟩
theorem isiY {K : PySem.W.Frag} {H : Hp} {Q : VK} {x : V} {t c : String} (ty : TyX K H x (.type t)) (k : kitB t c = some true) (q : Q (.bl true) H) : rIsi K [x, .ty c] H Q := isi ty (kit_ty k) q
theorem isiN {K : PySem.W.Frag} {H : Hp} {Q : VK} {x : V} {t c : String} (ty : TyX K H x (.type t)) (k : kitB t c = some false) (q : Q (.bl false) H) : rIsi K [x, .ty c] H Q := isi ty (kit_ty k) q
section
variable {σ σ1 : L2.St} {H : Hp} {K : PySem.W.Frag} {R : It → Hp → Prop}
theorem lc {wi : TI} {g : TG} {tt : TT} {te : TE} {vs : List Nat} {Q : VK} (k : wi σ H fun J H1 => ∀ D, H1 D = none → ∃ W : Nat → Nat → Hp → Prop, (∃ m, W 0 m (upd H1 D (.lst []))) ∧ ∀ i m H, W i m H →
  (J.stop i H ∧ Q (.ref D) H) ∨ (J.go i H ∧ ∃ Nx : Hp → Prop, (∀ H', Nx H' → ∃ m', m' < m ∧ W (i + 1) m' H') ∧ ∀ x H', J.yld i H x H' → g x (wipe σ vs) H' fun σ2 H2 => wipe σ2 vs = wipe σ vs ∧ tt σ2 H2 fun b H3 =>
    if b = true then te σ2 H3 fun y H4 => ∃ acc, H4 D = some (.lst acc) ∧ acc.length < sizeLine ∧ Nx (upd H4 D (.lst (acc ++ [y]))) else Nx H3)) : tLc wi g tt te vs σ H Q := k
/-- what a walk over a tuple, a list, a text, a range asks -/
def IT (K : PySem.W.Frag) (x : V) (R : It → Hp → Prop) (H : Hp) : Prop := ∃ a, x = .ref a ∧ (∃ xs, SqT K H a xs) ∧ R (Itt K a) H
def IL (K : PySem.W.Frag) (x : V) (R : It → Hp → Prop) (H : Hp) : Prop := ∃ a, x = .ref a ∧ (∃ xs, SqL K H a xs) ∧ R (Itl K a) H
def IS (x : V) (R : It → Hp → Prop) (H : Hp) : Prop := ∃ z, x = .str z ∧ R (Its z) H
def IR (vs : List V) (R : It → Hp → Prop) (H : Hp) : Prop := ∃ j : Int, vs = [.int j] ∧ -(2 ^ 62) ≤ j ∧ j < 2 ^ 62 ∧ R (Itr 0 j.toNat) H
theorem itup {tl : TE} (k : tl σ H fun x H1 => IT K x R H1) : iTup K tl σ H R := k
theorem ilst {tl : TE} (k : tl σ H fun x H1 => IL K x R H1) : iList K tl σ H R := k
theorem itT {a : Addr} {xs : List V} (h : SqT K H a xs) (k : R (Itt K a) H) : IT K (.ref a) R H := ⟨a, rfl, ⟨xs, h⟩, k⟩
theorem itL {a : Addr} {xs : List V} (h : SqL K H a xs) (k : R (Itl K a) H) : IL K (.ref a) R H := ⟨a, rfl, ⟨xs, h⟩, k⟩
theorem itS {z : Str} (k : R (Its z) H) : IS (.str z) R H := ⟨z, rfl, k⟩
theorem itR {j : Int} (n : Nat) (e : j.toNat = n) (h1 : -(2 ^ 62) ≤ j) (h2 : j < 2 ^ 62) (k : R (Itr 0 n) H) : IR [.int j] R H := ⟨j, rfl, h1, h2, by subst e; exact k⟩
theorem istr {te : TE} (k : te σ H fun v H1 => IS v R H1) : iStr te σ H R := k
theorem irng {ta : TA} (k : ta σ H fun vs H1 => IR vs R H1) : iRng1 ta σ H R := k
/-- a for over what J walks -/
def FL (g : TG) (tb : TS) (D : Ends) (σ : L2.St) (J : It) (H : Hp) : Prop := ∃ W : Nat → Nat → L2.St → Hp → Prop, (∃ m, W 0 m σ H) ∧ ∀ i m σ H, W i m σ H →
      (J.stop i H ∧ D.nx σ H) ∨ (J.go i H ∧ ∃ N : L2.St → Hp → Prop, (∀ σ' H', N σ' H' → ∃ m', m' < m ∧ W (i + 1) m' σ' H') ∧ ∀ x H', J.yld i H x H' → g x σ H' fun σ2 H2 => tb { D with nx := N, ct := N, bk := D.nx } σ2 H2)
theorem for_ {wi : TI} {g : TG} {tb : TS} {D : Ends} (k : wi σ H (FL g tb D σ)) : tFor wi g tb D σ H := k
theorem forI {J : It} {n : Nat} {G : Hp → Prop} {Y : Nat → Hp → V → Hp → Prop} (w : Walk J n G Y) {g : TG} {tb : TS} {D : Ends} (Pv : Nat → L2.St → Hp → Prop) (h0 : Pv 0 σ H) (hG : ∀ i σ H, i ≤ n → Pv i σ H → G H)
    (hs : ∀ i x σ H H', i < n → Pv i σ H → Y i H x H' → g x σ H' fun σ2 H2 => tb { D with nx := Pv (i + 1), ct := Pv (i + 1), bk := D.nx } σ2 H2) (hd : ∀ σ H, Pv n σ H → D.nx σ H) : FL g tb D σ J H := for_it w Pv h0 hG hs hd
/-- a comprehension's name at a turn -/
theorem tn {i : Nat} {x : V} {vs : List Nat} {Z : L2.St → Hp → Prop} (e : (wipe σ vs).set i (some x) = σ1) (e2 : wipe σ1 vs = wipe σ vs) (k : Z σ1 H) : gName i x (wipe σ vs) H fun σ2 H2 => wipe σ2 vs = wipe σ vs ∧ Z σ2 H2 := by
  show wipe ((wipe σ vs).set i (some x)) vs = wipe σ vs ∧ Z ((wipe σ vs).set i (some x)) H
  rw [e]; exact ⟨e2, k⟩
end
-- words between
theorem midF {t : TT} {σ : L2.St} {H : Hp} {Q : Bool → Hp → Prop} (h : t σ H fun b H' => b = false ∧ H' = H) (k : Q false H) : tMidT t σ H Q := ⟨_, h, fun _ _ ⟨e1, e2⟩ => by subst e1 e2; exact k⟩
theorem midT {t : TT} {σ : L2.St} {H : Hp} {Q : Bool → Hp → Prop} (h : t σ H fun b H' => b = true ∧ H' = H) (k : Q true H) : tMidT t σ H Q := ⟨_, h, fun _ _ ⟨e1, e2⟩ => by subst e1 e2; exact k⟩
theorem midFS {t : TT} {σ : L2.St} {H : Hp} {Q : Bool → Hp → Prop} (h : t σ H fun b H' => b = false ∧ Same H H') (k : ∀ H', Same H H' → Q false H') : tMidT t σ H Q := ⟨_, h, fun _ _ ⟨e1, e2⟩ => by subst e1; exact k _ e2⟩
theorem midTS {t : TT} {σ : L2.St} {H : Hp} {Q : Bool → Hp → Prop} (h : t σ H fun b H' => b = true ∧ Same H H') (k : ∀ H', Same H H' → Q true H') : tMidT t σ H Q := ⟨_, h, fun _ _ ⟨e1, e2⟩ => by subst e1; exact k _ e2⟩
theorem midE {t : TE} {σ : L2.St} {H : Hp} {Q : VK} {v : V} (h : t σ H fun x H' => x = v ∧ Same H H') (k : ∀ H', Same H H' → Q v H') : tMidE t σ H Q := ⟨_, h, fun _ _ ⟨e1, e2⟩ => by subst e1; exact k _ e2⟩
theorem cutM {t u : TS} {D : Ends} {σ : L2.St} {H : Hp} (M : L2.St → Hp → Prop) (h : t { D with nx := M } σ H) (k : ∀ σ' H', M σ' H' → u D σ' H') : C8.tCut t u D σ H := ⟨M, h, k⟩
theorem one {α : Type} {P : α → Prop} {x : α} (h : P x) : P x := h
theorem tyL {K : PySem.W.Frag} {H : Hp} {l : Addr} {xs : List V} {R : Prop} (h : H l = some (.lst xs)) (k : R) : tyV K "list" (.ref l) H ∧ R := ⟨.inl ⟨rfl, _, SqL.of h⟩, k⟩
theorem tyS {K : PySem.W.Frag} {H : Hp} {z : Str} {R : Prop} (k : R) : tyV K "str" (.str z) H ∧ R := ⟨rfl, k⟩
theorem app {H : Hp} {Q : VK} {l : Addr} {xs : List V} {y : V} (h : H l = some (.lst xs)) (z : xs.length ≤ 1000000) (k : Q .non (upd H l (.lst (xs ++ [y])))) : rAppend (.ref l) [y] H Q := ⟨l, xs, y, rfl, rfl, h, Nat.lt_of_le_of_lt z (by decide), k⟩
theorem ext {H : Hp} {Q : VK} {l b : Addr} {xs zs : List V} (h : H l = some (.lst xs)) (h2 : H b = some (.lst zs)) (z : xs.length + zs.length ≤ 1000000) (k : Q .non (upd H l (.lst (xs ++ zs)))) : rExtend (.ref l) [.ref b] H Q := ⟨l, b, xs, zs, rfl, rfl, h, h2, Nat.le_trans z (by decide), k⟩
/-- a turn of a while, its measure being m -/
def WB (tb : TS) (D : Ends) (Pv : Nat → L2.St → Hp → Prop) (m : Nat) (σ : L2.St) (H : Hp) : Prop := ∃ N : L2.St → Hp → Prop, (∀ σ' H', N σ' H' → ∃ m', m' < m ∧ Pv m' σ' H') ∧ tb { D with nx := N, ct := N, bk := D.nx } σ H
theorem wb {tb : TS} {D : Ends} {Pv : Nat → L2.St → Hp → Prop} {m : Nat} {σ : L2.St} {H : Hp} (k : tb { D with nx := fun σ' H' => ∃ m', m' < m ∧ Pv m' σ' H', ct := fun σ' H' => ∃ m', m' < m ∧ Pv m' σ' H', bk := D.nx } σ H) : WB tb D Pv m σ H := ⟨_, fun _ _ h => h, k⟩
theorem whl {c : TT} {tb : TS} {D : Ends} {σ : L2.St} {H : Hp} (Pv : Nat → L2.St → Hp → Prop) (m0 : Nat) (h0 : Pv m0 σ H) (hs : ∀ m σ H, Pv m σ H → c σ H fun b H1 => if b = true then WB tb D Pv m σ H1 else D.nx σ H1) : tWhile c tb D σ H := ⟨Pv, ⟨m0, h0⟩, hs⟩
theorem tru {K : PySem.W.Frag} {ta : TE} {σ : L2.St} {H : Hp} {Q : Bool → Hp → Prop} (h : ta σ H fun x G => ∃ k, TruV K x G k ∧ Q k G) : tTruQ K ta σ H Q := h
theorem truL {K : PySem.W.Frag} {G : Hp} {a : Addr} {xs : List V} {R : Bool → Prop} (h : SqL K G a xs) (k : R (!xs.isEmpty)) : ∃ k, TruV K (.ref a) G k ∧ R k := ⟨_, .inl ⟨xs, h, rfl⟩, k⟩
theorem truT {K : PySem.W.Frag} {G : Hp} {a : Addr} {xs : List V} {R : Bool → Prop} (h : SqT K G a xs) (k : R (!xs.isEmpty)) : ∃ k, TruV K (.ref a) G k ∧ R k := ⟨_, .inr (.inl ⟨xs, h, rfl⟩), k⟩
theorem notT {K : PySem.W.Frag} {ta : TE} {σ : L2.St} {H : Hp} {Q : VK} (h : ta σ H fun x H1 => ∃ k, TruV K x H1 k ∧ Q (.bl (!k)) H1) : tNotT K ta σ H Q := h
theorem pop {H : Hp} {Q : VK} {l : Addr} {xs : List V} {y : V} (h : H l = some (.lst (xs ++ [y]))) (k : Q y (upd H l (.lst xs))) : rPop (.ref l) [] H Q := ⟨l, xs ++ [y], y, rfl, rfl, h, by simp, by simpa using k⟩
theorem dgetR {H : Hp} {Q : VK} {q : Addr} {kvs : List (L2.Key × V)} {z : Str} {v : V} (h : Rd H q (.dK kvs)) (e : valV kvs (Sum.inr z) = some v) (k : Q v H) : DG (.ref q) (.str z) H Q := ⟨q, v, rfl, .inl ⟨kvs, Sum.inr z, h, rfl, e.symm⟩, k⟩
theorem dinR {H : Hp} {q : Addr} {kvs : List (L2.Key × V)} {z : Str} {R : Option V → Prop} (h : Rd H q (.dK kvs)) (k : R (valV kvs (Sum.inr z))) : DI (.ref q) (.str z) H R := ⟨q, _, rfl, .inl ⟨kvs, Sum.inr z, h, rfl, rfl⟩, k⟩
theorem dputR {H : Hp} {q : Addr} {kvs : List (L2.Key × V)} {z : Str} {v : V} {R : Hp → Prop} (h : H q = some (.dK kvs)) (n : kvs.length ≤ 1000000) (k : R (upd H q (.dK (putK kvs (Sum.inr z) v)))) : DP (.ref q) (.str z) v H R := ⟨q, _, rfl, .inl ⟨kvs, Sum.inr z, h, rfl, Nat.lt_of_le_of_lt n (by decide), rfl⟩, k⟩
theorem put_len (kvs : List (L2.Key × V)) (k : L2.Key) (v : V) : (putK kvs k v).length ≤ kvs.length + 1 := by
  unfold putK
  split
  · rw [List.length_map]; omega
  · rw [List.length_append, List.length_singleton]; omega
theorem dnew {σ : L2.St} {H : Hp} {Q : VK} (k : ∀ p, H p = none → Q (.ref p) (upd H p (.dK []))) : tDNewK σ H Q := k
/-- a comprehension over a dict that is locked meanwhile -/
theorem lockE {t : TE} {σ : L2.St} {H : Hp} {Q : VK} {q : Addr} {kvs : List (L2.Key × V)} (h : H q = some (.dK kvs)) (k : ∀ od, t σ (upd H q (.frz od (.dK kvs))) fun v H' => H' q = some (.frz od (.dK kvs)) ∧ Q v (upd H' q (.dK kvs))) : tLockE t σ H Q := ⟨q, _, h, trivial, k⟩
theorem lockS {t : TS} {σ : L2.St} {H : Hp} {D : Ends} {q : Addr} {kvs : List (L2.Key × V)} (h : H q = some (.dK kvs)) (k : ∀ od, t ⟨fun σ' H' => H' q = some (.frz od (.dK kvs)) ∧ D.nx σ' (upd H' q (.dK kvs)), fun v H' => H' q = some (.frz od (.dK kvs)) ∧ D.rt v (upd H' q (.dK kvs)), fun σ' H' => H' q = some (.frz od (.dK kvs)) ∧ D.bk σ' (upd H' q (.dK kvs)), fun σ' H' => H' q = some (.frz od (.dK kvs)) ∧ D.ct σ' (upd H' q (.dK kvs))⟩ σ (upd H q (.frz od (.dK kvs)))) : tLock t D σ H := ⟨q, _, h, trivial, k⟩
def IK (x : V) (R : It → Hp → Prop) (H : Hp) : Prop := ∃ d o, x = .ref d ∧ ((∃ kvs, H d = some (.frz o (.dK kvs)) ∧ R (Itk d o kvs) H) ∨ ∃ kvs, H d = some (.frz o (.dT kvs)) ∧ R (Itkt d o kvs) H)
theorem ikeys {td : TE} {σ : L2.St} {H : Hp} {R : It → Hp → Prop} (k : td σ H fun x H1 => IK x R H1) : iKeys td σ H R := k
theorem itK {d : Addr} {o : Obj} {kvs : List (L2.Key × V)} {H : Hp} {R : It → Hp → Prop} (h : H d = some (.frz o (.dK kvs))) (k : R (Itk d o kvs) H) : IK (.ref d) R H := ⟨d, o, rfl, .inl ⟨kvs, h, k⟩⟩
theorem dc {wi : TI} {g : TG} {tt : TT} {tk tv : TE} {vs : List Nat} {σ : L2.St} {H : Hp} {Q : VK} (k : wi σ H fun J H1 => ∀ D, H1 D = none → ∃ W : Nat → Nat → Hp → Prop, (∃ m, W 0 m (upd H1 D (.dK []))) ∧ ∀ i m H, W i m H →
  (J.stop i H ∧ Q (.ref D) H) ∨ (J.go i H ∧ ∃ Nx : Hp → Prop, (∀ H', Nx H' → ∃ m', m' < m ∧ W (i + 1) m' H') ∧ ∀ x H', J.yld i H x H' → g x (wipe σ vs) H' fun σ2 H2 => wipe σ2 vs = wipe σ vs ∧ tt σ2 H2 fun b H3 =>
    if b = true then tk σ2 H3 fun y H4 => tv σ2 H4 fun z H5 => ∃ kvs k, y = kV k ∧ H5 D = some (.dK kvs) ∧ kvs.length < sizeLine ∧ Nx (upd H5 D (.dK (putK kvs k z))) else Nx H3)) : tDc wi g tt tk tv vs σ H Q := k
theorem sqT_at {K : PySem.W.Frag} {H : Hp} {q : Addr} {kvs : List (L2.Key × V)} {u : HO} (h : H q = some (.dK kvs)) : ∀ a zs, SqT K H a zs → SqT K (upd H q u) a zs := fun a zs k => by
  rcases k with (k | ⟨o, k⟩) | k
  · exact .inl (.inl (upd_oth k (ne_of k h fun z => nomatch z)))
  · exact .inl (.inr ⟨o, upd_oth k (ne_of k h fun z => nomatch z)⟩)
  · exact .inr k
theorem blk_at {K : PySem.W.Frag} {H : Hp} {q : Addr} {kvs : List (L2.Key × V)} {u : HO} (h : H q = some (.dK kvs)) {v : V} {b : List T} (k : Blk K H v b) : Blk K (upd H q u) v b := dp_mono (sqT_at h) _ _ (by simpa [noL] using noL_L b) k
theorem prt_at {K : PySem.W.Frag} {H : Hp} {q : Addr} {kvs kvs' : List (L2.Key × V)} {ps : List (List Nat × List T)} {u : HO} (h : H q = some (.dK kvs)) (k : Prt K H kvs' ps) : Prt K (upd H q u) kvs' ps := Paired.mapP k fun _ _ z => ⟨z.1, blk_at h z.2⟩
theorem prt_get {K : PySem.W.Frag} {H : Hp} {kvs : List (L2.Key × V)} {ps : List (List Nat × List T)} (h : Prt K H kvs ps) {i : Nat} {k : L2.Key} {v : V} (e : kvs[i]? = some (k, v)) : ∃ n b, ps[i]? = some (n, b) ∧ k = Sum.inr (S n) ∧ Blk K H v b := by
  obtain ⟨p, e2, r1, r2⟩ := paired_at h e
  exact ⟨p.1, p.2, e2, r1, r2⟩
theorem look_at {ps : List (List Nat × List T)} (nd : (ps.map Prod.fst).Nodup) : ∀ {i : Nat} {n : List Nat} {b : List T}, ps[i]? = some (n, b) → look ps n = some b := by
  induction ps with
  | nil => intro i n b e; simp at e
  | cons p r ih =>
    intro i n b e
    rw [List.map_cons, List.nodup_cons] at nd
    obtain ⟨m, c⟩ := p
    cases i with
    | zero => cases e; simp [look]
    | succ i =>
      have e' : r[i]? = some (n, b) := e
      have hm : n ∈ r.map Prod.fst := List.mem_map.mpr ⟨(n, b), List.mem_of_getElem? e', rfl⟩
      have ne : (n == m) = false := beq_eq_false_iff_ne.mpr fun z => nd.1 (z ▸ hm)
      unfold look
      rw [List.lookup_cons, ne]
      exact ih nd.2 e'
/-- right parts -/
structure PsOk (d : List Nat) (ps : List (List Nat × List T)) : Prop where
  len : ps.length ≤ 4
  nd : (ps.map Prod.fst).Nodup
  nam : ∀ p ∈ ps, p.1 ≠ [] ∧ p.1.length ≤ 8 ∧ ∀ c ∈ p.1, 97 ≤ c ∧ c ≤ 122
  blk : ∀ p ∈ ps, RB_ d (look ps) 20 p.2 ∧ depL p.2 ≤ 5 ∧ (nmL p.2).length ≤ 10000
  acy : ∃ rk : List Nat → Nat, ∀ p ∈ ps, ∀ x ∈ nmL p.2, rk x < rk p.1 ∧ (look ps x).isSome = true
/-- so many times no -/
def nos (n : Nat) : List V := (List.replicate n false).map V.bl
theorem nos_succ (n : Nat) : nos n ++ [V.bl false] = nos (n + 1) := by unfold nos; rw [List.replicate_succ', List.map_append]; rfl
theorem nos_len (n : Nat) : (nos n).length = n := by unfold nos; rw [List.length_map, List.length_replicate]
def FN : Nat → List V → Hp → Prop := fun i acc _ => acc = nos i
theorem offN {D : Addr} : Off D FN := fun _ _ _ _ _ _ h => by unfold FN at h ⊢; exact h
theorem lnN {H1 G H4 : Hp} {D : Addr} {i : Nat} {acc : List V} (hD : H1 D = none) (hi : i ≤ 1000000) (s : Same H1 G) (e : G D = some (.lst acc)) (f : FN i acc G) (s4 : Same G H4) : LN H1 D FN i (.bl false) H4 := by
  have f' : acc = nos i := f
  subst f'
  refine ln hD offN (by rw [nos_len]; exact hi) s e s4 ?_
  exact nos_succ i
theorem anyN {K : PySem.W.Frag} {H : Hp} {Q : VK} {D : Addr} {n : Nat} (h : H D = some (.lst (nos n))) (k : Q (.bl false) H) : rAny K [.ref D] H Q :=
  ⟨D, _, rfl, SqL.of h, by rw [show (List.replicate n false).any id = false from List.any_eq_false.mpr fun x hx => by rw [List.eq_of_mem_replicate hx]; exact Bool.false_ne_true]; exact k⟩
theorem put_mem {kvs : List (L2.Key × V)} {k : L2.Key} {v : V} {kv : L2.Key × V} (h : kv ∈ putK kvs k v) : kv.1 = k ∨ kv ∈ kvs ∨ ∃ kv' ∈ kvs, kv'.1 = kv.1 := by
  unfold putK at h
  split at h
  · obtain ⟨x, hx, e⟩ := List.mem_map.mp h
    split at e
    · rename_i q
      exact .inl (by rw [← e]; exact q)
    · rw [← e]; exact .inr (.inl hx)
  · rcases List.mem_append.mp h with q | q
    · exact .inr (.inl q)
    · rw [List.mem_singleton.mp q]; exact .inl rfl
theorem look_snoc {ps : List (List Nat × List T)} {n m : List Nat} {b c : List T} (h : look (ps ++ [(n, b)]) m = some c) : look ps m = some c ∨ (m = n ∧ c = b) := by
  unfold look at *
  induction ps with
  | nil =>
    rw [List.nil_append, List.lookup_cons] at h
    by_cases e : m = n
    · subst e; simp at h; exact .inr ⟨rfl, h.symm⟩
    · have : (m == n) = false := beq_eq_false_iff_ne.mpr e
      rw [this] at h; simp at h
  | cons p r ih =>
    obtain ⟨x, y⟩ := p
    rw [List.cons_append, List.lookup_cons] at h
    rw [List.lookup_cons]
    cases q : m == x with
    | true => rw [q] at h; exact .inl h
    | false => rw [q] at h; exact ih h
theorem lookup_nm {ps : List (List Nat × List T)} {m : List Nat} : (ps.map fun p => (p.1, nmL p.2)).lookup m = (look ps m).map nmL := by
  unfold look
  induction ps with
  | nil => rfl
  | cons p r ih =>
    obtain ⟨x, y⟩ := p
    rw [List.map_cons, List.lookup_cons, List.lookup_cons]
    cases q : m == x with
    | true => rfl
    | false => exact ih
theorem look_mem {ps : List (List Nat × List T)} {n : List Nat} {b : List T} (h : look ps n = some b) : (n, b) ∈ ps := by
  unfold look at h
  induction ps with
  | nil => cases h
  | cons p r ih =>
    obtain ⟨x, y⟩ := p
    rw [List.lookup_cons] at h
    cases q : n == x with
    | true => rw [q] at h; cases h; rw [eq_of_beq q]; exact List.mem_cons_self
    | false => rw [q] at h; exact List.mem_cons_of_mem _ (ih h)
/-! a comprehension at whose turns the dict at k changes, too -/
def LPK (H1 : Hp) (D k : Addr) (F : Nat → List V → List (L2.Key × V) → Hp → Prop) (i : Nat) (G : Hp) : Prop := ∃ acc kn, But k H1 G ∧ G D = some (.lst acc) ∧ G k = some (.dK kn) ∧ F i acc kn G
def LNK (H1 : Hp) (D k : Addr) (F : Nat → List V → List (L2.Key × V) → Hp → Prop) (i : Nat) (y : V) (G : Hp) : Prop := ∃ acc, G D = some (.lst acc) ∧ acc.length < sizeLine ∧ LPK H1 D k F (i + 1) (upd G D (.lst (acc ++ [y])))
theorem lnk {H1 G H4 : Hp} {D k : Addr} {F : Nat → List V → List (L2.Key × V) → Hp → Prop} {i : Nat} {y : V} {acc : List V} {kn : List (L2.Key × V)} (hD : H1 D = none) (hk : D ≠ k) (hz : acc.length ≤ 1000000) (s : But k H1 G) (e : G D = some (.lst acc)) (s4 : But k G H4) (e4 : H4 k = some (.dK kn))
    (f4 : F (i + 1) (acc ++ [y]) kn (upd H4 D (.lst (acc ++ [y])))) : LNK H1 D k F i y H4 :=
  ⟨acc, s4 _ _ hk e, Nat.lt_of_le_of_lt hz (by decide), acc ++ [y], kn, fun b o nb hb => by rw [upd_ne (ne_of_none hb hD)]; exact s4 _ _ nb (s _ _ nb hb), upd_same, upd_oth e4 hk.symm, f4⟩
theorem lcK {J : It} {n : Nat} {Gw : Hp → Prop} {Y : Nat → Hp → V → Hp → Prop} (w : Walk J n Gw Y) {g : TG} {tt : TT} {te : TE} {vs : List Nat} {σ : L2.St} {H1 : Hp} {D k : Addr} {kn0 : List (L2.Key × V)} {Qd : Hp → Prop} (F : Nat → List V → List (L2.Key × V) → Hp → Prop)
    (hD : H1 D = none) (hk : H1 k = some (.dK kn0)) (h0 : F 0 [] kn0 (upd H1 D (.lst []))) (hG : ∀ G, But k H1 G → Gw G)
    (hs : ∀ i x acc kn G G', i < n → But k H1 G → G D = some (.lst acc) → G k = some (.dK kn) → F i acc kn G → Y i G x G' → g x (wipe σ vs) G' fun σ2 H2 => wipe σ2 vs = wipe σ vs ∧ tt σ2 H2 fun b H3 =>
      if b = true then te σ2 H3 fun y H4 => LNK H1 D k F i y H4 else LPK H1 D k F (i + 1) H3)
    (hd : ∀ acc kn G, But k H1 G → G D = some (.lst acc) → G k = some (.dK kn) → F n acc kn G → Qd G) :
    ∃ W : Nat → Nat → Hp → Prop, (∃ m, W 0 m (upd H1 D (.lst []))) ∧ ∀ i m H, W i m H →
      (J.stop i H ∧ Qd H) ∨ (J.go i H ∧ ∃ Nx : Hp → Prop, (∀ H', Nx H' → ∃ m', m' < m ∧ W (i + 1) m' H') ∧ ∀ x H', J.yld i H x H' → g x (wipe σ vs) H' fun σ2 H2 => wipe σ2 vs = wipe σ vs ∧ tt σ2 H2 fun b H3 =>
        if b = true then te σ2 H3 fun y H4 => ∃ acc, H4 D = some (.lst acc) ∧ acc.length < sizeLine ∧ Nx (upd H4 D (.lst (acc ++ [y]))) else Nx H3) := by
  refine lc_it w (LPK H1 D k F) ⟨[], kn0, (Same.new hD).but, upd_same, upd_old hk hD, h0⟩ (fun _ G _ ⟨acc, kn, s, _⟩ => hG G s) ?_ (fun G ⟨acc, kn, s, e, ek, f⟩ => hd acc kn G s e ek f)
  rintro i x G G' hi ⟨acc, kn, s, e, ek, f⟩ y
  exact hs i x acc kn G G' hi s e ek f y
theorem sqT_but {K : PySem.W.Frag} {H H' : Hp} {k : Addr} {kn : List (L2.Key × V)} (h : H k = some (.dK kn)) (b : But k H H') : ∀ a zs, SqT K H a zs → SqT K H' a zs := fun a zs x => by
  rcases x with (x | ⟨o, x⟩) | x
  · exact .inl (.inl (b _ _ (ne_of x h fun z => nomatch z) x))
  · exact .inl (.inr ⟨o, b _ _ (ne_of x h fun z => nomatch z) x⟩)
  · exact .inr x
theorem blk_but {K : PySem.W.Frag} {H H' : Hp} {k : Addr} {kn : List (L2.Key × V)} (h : H k = some (.dK kn)) (b : But k H H') {v : V} {c : List T} (x : Blk K H v c) : Blk K H' v c := dp_mono (sqT_but h b) _ _ (by simpa [noL] using noL_L c) x
theorem stm_but {K : PySem.W.Frag} {H H' : Hp} {k : Addr} {kn : List (L2.Key × V)} (h : H k = some (.dK kn)) (b : But k H H') {v : V} {t : T} (x : Stm K H v t) : Stm K H' v t := dp_mono (sqT_but h b) _ _ (noL_S t) x
theorem prt_but {K : PySem.W.Frag} {H H' : Hp} {k : Addr} {kn kvs : List (L2.Key × V)} {ps : List (List Nat × List T)} (h : H k = some (.dK kn)) (b : But k H H') (x : Prt K H kvs ps) : Prt K H' kvs ps := Paired.mapP x fun _ _ z => ⟨z.1, blk_but h b z.2⟩
/-- a pair of sizes -/
def szD (z : Nat × Nat) : PyData := .tuple [.int z.1, .int z.2]
theorem noL_szD (z : Nat × Nat) : noL (szD z) = true := by simp [szD, noL, noLs]
theorem wp {σ σ' : L2.St} {vs : List Nat} {R : Prop} (e : wipe σ vs = wipe σ' vs) (k : R) : wipe σ vs = wipe σ' vs ∧ R := ⟨e, k⟩
/-- what is made is told item by item -/
def FT {α : Type} (zs : List α) (f : α → V) : Nat → List V → Hp → Prop := fun i acc _ => acc = (zs.take i).map f
theorem offT {α : Type} {zs : List α} {f : α → V} {D : Addr} : Off D (FT zs f) := fun _ _ _ _ _ _ h => by unfold FT at h ⊢; exact h
theorem lnT {α : Type} {zs : List α} {f : α → V} {H1 G H4 : Hp} {D : Addr} {i : Nat} {acc : List V} {z : α} {y : V} (hz : zs[i]? = some z) (ey : y = f z) (hD : H1 D = none) (hi : zs.length ≤ 1000000) (s : Same H1 G) (e : G D = some (.lst acc)) (f0 : FT zs f i acc G) (s4 : Same G H4) : LN H1 D (FT zs f) i y H4 := by
  have f' : acc = (zs.take i).map f := f0
  refine ln hD offT (by rw [f', List.length_map, List.length_take]; omega) s e s4 ?_
  show acc ++ [y] = (zs.take (i + 1)).map f
  rw [f', ey, take_one hz, List.map_append]; rfl
theorem ft_end {α : Type} {zs : List α} {f : α → V} {acc : List V} {G : Hp} {n : Nat} (h : FT zs f n acc G) (e : zs.length ≤ n) : acc = zs.map f := by
  have f' : acc = (zs.take n).map f := h
  rw [f', List.take_of_length_le e]
theorem sumQ {K : PySem.W.Frag} {H : Hp} {Q : VK} {D : Addr} {ns : List Nat} (h : H D = some (.lst (ns.map fun n : Nat => V.int n))) (k : Q (.int (ns.sum : Nat)) H) : rSum K [.ref D] H Q := by
  refine ⟨D, ns.map fun n : Nat => (n : Int), rfl, SqL.of (by rw [h, List.map_map]; rfl), ?_⟩
  have e : ∀ l : List Nat, (l.map fun n : Nat => (n : Int)).sum = ((l.sum : Nat) : Int) := fun l => by
    induction l with
    | nil => rfl
    | cons a r ih => rw [List.map_cons, List.sum_cons, List.sum_cons, ih]; omega
  rw [e]; exact k
/-- a def of which nothing is promised -/
theorem never {P : Program} {w : World} {K : PySem.W.Frag} {mg : Str → Option Value} {base : Heap} {CX : CXT} (k : Nat) (f : Addr) (fd : FuncData) (ps : List Str) : FnOk P w K mg base CX k f fd ps (fun _ _ _ _ => False) :=
  ⟨fun _ _ _ _ h => h.elim, fun _ _ _ _ _ _ _ _ _ _ _ _ _ h => h.elim⟩
/-! ### a dict that may be locked already -/
def DU (kvs : List (L2.Key × V)) (U : HO) : Prop := U = .dK kvs ∨ ∃ o, U = .frz o (.dK kvs)
theorem du {H : Hp} {q : Addr} {kvs : List (L2.Key × V)} (h : Rd H q (.dK kvs)) : ∃ U, H q = some U ∧ DU kvs U := by
  rcases h with h | ⟨o, h⟩
  · exact ⟨_, h, .inl rfl⟩
  · exact ⟨_, h, .inr ⟨o, rfl⟩⟩
theorem DU.rd {H : Hp} {q : Addr} {kvs : List (L2.Key × V)} {U : HO} (e : DU kvs U) (h : H q = some U) : Rd H q (.dK kvs) := by
  rcases e with rfl | ⟨o, rfl⟩
  · exact .inl h
  · exact .inr ⟨o, h⟩
theorem upd_self {H : Hp} {q : Addr} {U : HO} (h : H q = some U) : upd H q U = H := by
  funext b
  by_cases e : b = q
  · subst e; rw [upd_same, h]
  · rw [upd_ne e]
def tLockRE (t : TE) : TE := fun σ H Q => ∃ d kvs U, H d = some U ∧ DU kvs U ∧ ∀ od, t σ (upd H d (.frz od (.dK kvs))) fun v H' => H' d = some (.frz od (.dK kvs)) ∧ Q v (upd H' d U)
def tLockR (t : TS) : TS := fun D σ H => ∃ d kvs U, H d = some U ∧ DU kvs U ∧ ∀ od, t ⟨fun σ' H' => H' d = some (.frz od (.dK kvs)) ∧ D.nx σ' (upd H' d U), fun v H' => H' d = some (.frz od (.dK kvs)) ∧ D.rt v (upd H' d U), fun σ' H' => H' d = some (.frz od (.dK kvs)) ∧ D.bk σ' (upd H' d U), fun σ' H' => H' d = some (.frz od (.dK kvs)) ∧ D.ct σ' (upd H' d U)⟩ σ (upd H d (.frz od (.dK kvs)))
theorem pe_lockR {X : Cx} {e : Expr} {t : TE} (h : PE X e t) : PE X e (tLockRE t) := by
  refine ⟨fun pins s σ H Q I hw => ?_⟩
  obtain ⟨d, kvs, U, hd, rfl | ⟨o, rfl⟩, hw⟩ := hw
  · exact (pe_lock h).run pins s σ H Q I ⟨d, _, hd, trivial, hw⟩
  · have q := hw o
    rw [upd_self hd] at q
    refine thn (h.run pins s σ _ _ I q) fun v s1 ⟨x, H1, I2, r, e2, q⟩ => ?_
    rw [upd_self e2] at q
    exact ⟨x, H1, I2, r, q⟩
theorem ps_lockR {X : Cx} {st : Stmt} {t : TS} (h : PS X st t) : PS X st (tLockR t) := by
  refine ⟨fun pins s σ H D I hw => ?_⟩
  obtain ⟨d, kvs, U, hd, rfl | ⟨o, rfl⟩, hw⟩ := hw
  · exact (ps_lock h).run pins s σ H D I ⟨d, _, hd, trivial, hw⟩
  · have q := hw o
    rw [upd_self hd] at q
    refine thn (h.run pins s σ _ _ I q) fun f s1 q => ?_
    cases f with
    | next => obtain ⟨σ', H', I2, e, q⟩ := q; rw [upd_self e] at q; exact ⟨σ', _, I2, q⟩
    | brk => obtain ⟨σ', H', I2, e, q⟩ := q; rw [upd_self e] at q; exact ⟨σ', _, I2, q⟩
    | cont => obtain ⟨σ', H', I2, e, q⟩ := q; rw [upd_self e] at q; exact ⟨σ', _, I2, q⟩
    | ret v => obtain ⟨x, σ', H', I2, r, e, q⟩ := q; rw [upd_self e] at q; exact ⟨x, σ', _, I2, r, q⟩
theorem lockER {t : TE} {σ : L2.St} {H : Hp} {Q : VK} {q : Addr} {kvs : List (L2.Key × V)} {U : HO} (h : H q = some U) (e : DU kvs U) (k : ∀ od, t σ (upd H q (.frz od (.dK kvs))) fun v H' => H' q = some (.frz od (.dK kvs)) ∧ Q v (upd H' q U)) : tLockRE t σ H Q := ⟨q, kvs, U, h, e, k⟩
theorem lockSR {t : TS} {σ : L2.St} {H : Hp} {D : Ends} {q : Addr} {kvs : List (L2.Key × V)} {U : HO} (h : H q = some U) (e : DU kvs U) (k : ∀ od, t ⟨fun σ' H' => H' q = some (.frz od (.dK kvs)) ∧ D.nx σ' (upd H' q U), fun v H' => H' q = some (.frz od (.dK kvs)) ∧ D.rt v (upd H' q U), fun σ' H' => H' q = some (.frz od (.dK kvs)) ∧ D.bk σ' (upd H' q U), fun σ' H' => H' q = some (.frz od (.dK kvs)) ∧ D.ct σ' (upd H' q U)⟩ σ (upd H q (.frz od (.dK kvs)))) : tLockR t D σ H := ⟨q, kvs, U, h, e, k⟩
def rLenDR : List V → Hp → VK → Prop := fun xs H Q => ∃ a kvs, xs = [V.ref a] ∧ Rd H a (.dK kvs) ∧ Q (.int kvs.length) H
theorem clenDR {X : Cx} : CallR X (.builtin "len") rLenDR := by
  intro pins s σ H xs us Q I r h
  obtain ⟨a, kvs, rfl, ha, q⟩ := h
  obtain ⟨u, rfl, ru⟩ := vals1 r
  cases ru
  exact d_len I ha fun t s' I' => ⟨.int kvs.length, H, I', ⟨t, rfl⟩, q⟩
theorem ty_rd {K : PySem.W.Frag} {H : Hp} {a : Addr} {kvs : List (L2.Key × V)} (h : Rd H a (.dK kvs)) : TyX K H (.ref a) (.type "dict") := by
  rcases h with h | ⟨o, h⟩
  · exact .base (.dK h)
  · exact .fDict h
theorem lock_sameU {H H' : Hp} {d : Addr} {U W : HO} (h : H d = some U) (s : Same (upd H d W) H') : Same H (upd H' d U) := fun b o e => by
  by_cases q : b = d
  · subst q; rw [h] at e; cases e; exact upd_same
  · rw [upd_ne q]; exact s _ _ (by rw [upd_ne q]; exact e)
theorem sqT_atU {K : PySem.W.Frag} {H : Hp} {q : Addr} {kvs : List (L2.Key × V)} {U u : HO} (h : H q = some U) (eU : DU kvs U) : ∀ a zs, SqT K H a zs → SqT K (upd H q u) a zs := fun a zs k => by
  rcases k with (k | ⟨o, k⟩) | k
  · exact .inl (.inl (upd_oth k (ne_of k h fun z => by subst z; rcases eU with e | ⟨_, e⟩ <;> cases e)))
  · exact .inl (.inr ⟨o, upd_oth k (ne_of k h fun z => by subst z; rcases eU with e | ⟨_, e⟩ <;> cases e)⟩)
  · exact .inr k
theorem prt_atU {K : PySem.W.Frag} {H : Hp} {q : Addr} {kvs kvs' : List (L2.Key × V)} {ps : List (List Nat × List T)} {U u : HO} (h : H q = some U) (eU : DU kvs U) (k : Prt K H kvs' ps) : Prt K (upd H q u) kvs' ps := Paired.mapP k fun _ _ z => ⟨z.1, dp_mono (sqT_atU h eU) _ _ (by simpa [noL] using noL_L _) z.2⟩
theorem blk_atU {K : PySem.W.Frag} {H : Hp} {q : Addr} {kvs : List (L2.Key × V)} {U u : HO} {v : V} {b : List T} (h : H q = some U) (eU : DU kvs U) (k : Blk K H v b) : Blk K (upd H q u) v b := dp_mono (sqT_atU h eU) _ _ (by simpa [noL] using noL_L _) k
theorem rd_oth {H : Hp} {q k : Addr} {u o : HO} (h : Rd H q u) (n : q ≠ k) : Rd (upd H k o) q u := by
  rcases h with h | ⟨x, h⟩
  · exact .inl (upd_oth h n)
  · exact .inr ⟨x, upd_oth h n⟩
theorem rd_nn {H : Hp} {q k : Addr} {u : HO} (h : Rd H q u) (e : H k = none) : q ≠ k := by
  rcases h with h | ⟨x, h⟩ <;> exact ne_of_none h e
theorem rd_nl {H : Hp} {q k : Addr} {kvs : List (L2.Key × V)} {xs : List V} (h : Rd H q (.dK kvs)) (e : H k = some (.lst xs)) : q ≠ k := by
  rcases h with h | ⟨x, h⟩ <;> exact ne_of h e fun z => nomatch z
theorem rd_ni {H : Hp} {q k C dx : Addr} {kvs : List (L2.Key × V)} {fs : List (Str × V)} (h : Rd H q (.dK kvs)) (e : H k = some (.ins C dx fs)) : q ≠ k := by
  rcases h with h | ⟨x, h⟩ <;> exact ne_of h e fun z => nomatch z
end GO
namespace RB
open PySem L2
theorem sqT_butL {K : PySem.W.Frag} {H H' : Hp} {k : Addr} {ys : List V} (h : H k = some (.lst ys)) (b : But k H H') : ∀ a zs, SqT K H a zs → SqT K H' a zs := fun a zs x => by
  rcases x with (x | ⟨o, x⟩) | x
  · exact .inl (.inl (b _ _ (ne_of x h fun z => nomatch z) x))
  · exact .inl (.inr ⟨o, b _ _ (ne_of x h fun z => nomatch z) x⟩)
  · exact .inr x
end RB
/-! Blocks made anew in the heap, fields that are set, laying. -/
namespace GO
open PySem L2 PyProof.Rows RB PG
theorem putF_lt {f : Str} {v : V} {n : Nat} : ∀ {fs : List (Str × V)}, fs.length < n → (putF f v fs).length < n + 1
  | [], h => by show 1 < n + 1; simp at h; omega
  | (k, u) :: r, h => by
    unfold putF
    split
    · simp only [List.length_cons] at h ⊢; omega
    · rw [List.length_cons] at h ⊢
      have := putF_lt (f := f) (v := v) (n := n - 1) (fs := r) (by omega)
      omega
theorem noLs_take : ∀ {ds : List PyData} (n : Nat), noLs ds = true → noLs (ds.take n) = true
  | _, 0, _ => rfl
  | [], _ + 1, _ => rfl
  | d :: r, n + 1, h => by
    have q : noL d = true ∧ noLs r = true := by simpa [noLs] using h
    rw [List.take_succ_cons]
    simp only [noLs, q.1, noLs_take n q.2, Bool.and_self]
/-- what is made reads as these data, one by one -/
def FB (K : PySem.W.Frag) (ds : List PyData) : Nat → List V → Hp → Prop := fun i acc G => DpAll K G acc (ds.take i)
theorem offB {K : PySem.W.Frag} {D : Addr} {ds : List PyData} (n : noLs ds = true) : Off D (FB K ds) := fun i _ _ _ _ e h => dpAll_mono (sqT_off e) _ _ (noLs_take i n) h
theorem lnB {K : PySem.W.Frag} {H1 G H4 : Hp} {D : Addr} {i : Nat} {acc : List V} {ds : List PyData} {d : PyData} {y : V} (n : noLs ds = true) (hz : ds[i]? = some d) (hD : H1 D = none) (hi : ds.length ≤ 1000000) (s : Same H1 G) (e : G D = some (.lst acc)) (f : FB K ds i acc G) (s4 : Same G H4) (k : Dp K H4 y d) : LN H1 D (FB K ds) i y H4 := by
  have f' : DpAll K G acc (ds.take i) := f
  have l := dpAll_len f'
  rw [List.length_take] at l
  refine ln hD (offB n) (by omega) s e s4 ?_
  show DpAll K H4 (acc ++ [y]) (ds.take (i + 1))
  rw [take_one hz]
  exact dpAll_snoc (dpAll_same s4 _ _ f') k
theorem fb_end {K : PySem.W.Frag} {ds : List PyData} {acc : List V} {G : Hp} {n : Nat} (h : FB K ds n acc G) (e : ds.length ≤ n) : DpAll K G acc ds := by
  have f' : DpAll K G acc (ds.take n) := h
  rw [List.take_of_length_le e] at f'
  exact f'
/-- tuple(list) -/
theorem tupF {K : PySem.W.Frag} {H : Hp} {Q : VK} {p : Addr} {ys : List V} (h : SqL K H p ys) (k : ∀ l H', Same H H' → SqT K H' l ys → Q (.ref l) H') : rTupF K [.ref p] H Q :=
  ⟨p, ys, rfl, h, fun l o hl _ _ => k l _ (Same.new hl) (.inl (.inr ⟨o, upd_same⟩))⟩
def RT (K : PySem.W.Frag) (Q : VK) (x : V) (H : Hp) : Prop := ∃ a xs, x = .ref a ∧ SqT K H a xs ∧ ∀ p, H p = none → Q (.ref p) (upd H p (.tup xs.reverse))
theorem revT {K : PySem.W.Frag} {te : TE} {σ : L2.St} {H : Hp} {Q : VK} (k : te σ H fun x H1 => RT K Q x H1) : tRevT K te σ H Q := k
theorem revA {K : PySem.W.Frag} {H : Hp} {a : Addr} {xs : List V} {Q : VK} (h : SqT K H a xs) (k : ∀ p H', Same H H' → SqT K H' p xs.reverse → Q (.ref p) H') : RT K Q (.ref a) H :=
  ⟨a, xs, rfl, h, fun p hp => k p _ (Same.new hp) (.inl (.inl upd_same))⟩
/-- t + u -/
theorem catA {K : PySem.W.Frag} {H : Hp} {Q : VK} {a b : Addr} {xs ys : List V} (ha : SqT K H a xs) (hb : SqT K H b ys) (z : xs.length + ys.length ≤ 1000000) (k : ∀ p H', Same H H' → SqT K H' p (xs ++ ys) → Q (.ref p) H') : rCatOwn K (.ref a) (.ref b) H Q :=
  ⟨a, b, xs, ys, rfl, rfl, ha, hb, Nat.le_trans z (by decide), fun e => k b H (Same.refl _) (by rw [e]; exact hb), fun _ e => k a H (Same.refl _) (by rw [e, List.append_nil]; exact ha), fun _ _ p hp => k p _ (Same.new hp) (.inl (.inl upd_same))⟩
theorem stm_mk {K : PySem.W.Frag} {H : Hp} {p : Addr} {y : V} {t : T} (h : SqT K H p [.str (wS t), y]) (k : Dp K H y (iS t)) : Stm K H (.ref p) t := by
  show Dp K H (.ref p) (PG.dS t)
  rw [dS_eq]; exact .tup h (.cons (.str _) (.cons k .nil))
theorem un_dot (r : List Nat) : unS (.dot r) = .dot (inv r) := by simp only [unS]
theorem un_alt (o : Bool) (bs : List (List T)) : unS (.alt o bs) = .alt o (bs.map unL) := by simp only [unS, unBs_map]
theorem un_loop (b : List T) : unS (.loop b) = .loop (unL b) := by simp only [unS]
theorem un_undo (b : List T) : unS (.undo b) = .alt false [b] := by simp only [unS]
theorem un_part (n : List Nat) (b : List T) : unS (.part n b) = .undo b := by simp only [unS]
theorem none_upd {H : Hp} {x a : Addr} {u : HO} (h : upd H x u a = none) : H a = none := by
  by_cases e : a = x
  · subst e; rw [upd_same] at h; cases h
  · rwa [upd_ne e] at h
/-- an own object that alone may have changed -/
theorem sqT_butI {K : PySem.W.Frag} {H H' : Hp} {k C dx : Addr} {fs : List (Str × V)} (h : H k = some (.ins C dx fs)) (b : But k H H') : ∀ a zs, SqT K H a zs → SqT K H' a zs := fun a zs x => by
  rcases x with (e | ⟨o, e⟩) | x
  · exact .inl (.inl (b _ _ (ne_of e h fun z => nomatch z) e))
  · exact .inl (.inr ⟨o, b _ _ (ne_of e h fun z => nomatch z) e⟩)
  · exact .inr x
theorem blk_butI {K : PySem.W.Frag} {H H' : Hp} {k C dx : Addr} {fs : List (Str × V)} (h : H k = some (.ins C dx fs)) (b : But k H H') {v : V} {c : List T} (x : Blk K H v c) : Blk K H' v c := dp_mono (sqT_butI h b) _ _ (by simpa [noL] using noL_L c) x
theorem stm_butI {K : PySem.W.Frag} {H H' : Hp} {k C dx : Addr} {fs : List (Str × V)} (h : H k = some (.ins C dx fs)) (b : But k H H') {v : V} {t : T} (x : Stm K H v t) : Stm K H' v t := dp_mono (sqT_butI h b) _ _ (noL_S t) x
theorem prt_butI {K : PySem.W.Frag} {H H' : Hp} {k C dx : Addr} {fs : List (Str × V)} {kvs : List (L2.Key × V)} {ps : List (List Nat × List T)} (h : H k = some (.ins C dx fs)) (b : But k H H') (x : Prt K H kvs ps) : Prt K H' kvs ps := Paired.mapP x fun _ _ z => ⟨z.1, blk_butI h b z.2⟩
theorem but_same {x : Addr} {H H' G : Hp} (b : But x H H') (s : Same H' G) : But x H G := fun a o n e => s _ _ (b a o n e)
theorem but_set {x : Addr} {H G : Hp} {u : HO} (b : But x H G) : But x H (upd G x u) := fun a o n e => upd_oth (b a o n e) n
theorem but_new {x p : Addr} {H G : Hp} {u : HO} (b : But x H G) (hp : G p = none) : But x H (upd G p u) := fun a o n e => upd_oth (b a o n e) (ne_of_none (b a o n e) hp)
/-! x.f -/
def FR (K : PySem.W.Frag) (f : Str) (x : V) (H : Hp) (Q : VK) : Prop := ∃ a C dx fs v, x = .ref a ∧ H a = some (.ins C dx fs) ∧ Cls K C ∧ NoAttr K C f ∧ fs.lookup f = some v ∧ Q v H
theorem fldG {K : PySem.W.Frag} {σ : L2.St} {H : Hp} {Q : VK} {ta : TE} {f : Str} (k : ta σ H fun x H1 => FR K f x H1 Q) : tFld K ta f σ H Q := k
theorem fldH {K : PySem.W.Frag} {H : Hp} {Q : VK} {a C dx : Addr} {fs : List (Str × V)} {f : Str} {v : V} (h : H a = some (.ins C dx fs)) (c : Cls K C) (n : NoAttr K C f) (l : fs.lookup f = some v) (k : Q v H) : FR K f (.ref a) H Q := ⟨a, C, dx, fs, v, rfl, h, c, n, l, k⟩
/-! x.m(..) -/
def MR (C : Addr) (m : Str) (sp : Sp) (dvs : List V) (E : XK) (t : TA) (σ : L2.St) (Q : VK) (x : V) (H1 : Hp) : Prop := ∃ a dx fs, x = .ref a ∧ H1 a = some (.ins C dx fs) ∧ List.lookup m fs = none ∧ t σ H1 fun vs H2 => sp (x :: (vs ++ dvs)) H2 Q E
theorem meth {C : Addr} {m : Str} {sp : Sp} {dvs : List V} {E : XK} {ta : TE} {t : TA} {σ : L2.St} {H : Hp} {Q : VK} (k : ta σ H fun x H1 => MR C m sp dvs E t σ Q x H1) : tMeth C m sp dvs E ta t σ H Q := k
theorem methR {C : Addr} {m : Str} {sp : Sp} {dvs : List V} {E : XK} {t : TA} {σ : L2.St} {H : Hp} {Q : VK} {a dx : Addr} {fs : List (Str × V)} (h : H a = some (.ins C dx fs)) (l : fs.lookup m = none) (k : t σ H fun vs H2 => sp (.ref a :: (vs ++ dvs)) H2 Q E) : MR C m sp dvs E t σ Q (.ref a) H := ⟨a, dx, fs, rfl, h, l, k⟩
/-! x.p, a property -/
def PR (C : Addr) (sp : Sp) (dvs : List V) (E : XK) (Q : VK) (x : V) (H1 : Hp) : Prop := ∃ a dx fs, x = .ref a ∧ H1 a = some (.ins C dx fs) ∧ sp (.ref a :: dvs) H1 Q E
theorem prop {C : Addr} {sp : Sp} {dvs : List V} {E : XK} {ta : TE} {σ : L2.St} {H : Hp} {Q : VK} (k : ta σ H fun x H1 => PR C sp dvs E Q x H1) : tProp C sp dvs E ta σ H Q := k
theorem propR {C : Addr} {sp : Sp} {dvs : List V} {E : XK} {H : Hp} {Q : VK} {a dx : Addr} {fs : List (Str × V)} (h : H a = some (.ins C dx fs)) (k : sp (.ref a :: dvs) H Q E) : PR C sp dvs E Q (.ref a) H := ⟨a, dx, fs, rfl, h, k⟩
/-- l + b, lists -/
theorem catL {H : Hp} {Q : VK} {l b : Addr} {xs zs : List V} (h : H l = some (.lst xs)) (h2 : H b = some (.lst zs)) (z : xs.length + zs.length ≤ 1000000) (k : ∀ p, H p = none → Q (.ref p) (upd H p (.lst (xs ++ zs)))) : rCat (.ref l) (.ref b) H Q := ⟨l, b, xs, zs, rfl, rfl, h, h2, Nat.le_trans z (by decide), k⟩
/-! x.f += y -/
def SA1 (K : PySem.W.Frag) (tv : TE) (rd : V → V → Hp → VK → Prop) (f : Str) (D : Ends) (σ : L2.St) (x : V) (H1 : Hp) : Prop := ∃ a C dx fs v, x = .ref a ∧ H1 a = some (.ins C dx fs) ∧ Cls K C ∧ NoAttr K C f ∧ List.lookup f fs = some v ∧
  tv σ H1 fun y H2 => rd v y H2 fun z H3 => ∃ dx' fs', H3 a = some (.ins C dx' fs') ∧ fs'.length < 1000 ∧ D.nx σ (upd H3 a (.ins C dx' (putF f z fs')))
theorem sfa {K : PySem.W.Frag} {ta tv : TE} {rd : V → V → Hp → VK → Prop} {f : Str} {D : Ends} {σ : L2.St} {H : Hp} (k : ta σ H fun x H1 => SA1 K tv rd f D σ x H1) : sFldAug K ta tv rd f D σ H := k
def SA3 (f : Str) (C a : Addr) (D : Ends) (σ : L2.St) (z : V) (H3 : Hp) : Prop := ∃ dx' fs', H3 a = some (.ins C dx' fs') ∧ fs'.length < 1000 ∧ D.nx σ (upd H3 a (.ins C dx' (putF f z fs')))
theorem sfa1 {K : PySem.W.Frag} {tv : TE} {rd : V → V → Hp → VK → Prop} {f : Str} {D : Ends} {σ : L2.St} {H : Hp} {a C dx : Addr} {fs : List (Str × V)} {v : V} (h : H a = some (.ins C dx fs)) (c : Cls K C) (n : NoAttr K C f) (l : fs.lookup f = some v)
    (k : tv σ H fun y H2 => rd v y H2 fun z H3 => SA3 f C a D σ z H3) : SA1 K tv rd f D σ (.ref a) H := ⟨a, C, dx, fs, v, rfl, h, c, n, l, k⟩
theorem sfa3 {f : Str} {D : Ends} {σ : L2.St} {H : Hp} {a C dx : Addr} {fs : List (Str × V)} {z : V} (h : H a = some (.ins C dx fs)) (l : fs.length < 1000) (k : D.nx σ (upd H a (.ins C dx (putF f z fs)))) : SA3 f C a D σ z H := ⟨dx, fs, h, l, k⟩
/-! ### laying -/
def arD (a : Nat × List Nat × Nat) : PyData := .tuple [.int a.1, .str (S a.2.1), .int a.2.2]
theorem noLs_arD (l : List (Nat × List Nat × Nat)) : noLs (l.map arD) = true := by
  induction l with
  | nil => rfl
  | cons a r ih => simp [List.map_cons, noLs, arD, noL, ih]
/-- a laying at y: its parts at q, its arrows at ar, its others at ot -/
structure Ly (C : Addr) (K : PySem.W.Frag) (H : Hp) (y q ar ot : Addr) (ps : List (List Nat × List T)) (st : LS) : Prop where
  obj : ∃ dx, H y = some (.ins C dx [("blocks", .ref q), ("many", .int st.many), ("arrows", .ref ar), ("others", .ref ot)])
  arr : ∃ as, H ar = some (.lst as) ∧ DpAll K H as (st.arr.map arD)
  oth : H ot = some (.lst (st.oth.map fun n : Nat => V.int n))
  parts : ∃ kvs, H q = some (.dK kvs) ∧ Prt K H kvs ps
  ne : ar ≠ ot
  ob : st.oth.length ≤ st.many
/-- all else stands -/
def Mv (y ar ot : Addr) (H H' : Hp) : Prop := ∀ b o, b ≠ y → b ≠ ar → b ≠ ot → H b = some o → H' b = some o
theorem Mv.refl (y ar ot : Addr) (H : Hp) : Mv y ar ot H H := fun _ _ _ _ _ e => e
theorem Mv.trans {y ar ot : Addr} {H H1 H2 : Hp} (a : Mv y ar ot H H1) (b : Mv y ar ot H1 H2) : Mv y ar ot H H2 := fun c o n1 n2 n3 e => b c o n1 n2 n3 (a c o n1 n2 n3 e)
theorem Mv.of {y ar ot : Addr} {H H' : Hp} (s : Same H H') : Mv y ar ot H H' := fun b o _ _ _ e => s b o e
theorem Mv.off {y ar ot s : Addr} {H H' : Hp} {u : HO} (m : Mv y ar ot H H') (hs : H s = none) : Mv y ar ot H (upd H' s u) := fun b o n1 n2 n3 e => upd_oth (m b o n1 n2 n3 e) (ne_of_none e hs)
theorem Mv.at1 {y ar ot : Addr} {H H' : Hp} {u : HO} (m : Mv y ar ot H H') : Mv y ar ot H (upd H' y u) := fun b o n1 n2 n3 e => upd_oth (m b o n1 n2 n3 e) n1
theorem Mv.at2 {y ar ot : Addr} {H H' : Hp} {u : HO} (m : Mv y ar ot H H') : Mv y ar ot H (upd H' ar u) := fun b o n1 n2 n3 e => upd_oth (m b o n1 n2 n3 e) n2
theorem Mv.at3 {y ar ot : Addr} {H H' : Hp} {u : HO} (m : Mv y ar ot H H') : Mv y ar ot H (upd H' ot u) := fun b o n1 n2 n3 e => upd_oth (m b o n1 n2 n3 e) n3
section
variable {C : Addr} {K : PySem.W.Frag} {H H' : Hp} {y q ar ot : Addr} {ps : List (List Nat × List T)} {st : LS}
theorem Ly.same (l : Ly C K H y q ar ot ps st) (s : Same H H') : Ly C K H' y q ar ot ps st := by
  obtain ⟨⟨dx, a⟩, ⟨as, b, c⟩, d, ⟨kvs, e, f⟩, n, ob⟩ := l
  exact ⟨⟨dx, s _ _ a⟩, ⟨as, s _ _ b, dpAll_same s _ _ c⟩, s _ _ d, ⟨kvs, s _ _ e, f.same s⟩, n, ob⟩
theorem Ly.off (l : Ly C K H y q ar ot ps st) {b : Addr} {o : HO} (e : H b = some o) (n1 : ∀ C dx fs, o ≠ .ins C dx fs) (n2 : ∀ xs, o ≠ .lst xs) : b ≠ y ∧ b ≠ ar ∧ b ≠ ot := by
  obtain ⟨⟨dx, a⟩, ⟨as, r, c⟩, d, _, n, _⟩ := l
  exact ⟨ne_of e a (n1 _ _ _), ne_of e r (n2 _), ne_of e d (n2 _)⟩
theorem Ly.sqT (l : Ly C K H y q ar ot ps st) (m : Mv y ar ot H H') {a : Addr} {zs : List V} (x : SqT K H a zs) : SqT K H' a zs := by
  rcases x with (e | ⟨o, e⟩) | x
  · obtain ⟨n1, n2, n3⟩ := l.off e (fun _ _ _ z => nomatch z) (fun _ z => nomatch z)
    exact .inl (.inl (m _ _ n1 n2 n3 e))
  · obtain ⟨n1, n2, n3⟩ := l.off e (fun _ _ _ z => nomatch z) (fun _ z => nomatch z)
    exact .inl (.inr ⟨o, m _ _ n1 n2 n3 e⟩)
  · exact .inr x
theorem Ly.stm (l : Ly C K H y q ar ot ps st) (m : Mv y ar ot H H') {v : V} {t : T} (x : Stm K H v t) : Stm K H' v t := dp_mono (fun _ _ => l.sqT m) _ _ (noL_S t) x
theorem Ly.blk (l : Ly C K H y q ar ot ps st) (m : Mv y ar ot H H') {v : V} {b : List T} (x : Blk K H v b) : Blk K H' v b := dp_mono (fun _ _ => l.sqT m) _ _ (by simpa [noL] using noL_L b) x
theorem Ly.bls (l : Ly C K H y q ar ot ps st) (m : Mv y ar ot H H') {xs : List V} {bs : List (List T)} (x : DpAll K H xs (dBs bs)) : DpAll K H' xs (dBs bs) := dpAll_mono (fun _ _ => l.sqT m) _ _ (noL_Bs bs) x
theorem Ly.prt (l : Ly C K H y q ar ot ps st) (m : Mv y ar ot H H') {kvs : List (L2.Key × V)} (x : Prt K H kvs ps) : Prt K H' kvs ps := Paired.mapP x fun _ _ z => ⟨z.1, l.blk m z.2⟩
theorem Ly.qne (l : Ly C K H y q ar ot ps st) : q ≠ y ∧ q ≠ ar ∧ q ≠ ot := by
  obtain ⟨kvs, e, _⟩ := l.parts
  exact l.off e (fun _ _ _ z => nomatch z) (fun _ z => nomatch z)
theorem Ly.apart (l : Ly C K H y q ar ot ps st) : ar ≠ y ∧ ot ≠ y := by
  obtain ⟨⟨dx, a⟩, ⟨as, r, c⟩, d, _, n, _⟩ := l
  exact ⟨ne_of r a (fun z => nomatch z), ne_of d a (fun z => nomatch z)⟩
/-- a list of another one's -/
theorem Ly.at_ (l : Ly C K H y q ar ot ps st) {s : Addr} {xs ys : List V} (e : H s = some (.lst xs)) (n2 : s ≠ ar) (n3 : s ≠ ot) : Ly C K (upd H s (.lst ys)) y q ar ot ps st := by
  obtain ⟨⟨dx, o⟩, ⟨as, r, c⟩, d, ⟨kvs, f, g⟩, n, ob⟩ := l
  have st := sqT_off (K := K) (y := ys) e
  exact ⟨⟨dx, upd_oth o (ne_of o e fun z => nomatch z)⟩, ⟨as, upd_oth r n2.symm, dpAll_mono st _ _ (noLs_arD _) c⟩, upd_oth d n3.symm, ⟨kvs, upd_oth f (ne_of f e fun z => nomatch z), Paired.mapP g fun _ _ z => ⟨z.1, dp_mono st _ _ (by simpa [noL] using noL_L _) z.2⟩⟩, n, ob⟩
theorem Ly.fresh (l : Ly C K H y q ar ot ps st) {s : Addr} (hs : H s = none) : s ≠ y ∧ s ≠ ar ∧ s ≠ ot := by
  obtain ⟨⟨dx, o⟩, ⟨as, r, c⟩, d, _, n, _⟩ := l
  exact ⟨(ne_of_none o hs).symm, (ne_of_none r hs).symm, (ne_of_none d hs).symm⟩
/-- so many places more -/
theorem Ly.more (l : Ly C K H y q ar ot ps st) {dx : Addr} {k : Nat} {i : Int} (e : i = ((st.many + k : Nat) : Int)) (fs : List (Str × V)) (ef : fs = ([("blocks", .ref q), ("many", .int i), ("arrows", .ref ar), ("others", .ref ot)] : List (Str × V))) : Ly C K (upd H y (.ins C dx fs)) y q ar ot ps { st with many := st.many + k } ∧ Mv y ar ot H (upd H y (.ins C dx fs)) := by
  subst e ef
  have m : Mv y ar ot H (upd H y (.ins C dx [("blocks", .ref q), ("many", .int ((st.many + k : Nat) : Int)), ("arrows", .ref ar), ("others", .ref ot)])) := (Mv.refl _ _ _ _).at1
  obtain ⟨a1, a2⟩ := l.apart
  obtain ⟨q1, _, _⟩ := l.qne
  obtain ⟨as, r, c⟩ := l.arr
  obtain ⟨kvs, f, g⟩ := l.parts
  exact ⟨⟨⟨dx, upd_same⟩, ⟨as, upd_oth r a1, dpAll_mono (fun _ _ => l.sqT m) _ _ (noLs_arD _) c⟩, upd_oth l.oth a2, ⟨kvs, upd_oth f q1, l.prt m g⟩, l.ne, by have := l.ob; show st.oth.length ≤ st.many + k; omega⟩, m⟩
/-- an arrow more -/
theorem Ly.push (l : Ly C K H y q ar ot ps st) {as : List V} {p : Addr} {a b : Nat} {r : List Nat} (e : H ar = some (.lst as)) (hp : H p = none) :
    Ly C K (upd (upd H p (.tup [.int a, .str (S r), .int b])) ar (.lst (as ++ [.ref p]))) y q ar ot ps (st.push a r b) ∧ Mv y ar ot H (upd (upd H p (.tup [.int a, .str (S r), .int b])) ar (.lst (as ++ [.ref p]))) := by
  have m : Mv y ar ot H (upd (upd H p (.tup [.int a, .str (S r), .int b])) ar (.lst (as ++ [.ref p]))) := (Mv.of (Same.new hp)).at2
  have s := Same.new (o := .tup [.int a, .str (S r), .int b]) hp
  obtain ⟨a1, a2⟩ := l.apart
  obtain ⟨q1, q2, _⟩ := l.qne
  obtain ⟨dx, o⟩ := l.obj
  obtain ⟨as', e', c⟩ := l.arr
  obtain ⟨kvs, f, g⟩ := l.parts
  rw [e] at e'
  cases e'
  refine ⟨⟨⟨dx, upd_oth (s _ _ o) a1.symm⟩, ⟨as ++ [.ref p], upd_same, ?_⟩, upd_oth (s _ _ l.oth) l.ne.symm, ⟨kvs, upd_oth (s _ _ f) q2, l.prt m g⟩, l.ne, l.ob⟩, m⟩
  show DpAll K _ _ ((st.arr ++ [(a, r, b)]).map arD)
  rw [List.map_append]
  have pa : p ≠ ar := (ne_of_none e hp).symm
  exact dpAll_snoc (dpAll_mono (fun _ _ => l.sqT m) _ _ (noLs_arD _) c) (.tup (SqT.of (upd_oth upd_same pa)) (.cons (.int _) (.cons (.str _) (.cons (.int _) .nil))))
theorem Ly.pushed (l : Ly C K H y q ar ot ps st) {as : List V} {p : Addr} {a b : Nat} (r : List Nat) {Q : VK} (e : H ar = some (.lst as)) (bd : st.arr.length ≤ 10000) (hp : H p = none)
    (k : ∀ H', Mv y ar ot H H' → Ly C K H' y q ar ot ps (st.push a r b) → Q .non H') : rAppend (.ref ar) [.ref p] (upd H p (.tup [.int a, .str (S r), .int b])) Q := by
  have al : as.length ≤ 1000000 := by
    obtain ⟨as', e', c⟩ := l.arr
    rw [e] at e'
    cases e'
    have := dpAll_len c
    rw [List.length_map] at this; omega
  obtain ⟨l2, m2⟩ := l.push (r := r) (a := a) (b := b) e hp
  exact app (upd_old e hp) al (k _ m2 l2)
/-- a place more that is other -/
theorem Ly.other (l : Ly C K H y q ar ot ps st) {os : List V} {n : Nat} (hb : st.oth.length + 1 ≤ st.many) (e : H ot = some (.lst os)) : Ly C K (upd H ot (.lst (os ++ [.int n]))) y q ar ot ps { st with oth := st.oth ++ [n] } ∧ Mv y ar ot H (upd H ot (.lst (os ++ [.int n]))) := by
  have m : Mv y ar ot H (upd H ot (.lst (os ++ [.int n]))) := (Mv.refl _ _ _ _).at3
  obtain ⟨a1, a2⟩ := l.apart
  obtain ⟨q1, q2, q3⟩ := l.qne
  obtain ⟨dx, o⟩ := l.obj
  obtain ⟨as, r, c⟩ := l.arr
  obtain ⟨kvs, f, g⟩ := l.parts
  have e2 := l.oth
  rw [e] at e2
  cases e2
  refine ⟨⟨⟨dx, upd_oth o a2.symm⟩, ⟨as, upd_oth r l.ne, dpAll_mono (fun _ _ => l.sqT m) _ _ (noLs_arD _) c⟩, ?_, ⟨kvs, upd_oth f q3, l.prt m g⟩, l.ne, by show (st.oth ++ [n]).length ≤ st.many; rw [List.length_append]; exact hb⟩, m⟩
  rw [List.map_append]; exact upd_same
theorem Mv.same {G : Hp} (m : Mv y ar ot H' G) (s : Same H H') (n1 : H y = none) (n2 : H ar = none) (n3 : H ot = none) : Same H G := fun b o e => m b o (ne_of_none e n1) (ne_of_none e n2) (ne_of_none e n3) (s b o e)
/-- what a flow is told as -/
def flD (st : LS) : PyData := .tuple [.int st.many, .list (st.arr.map arD)]
end
end GO
/-! Rule: enumerate over a text. -/
namespace L2
open PySem PySem.Spec PyProof.Rows
/-- number and letter, a new pair each, of the text x -/
def IteS (x : Str) : It :=
  ⟨fun i _ => i < x.cps.size,
   fun i G v G' => ∃ T c, v = .ref T ∧ G T = none ∧ G' = upd G T (.tup [.int (i : Nat), .str ⟨#[c]⟩]) ∧ x.cps[i]? = some c,
   fun i _ => i = x.cps.size⟩
theorem turn_enumS {P : Program} {w : World} {K : PySem.W.Frag} {es : List Expr} {kk : Nat} {tp : Pos} {x : Str} {t : Tok} {e it : Addr} (ne : it ≠ e) :
    Turn P w K (.Tuple es kk tp) (IteS x) [e, it] e (fun i h => (∃ old, IsEnum h e it ((i : Nat) : Int) old) ∧ h.IsStrIter it (strIterType x) x t i) where
  mem := List.mem_cons_self
  obj := fun i h st b hb => by
    obtain ⟨⟨old, he⟩, o, ho, _, hd⟩ := st
    rcases List.mem_cons.mp hb with z | z
    · subst z; exact ⟨_, he, fun v q => nomatch q⟩
    · rw [List.mem_singleton.mp z]
      exact ⟨o, ho, fun v q => by rw [hd] at q; cases q⟩
  keep := fun i h h' st k => by
    obtain ⟨⟨old, he⟩, o, ho, r⟩ := st
    exact ⟨⟨old, k e List.mem_cons_self _ he⟩, o, k it (by simp) o ho, r⟩
  item := by
    intro X hP hw hK hc i pins s σ G E I hf st hg
    subst hP hw hK
    obtain ⟨⟨old, he⟩, hit⟩ := st
    have hi : i < x.cps.size := hg
    have el : e < s.heap.objs.size := Heap.lt_size he
    have il : it < s.heap.objs.size := by obtain ⟨_, q, _⟩ := hit; exact Heap.lt_size q
    refine wpAny_pyNext_enum_itemD (Draws.text (A := X.A.in1) (I.ok.hd hc) it x t) he hit hi ne.symm (by simp [ne.symm]) fun y h' tk hx ho hst hT hsz hk => ?_
    obtain ⟨c, k1, hc1, rfl⟩ := hx
    refine ⟨_, rfl, wpAny_letOwnedTupleGo_enum (s := { s with heap := h', toks := tk + 1 }) ho fun h2 he2 sb => ?_⟩
    have hT2 : h2.get? s.heap.objs.size = some { cls := .type "tuple", data := .seq #[.int i tk, .str ⟨#[c]⟩ k1] } := (sb.2 _ (Nat.ne_of_gt el)).trans hT
    have fresh : ObjOk X.prog X.w (upd G s.heap.objs.size (.tup [.int (i : Nat), .str ⟨#[c]⟩])) h2 s.heap.objs.size (.tup [.int (i : Nat), .str ⟨#[c]⟩]) :=
      ⟨by show 2 ≤ sizeLine; decide, [.int i tk, .str ⟨#[c]⟩ k1], .cons ⟨tk, rfl⟩ (.cons ⟨k1, rfl⟩ .nil), ⟨_, hT2, rfl, _, rfl⟩⟩
    have J : Inv X pins σ (upd G s.heap.objs.size (.tup [.int (i : Nat), .str ⟨#[c]⟩])) { s with heap := h2, toks := tk + 1 } :=
      I.turnedNew (t' := tk + 1) (ch := [e, it]) (fun b o nb q => (sb.2 b (fun z => nb (by simp [z]))).trans (hk b o (fun z => nb (by simp [z])) (fun z => nb (by simp [z])) q)) hf (Nat.le_refl _) fresh
    refine ⟨.ref s.heap.objs.size, _, J, rfl, ⟨_, c, rfl, I.hok.fresh (Nat.le_refl _), rfl, hc1⟩, ⟨⟨.str ⟨#[c]⟩ k1, ?_⟩, ?_⟩, fun b hb => ?_⟩
    · rw [show ((i + 1 : Nat) : Int) = (i : Int) + 1 by omega]; exact he2
    · obtain ⟨o, q, r⟩ := hst; exact ⟨o, (sb.2 it ne).trans q, r⟩
    · have bl : b < s.heap.objs.size := by
        rcases List.mem_cons.mp hb with z | z
        · rw [z]; exact el
        · rw [List.mem_singleton.mp z]; exact il
      rw [upd_ne (Nat.ne_of_lt bl)]; exact (hf b hb).1
  done := by
    intro X hP hw hK hc i pins s σ G E I hf st hg
    subst hP hw hK
    obtain ⟨⟨old, he⟩, hit⟩ := st
    obtain ⟨f0, f1, f2, f3, f4, f5⟩ := hf it (by simp)
    have hl : i = x.cps.size := hg
    subst hl
    exact wpAny_pyNext_enum_endD (Draws.text (A := X.A.in1) (I.ok.hd hc) it x t) he hit fun h' eb => ⟨rfl, I.turned (t' := s.toks) (fun b o nb q => eb b o nb q) f0 f1 f3 f4 f5⟩
  self := fun A i s Q E st h => wpAny_pyIter_enum st.1.choose_spec h
def iEnumS (ta : TA) : TI := fun σ G R => ta σ G fun vs G1 => ∃ x, vs = [.str x] ∧ R (IteS x) G1
theorem pi_enumS {X : Cx} {x : Expr} {ta : TA} {p cp tp : Pos} {es : List Expr} {kk : Nat} (hg : Gl X "enumerate") (hm : X.mg "enumerate" = none) (ha : PA X [x] ta) (hs : starEach [x] X.env = [(false, eval x X.env)] := by rfl) :
    PI X (.Tuple es kk tp) (.Call (.Name "enumerate" p) [x] [] cp) (iEnumS ta) := by
  refine ⟨fun pins s σ G R I h => ?_⟩
  refine Call_ (ld_blt I hg hm boot_enumerate (PyProof.Rows.callWith_type1 (thn (ha.run cp pins s σ G _ I h) fun us s1 ⟨vs, G1, I1, r1, q1⟩ => ?_) hs rfl))
  obtain ⟨z, ex, q⟩ := q1
  subst ex
  obtain ⟨u1, rfl, r⟩ := vals1 r1
  obtain ⟨t1, rfl⟩ := r
  refine call_enum_begins (begins_text z t1) trivial fun h' he hit hk => wpAny_pyIter_enum he ?_
  have I2 : Inv X pins σ G1 { s1 with heap := h' } := I1.kept (t' := s1.toks) hk
  refine ⟨s1.heap.objs.size + 1, [s1.heap.objs.size + 1, s1.heap.objs.size], _, _, G1, rfl, I2, turn_enumS (t := t1) (Nat.ne_of_lt (Nat.lt_succ_self _)), ⟨⟨.none, he⟩, ⟨_, hit, rfl, rfl⟩⟩, fun b hb => ?_, q⟩
  have le : s1.heap.objs.size ≤ b := by
    rcases List.mem_cons.mp hb with z | z
    · rw [z]; exact Nat.le_add_right _ _
    · rw [List.mem_singleton.mp z]; exact Nat.le_refl _
  exact I1.fpOk le (I1.hok.fresh le)
theorem walk_enumS {x : Str} {n : Nat} (hn : n = x.cps.size) : Walk (IteS x) n (fun _ => True)
    (fun i G v G' => ∃ T c, v = .ref T ∧ G T = none ∧ G' = upd G T (.tup [.int (i : Nat), .str ⟨#[c]⟩]) ∧ x.cps[i]? = some c) :=
  ⟨fun i _ hi _ => (show i < x.cps.size by rw [← hn]; exact hi), fun _ _ => hn, fun _ _ _ _ _ _ z => z⟩
end L2
namespace GO
open PySem L2 PyProof.Rows RB
/-- what a walk over enumerate(text), enumerate(tuple) asks -/
def IES (vs : List V) (R : It → Hp → Prop) (H : Hp) : Prop := ∃ x, vs = [.str x] ∧ R (IteS x) H
def IET (K : PySem.W.Frag) (vs : List V) (R : It → Hp → Prop) (H : Hp) : Prop := ∃ t ys, vs = [.ref t] ∧ SqT K H t ys ∧ R (IteT K t) H
theorem ienS {σ : L2.St} {H : Hp} {R : It → Hp → Prop} {ta : TA} (k : ta σ H fun vs H1 => IES vs R H1) : iEnumS ta σ H R := k
theorem ienT {K : PySem.W.Frag} {σ : L2.St} {H : Hp} {R : It → Hp → Prop} {ta : TA} (k : ta σ H fun vs H1 => IET K vs R H1) : iEnumT K ta σ H R := k
theorem ieS {H : Hp} {R : It → Hp → Prop} {x : Str} (k : R (IteS x) H) : IES [.str x] R H := ⟨x, rfl, k⟩
theorem ieT {K : PySem.W.Frag} {H : Hp} {R : It → Hp → Prop} {t : Addr} {ys : List V} (h : SqT K H t ys) (k : R (IteT K t) H) : IET K [.ref t] R H := ⟨t, ys, rfl, h, k⟩
theorem walk_enS {l : List Nat} : Walk (IteS (S l)) l.length (fun _ => True) (fun i G v G' => ∃ T c, v = .ref T ∧ G T = none ∧ G' = upd G T (.tup [.int (i : Nat), .str (S [c])]) ∧ l[i]? = some c) := by
  have e : l.length = (S l).cps.size := (S_len l).symm
  have w := walk_enumS e
  refine ⟨w.goes, w.stops, fun i G v G' hi q z => ?_⟩
  obtain ⟨T, c, h1, h2, h3, h4⟩ := w.yields i G v G' hi q z
  exact ⟨T, c, h1, h2, h3, by simpa [S] using h4⟩
/-- the i-th stop -/
theorem at_rng {f : Nat → V} {n i : Nat} {j : Int} (h : i < n) (e : j = i) : atI ((List.range n).map f) j = some (f i) := atI_int e (by rw [List.getElem?_map, List.getElem?_range h]; rfl)
theorem ifT {i : Decidable True} {A B : Prop} (k : A) : @ite Prop True i A B := by
  rw [if_pos trivial]; exact k
theorem ifF {i : Decidable False} {A B : Prop} (k : B) : @ite Prop False i A B := by
  rw [if_neg id]; exact k
end GO
/-! How much is laid at most. -/
namespace PG
open PySem L2 RB
/-- at most so many places and arrows more -/
def Le (st st' : LS) (z : Nat × Nat) : Prop := st'.many ≤ st.many + z.1 ∧ st'.arr.length ≤ st.arr.length + z.2
theorem Le.refl (st : LS) : Le st st (0, 0) := ⟨Nat.le_refl _, Nat.le_refl _⟩
theorem Le.trans {a b c : LS} {x y z : Nat × Nat} (h : Le a b x) (k : Le b c y) (e1 : x.1 + y.1 ≤ z.1) (e2 : x.2 + y.2 ≤ z.2) : Le a c z := by
  obtain ⟨h1, h2⟩ := h
  obtain ⟨k1, k2⟩ := k
  exact ⟨by omega, by omega⟩
theorem Le.up {a b : LS} {x z : Nat × Nat} (h : Le a b x) (e1 : x.1 ≤ z.1) (e2 : x.2 ≤ z.2) : Le a b z := ⟨by have := h.1; omega, by have := h.2; omega⟩
theorem Le.push (st : LS) (p : Nat) (r : List Nat) (q : Nat) : Le st (st.push p r q) (0, 1) := ⟨Nat.le_refl _, by show (st.arr ++ [_]).length ≤ _; rw [List.length_append]; exact Nat.le_refl _⟩
theorem Le.more (st : LS) (k : Nat) : Le st { st with many := st.many + k } (k, 0) := ⟨Nat.le_refl _, Nat.le_refl _⟩
theorem run_ub {f : T → Nat → Nat → LS → LS} {g : Nat → Nat} : ∀ {b : List T} {i : Nat} {st : LS}, (∀ s ∈ b, ∀ p q st, Le st (f s p q st) (szS s)) → Le st (run f g b i st) (szL b)
  | [], _, st, _ => Le.refl st
  | s :: r, i, st, h => by
    refine (h s List.mem_cons_self (g i) (g (i + 1)) st).trans (run_ub (i := i + 1) fun x hx => h x (List.mem_cons_of_mem _ hx)) ?_ ?_ <;> simp only [szL] <;> omega
theorem blk_ub {f : T → Nat → Nat → LS → LS} {b : List T} {p q : Nat} {st : LS} (h : ∀ s ∈ b, ∀ p q st, Le st (f s p q st) (szS s)) : Le st (blk f b p q st) (szB b) := by
  unfold blk
  split
  · rename_i e
    refine (Le.push st p [] q).up ?_ ?_ <;> simp [szB, e]
  · rename_i e
    refine (Le.more st (b.length - 1)).trans (run_ub h) ?_ ?_ <;> simp only [szB, if_neg e] <;> omega
theorem rowR_ub {g : Nat → Nat} : ∀ {r : List Nat} {i : Nat} {st : LS}, Le st (rowR g r i st) (0, r.length)
  | [], _, st => Le.refl st
  | c :: r, i, st => by
    refine (Le.push st (g i) [c] (g (i + 1))).trans (rowR_ub (r := r) (i := i + 1)) ?_ ?_ <;> simp only [List.length_cons] <;> omega
theorem layR_ub {r : List Nat} {p q : Nat} {st : LS} : Le st (layR r p q st) (szS (.dot r)) := by
  unfold layR
  split
  · rename_i e
    subst e
    exact (Le.push st p [] q).up (Nat.le_refl _) (Nat.le_refl _)
  · rename_i e
    have : 1 ≤ r.length := List.length_pos_iff.mpr e
    refine (Le.more st (r.length - 1)).trans rowR_ub ?_ ?_ <;> simp only [szS] <;> omega
theorem eits_ub {f : List T → Nat → Nat → LS → LS} {p q : Nat} : ∀ {bs : List (List T)} {st : LS}, (∀ b ∈ bs, ∀ p q st, Le st (f b p q st) (szB b)) → Le st (eits f p q bs st) (szBs bs)
  | [], st, _ => Le.refl st
  | b :: r, st, h => by
    refine (h b List.mem_cons_self p q st).trans (eits_ub (bs := r) fun x hx => h x (List.mem_cons_of_mem _ hx)) ?_ ?_ <;> simp only [szBs, szB] <;> omega
theorem oths_ub {f : List T → Nat → Nat → LS → LS} {m q : Nat} : ∀ {bs : List (List T)} {st : LS}, (∀ b ∈ bs, ∀ p q st, Le st (f b p q st) (szB b)) → Le st (oths f m q bs st) ((szBs bs).1 + bs.length, (szBs bs).2 + bs.length)
  | [], st, _ => Le.refl st
  | b :: r, st, h => by
    have h1 : Le st (({ st with many := st.many + 1 } : LS).push m [] st.many) (1, 1) := (Le.more st 1).trans (Le.push _ _ _ _) (Nat.le_refl _) (Nat.le_refl _)
    have h2 := h1.trans (h b List.mem_cons_self st.many q _) (z := (1 + (szB b).1, 1 + (szB b).2)) (Nat.le_refl _) (Nat.le_refl _)
    refine h2.trans (oths_ub (bs := r) fun x hx => h x (List.mem_cons_of_mem _ hx)) ?_ ?_ <;> simp only [szBs, szB, List.length_cons] <;> omega
theorem lay_ub : ∀ {n : Nat} {t : T} {p q : Nat} {st : LS}, Le st (lay n t p q st) (szS t)
  | 0, .dot r, p, q, st => by simp only [lay]; exact layR_ub
  | n + 1, .dot r, p, q, st => by simp only [lay]; exact layR_ub
  | 0, .alt _ _, _, _, st => by simp only [lay]; exact (Le.refl st).up (Nat.zero_le _) (Nat.zero_le _)
  | 0, .loop _, _, _, st => by simp only [lay]; exact (Le.refl st).up (Nat.zero_le _) (Nat.zero_le _)
  | 0, .undo _, _, _, st => by simp only [lay]; exact (Le.refl st).up (Nat.zero_le _) (Nat.zero_le _)
  | 0, .part _ _, _, _, st => by simp only [lay]; exact (Le.refl st).up (Nat.zero_le _) (Nat.zero_le _)
  | n + 1, .alt false bs, p, q, st => by
    simp only [lay]
    refine (eits_ub fun b _ p q st => blk_ub fun s _ p q st => lay_ub).up ?_ ?_ <;> simp [szS]
  | n + 1, .alt true bs, p, q, st => by
    simp only [lay]
    have h1 : Le st (({ st with many := st.many + 1, oth := st.oth ++ [st.many] } : LS).push p [] st.many) (1, 1) := ⟨Nat.le_refl _, (Le.push _ _ _ _).2⟩
    refine h1.trans (oths_ub fun b _ p q st => blk_ub fun s _ p q st => lay_ub) ?_ ?_ <;> simp [szS] <;> omega
  | n + 1, .loop b, p, q, st => by
    simp only [lay]
    have h1 : Le st (({ st with many := st.many + 1 } : LS).push p [] st.many) (1, 1) := ⟨Nat.le_refl _, (Le.push _ _ _ _).2⟩
    have h2 := h1.trans (blk_ub (f := lay n) (b := b) (p := st.many) (q := st.many) fun s _ p q st => lay_ub) (z := (1 + (szB b).1, 1 + (szB b).2)) (Nat.le_refl _) (Nat.le_refl _)
    refine h2.trans (Le.push _ _ _ _) ?_ ?_ <;> simp only [szS, szB] <;> omega
  | n + 1, .undo b, p, q, st => by
    simp only [lay]
    refine (blk_ub fun s _ p q st => lay_ub).up ?_ ?_ <;> rw [szB_un] <;> simp only [szS, szB] <;> exact Nat.le_refl _
  | n + 1, .part _ b, p, q, st => by
    simp only [lay]
    refine (blk_ub fun s _ p q st => lay_ub).up ?_ ?_ <;> simp only [szS, szB] <;> exact Nat.le_refl _
theorem nmL_mem {x : List Nat} : ∀ {b : List T}, x ∈ nmL b → ∃ s ∈ b, x ∈ nmS s
  | [], h => by simp [nmL] at h
  | s :: r, h => by
    rcases List.mem_append.mp (by simpa only [nmL] using h) with z | z
    · exact ⟨s, List.mem_cons_self, z⟩
    · obtain ⟨t, h1, h2⟩ := nmL_mem z
      exact ⟨t, List.mem_cons_of_mem _ h1, h2⟩
theorem nmBs_mem {x : List Nat} : ∀ {bs : List (List T)}, x ∈ nmBs bs → ∃ b ∈ bs, x ∈ nmL b
  | [], h => by simp [nmBs] at h
  | s :: r, h => by
    rcases List.mem_append.mp (by simpa only [nmBs] using h) with z | z
    · exact ⟨s, List.mem_cons_self, z⟩
    · obtain ⟨t, h1, h2⟩ := nmBs_mem z
      exact ⟨t, List.mem_cons_of_mem _ h1, h2⟩
theorem nmL_few {N : Nat} : ∀ {b : List T}, (∀ s ∈ b, (nmS s).length ≤ N) → (nmL b).length ≤ b.length * N
  | [], _ => by simp [nmL]
  | s :: r, h => by
    have h1 := h s List.mem_cons_self
    have h2 := nmL_few (N := N) (b := r) fun t ht => h t (List.mem_cons_of_mem _ ht)
    simp only [nmL, List.length_append, List.length_cons, Nat.add_mul, Nat.one_mul]
    omega
theorem nmBs_few {N : Nat} : ∀ {bs : List (List T)}, (∀ b ∈ bs, (nmL b).length ≤ N) → (nmBs bs).length ≤ bs.length * N
  | [], _ => by simp [nmBs]
  | s :: r, h => by
    have h1 := h s List.mem_cons_self
    have h2 := nmBs_few (N := N) (bs := r) fun t ht => h t (List.mem_cons_of_mem _ ht)
    simp only [nmBs, List.length_append, List.length_cons, Nat.add_mul, Nat.one_mul]
    omega
/-- the blocks in a statement, what is counted beside them -/
def blkOf : T → List (List T)
  | .dot _ => []
  | .alt _ bs => bs
  | .loop b => [b]
  | .undo b => [b]
  | .part _ b => [b]
def moOf : T → Nat
  | .alt true bs => 1 + bs.length
  | .loop _ => 1
  | _ => 0
def lpOf : T → Nat
  | .loop _ => 1
  | _ => 0
theorem szBs_one (b : List T) : szBs [b] = szB b := by simp only [szBs, szB, Nat.add_zero]
theorem szS_of {t : T} (h : ∀ r, t ≠ .dot r) : szS t = ((szBs (blkOf t)).1 + moOf t, (szBs (blkOf t)).2 + moOf t + lpOf t) := by
  cases t with
  | dot r => exact absurd rfl (h r)
  | alt o bs => cases o <;> simp [szS, blkOf, moOf, lpOf]
  | loop b => simp only [szS, blkOf, moOf, lpOf, szBs_one, szB]
  | undo b => simp only [szS, blkOf, moOf, lpOf, szBs_one, szB, Nat.add_zero]
  | part n b => simp only [szS, blkOf, moOf, lpOf, szBs_one, szB, Nat.add_zero]
theorem R.blks {d : List Nat} {ps : List Nat → Option (List T)} {n : Nat} {t : T} (h : R d ps n t) : (blkOf t).length ≤ 4 ∧ ∀ b ∈ blkOf t, ∃ m, n = m + 1 ∧ RB_ d ps m b := by
  cases h with
  | dot _ _ _ => exact ⟨Nat.zero_le _, fun b hb => nomatch hb⟩
  | alt _ h4 h8 h => exact ⟨h4, fun b hb => ⟨_, rfl, h8 b hb, h b hb⟩⟩
  | loop h8 h => exact ⟨show 1 ≤ 4 by decide, fun b hb => by rw [List.mem_singleton.mp hb]; exact ⟨_, rfl, h8, h⟩⟩
  | undo h8 h => exact ⟨show 1 ≤ 4 by decide, fun b hb => by rw [List.mem_singleton.mp hb]; exact ⟨_, rfl, h8, h⟩⟩
  | part _ h8 h => exact ⟨show 1 ≤ 4 by decide, fun b hb => by rw [List.mem_singleton.mp hb]; exact ⟨_, rfl, h8, h⟩⟩
end PG
namespace L2
open PySem PySem.Spec PyProof.Rows
theorem slTA {X : Cx} {K : PySem.W.Frag} (q : X.K = K) : SlR X (rSlA K) := q ▸ sl_tupA
end L2
namespace GO
open PySem L2 PyProof.Rows RB PG
theorem cutN {K : PySem.W.Frag} {H : Hp} {Q : VK} {a : Addr} {xs : List V} {j : Int} (n : Nat) (e : j = n) (h : SqT K H a xs) (k : ∀ p H', Same H H' → SqT K H' p (xs.take n) → Q (.ref p) H') : rSlA K (.ref a) none (some j) H Q := by
  subst e
  refine ⟨a, xs, rfl, h, fun w => k a H (Same.refl _) ?_, fun _ p hp => ?_⟩
  · rw [← cutV_to]
    unfold cutV
    rw [w.1, w.2]
    simpa using h
  · rw [cutV_to]
    exact k p _ (Same.new hp) (.inl (.inl upd_same))
end GO
/-! Flows, sizes and depths of what is undone. -/
namespace PG
open PySem L2 RB
theorem flow_one (n : Nat) (s : T) : flowOf n [s] = lay n s 0 1 ⟨2, [], []⟩ := blk_one _ _ _ _ _
theorem un_one (s : T) : unL [s] = [unS s] := by simp only [unL, List.nil_append]
theorem lay_undo (n : Nat) (b : List T) : lay (n + 1) (.undo b) = blk (lay n) (unL b) := by funext p q st; simp only [lay]
theorem lay_either (n : Nat) (b : List T) : lay (n + 1) (.alt false [b]) = blk (lay n) b := by funext p q st; simp only [lay]; rfl
theorem flow_undo {d : List Nat} {ps : List Nat → Option (List T)} {b : List T} (h : RB_ d ps 19 b) : flowOf 20 [.undo b] = flowOf 20 (unL b) := by
  rw [flow_one, lay_undo]
  unfold flowOf
  rw [blk_le h.un (show 19 ≤ 20 by decide)]
theorem flow_either {d : List Nat} {ps : List Nat → Option (List T)} {b : List T} (h : RB_ d ps 19 b) : flowOf 20 [.alt false [b]] = flowOf 20 b := by
  rw [flow_one, lay_either]
  unfold flowOf
  rw [blk_le h (show 19 ≤ 20 by decide)]
theorem flow_undo2 {d : List Nat} {ps : List Nat → Option (List T)} {b : List T} (h : RB_ d ps 18 b) : flowOf 20 [.undo [.undo b]] = flowOf 20 b := by
  rw [flow_one, lay_undo, un_one]
  rw [show unS (.undo b) = .alt false [b] by simp only [unS]]
  rw [blk_one, lay_either]
  unfold flowOf
  rw [blk_le h (show 18 ≤ 20 by decide)]
theorem flow_part {d : List Nat} {ps : List Nat → Option (List T)} {b : List T} {m : List Nat} (h : RB_ d ps 18 b) : flowOf 20 [.undo [.part m b]] = flowOf 20 [.undo b] := by
  rw [flow_undo (h.le (show 18 ≤ 19 by decide)), flow_one, lay_undo, un_one]
  rw [show unS (.part m b) = .undo b by simp only [unS]]
  rw [blk_one, lay_undo]
  unfold flowOf
  rw [blk_le h.un (show 18 ≤ 20 by decide)]
theorem sz_undo (b : List T) : szB [.undo b] = szB b := by simp [szB, szL, szS]
theorem sz_either (b : List T) : szB [.alt false [b]] = szB b := by simp [szB, szL, szS, szBs]
theorem sz_part (m : List Nat) (b : List T) : szB [.part m b] = szB b := by simp [szB, szL, szS]
theorem un_app (a b : List T) : unL (a ++ b) = unL b ++ unL a := by rw [unL_map, unL_map, unL_map, List.map_append, List.reverse_append]
theorem sz_app (a b : List T) : (szB (a ++ b)).1 ≤ (szB a).1 + (szB b).1 + 1 ∧ (szB (a ++ b)).2 ≤ (szB a).2 + (szB b).2 := by
  simp only [szB, szL_app, List.length_append]
  refine ⟨by omega, ?_⟩
  by_cases e : a = []
  · subst e
    simp only [List.nil_append, szL, Nat.zero_add]
    split <;> omega
  · by_cases f : b = []
    · subst f
      simp only [List.append_nil, szL, Nat.add_zero, e, if_false]
      omega
    · simp [e, f]
theorem dep_undo (b : List T) : depL [.undo b] = 1 + depL b := by simp [depL, depS]
theorem dep_either (b : List T) : depL [.alt false [b]] = 1 + depL b := by simp [depL, depS, depBs]
theorem depS_un {d : List Nat} {ps : List Nat → Option (List T)} (hp : ∀ m b, ps m = some b → depL b ≤ 1) {n : Nat} {t : T} (h : R d ps n t) : depS (unS t) ≤ depS t + 2 ∧ depS (unS (unS t)) ≤ depS t + 2 := by
  have bl : ∀ {b : List T}, (∀ s ∈ b, depS (unS s) ≤ depS s + 2 ∧ depS (unS (unS s)) ≤ depS s + 2) → depL (unL b) ≤ depL b + 2 ∧ depL (unL (unL b)) ≤ depL b + 2 := fun {b} h => by
    have k := depL_le.mp (Nat.le_refl (depL b))
    refine ⟨depL_le.mpr fun s hs => ?_, depL_le.mpr fun s hs => ?_⟩
    · obtain ⟨t, ht, rfl⟩ := unL_mem.mp hs
      have := (h t ht).1; have := k t ht; omega
    · obtain ⟨t, ht, rfl⟩ := unL_mem.mp hs
      obtain ⟨t2, ht2, rfl⟩ := unL_mem.mp ht
      have := (h t2 ht2).2; have := k t2 ht2; omega
  induction h with
  | dot _ _ _ => simp [unS, depS]
  | @alt n o bs _ _ _ _ ih =>
    simp only [unS, depS, unBs_map, List.map_map]
    have k := depBs_le.mp (Nat.le_refl (depBs bs))
    have k1 : depBs (bs.map unL) ≤ depBs bs + 2 := depBs_le.mpr fun b hb => by
      obtain ⟨b0, hb0, rfl⟩ := List.mem_map.mp hb
      have := (bl (ih b0 hb0)).1; have := k b0 hb0; omega
    have k2 : depBs (bs.map (unL ∘ unL)) ≤ depBs bs + 2 := depBs_le.mpr fun b hb => by
      obtain ⟨b0, hb0, rfl⟩ := List.mem_map.mp hb
      have := (bl (ih b0 hb0)).2; have := k b0 hb0
      show depL (unL (unL b0)) ≤ _
      omega
    omega
  | @loop n b _ _ ih =>
    have := bl ih
    simp only [unS, depS]; omega
  | @undo n b _ _ ih =>
    have := bl ih
    simp only [unS, unBs, depS, depBs]; omega
  | @part n m b e _ _ ih =>
    have := hp m b e
    simp only [unS, depS, depBs]; omega
theorem depL_un {d : List Nat} {ps : List Nat → Option (List T)} (hp : ∀ m b, ps m = some b → depL b ≤ 1) {n : Nat} {b : List T} (h : ∀ s ∈ b, R d ps n s) : depL (unL b) ≤ depL b + 2 ∧ depL (unL (unL b)) ≤ depL b + 2 := by
  have k := depL_le.mp (Nat.le_refl (depL b))
  refine ⟨depL_le.mpr fun s hs => ?_, depL_le.mpr fun s hs => ?_⟩
  · obtain ⟨t, ht, rfl⟩ := unL_mem.mp hs
    have := (depS_un hp (h t ht)).1; have := k t ht; omega
  · obtain ⟨t, ht, rfl⟩ := unL_mem.mp hs
    obtain ⟨t2, ht2, rfl⟩ := unL_mem.mp ht
    have := (depS_un hp (h t2 ht2)).2; have := k t2 ht2; omega
end PG
/-! Flows as data: their letters, two flows compared; blocks made anew. -/
namespace PG
open PySem L2 RB
/-- every arrow's row is one of letters -/
def AL (st : LS) : Prop := ∀ a ∈ st.arr, Ls a.2.1
theorem AL.push {st : LS} {p q : Nat} {r : List Nat} (h : AL st) (hr : Ls r) : AL (st.push p r q) := fun a ha => by
  rcases List.mem_append.mp (show a ∈ st.arr ++ [(p, r, q)] from ha) with z | z
  · exact h a z
  · rw [List.mem_singleton.mp z]; exact hr
theorem ls_nil : Ls [] := fun _ z => nomatch z
theorem run_al {f : T → Nat → Nat → LS → LS} {g : Nat → Nat} : ∀ {b : List T} {i : Nat} {st : LS}, (∀ s ∈ b, ∀ p q st, AL st → AL (f s p q st)) → AL st → AL (run f g b i st)
  | [], _, _, _, h => h
  | s :: r, i, st, k, h => run_al (b := r) (fun x hx => k x (List.mem_cons_of_mem _ hx)) (k s List.mem_cons_self _ _ _ h)
theorem blk_al {f : T → Nat → Nat → LS → LS} {b : List T} {p q : Nat} {st : LS} (k : ∀ s ∈ b, ∀ p q st, AL st → AL (f s p q st)) (h : AL st) : AL (blk f b p q st) := by
  unfold blk
  split
  · exact h.push ls_nil
  · exact run_al k h
theorem rowR_al {g : Nat → Nat} : ∀ {r : List Nat} {i : Nat} {st : LS}, Ls r → AL st → AL (rowR g r i st)
  | [], _, _, _, h => h
  | c :: r, i, st, k, h => rowR_al (r := r) (fun x hx => k x (List.mem_cons_of_mem _ hx)) (h.push fun x hx => by rw [List.mem_singleton.mp hx]; exact k c List.mem_cons_self)
theorem layR_al {r : List Nat} {p q : Nat} {st : LS} (k : Ls r) (h : AL st) : AL (layR r p q st) := by
  unfold layR
  split
  · exact h.push ls_nil
  · exact rowR_al k h
theorem eits_al {f : List T → Nat → Nat → LS → LS} {p q : Nat} : ∀ {bs : List (List T)} {st : LS}, (∀ b ∈ bs, ∀ p q st, AL st → AL (f b p q st)) → AL st → AL (eits f p q bs st)
  | [], _, _, h => h
  | b :: r, st, k, h => eits_al (bs := r) (fun x hx => k x (List.mem_cons_of_mem _ hx)) (k b List.mem_cons_self _ _ _ h)
theorem oths_al {f : List T → Nat → Nat → LS → LS} {m q : Nat} : ∀ {bs : List (List T)} {st : LS}, (∀ b ∈ bs, ∀ p q st, AL st → AL (f b p q st)) → AL st → AL (oths f m q bs st)
  | [], _, _, h => h
  | b :: r, st, k, h => oths_al (bs := r) (fun x hx => k x (List.mem_cons_of_mem _ hx)) (k b List.mem_cons_self _ _ _ (AL.push (st := { st with many := st.many + 1 }) h ls_nil))
theorem lay_al {d : List Nat} {ps : List Nat → Option (List T)} {n : Nat} : ∀ {t : T}, R d ps n t → ∀ p q st, AL st → AL (lay n t p q st) := by
  induction n with
  | zero =>
    intro t h p q st a
    cases h with
    | dot L _ _ => simp only [lay]; exact layR_al L a
  | succ n ih =>
    intro t h p q st a
    have hb : ∀ b : List T, (∀ s ∈ b, R d ps n s) → ∀ p q st, AL st → AL (blk (lay n) b p q st) := fun b k p q st a => blk_al (fun s hs => ih (k s hs)) a
    cases h with
    | dot L _ _ => simp only [lay]; exact layR_al L a
    | @alt _ o bs _ _ _ k => cases o with
      | false => simp only [lay]; exact eits_al (fun b hx => hb b (k b hx)) a
      | true => simp only [lay]; exact oths_al (fun b hx => hb b (k b hx)) (AL.push (st := { st with many := st.many + 1, oth := st.oth ++ [st.many] }) a ls_nil)
    | loop _ k => simp only [lay]; exact (hb _ k _ _ _ (AL.push (st := { st with many := st.many + 1 }) a ls_nil)).push ls_nil
    | @undo _ b _ k =>
      simp only [lay]
      exact hb (unL b) (fun s hs => by
        obtain ⟨t, ht, rfl⟩ := unL_mem.mp hs
        exact (k t ht).un) _ _ _ a
    | part _ _ k => simp only [lay]; exact hb _ k _ _ _ a
theorem flow_al {d : List Nat} {ps : List Nat → Option (List T)} {n : Nat} {b : List T} (h : RB_ d ps n b) : AL (flowOf n b) := blk_al (fun s hs => lay_al (h.2 s hs)) (fun _ z => nomatch z)
theorem ar_lay : ∀ xs : List (Nat × List Nat × Nat), (∀ a ∈ xs, Ls a.2.1) → PyData.canLayAll0 (xs.map GO.arD) = true ∧ PyData.depthAll (xs.map GO.arD) ≤ 1
  | [], _ => ⟨by simp only [List.map_nil, PyData.canLayAll0], by simp only [List.map_nil, PyData.depthAll]; omega⟩
  | x :: r, h => by
    obtain ⟨h1, h2⟩ := ar_lay r fun y hy => h y (List.mem_cons_of_mem _ hy)
    have h3 := ok_S (h x List.mem_cons_self)
    simp only [List.map_cons, GO.arD, PyData.canLayAll0, PyData.canLay0, h1, h3, Bool.and_self, PyData.depth, PyData.depthAll, Nat.max_self]
    exact ⟨trivial, by omega⟩
theorem fl_sh {st : LS} (h : AL st) : SeqAt.shaped (GO.flD st) = true := by
  obtain ⟨h1, h2⟩ := ar_lay st.arr h
  simp only [SeqAt.shaped, GO.flD, PyData.canLay0, PyData.canLayAll0, PyData.depth, PyData.depthAll, h1, Bool.true_and, Bool.and_true]
  exact decide_eq_true (by omega)
/-- two flows that are the same -/
theorem ne_fl {K : PySem.W.Frag} {H : Hp} {Q : VK} {x y : V} {st st' : LS} (h : AL st') (e : st = st') (hx : Dp K H x (GO.flD st)) (hy : Dp K H y (GO.flD st')) (k : Q (.bl false) H) : rNeD K x y H Q := by
  subst e
  exact ⟨_, _, hx, hy, fl_sh h, fl_sh h, by rw [SeqAt.eqv_refl _ (SeqAt.canLay_of_shaped (fl_sh h))]; exact k⟩
theorem eq_fl {K : PySem.W.Frag} {H : Hp} {Q : VK} {x y : V} {st st' : LS} (h : AL st') (e : st = st') (hx : Dp K H x (GO.flD st)) (hy : Dp K H y (GO.flD st')) (k : Q (.bl true) H) : rEqD K x y H Q := by
  subst e
  exact ⟨_, _, hx, hy, fl_sh h, fl_sh h, by rw [SeqAt.eqv_refl _ (SeqAt.canLay_of_shaped (fl_sh h))]; exact k⟩
/-- a statement, a block, made anew -/
theorem stm_new {K : PySem.W.Frag} {H : Hp} {p : Addr} {y : V} {t : T} {z : Str} (e : wS t = z) (k : Dp K H y (iS t)) (hp : H p = none) : Same H (upd H p (.tup [.str z, y])) ∧ Stm K (upd H p (.tup [.str z, y])) (.ref p) t := by
  subst e
  have s := Same.new (o := .tup [.str (wS t), y]) hp
  exact ⟨s, GO.stm_mk (SqT.of upd_same) (dp_same s _ _ k)⟩
theorem blk_new {K : PySem.W.Frag} {H : Hp} {p : Addr} {y : V} {t : T} (k : Stm K H y t) (hp : H p = none) : Same H (upd H p (.tup [y])) ∧ Blk K (upd H p (.tup [y])) (.ref p) [t] := by
  have s := Same.new (o := .tup [y]) hp
  exact ⟨s, .tup (SqT.of upd_same) (by rw [dL_map]; exact .cons (k.same s) .nil)⟩
theorem blk_new2 {K : PySem.W.Frag} {H : Hp} {p : Addr} {y y' : V} {t t' : T} (k : Stm K H y t) (k' : Stm K H y' t') (hp : H p = none) : Same H (upd H p (.tup [y, y'])) ∧ Blk K (upd H p (.tup [y, y'])) (.ref p) [t, t'] := by
  have s := Same.new (o := .tup [y, y']) hp
  exact ⟨s, .tup (SqT.of upd_same) (by rw [dL_map]; exact .cons (k.same s) (.cons (k'.same s) .nil))⟩
theorem bls_new {K : PySem.W.Frag} {H : Hp} {p : Addr} {y : V} {b : List T} (k : Blk K H y b) (hp : H p = none) : Same H (upd H p (.tup [y])) ∧ Dp K (upd H p (.tup [y])) (.ref p) (.tuple (dBs [b])) := by
  have s := Same.new (o := .tup [y]) hp
  exact ⟨s, .tup (SqT.of upd_same) (by rw [dBs_map]; exact .cons (k.same s) .nil)⟩
theorem mk_undo {K : PySem.W.Frag} {H : Hp} {p : Addr} {y : V} {b : List T} (k : Blk K H y b) (hp : H p = none) : Same H (upd H p (.tup [.str "undo", y])) ∧ Stm K (upd H p (.tup [.str "undo", y])) (.ref p) (.undo b) := stm_new (t := .undo b) (z := "undo") rfl k hp
theorem mk_loop {K : PySem.W.Frag} {H : Hp} {p : Addr} {y : V} {b : List T} (k : Blk K H y b) (hp : H p = none) : Same H (upd H p (.tup [.str "loop", y])) ∧ Stm K (upd H p (.tup [.str "loop", y])) (.ref p) (.loop b) := stm_new (t := .loop b) (z := "loop") rfl k hp
theorem mk_either {K : PySem.W.Frag} {H : Hp} {p : Addr} {y : V} {bs : List (List T)} (k : Dp K H y (.tuple (dBs bs))) (hp : H p = none) : Same H (upd H p (.tup [.str "either", y])) ∧ Stm K (upd H p (.tup [.str "either", y])) (.ref p) (.alt false bs) := stm_new (t := .alt false bs) (z := "either") rfl k hp
theorem mk_other {K : PySem.W.Frag} {H : Hp} {p : Addr} {y : V} {bs : List (List T)} (k : Dp K H y (.tuple (dBs bs))) (hp : H p = none) : Same H (upd H p (.tup [.str "other", y])) ∧ Stm K (upd H p (.tup [.str "other", y])) (.ref p) (.alt true bs) := stm_new (t := .alt true bs) (z := "other") rfl k hp
theorem mk_do {K : PySem.W.Frag} {H : Hp} {p : Addr} (l : List Nat) (hp : H p = none) : Same H (upd H p (.tup [.str "do", .str (S l)])) ∧ Stm K (upd H p (.tup [.str "do", .str (S l)])) (.ref p) (.dot l) := stm_new (t := .dot l) (z := "do") rfl (.str _) hp
theorem mk_part {K : PySem.W.Frag} {H : Hp} {p : Addr} (l : List Nat) (b : List T) (hp : H p = none) : Same H (upd H p (.tup [.str "part", .str (S l)])) ∧ Stm K (upd H p (.tup [.str "part", .str (S l)])) (.ref p) (.part l b) := stm_new (t := .part l b) (z := "part") rfl (.str _) hp
end PG
/-! Objects made within a try; how much is laid to the letter; bushes of eithers. -/
namespace GO
open PySem PySem.Spec PyProof.Rows L2 RB PG
section
variable {X : Cx} {CX : CXT} {k : Nat} {f C : Addr} {fd : FuncData} {ps : List Str} {ds : List Value} {dvs : List V} {sp : Sp} {E : L2.St → XK} {x : Str} {p pos : Pos} {e : Expr} {es : List Expr} {t : TA}
def tMakeS (C : Addr) (sp : Sp) (dvs : List V) (E : L2.St → XK) (t : TA) : TE := fun σ H Q => t σ H fun vs H1 => ∀ x dx, H1 x = none → H1 dx = none → dx ≠ x →
  sp (.ref x :: (vs ++ dvs)) (upd (upd H1 dx (.own x)) x (.ins C dx [])) (fun v H2 => v = .non ∧ Q (.ref x) H2) (E σ)
theorem go_makeS {pins : List (Addr × Obj)} {σ : L2.St} {H : Hp} {s0 : Shared} {Q : VK} {us : List Value} {vs : List V} {E0 : XK} (mk : Mk X.K C f) (ok : FnOk X.prog X.w X.K X.mg X.base CX k f fd ps sp) (room : Room (k + 1) X.A) (bi : Binds X.K fd ps ds) (dv : Vals dvs ds)
    (px : PassesAt CX X σ E0) (inv : Inv X pins σ H s0) (vl : Vals vs us)
    (go : ∀ x dx, H x = none → H dx = none → dx ≠ x → sp (.ref x :: (vs ++ dvs)) (upd (upd H dx (.own x)) x (.ins C dx [])) (fun v H2 => v = .non ∧ Q (.ref x) H2) E0) :
    wpAny (model X.prog X.w) X.A (PySem.call (.ref C) us) (EP X pins σ Q) X.xe s0 := by
  let n := s0.heap.objs.size
  have g := go (n + 1) n (inv.hok.fresh (Nat.le_succ _)) (inv.hok.fresh (Nat.le_refl _)) (Nat.ne_of_lt (Nat.lt_succ_self _))
  have inv' := Inv.made (C := C) inv
  have vl' : Vals (V.ref (n + 1) :: (vs ++ dvs)) (Value.ref (n + 1) :: (us ++ ds)) := .cons rfl (vl.append dv)
  have len : (Value.ref (n + 1) :: us ++ ds).length = ps.length := (vl'.length.symm.trans (ok.len _ _ _ _ g) : _)
  have body := ok.run _ X.stack _ _ ⟨Value.ref (n + 1) :: us, []⟩ (Value.ref (n + 1) :: (us ++ ds)) _ _ E0 (room.make C us []) (inv'.env0.make C us []) (bi _ (Value.ref (n + 1) :: us) inv'.kIn len) vl' g
  refine wpAny_call (make_map (f := f) inv.kIn mk.makes mk.init (beq_iff_eq.mp mk.fn) (codeAny_mono body fun res s1 z => ?_))
  match res, z with
  | .error e, z => exact px pins _ _ e s1 inv' z
  | .ok (.ret u), z =>
    obtain ⟨v, H1, inv2, rv, ev, q⟩ := inv'.after z
    subst ev
    exact ⟨rv, ⟨V.ref (n + 1), H1, inv2, rfl, q⟩⟩
  | .ok .next, z => exact z.elim
  | .ok .brk, z => exact z.elim
  | .ok .cont, z => exact z.elim
theorem pe_makeS (M : Mk X.K C f) (F : FnOk X.prog X.w X.K X.mg X.base CX k f fd ps sp) (hr : Room (k + 1) X.A) (hg : Gl X x) (hm : X.mg x = some (.ref C)) (hb : Binds X.K fd ps ds) (hd : Vals dvs ds) (hx : ∀ σ, PassesAt CX X σ (E σ))
    (ha : PA X (e :: es) t) (hdb : (x == ("__debug__" : Str)) = false := by decide) (he : starEach (e :: es) X.env = (false, eval e X.env) :: starEach es X.env := by rfl) (hpl : (backTo pos (starEach es X.env)).any (·.1) = false := by rfl) :
    PE X (.Call (.Name x p) (e :: es) [] pos) (tMakeS C sp dvs E t) := by
  refine ⟨fun pins s σ H Q I h => wpAny_Call_Name_kw (ld_glob I hg hm ?_ hdb)⟩
  refine PySem.W.callWith_K (h₀ := X.base) I.ok.mod.kin M.kp (thn (ha.run pos pins s σ H _ I h) fun us s1 ⟨vs, H1, I1, r, q⟩ => ⟨I1.kIn, ?_⟩) he hpl
  exact go_makeS M F hr hb hd (hx σ) I1 r q
theorem madeS {σ : L2.St} {H : Hp} {Q : VK} (k : t σ H fun vs H1 => ∀ x dx, H1 x = none → H1 dx = none → dx ≠ x → sp (.ref x :: (vs ++ dvs)) (upd (upd H1 dx (.own x)) x (.ins C dx [])) (fun v H2 => v = .non ∧ Q (.ref x) H2) (E σ)) : tMakeS C sp dvs E t σ H Q := k
end
/-- data made item by item -/
def FU (K : PySem.W.Frag) (f : Nat → List PyData) : Nat → List V → Hp → Prop := fun i acc G => DpAll K G acc (f i)
theorem offU {K : PySem.W.Frag} {D : Addr} {f : Nat → List PyData} (hf : ∀ i, noLs (f i) = true) : Off D (FU K f) := fun i acc y xs G e h => by
  unfold FU at h ⊢
  exact dpAll_mono (sqT_off e) _ _ (hf i) h
end GO
namespace PG
open PySem L2 RB
/-- just so many places and arrows more -/
def Ex (st st' : LS) (z : Nat × Nat) : Prop := st'.many = st.many + z.1 ∧ st'.arr.length = st.arr.length + z.2
theorem Ex.trans {a b c : LS} {x y z : Nat × Nat} (h : Ex a b x) (k : Ex b c y) (e1 : x.1 + y.1 = z.1) (e2 : x.2 + y.2 = z.2) : Ex a c z := by
  obtain ⟨h1, h2⟩ := h
  obtain ⟨k1, k2⟩ := k
  exact ⟨by omega, by omega⟩
theorem Ex.re {a b : LS} {x z : Nat × Nat} (h : Ex a b x) (e1 : x.1 = z.1) (e2 : x.2 = z.2) : Ex a b z := ⟨by have := h.1; omega, by have := h.2; omega⟩
theorem Ex.push (st : LS) (p : Nat) (r : List Nat) (q : Nat) : Ex st (st.push p r q) (0, 1) := ⟨rfl, by show (st.arr ++ [_]).length = _; rw [List.length_append]; rfl⟩
theorem Ex.more (st : LS) (k : Nat) : Ex st { st with many := st.many + k } (k, 0) := ⟨rfl, rfl⟩
theorem run_ex {f : T → Nat → Nat → LS → LS} {g : Nat → Nat} : ∀ {b : List T} {i : Nat} {st : LS}, (∀ s ∈ b, ∀ p q st, Ex st (f s p q st) (szS s)) → Ex st (run f g b i st) (szL b)
  | [], _, st, _ => ⟨rfl, rfl⟩
  | s :: r, i, st, h => by
    refine (h s List.mem_cons_self (g i) (g (i + 1)) st).trans (run_ex (i := i + 1) fun x hx => h x (List.mem_cons_of_mem _ hx)) ?_ ?_ <;> simp only [szL]
theorem blk_ex {f : T → Nat → Nat → LS → LS} {b : List T} {p q : Nat} {st : LS} (h : ∀ s ∈ b, ∀ p q st, Ex st (f s p q st) (szS s)) : Ex st (blk f b p q st) (szB b) := by
  unfold blk
  split
  · rename_i e
    refine (Ex.push st p [] q).re ?_ ?_ <;> simp [szB, e, szL]
  · rename_i e
    refine (Ex.more st (b.length - 1)).trans (run_ex h) ?_ ?_ <;> simp only [szB, if_neg e] <;> omega
theorem rowR_ex {g : Nat → Nat} : ∀ {r : List Nat} {i : Nat} {st : LS}, Ex st (rowR g r i st) (0, r.length)
  | [], _, st => ⟨rfl, rfl⟩
  | c :: r, i, st => by
    refine (Ex.push st (g i) [c] (g (i + 1))).trans (rowR_ex (r := r) (i := i + 1)) ?_ ?_ <;> simp only [List.length_cons] <;> omega
theorem layR_ex {r : List Nat} {p q : Nat} {st : LS} : Ex st (layR r p q st) (szS (.dot r)) := by
  unfold layR
  split
  · rename_i e
    subst e
    exact (Ex.push st p [] q).re rfl rfl
  · rename_i e
    have : 1 ≤ r.length := List.length_pos_iff.mpr e
    refine (Ex.more st (r.length - 1)).trans rowR_ex ?_ ?_ <;> simp only [szS] <;> omega
theorem eits_ex {f : List T → Nat → Nat → LS → LS} {p q : Nat} : ∀ {bs : List (List T)} {st : LS}, (∀ b ∈ bs, ∀ p q st, Ex st (f b p q st) (szB b)) → Ex st (eits f p q bs st) (szBs bs)
  | [], st, _ => ⟨rfl, rfl⟩
  | b :: r, st, h => by
    refine (h b List.mem_cons_self p q st).trans (eits_ex (bs := r) fun x hx => h x (List.mem_cons_of_mem _ hx)) ?_ ?_ <;> simp only [szBs, szB]
theorem oths_ex {f : List T → Nat → Nat → LS → LS} {m q : Nat} : ∀ {bs : List (List T)} {st : LS}, (∀ b ∈ bs, ∀ p q st, Ex st (f b p q st) (szB b)) → Ex st (oths f m q bs st) ((szBs bs).1 + bs.length, (szBs bs).2 + bs.length)
  | [], st, _ => ⟨rfl, rfl⟩
  | b :: r, st, h => by
    have h1 : Ex st (({ st with many := st.many + 1 } : LS).push m [] st.many) (1, 1) := (Ex.more st 1).trans (Ex.push _ _ _ _) rfl rfl
    have h2 := h1.trans (h b List.mem_cons_self st.many q _) (z := (1 + (szB b).1, 1 + (szB b).2)) rfl rfl
    refine h2.trans (oths_ex (bs := r) fun x hx => h x (List.mem_cons_of_mem _ hx)) ?_ ?_ <;> simp only [szBs, szB, List.length_cons] <;> omega
theorem lay_ex {d : List Nat} {ps : List Nat → Option (List T)} {n : Nat} : ∀ {t : T}, R d ps n t → ∀ p q st, Ex st (lay n t p q st) (szS t) := by
  induction n with
  | zero =>
    intro t h p q st
    cases h with
    | dot _ _ _ => simp only [lay]; exact layR_ex
  | succ n ih =>
    intro t h p q st
    have hb : ∀ b : List T, (∀ s ∈ b, R d ps n s) → ∀ p q st, Ex st (blk (lay n) b p q st) (szB b) := fun b k p q st => blk_ex fun s hs => ih (k s hs)
    cases h with
    | dot _ _ _ => simp only [lay]; exact layR_ex
    | @alt _ o bs _ _ _ k => cases o with
      | false => simp only [lay]; refine (eits_ex fun b hx => hb b (k b hx)).re ?_ ?_ <;> simp [szS]
      | true =>
        simp only [lay]
        have h1 : Ex st (({ st with many := st.many + 1, oth := st.oth ++ [st.many] } : LS).push p [] st.many) (1, 1) := ⟨rfl, (Ex.push _ _ _ _).2⟩
        refine h1.trans (oths_ex fun b hx => hb b (k b hx)) ?_ ?_ <;> simp [szS] <;> omega
    | @loop _ b _ k =>
      simp only [lay]
      have h1 : Ex st (({ st with many := st.many + 1 } : LS).push p [] st.many) (1, 1) := ⟨rfl, (Ex.push _ _ _ _).2⟩
      have h2 := h1.trans (hb _ k st.many st.many _) (z := (1 + (szB b).1, 1 + (szB b).2)) rfl rfl
      refine h2.trans (Ex.push _ _ _ _) ?_ ?_ <;> simp only [szS, szB] <;> omega
    | @undo _ b _ k =>
      simp only [lay]
      refine (hb (unL b) (fun s hs => by
        obtain ⟨t, ht, rfl⟩ := unL_mem.mp hs
        exact (k t ht).un) p q st).re ?_ ?_ <;> rw [szB_un] <;> simp only [szS, szB]
    | @part _ m b _ _ k =>
      simp only [lay]
      refine (hb _ k p q st).re ?_ ?_ <;> simp only [szS, szB]
theorem flow_ex {d : List Nat} {ps : List Nat → Option (List T)} {n : Nat} {b : List T} (h : RB_ d ps n b) : (flowOf n b).many = 2 + (szB b).1 ∧ (flowOf n b).arr.length = (szB b).2 := by
  obtain ⟨h1, h2⟩ := blk_ex (f := lay n) (b := b) (p := 0) (q := 1) (st := ⟨2, [], []⟩) fun s hs => lay_ex (h.2 s hs)
  exact ⟨h1, by rw [show (flowOf n b).arr.length = _ from h2]; simp⟩
/-! ### bushes -/
def four (m : Nat) : List Nat := [m / 4, (m + 1) / 4, (m + 2) / 4, (m + 3) / 4]
def fours (m : Nat) : List Nat := (four m).filter (0 < ·)
def bush : Nat → Nat → List T → List T
  | 0, _, e => e
  | n + 1, m, e => if m = 1 then e else [.alt false ((fours m).map fun p => bush n p e)]
theorem four_sum (m : Nat) : (four m).sum = m := by simp [four]; omega
theorem fours_sum (m : Nat) : (fours m).sum = m := by
  have : ∀ l : List Nat, (l.filter (0 < ·)).sum = l.sum := fun l => by
    induction l with
    | nil => rfl
    | cons a r ih =>
      rw [List.filter_cons, List.sum_cons, ← ih]
      split
      · rw [List.sum_cons]
      · rename_i h; simp at h; omega
  unfold fours
  rw [this, four_sum]
theorem fours_mem {m p : Nat} (h : p ∈ fours m) : 1 ≤ p ∧ p ≤ (m + 3) / 4 := by
  unfold fours at h
  obtain ⟨h1, h2⟩ := List.mem_filter.mp h
  simp at h2
  refine ⟨h2, ?_⟩
  simp [four] at h1
  omega
theorem fours_len {m : Nat} (h : 1 ≤ m) : 1 ≤ (fours m).length ∧ (fours m).length ≤ 4 := by
  refine ⟨?_, Nat.le_trans (List.length_filter_le _ _) (by simp [four])⟩
  have : (m + 3) / 4 ∈ fours m := List.mem_filter.mpr ⟨by simp [four], by simp; omega⟩
  exact List.length_pos_iff.mpr (List.ne_nil_of_mem this)
theorem four_pow {m n : Nat} (h : m ≤ 4 ^ (n + 1)) : (m + 3) / 4 ≤ 4 ^ n := by
  rw [Nat.pow_succ] at h; omega
theorem bush_rb {d : List Nat} {ps : List Nat → Option (List T)} {h : Nat} {e : List T} (r : RB_ d ps h e) : ∀ {n m : Nat}, 1 ≤ m → RB_ d ps (h + n) (bush n m e)
  | 0, m, _ => r
  | n + 1, m, m1 => by
    unfold bush
    split
    · exact r.le (by omega)
    · refine ⟨by simp, fun t ht => ?_⟩
      rw [List.mem_singleton.mp ht]
      obtain ⟨l1, l4⟩ := fours_len m1
      refine .alt (by rw [List.length_map]; exact l1) (by rw [List.length_map]; exact l4) (fun b hb => ?_) (fun b hb => ?_)
      · obtain ⟨p, hp, rfl⟩ := List.mem_map.mp hb
        exact (bush_rb r (n := n) (fours_mem hp).1).1
      · obtain ⟨p, hp, rfl⟩ := List.mem_map.mp hb
        exact (bush_rb r (n := n) (fours_mem hp).1).2
theorem bush_dep {e : List T} : ∀ {n m : Nat}, depL (bush n m e) ≤ n + depL e
  | 0, m => by simp [bush]
  | n + 1, m => by
    unfold bush
    split
    · omega
    · simp only [depL, depS]
      have : depBs ((fours m).map fun p => bush n p e) ≤ n + depL e := depBs_le.mpr fun b hb => by
        obtain ⟨p, hp, rfl⟩ := List.mem_map.mp hb
        exact bush_dep
      omega
theorem bush_sz {e : List T} : ∀ {n m : Nat}, 1 ≤ m → m ≤ 4 ^ n → (szB (bush n m e)).2 = m * (szB e).2
  | 0, m, m1, m4 => by
    have : m = 1 := by simp at m4; omega
    subst this; simp [bush]
  | n + 1, m, m1, m4 => by
    unfold bush
    split
    · rename_i h; subst h; simp
    · have k : ∀ l : List Nat, (∀ p ∈ l, 1 ≤ p ∧ p ≤ 4 ^ n) → (szBs (l.map fun p => bush n p e)).2 = l.sum * (szB e).2 := fun l => by
        induction l with
        | nil => intro _; simp [szBs]
        | cons a r ih =>
          intro hl
          have h1 := ih fun p hp => hl p (List.mem_cons_of_mem _ hp)
          have h2 := hl a List.mem_cons_self
          have h3 := bush_sz (e := e) h2.1 h2.2
          simp only [szB] at h3
          simp only [List.map_cons, szBs, h1, h3, List.sum_cons]
          rw [show (if e = [] then 1 else (szL e).2) = (szB e).2 from rfl, Nat.add_mul]
      have k2 := k (fours m) fun p hp => ⟨(fours_mem hp).1, Nat.le_trans (fours_mem hp).2 (four_pow m4)⟩
      rw [fours_sum] at k2
      simp [szB, szL, szS]
      simpa [szB] using k2
theorem bush_len {e : List T} : ∀ {n m : Nat}, e.length ≤ 1 → (bush n m e).length ≤ 1
  | 0, m, h => h
  | n + 1, m, h => by
    unfold bush
    split
    · exact h
    · simp
theorem bush_nm {x : List Nat} {e : List T} : ∀ {n m : Nat}, x ∈ nmL (bush n m e) → x ∈ nmL e
  | 0, m, h => h
  | n + 1, m, h => by
    unfold bush at h
    split at h
    · exact h
    · simp only [nmL, nmS, List.append_nil] at h
      obtain ⟨b, hb, hx⟩ := nmBs_mem h
      obtain ⟨p, hp, rfl⟩ := List.mem_map.mp hb
      exact bush_nm hx
theorem bush_nml {e : List T} : ∀ {n m : Nat}, 1 ≤ m → m ≤ 4 ^ n → (nmL (bush n m e)).length = m * (nmL e).length
  | 0, m, m1, m4 => by
    have : m = 1 := by simp at m4; omega
    subst this; simp [bush]
  | n + 1, m, m1, m4 => by
    unfold bush
    split
    · rename_i h; subst h; simp
    · have k : ∀ l : List Nat, (∀ p ∈ l, 1 ≤ p ∧ p ≤ 4 ^ n) → (nmBs (l.map fun p => bush n p e)).length = l.sum * (nmL e).length := fun l => by
        induction l with
        | nil => intro _; simp [nmBs]
        | cons a r ih =>
          intro hl
          have h1 := ih fun p hp => hl p (List.mem_cons_of_mem _ hp)
          have h2 := hl a List.mem_cons_self
          have h3 := bush_nml (e := e) h2.1 h2.2
          simp only [List.map_cons, nmBs, List.length_append, h1, h3, List.sum_cons, Nat.add_mul]
      have k2 := k (fours m) fun p hp => ⟨(fours_mem hp).1, Nat.le_trans (fours_mem hp).2 (four_pow m4)⟩
      rw [fours_sum] at k2
      simp only [nmL, nmS, List.append_nil]
      exact k2
end PG
namespace GO
open PySem L2 RB PG
theorem sz_sh (z : Nat × Nat) : SeqAt.shaped (szD z) = true := by
  simp only [SeqAt.shaped, szD, PyData.canLay0, PyData.canLayAll0, PyData.depth, PyData.depthAll, Bool.true_and]; decide
theorem ne_same {K : PySem.W.Frag} {H : Hp} {Q : VK} {x y : V} {d : PyData} (h : SeqAt.shaped d = true) (hx : Dp K H x d) (hy : Dp K H y d) (k : Q (.bl false) H) : rNeD K x y H Q :=
  ⟨d, d, hx, hy, h, h, by rw [SeqAt.eqv_refl _ (SeqAt.canLay_of_shaped h)]; exact k⟩
theorem dp_lst {K : PySem.W.Frag} {H : Hp} {v : V} {ds : List PyData} (h : Dp K H v (.list ds)) : ∃ a xs, v = .ref a ∧ SqL K H a xs ∧ DpAll K H xs ds := by
  cases h with
  | lst h d => exact ⟨_, _, rfl, h, d⟩
end GO
namespace PG
open PySem L2 RB
/-! ### parts one within the other -/
def nm2 (j : Nat) : List Nat := [97 + j, 97 + j]
def bB (m : Nat → Nat) : Nat → List T
  | 0 => bush 4 (m 0) []
  | j + 1 => bush 2 (m (j + 1)) [.part (nm2 j) (bB m j)]
def chn (m : Nat → Nat) (i : Nat) : List (List Nat × List T) := (List.range (i + 1)).map fun j => (nm2 j, bB m j)
theorem bB_ext {m m' : Nat → Nat} : ∀ {i : Nat}, (∀ j, j ≤ i → m j = m' j) → bB m i = bB m' i
  | 0, h => by rw [bB, bB, h 0 (Nat.le_refl _)]
  | i + 1, h => by rw [bB, bB, h (i + 1) (Nat.le_refl _), bB_ext (i := i) fun j hj => h j (by omega)]
theorem chn_next {m m' : Nat → Nat} {i : Nat} (h : ∀ j, j ≤ i → m j = m' j) : chn m' (i + 1) = chn m i ++ [(nm2 (i + 1), bB m' (i + 1))] := by
  unfold chn
  rw [List.range_succ (n := i + 1), List.map_append]
  congr 1
  refine List.map_congr_left fun j hj => ?_
  rw [bB_ext (m := m) (m' := m') fun k hk => h k (by have := List.mem_range.mp hj; omega)]
/-- the numbers as they are drawn -/
structure Ms (m : Nat → Nat) : Prop where
  z : 60 ≤ m 0 ∧ m 0 ≤ 99
  s : ∀ j, 2 ≤ m (j + 1) ∧ m (j + 1) ≤ 6
theorem nm2_inj {i j : Nat} (h : nm2 i = nm2 j) : i = j := by
  have := (List.cons.inj h).1
  omega
theorem chn_nd (m : Nat → Nat) (i : Nat) : ((chn m i).map Prod.fst).Nodup := by
  unfold chn
  rw [List.map_map]
  exact List.Pairwise.map _ (fun a b (h : a ≠ b) e => h (nm2_inj e)) List.nodup_range
theorem chn_at (m : Nat → Nat) {i j : Nat} (h : j ≤ i) : (chn m i)[j]? = some (nm2 j, bB m j) := by
  unfold chn
  rw [List.getElem?_map, List.getElem?_range (by omega)]; rfl
theorem chn_look (m : Nat → Nat) {i j : Nat} (h : j ≤ i) : look (chn m i) (nm2 j) = some (bB m j) := GO.look_at (chn_nd m i) (chn_at m h)
theorem chn_mem {m : Nat → Nat} {i : Nat} {p : List Nat × List T} (h : p ∈ chn m i) : ∃ j, j ≤ i ∧ p = (nm2 j, bB m j) := by
  obtain ⟨j, hj, e⟩ := List.mem_map.mp h
  exact ⟨j, by have := List.mem_range.mp hj; omega, e.symm⟩
theorem bB_rb {m : Nat → Nat} (hm : Ms m) {d : List Nat} {ps : List Nat → Option (List T)} : ∀ {j : Nat}, (∀ k, k < j → ps (nm2 k) = some (bB m k)) → RB_ d ps (4 + 3 * j) (bB m j)
  | 0, _ => by
    have := hm.z
    exact bush_rb (h := 0) (e := []) ⟨by simp, fun t z => nomatch z⟩ (n := 4) (by omega)
  | j + 1, h => by
    have r := bB_rb hm (d := d) (ps := ps) (j := j) fun k hk => h k (by omega)
    have e := h j (by omega)
    have p : RB_ d ps (4 + 3 * j + 1) [.part (nm2 j) (bB m j)] := ⟨by simp, fun t ht => by rw [List.mem_singleton.mp ht]; exact .part e r.1 r.2⟩
    have := hm.s j
    exact bush_rb p (n := 2) (m := m (j + 1)) (by omega)
theorem bB_dep {m : Nat → Nat} : ∀ {j : Nat}, depL (bB m j) ≤ 4
  | 0 => by have := bush_dep (e := []) (n := 4) (m := m 0); simp only [depL] at this; exact this
  | j + 1 => by have := bush_dep (e := [.part (nm2 j) (bB m j)]) (n := 2) (m := m (j + 1)); simp only [depL, depS] at this; rw [bB]; omega
theorem bB_nm {m : Nat → Nat} (hm : Ms m) : ∀ {j : Nat}, (nmL (bB m j)).length ≤ 10000 ∧ ∀ x ∈ nmL (bB m j), ∃ k, k < j ∧ x = nm2 k
  | 0 => by
    have := hm.z
    refine ⟨by rw [bB, bush_nml (by omega) (by omega)]; simp [nmL], fun x hx => ?_⟩
    have := bush_nm hx
    simp [nmL] at this
  | j + 1 => by
    have := hm.s j
    refine ⟨by rw [bB, bush_nml (by omega) (by omega)]; simp [nmL, nmS]; omega, fun x hx => ?_⟩
    have := bush_nm hx
    simp [nmL, nmS] at this
    exact ⟨j, by omega, this⟩
theorem bB_sz {m : Nat → Nat} (hm : Ms m) : ∀ {j : Nat}, 60 ≤ (szB (bB m j)).2
  | 0 => by
    have := hm.z
    rw [bB, bush_sz (by omega) (by omega)]; simp [szB]; omega
  | j + 1 => by
    have := hm.s j
    have ih := bB_sz hm (j := j)
    rw [bB, bush_sz (by omega) (by omega), sz_part]
    exact Nat.le_trans ih (Nat.le_mul_of_pos_left _ (by omega))
theorem bB_sz2 {m : Nat → Nat} (hm : Ms m) {j : Nat} : 120 ≤ (szB (bB m (j + 1))).2 := by
  have := hm.s j
  have ih := bB_sz hm (j := j)
  rw [bB, bush_sz (by omega) (by omega), sz_part]
  show 2 * 60 ≤ _
  exact Nat.mul_le_mul (show 2 ≤ m (j + 1) by omega) ih
theorem chn_ok {m : Nat → Nat} (hm : Ms m) {d : List Nat} {i : Nat} (i3 : i ≤ 3) : GO.PsOk d (chn m i) := by
  refine ⟨by simp [chn]; omega, chn_nd m i, fun p hp => ?_, fun p hp => ?_, fun x => x.headD 0, fun p hp x hx => ?_⟩
  · obtain ⟨j, hj, rfl⟩ := chn_mem hp
    refine ⟨by simp [nm2], by simp [nm2], fun c hc => ?_⟩
    simp [nm2] at hc
    omega
  · obtain ⟨j, hj, rfl⟩ := chn_mem hp
    exact ⟨(bB_rb hm fun k hk => chn_look m (by omega)).le (by omega), Nat.le_trans bB_dep (by decide), (bB_nm hm).1⟩
  · obtain ⟨j, hj, rfl⟩ := chn_mem hp
    obtain ⟨k, hk, rfl⟩ := (bB_nm hm (j := j)).2 x hx
    exact ⟨by simp [nm2]; exact hk, by rw [chn_look m (by omega)]; rfl⟩
/-- a bush for all fuel -/
theorem bush_up {e : List T} : ∀ {n m : Nat}, 1 ≤ m → m ≤ 4 ^ n → bush (n + 1) m e = bush n m e
  | 0, m, m1, m4 => by
    have : m = 1 := by simp at m4; omega
    subst this; simp [bush]
  | n + 1, m, m1, m4 => by
    rw [bush, bush]
    split
    · rfl
    · congr 2
      refine List.map_congr_left fun p hp => ?_
      have := fours_mem hp
      exact bush_up this.1 (Nat.le_trans this.2 (four_pow m4))
theorem bush_42 {e : List T} {m : Nat} (m1 : 1 ≤ m) (m4 : m ≤ 16) : bush 4 m e = bush 2 m e := by
  rw [bush_up (n := 3) m1 (by omega), bush_up (n := 2) m1 (by omega)]
theorem bush_sz1 {e : List T} (h : (szB e).1 = 0) : ∀ {n m : Nat}, (szB (bush n m e)).1 = 0
  | 0, m => h
  | n + 1, m => by
    unfold bush
    split
    · exact h
    · have k : ∀ l : List Nat, (szBs (l.map fun p => bush n p e)).1 = 0 := fun l => by
        induction l with
        | nil => simp [szBs]
        | cons a r ih =>
          have h3 := bush_sz1 h (n := n) (m := a)
          simp only [szB] at h3
          simp only [List.map_cons, szBs, ih]; omega
      simp [szB, szL, szS, k]
theorem sz_twice (n : List Nat) (b : List T) : szB [.part n b, .undo [.part n b]] = (2 * (szB b).1 + 1, 2 * (szB b).2) := by
  simp only [szB, szL, szS]
  simp
  omega
theorem rb_twice {d : List Nat} {ps : List Nat → Option (List T)} {h : Nat} {n : List Nat} {b : List T} (e : ps n = some b) (r : RB_ d ps h b) : RB_ d ps (h + 2) [.part n b, .undo [.part n b]] := ⟨by simp, fun t ht => by
  rcases List.mem_cons.mp ht with z | z
  · rw [z]; exact (R.part e r.1 r.2).up
  · rw [List.mem_singleton.mp z]
    exact .undo (by simp) fun s hs => by rw [List.mem_singleton.mp hs]; exact .part e r.1 r.2⟩
theorem dep_twice (n : List Nat) (b : List T) : depL [.part n b, .undo [.part n b]] ≤ 5 := by simp [depL, depS]
end PG
/-! d.copy(); sorted of ints. -/
namespace GO
open PySem PySem.Spec PyProof.Rows L2 RB PG
theorem copy_own {X : Cx} {pins : List (Addr × Obj)} {σ : L2.St} {H : Hp} {s : Shared} {a : Addr} {kvs : List (L2.Key × V)} {A : Around} {E : Value → Shared → Prop} {Q : Value → Shared → Prop} (I : Inv X pins σ H s) (e : Rd H a (.dK kvs))
    (h : ∀ p s', H p = none → Inv X pins σ (upd H p (.dK kvs)) s' → Q (.ref p) s') : wpAny (model X.prog X.w) A (PySem.call (.builtin "dict.copy") [.ref a]) Q E s := by
  obtain ⟨z, hd, vs, rel, o, es, ep, ho, hc, hdat, hk, hp, hn⟩ := dk_rd I.hok e
  have len : es.size = kvs.length := by rw [rel.length, ← hp.length]; simp
  refine call_copy_raw hd ⟨o, ho, hc, hdat⟩ (by rw [len]; exact z) (fun x hx => .inl ?_) fun h' ⟨o', ho', hc', hdat'⟩ keep => ?_
  · obtain ⟨i, hi, ei⟩ := List.getElem_of_mem hx
    have hl : i < vs.length := by rw [← hp.length]; exact hi
    have := hp.get? (e := x) (i := i) (by rw [List.getElem?_eq_getElem hi, ei]) (List.getElem?_eq_getElem hl)
    exact (mixKind X.prog X.w).byValue _ _ this.1
  · exact h _ _ (I.hok.fresh (Nat.le_refl _)) (I.laid (a := s.heap.objs.size) (o := .dK kvs) (t' := s.toks) keep (Nat.le_refl _) (dk_new z (beq_eq_false_iff_ne.mpr (Ne.symm (Nat.ne_of_lt I.big))) rel ⟨o', es, 0, ho', hc', hdat', hk, hp, hn⟩))
def rCopyD : V → List V → Hp → VK → Prop := fun x xs H Q => ∃ a kvs, x = .ref a ∧ xs = [] ∧ Rd H a (.dK kvs) ∧ ∀ p, H p = none → Q (.ref p) (upd H p (.dK kvs))
theorem mt_dcopy {X : Cx} : MtR X "dict.copy" rCopyD := by
  intro pins s σ H x xs v us Q I rx rxs h
  obtain ⟨a, kvs, rfl, rfl, hd, q⟩ := h
  cases rx
  cases rxs
  exact copy_own I hd fun p s' hp I' => ⟨.ref p, _, I', rfl, q p hp⟩
theorem tyD {K : PySem.W.Frag} {H : Hp} {l : Addr} {kvs : List (L2.Key × V)} {R : Prop} (h : H l = some (.dK kvs)) (k : R) : tyV K "dict" (.ref l) H ∧ R := ⟨.inr (.inr (.inl ⟨rfl, .inl ⟨kvs, h⟩⟩)), k⟩
theorem csortedI {X : Cx} {K : PySem.W.Frag} (e : X.K = K) : CallR X (.builtin "sorted") (rSortedI K) := e ▸ cr_sortedI
end GO
/-! The rows of runs, and the rows along the arrows of a flow: they are the same. -/
namespace PG
open PySem L2 RB
theorem sw_sw (c : Nat) : sw (sw c) = c := by
  unfold sw
  split
  · split
    · omega
    · split <;> omega
  · split
    · split
      · omega
      · omega
    · rfl
theorem inv_inv' (a : List Nat) : inv (inv a) = a := by
  unfold inv
  rw [List.map_reverse, List.reverse_reverse, List.map_map]
  conv => rhs; rw [← List.map_id a]
  exact List.map_congr_left fun c _ => sw_sw c
inductive Star (P : List Nat → Prop) : List Nat → Prop
  | nil : Star P []
  | app {u v : List Nat} : P u → Star P v → Star P (u ++ v)
theorem Star.mono {P P' : List Nat → Prop} (h : ∀ w, P w → P' w) {w : List Nat} (s : Star P w) : Star P' w := by
  induction s with
  | nil => exact .nil
  | app a _ ih => exact .app (h _ a) ih
theorem Star.cat {P : List Nat → Prop} {u v : List Nat} (a : Star P u) (b : Star P v) : Star P (u ++ v) := by
  induction a with
  | nil => exact b
  | app x _ ih => rw [List.append_assoc]; exact .app x ih
theorem Star.inv_ {P : List Nat → Prop} {w : List Nat} (s : Star P w) : Star (fun u => P (inv u)) (inv w) := by
  induction s with
  | nil => exact .nil
  | @app u v a _ ih =>
    rw [inv_app]
    refine ih.cat ?_
    have : Star (fun u => P (inv u)) (inv u ++ []) := .app (by rw [inv_inv']; exact a) .nil
    rwa [List.append_nil] at this
-- the rows of runs
mutual
def LgS : T → List Nat → Prop
  | .dot r => fun w => w = r
  | .alt _ bs => LgBs bs
  | .loop b => Star (LgL b)
  | .undo b => fun w => LgL b (inv w)
  | .part _ b => LgL b
def LgL : List T → List Nat → Prop
  | [] => fun w => w = []
  | s :: r => fun w => ∃ u v, w = u ++ v ∧ LgS s u ∧ LgL r v
def LgBs : List (List T) → List Nat → Prop
  | [] => fun _ => False
  | b :: r => fun w => LgL b w ∨ LgBs r w
end
theorem LgBs_mem {w : List Nat} : ∀ {bs : List (List T)}, LgBs bs w ↔ ∃ b ∈ bs, LgL b w
  | [] => by simp [LgBs]
  | b :: r => by simp [LgBs, LgBs_mem (bs := r)]
theorem LgL_app {w : List Nat} : ∀ {a b : List T}, LgL (a ++ b) w ↔ ∃ u v, w = u ++ v ∧ LgL a u ∧ LgL b v
  | [], b => by
    simp only [List.nil_append, LgL]
    exact ⟨fun h => ⟨[], w, rfl, rfl, h⟩, fun ⟨u, v, e, e2, h⟩ => by subst e2; rw [e]; exact h⟩
  | s :: r, b => by
    simp only [List.cons_append, LgL]
    constructor
    · rintro ⟨u, v, rfl, h1, h2⟩
      obtain ⟨x, y, rfl, h3, h4⟩ := LgL_app.mp h2
      exact ⟨u ++ x, y, by rw [List.append_assoc], ⟨u, x, rfl, h1, h3⟩, h4⟩
    · rintro ⟨_, y, rfl, ⟨u, x, rfl, h1, h3⟩, h4⟩
      exact ⟨u, x ++ y, by rw [List.append_assoc], h1, LgL_app.mpr ⟨x, y, rfl, h3, h4⟩⟩
theorem LgL_one {s : T} {w : List Nat} : LgL [s] w ↔ LgS s w := by
  simp only [LgL]
  exact ⟨fun ⟨u, v, e, h, e2⟩ => by subst e2; rw [e, List.append_nil]; exact h, fun h => ⟨w, [], (List.append_nil w).symm, h, rfl⟩⟩
mutual
theorem LgS_un : ∀ (t : T) (w : List Nat), LgS (unS t) w ↔ LgS t (inv w)
  | .dot r, w => by
    simp only [unS, LgS]
    exact ⟨fun h => by rw [h, inv_inv'], fun h => by rw [← h, inv_inv']⟩
  | .alt o bs, w => by simp only [unS, LgS]; exact LgBs_un bs w
  | .loop b, w => by
    simp only [unS, LgS]
    have e : ∀ u, LgL (unL b) u ↔ LgL b (inv u) := LgL_un b
    constructor
    · intro h
      exact h.inv_.mono fun u k => by have := (e _).mp k; rwa [inv_inv'] at this
    · intro h
      have := h.inv_.mono (P' := LgL (unL b)) fun u k => (e _).mpr k
      rwa [inv_inv'] at this
  | .undo b, w => by
    simp only [unS, LgS, LgBs, or_false, inv_inv']
  | .part _ b, w => by simp only [unS, LgS]
theorem LgL_un : ∀ (b : List T) (w : List Nat), LgL (unL b) w ↔ LgL b (inv w)
  | [], w => by
    simp only [unL, LgL]
    exact ⟨fun h => by rw [h]; rfl, fun h => by rw [← inv_inv' w, h]; rfl⟩
  | s :: r, w => by
    simp only [unL]
    rw [LgL_app]
    simp only [LgL]
    constructor
    · rintro ⟨u, v, rfl, h1, h2⟩
      obtain ⟨x, y, rfl, h3, rfl⟩ := h2
      rw [List.append_nil]
      exact ⟨inv x, inv u, inv_app _ _, (LgS_un s x).mp h3, (LgL_un r u).mp h1⟩
    · rintro ⟨u, v, e, h1, h2⟩
      refine ⟨inv v, inv u, by rw [← inv_app, ← e, inv_inv'], (LgL_un r _).mpr (by rw [inv_inv']; exact h2), inv u, [], (List.append_nil _).symm, (LgS_un s _).mpr (by rw [inv_inv']; exact h1), rfl⟩
theorem LgBs_un : ∀ (bs : List (List T)) (w : List Nat), LgBs (unBs bs) w ↔ LgBs bs (inv w)
  | [], w => by simp only [unBs, LgBs]
  | b :: r, w => by simp only [unBs, LgBs]; rw [LgL_un b w, LgBs_un r w]
end
/-! ### along arrows -/
abbrev Arr := List (Nat × List Nat × Nat)
/-- from p to q along at least one arrow, what stands between in N -/
inductive Pth (A : Arr) (N : Nat → Prop) : Nat → Nat → List Nat → Prop
  | one {p q : Nat} {l : List Nat} : (p, l, q) ∈ A → Pth A N p q l
  | cons {p m q : Nat} {l v : List Nat} : (p, l, m) ∈ A → N m → Pth A N m q v → Pth A N p q (l ++ v)
theorem Pth.mono {A A' : Arr} {N N' : Nat → Prop} (hA : ∀ x ∈ A, x ∈ A') (hN : ∀ x, N x → N' x) {p q : Nat} {w : List Nat} (h : Pth A N p q w) : Pth A' N' p q w := by
  induction h with
  | one h => exact .one (hA _ h)
  | cons h n _ ih => exact .cons (hA _ h) (hN _ n) ih
theorem Pth.cat {A : Arr} {N : Nat → Prop} {p m q : Nat} {u v : List Nat} (a : Pth A N p m u) (hm : N m) (b : Pth A N m q v) : Pth A N p q (u ++ v) := by
  induction a with
  | one h => exact .cons h hm b
  | cons h n _ ih => rw [List.append_assoc]; exact .cons h n (ih hm b)
/-- arrows laid from p to q, with places N between, along which the rows are those of P -/
structure Piece (A : Arr) (p q : Nat) (N : Nat → Prop) (P : List Nat → Prop) : Prop where
  src : ∀ a l b, (a, l, b) ∈ A → (a = p ∨ N a) ∧ (b = q ∨ N b)
  lng : ∀ w, Pth A N p q w ↔ P w
theorem Piece.congr {A : Arr} {p q : Nat} {N N' : Nat → Prop} {P P' : List Nat → Prop} (x : Piece A p q N P) (hN : ∀ a, N a ↔ N' a) (hP : ∀ w, P w ↔ P' w) : Piece A p q N' P' := by
  obtain rfl : N = N' := funext fun a => propext (hN a)
  obtain rfl : P = P' := funext fun a => propext (hP a)
  exact x
theorem Piece.push {p q : Nat} {l : List Nat} {N : Nat → Prop} (hN : ∀ a, ¬ N a) : Piece [(p, l, q)] p q N (fun w => w = l) :=
  ⟨fun a l b h => by cases List.mem_singleton.mp h; exact ⟨.inl rfl, .inl rfl⟩, fun w => ⟨fun h => by
    cases h with
    | one h => cases List.mem_singleton.mp h; rfl
    | cons _ n _ => exact absurd n (hN _), fun h => by subst h; exact .one (List.mem_singleton.mpr rfl)⟩⟩
theorem Piece.none {p q : Nat} {N : Nat → Prop} : Piece [] p q N (fun _ => False) :=
  ⟨fun _ _ _ h => (List.not_mem_nil h).elim, fun w => ⟨fun h => by cases h with
    | one h => exact List.not_mem_nil h
    | cons h _ _ => exact List.not_mem_nil h, fun h => h.elim⟩⟩
section
variable {A A1 A2 : Arr} {M N N1 N2 : Nat → Prop} {p q q1 m k : Nat} {P P1 P2 : List Nat → Prop}
/-- along A1 to its end, then on -/
def ExA (A A1 : Arr) (M N1 : Nat → Prop) (a q1 q : Nat) (w : List Nat) : Prop := ∃ u v, w = u ++ v ∧ Pth A1 N1 a q1 u ∧ ((q1 = q ∧ v = []) ∨ (M q1 ∧ Pth A M q1 q v))
theorem ex_in {a : Nat} {w : List Nat} (h : Pth A M a q w) (ha : N1 a) (own : ∀ x l y, (x, l, y) ∈ A → N1 x → (x, l, y) ∈ A1) (tgt : ∀ x l y, (x, l, y) ∈ A1 → y = q1 ∨ N1 y) (hq : ¬ N1 q) : ExA A A1 M N1 a q1 q w := by
  induction h with
  | @one p q l h =>
    have h1 := own _ _ _ h ha
    rcases tgt _ _ _ h1 with e | n
    · subst e; exact ⟨l, [], (List.append_nil l).symm, .one h1, .inl ⟨rfl, rfl⟩⟩
    · exact absurd n hq
  | @cons p m q l v h n t ih =>
    have h1 := own _ _ _ h ha
    rcases tgt _ _ _ h1 with e | n1
    · subst e; exact ⟨l, v, rfl, .one h1, .inr ⟨n, t⟩⟩
    · obtain ⟨u, v', rfl, x, y⟩ := ih n1 hq
      exact ⟨l ++ u, v', by rw [List.append_assoc], .cons h1 n1 x, y⟩
theorem ex_at {a b : Nat} {l w : List Nat} (h1 : (a, l, b) ∈ A1) (h : (b = q ∧ w = l) ∨ ∃ v, w = l ++ v ∧ M b ∧ Pth A M b q v) (own : ∀ x l y, (x, l, y) ∈ A → N1 x → (x, l, y) ∈ A1) (tgt : ∀ x l y, (x, l, y) ∈ A1 → y = q1 ∨ N1 y) (hq : ¬ N1 q) : ExA A A1 M N1 a q1 q w := by
  rcases h with ⟨rfl, rfl⟩ | ⟨v, rfl, n, t⟩
  · rcases tgt _ _ _ h1 with e | n
    · subst e; exact ⟨w, [], (List.append_nil w).symm, .one h1, .inl ⟨rfl, rfl⟩⟩
    · exact absurd n hq
  · rcases tgt _ _ _ h1 with e | n1
    · subst e; exact ⟨l, v, rfl, .one h1, .inr ⟨n, t⟩⟩
    · obtain ⟨u, v', rfl, x, y⟩ := ex_in t n1 own tgt hq
      exact ⟨l ++ u, v', by rw [List.append_assoc], .cons h1 n1 x, y⟩
theorem Pth.first {a : Nat} {w : List Nat} (h : Pth A M a q w) : ∃ l b, (a, l, b) ∈ A ∧ ((b = q ∧ w = l) ∨ ∃ v, w = l ++ v ∧ M b ∧ Pth A M b q v) := by
  cases h with
  | one h => exact ⟨_, _, h, .inl ⟨rfl, rfl⟩⟩
  | cons h n t => exact ⟨_, _, h, .inr ⟨_, rfl, n, t⟩⟩
/-- one behind the other -/
theorem Piece.seq (x : Piece A1 p m N1 P1) (y : Piece A2 m q N2 P2) (pm : p ≠ m) (mq : m ≠ q) (m1 : ¬ N1 m) (m2 : ¬ N2 m) (p1 : ¬ N1 p) (p2 : ¬ N2 p) (q1 : ¬ N1 q) (q2 : ¬ N2 q) (ds : ∀ a, N1 a → ¬ N2 a) :
    Piece (A1 ++ A2) p q (fun a => N1 a ∨ a = m ∨ N2 a) (fun w => ∃ u v, w = u ++ v ∧ P1 u ∧ P2 v) := by
  refine ⟨fun a l b h => ?_, fun w => ⟨fun h => ?_, fun ⟨u, v, e, h1, h2⟩ => ?_⟩⟩
  · rcases List.mem_append.mp h with h | h
    · obtain ⟨s, t⟩ := x.src _ _ _ h
      exact ⟨s.imp_right .inl, .inr (by rcases t with t | t; exact .inr (.inl t); exact .inl t)⟩
    · obtain ⟨s, t⟩ := y.src _ _ _ h
      exact ⟨.inr (by rcases s with s | s; exact .inr (.inl s); exact .inr (.inr s)), t.imp_right fun z => .inr (.inr z)⟩
  · have own1 : ∀ x' l y', (x', l, y') ∈ A1 ++ A2 → N1 x' → (x', l, y') ∈ A1 := fun a l b h n => by
      rcases List.mem_append.mp h with h | h
      · exact h
      · rcases (y.src _ _ _ h).1 with s | s
        · exact absurd (s ▸ n) m1
        · exact absurd s (ds _ n)
    have own2 : ∀ x' l y', (x', l, y') ∈ A1 ++ A2 → N2 x' → (x', l, y') ∈ A2 := fun a l b h n => by
      rcases List.mem_append.mp h with h | h
      · rcases (x.src _ _ _ h).1 with s | s
        · exact absurd (s ▸ n) p2
        · exact absurd n (ds _ s)
      · exact h
    obtain ⟨l, b, h1, h2⟩ := h.first
    have hA : (p, l, b) ∈ A1 := by
      rcases List.mem_append.mp h1 with h | h
      · exact h
      · rcases (y.src _ _ _ h).1 with s | s
        · exact absurd s pm
        · exact absurd s p2
    obtain ⟨u, v, rfl, hu, ⟨e, _⟩ | ⟨_, hv⟩⟩ := ex_at (M := fun a => N1 a ∨ a = m ∨ N2 a) (q1 := m) hA h2 own1 (fun a l b h => (x.src _ _ _ h).2) q1
    · exact absurd e mq
    obtain ⟨l, b, h1, h2⟩ := hv.first
    have hB : (m, l, b) ∈ A2 := by
      rcases List.mem_append.mp h1 with h | h
      · rcases (x.src _ _ _ h).1 with s | s
        · exact absurd s.symm pm
        · exact absurd s m1
      · exact h
    obtain ⟨u2, v2, rfl, hu2, ⟨_, rfl⟩ | ⟨n, _⟩⟩ := ex_at (M := fun a => N1 a ∨ a = m ∨ N2 a) (q1 := q) hB h2 own2 (fun a l b h => (y.src _ _ _ h).2) q2
    · exact ⟨u, u2, by rw [List.append_nil], (x.lng _).mp hu, (y.lng _).mp hu2⟩
    · rcases n with n | n | n
      · exact absurd n q1
      · exact absurd n.symm mq
      · exact absurd n q2
  · subst e
    exact (((x.lng _).mpr h1).mono (fun _ h => List.mem_append_left _ h) fun _ h => .inl h).cat (.inr (.inl rfl)) (((y.lng _).mpr h2).mono (fun _ h => List.mem_append_right _ h) fun _ h => .inr (.inr h))
/-- one beside the other -/
theorem Piece.par (x : Piece A1 p q N1 P1) (y : Piece A2 p q N2 P2) (p1 : ¬ N1 p) (p2 : ¬ N2 p) (q1 : ¬ N1 q) (q2 : ¬ N2 q) (ds : ∀ a, N1 a → ¬ N2 a) :
    Piece (A1 ++ A2) p q (fun a => N1 a ∨ N2 a) (fun w => P1 w ∨ P2 w) := by
  refine ⟨fun a l b h => ?_, fun w => ⟨fun h => ?_, fun h => ?_⟩⟩
  · rcases List.mem_append.mp h with h | h
    · obtain ⟨s, t⟩ := x.src _ _ _ h
      exact ⟨s.imp_right .inl, t.imp_right .inl⟩
    · obtain ⟨s, t⟩ := y.src _ _ _ h
      exact ⟨s.imp_right .inr, t.imp_right .inr⟩
  · have own1 : ∀ x' l y', (x', l, y') ∈ A1 ++ A2 → N1 x' → (x', l, y') ∈ A1 := fun a l b h n => by
      rcases List.mem_append.mp h with h | h
      · exact h
      · rcases (y.src _ _ _ h).1 with s | s
        · exact absurd (s ▸ n) p1
        · exact absurd s (ds _ n)
    have own2 : ∀ x' l y', (x', l, y') ∈ A1 ++ A2 → N2 x' → (x', l, y') ∈ A2 := fun a l b h n => by
      rcases List.mem_append.mp h with h | h
      · rcases (x.src _ _ _ h).1 with s | s
        · exact absurd (s ▸ n) p2
        · exact absurd n (ds _ s)
      · exact h
    have no : ¬ (N1 q ∨ N2 q) := fun z => z.elim q1 q2
    obtain ⟨l, b, h1, h2⟩ := h.first
    rcases List.mem_append.mp h1 with h | h
    · obtain ⟨u, v, rfl, hu, ⟨_, rfl⟩ | ⟨n, _⟩⟩ := ex_at (M := fun a => N1 a ∨ N2 a) (q1 := q) h h2 own1 (fun a l b h => (x.src _ _ _ h).2) q1
      · rw [List.append_nil]; exact .inl ((x.lng _).mp hu)
      · exact absurd n no
    · obtain ⟨u, v, rfl, hu, ⟨_, rfl⟩ | ⟨n, _⟩⟩ := ex_at (M := fun a => N1 a ∨ N2 a) (q1 := q) h h2 own2 (fun a l b h => (y.src _ _ _ h).2) q2
      · rw [List.append_nil]; exact .inr ((y.lng _).mp hu)
      · exact absurd n no
  · rcases h with h | h
    · exact ((x.lng _).mpr h).mono (fun _ h => List.mem_append_left _ h) fun _ h => .inl h
    · exact ((y.lng _).mpr h).mono (fun _ h => List.mem_append_right _ h) fun _ h => .inr h
/-- round and round -/
theorem Piece.round (x : Piece A k k N P) (pk : p ≠ k) (qk : q ≠ k) (pN : ¬ N p) (qN : ¬ N q) (kN : ¬ N k) :
    Piece ([(p, [], k)] ++ A ++ [(k, [], q)]) p q (fun a => a = k ∨ N a) (Star P) := by
  have mem : ∀ {a l b}, (a, l, b) ∈ [(p, [], k)] ++ A ++ [(k, [], q)] ↔ (a = p ∧ l = [] ∧ b = k) ∨ (a, l, b) ∈ A ∨ (a = k ∧ l = [] ∧ b = q) := fun {a l b} => by
    simp only [List.mem_append, List.mem_singleton, Prod.mk.injEq, or_assoc]
  have iA : ∀ z ∈ A, z ∈ [(p, ([] : List Nat), k)] ++ A ++ [(k, [], q)] := fun z h => List.mem_append_left _ (List.mem_append_right _ h)
  refine ⟨fun a l b h => ?_, fun w => ⟨fun h => ?_, fun h => ?_⟩⟩
  · rcases mem.mp h with ⟨rfl, _, rfl⟩ | h | ⟨rfl, _, rfl⟩
    · exact ⟨.inl rfl, .inr (.inl rfl)⟩
    · obtain ⟨s, t⟩ := x.src _ _ _ h
      exact ⟨.inr s, .inr t⟩
    · exact ⟨.inr (.inl rfl), .inl rfl⟩
  · have go : ∀ {a b : Nat} {v : List Nat}, Pth ([(p, [], k)] ++ A ++ [(k, [], q)]) (fun a => a = k ∨ N a) a b v → b = q → (a = k → Star P v) ∧ (N a → ∃ u v', v = u ++ v' ∧ Pth A N a k u ∧ Star P v') := by
      intro a b v h
      induction h with
      | @one a b l h =>
        rintro rfl
        refine ⟨fun e => ?_, fun n => ?_⟩
        · rcases mem.mp h with ⟨e2, _, _⟩ | h | ⟨_, e2, _⟩
          · exact absurd (e2.symm.trans e) pk
          · rcases (x.src _ _ _ h).2 with s | s
            · exact absurd s qk
            · exact absurd s qN
          · rw [e2]; exact .nil
        · rcases mem.mp h with ⟨e2, _, _⟩ | h | ⟨e2, _, _⟩
          · exact absurd (e2 ▸ n) pN
          · rcases (x.src _ _ _ h).2 with s | s
            · exact absurd s qk
            · exact absurd s qN
          · exact absurd (e2 ▸ n) kN
      | @cons a m b l v h n t ih =>
        rintro rfl
        obtain ⟨i1, i2⟩ := ih rfl
        have hA : (a = k ∨ N a) → (a, l, m) ∈ A := fun ha => by
          rcases mem.mp h with ⟨e2, _, _⟩ | h | ⟨_, _, e2⟩
          · rw [e2] at ha; exact (ha.elim pk pN).elim
          · exact h
          · rw [e2] at n; exact (n.elim qk qN).elim
        refine ⟨fun e => ?_, fun na => ?_⟩
        · have h1 := hA (.inl e)
          subst e
          rcases n with rfl | n
          · exact .app ((x.lng _).mp (.one h1)) (i1 rfl)
          · obtain ⟨u, v', rfl, hu, hv⟩ := i2 n
            rw [← List.append_assoc]
            exact .app ((x.lng _).mp (.cons h1 n hu)) hv
        · have h1 := hA (.inr na)
          rcases n with rfl | n
          · exact ⟨l, v, rfl, .one h1, i1 rfl⟩
          · obtain ⟨u, v', rfl, hu, hv⟩ := i2 n
            exact ⟨l ++ u, v', by rw [List.append_assoc], .cons h1 n hu, hv⟩
    obtain ⟨l, b, h1, h2⟩ := h.first
    obtain ⟨rfl, rfl⟩ : l = [] ∧ b = k := by
      rcases mem.mp h1 with ⟨_, e1, e2⟩ | h | ⟨e, _, _⟩
      · exact ⟨e1, e2⟩
      · rcases (x.src _ _ _ h).1 with s | s
        · exact absurd s pk
        · exact absurd s pN
      · exact absurd e pk
    rcases h2 with ⟨e, _⟩ | ⟨v, rfl, _, t⟩
    · exact absurd e.symm qk
    · exact (go t rfl).1 rfl
  · have back : Pth ([(p, [], k)] ++ A ++ [(k, [], q)]) (fun a => a = k ∨ N a) k q w := by
      induction h with
      | nil => exact .one (mem.mpr (.inr (.inr ⟨rfl, rfl, rfl⟩)))
      | app hu _ ih => exact (((x.lng _).mpr hu).mono iA fun _ h => .inr h).cat (.inl rfl) ih
    exact .cons (l := []) (mem.mpr (.inl ⟨rfl, rfl, rfl⟩)) (.inl rfl) back
end
/-! ### what is laid -/
def In (lo hi a : Nat) : Prop := lo ≤ a ∧ a < hi
/-- what f lays from p to q: new places and arrows alone, along which the rows are those of P -/
def Lays (f : Nat → Nat → LS → LS) (P : List Nat → Prop) : Prop := ∀ p q st, p < st.many → q < st.many → ∃ A, (f p q st).arr = st.arr ++ A ∧ st.many ≤ (f p q st).many ∧ Piece A p q (In st.many (f p q st).many) P
theorem lays_push (l : List Nat) : Lays (fun p q st => st.push p l q) (fun w => w = l) := fun p q st _ _ =>
  ⟨[(p, l, q)], rfl, Nat.le_refl _, .push fun a h => by
    have h1 : st.many ≤ a := h.1
    have h2 : a < st.many := h.2
    omega⟩
theorem run_lays {f : T → Nat → Nat → LS → LS} {p q m n : Nat} (hp : p < m) (hq : q < m) : ∀ {b : List T} {i : Nat} {st : LS}, (∀ s ∈ b, Lays (f s) (LgS s)) → b ≠ [] → i + b.length = n → m + (n - 1) ≤ st.many →
    ∃ A, (run f (stop p q m n) b i st).arr = st.arr ++ A ∧ st.many ≤ (run f (stop p q m n) b i st).many ∧ Piece A (stop p q m n i) q (fun a => In (m + i) (m + (n - 1)) a ∨ In st.many (run f (stop p q m n) b i st).many a) (LgL b)
  | [], _, _, _, h, _, _ => absurd rfl h
  | [s], i, st, h, _, e, le => by
    have e : i + 1 = n := e
    have hi : stop p q m n i < st.many := by unfold stop; (repeat' split) <;> omega
    have hl : stop p q m n (i + 1) = q := by unfold stop; rw [if_neg (by omega), if_neg (by omega)]
    obtain ⟨A, h1, h2, h3⟩ := h s List.mem_cons_self (stop p q m n i) q st hi (by omega)
    refine ⟨A, ?_, ?_, ?_⟩
    · show (f s _ (stop p q m n (i + 1)) st).arr = _; rw [hl]; exact h1
    · show _ ≤ (f s _ (stop p q m n (i + 1)) st).many; rw [hl]; exact h2
    · show Piece A _ q (fun a => _ ∨ In st.many (f s _ (stop p q m n (i + 1)) st).many a) _
      rw [hl]
      exact h3.congr (fun a => ⟨.inr, fun z => z.elim (fun z => by unfold In at z; omega) id⟩) fun w => LgL_one.symm
  | s :: s' :: r, i, st, h, _, e, le => by
    have e : i + ((s' :: r).length + 1) = n := e
    have e' : i + 1 + (s' :: r).length = n := by omega
    have l1 : (s' :: r).length = r.length + 1 := rfl
    have hi : stop p q m n i < m + i ∧ (stop p q m n i < m ∨ (1 ≤ i ∧ stop p q m n i = m + (i - 1))) := by unfold stop; (repeat' split) <;> omega
    have hl : stop p q m n (i + 1) = m + i := by unfold stop; rw [if_neg (by omega), if_pos (by omega)]; omega
    obtain ⟨A, h1, h2, h3⟩ := h s List.mem_cons_self (stop p q m n i) (m + i) st (by omega) (by omega)
    obtain ⟨B, k1, k2, k3⟩ := run_lays hp hq (b := s' :: r) (i := i + 1) (st := f s (stop p q m n i) (m + i) st) (fun x hx => h x (List.mem_cons_of_mem _ hx)) (by simp) e' (Nat.le_trans le h2)
    rw [hl] at k3
    have er : run f (stop p q m n) (s :: s' :: r) i st = run f (stop p q m n) (s' :: r) (i + 1) (f s (stop p q m n i) (m + i) st) := by
      show run f (stop p q m n) (s' :: r) (i + 1) (f s _ (stop p q m n (i + 1)) st) = _
      rw [hl]
    rw [er]
    refine ⟨A ++ B, by rw [k1, h1, List.append_assoc], Nat.le_trans h2 k2, ?_⟩
    refine (Piece.seq h3 k3 (by omega) (by omega) (by simp only [In, false_or]; omega) (by simp only [In, false_or]; omega) (by simp only [In, false_or]; omega) (by simp only [In, false_or]; omega) (by simp only [In, false_or]; omega) (by simp only [In, false_or]; omega) (fun a => by simp only [In, false_or]; omega)).congr (fun a => ?_) fun w => ?_
    · simp only [In, false_or]; omega
    · simp only [LgL]
theorem blk_lays {f : T → Nat → Nat → LS → LS} {b : List T} (h : ∀ s ∈ b, Lays (f s) (LgS s)) : Lays (blk f b) (LgL b) := fun p q st hp hq => by
  unfold blk
  by_cases e : b = []
  · subst e
    rw [if_pos rfl]
    obtain ⟨A, h1, h2, h3⟩ := lays_push [] p q st hp hq
    exact ⟨A, h1, h2, h3.congr (fun _ => Iff.rfl) fun w => by simp only [LgL]⟩
  · rw [if_neg e]
    obtain ⟨A, h1, h2, h3⟩ := run_lays (p := p) (q := q) (m := st.many) (n := b.length) hp hq (b := b) (i := 0) (st := { st with many := st.many + (b.length - 1) }) h e (by omega) (Nat.le_refl _)
    refine ⟨A, h1, Nat.le_trans (Nat.le_add_right _ _) h2, ?_⟩
    have h2' : st.many + (b.length - 1) ≤ _ := h2
    refine h3.congr (fun a => ?_) fun _ => Iff.rfl
    show In (st.many + 0) (st.many + (b.length - 1)) a ∨ In (st.many + (b.length - 1)) _ a ↔ In st.many _ a
    generalize (run f (stop p q st.many b.length) b 0 { st with many := st.many + (b.length - 1) }).many = z at h2' ⊢
    simp only [In, false_or]; omega
theorem rowR_run (g : Nat → Nat) : ∀ (r : List Nat) (i : Nat) (st : LS), rowR g r i st = run (fun t p q st => match t with | .dot r => st.push p r q | _ => st) g (r.map fun c => .dot [c]) i st
  | [], _, _ => rfl
  | c :: r, i, st => rowR_run g r (i + 1) _
theorem LgL_row : ∀ (r : List Nat) (w : List Nat), LgL (r.map fun c => .dot [c]) w ↔ w = r
  | [], w => by simp only [List.map_nil, LgL]
  | c :: r, w => by
    simp only [List.map_cons, LgL]
    exact ⟨fun ⟨u, v, e, h1, h2⟩ => by rw [e, h1, (LgL_row r v).mp h2]; rfl, fun e => ⟨[c], r, by rw [e]; rfl, rfl, (LgL_row r r).mpr rfl⟩⟩
theorem layR_lays (r : List Nat) : Lays (layR r) (fun w => w = r) := fun p q st hp hq => by
  have e : layR r p q st = blk (fun t p q st => match t with | .dot r => st.push p r q | _ => st) (r.map fun c => .dot [c]) p q st := by
    unfold layR blk
    by_cases e : r = []
    · subst e; rfl
    · rw [if_neg e, if_neg (by simpa using e), List.length_map, rowR_run]
  rw [e]
  obtain ⟨A, h1, h2, h3⟩ := blk_lays (f := fun t p q st => match t with | .dot r => st.push p r q | _ => st) (b := r.map fun c => .dot [c]) (fun s hs => by
    obtain ⟨c, _, rfl⟩ := List.mem_map.mp hs
    have := lays_push [c]
    simpa only [LgS] using this) p q st hp hq
  exact ⟨A, h1, h2, h3.congr (fun _ => Iff.rfl) (LgL_row r)⟩
theorem eits_lays {f : List T → Nat → Nat → LS → LS} {p q : Nat} : ∀ {bs : List (List T)} {st : LS}, (∀ b ∈ bs, Lays (f b) (LgL b)) → p < st.many → q < st.many →
    ∃ A, (eits f p q bs st).arr = st.arr ++ A ∧ st.many ≤ (eits f p q bs st).many ∧ Piece A p q (In st.many (eits f p q bs st).many) (LgBs bs)
  | [], st, _, _, _ => ⟨[], by rw [List.append_nil]; rfl, Nat.le_refl _, Piece.none.congr (fun _ => Iff.rfl) fun w => by simp only [LgBs]⟩
  | b :: r, st, h, hp, hq => by
    obtain ⟨A, h1, h2, h3⟩ := h b List.mem_cons_self p q st hp hq
    obtain ⟨B, k1, k2, k3⟩ := eits_lays (p := p) (q := q) (f := f) (bs := r) (st := f b p q st) (fun x hx => h x (List.mem_cons_of_mem _ hx)) (by omega) (by omega)
    refine ⟨A ++ B, by show (eits f p q r (f b p q st)).arr = _; rw [k1, h1, List.append_assoc], Nat.le_trans h2 k2, ?_⟩
    refine (Piece.par h3 k3 (by simp only [In, false_or]; omega) (by simp only [In, false_or]; omega) (by simp only [In, false_or]; omega) (by simp only [In, false_or]; omega) (fun a => by simp only [In, false_or]; omega)).congr (fun a => ?_) fun w => by simp only [LgBs]
    show _ ↔ In st.many (eits f p q r (f b p q st)).many a
    simp only [In, false_or]; omega
theorem oths_lays {f : List T → Nat → Nat → LS → LS} {m q : Nat} : ∀ {bs : List (List T)} {st : LS}, (∀ b ∈ bs, Lays (f b) (LgL b)) → m < st.many → q < st.many → m ≠ q →
    ∃ A, (oths f m q bs st).arr = st.arr ++ A ∧ st.many ≤ (oths f m q bs st).many ∧ Piece A m q (In st.many (oths f m q bs st).many) (LgBs bs)
  | [], st, _, _, _, _ => ⟨[], by rw [List.append_nil]; rfl, Nat.le_refl _, Piece.none.congr (fun _ => Iff.rfl) fun w => by simp only [LgBs]⟩
  | b :: r, st, h, hp, hq, ne => by
    obtain ⟨A, h1, h2, h3⟩ := h b List.mem_cons_self st.many q (({ st with many := st.many + 1 } : LS).push m [] st.many) (Nat.lt_succ_self _) (Nat.lt_succ_of_lt hq)
    have h2' : st.many + 1 ≤ (f b st.many q (({ st with many := st.many + 1 } : LS).push m [] st.many)).many := h2
    obtain ⟨B, k1, k2, k3⟩ := oths_lays (m := m) (q := q) (f := f) (bs := r) (st := f b st.many q (({ st with many := st.many + 1 } : LS).push m [] st.many)) (fun x hx => h x (List.mem_cons_of_mem _ hx)) (by omega) (by omega) ne
    have g3 : Piece A st.many q (In (st.many + 1) (f b st.many q (({ st with many := st.many + 1 } : LS).push m [] st.many)).many) (LgL b) := h3
    have e1 : (f b st.many q (({ st with many := st.many + 1 } : LS).push m [] st.many)).arr = st.arr ++ ([(m, [], st.many)] ++ A) := by rw [h1, ← List.append_assoc]; rfl
    show ∃ A, (oths f m q r (f b st.many q (({ st with many := st.many + 1 } : LS).push m [] st.many))).arr = _ ∧ _ ≤ (oths f m q r (f b st.many q (({ st with many := st.many + 1 } : LS).push m [] st.many))).many ∧ Piece A m q (In st.many (oths f m q r (f b st.many q (({ st with many := st.many + 1 } : LS).push m [] st.many))).many) _
    generalize f b st.many q (({ st with many := st.many + 1 } : LS).push m [] st.many) = s2 at h2' k1 k2 k3 g3 e1 ⊢
    have p1 := Piece.seq (Piece.push (p := m) (q := st.many) (l := []) (N := fun _ => False) fun _ z => z) g3 (by omega) (by omega) (fun z => z) (by simp only [In, false_or]; omega) (fun z => z) (by simp only [In, false_or]; omega) (fun z => z) (by simp only [In, false_or]; omega) (fun a z => z.elim)
    have p2 := Piece.par p1 k3 (by simp only [In, false_or]; omega) (by simp only [In, false_or]; omega) (by simp only [In, false_or]; omega) (by simp only [In, false_or]; omega) (fun a => by simp only [In, false_or]; omega)
    refine ⟨([(m, [], st.many)] ++ A) ++ B, by rw [k1, e1, List.append_assoc], by omega, p2.congr (fun a => ?_) fun w => ?_⟩
    · simp only [In, false_or]; omega
    · simp only [LgBs]
      refine or_congr_left ⟨fun ⟨u, v, e, h1, h2⟩ => ?_, fun h => ⟨[], w, rfl, rfl, h⟩⟩
      subst h1; rw [e]; exact h2
theorem lay_lays {d : List Nat} {ps : List Nat → Option (List T)} : ∀ {n : Nat} {t : T}, R d ps n t → Lays (lay n t) (LgS t)
  | 0, t, h => by
    cases h with
    | dot _ _ _ =>
      intro p q st hp hq
      simp only [lay, LgS]
      exact layR_lays _ p q st hp hq
  | n + 1, t, h => by
    intro p q st hp hq
    have ih : ∀ b : List T, (∀ s ∈ b, R d ps n s) → Lays (blk (lay n) b) (LgL b) := fun b k => blk_lays fun s hs => lay_lays (k s hs)
    cases h with
    | dot _ _ _ =>
      simp only [lay, LgS]
      exact layR_lays _ p q st hp hq
    | @alt _ o bs _ _ _ k =>
      cases o with
      | false =>
        simp only [lay, LgS]
        exact eits_lays (fun b hb => ih b (k b hb)) hp hq
      | true =>
        simp only [lay, LgS]
        obtain ⟨A, h1, h2, h3⟩ := oths_lays (f := blk (lay n)) (m := st.many) (q := q) (bs := bs) (st := ({ st with many := st.many + 1, oth := st.oth ++ [st.many] } : LS).push p [] st.many) (fun b hb => ih b (k b hb)) (Nat.lt_succ_self _) (Nat.lt_succ_of_lt hq) (by omega)
        have h2' : st.many + 1 ≤ (oths (blk (lay n)) st.many q bs (({ st with many := st.many + 1, oth := st.oth ++ [st.many] } : LS).push p [] st.many)).many := h2
        have g3 : Piece A st.many q (In (st.many + 1) (oths (blk (lay n)) st.many q bs (({ st with many := st.many + 1, oth := st.oth ++ [st.many] } : LS).push p [] st.many)).many) (LgBs bs) := h3
        have p1 := Piece.seq (Piece.push (p := p) (q := st.many) (l := []) (N := fun _ => False) fun _ z => z) g3 (by omega) (by omega) (fun z => z) (by simp only [In, false_or]; omega) (fun z => z) (by simp only [In, false_or]; omega) (fun z => z) (by simp only [In, false_or]; omega) (fun a z => z.elim)
        refine ⟨[(p, [], st.many)] ++ A, by rw [h1, ← List.append_assoc]; rfl, by omega, p1.congr (fun a => ?_) fun w => ⟨fun ⟨u, v, e, h1, h2⟩ => ?_, fun h => ⟨[], w, rfl, rfl, h⟩⟩⟩
        · simp only [In, false_or]; omega
        · subst h1; rw [e]; exact h2
    | @loop _ b _ k =>
      simp only [lay, LgS]
      obtain ⟨A, h1, h2, h3⟩ := ih b k st.many st.many (({ st with many := st.many + 1 } : LS).push p [] st.many) (Nat.lt_succ_self _) (Nat.lt_succ_self _)
      have h2' : st.many + 1 ≤ (blk (lay n) b st.many st.many (({ st with many := st.many + 1 } : LS).push p [] st.many)).many := h2
      have g3 : Piece A st.many st.many (In (st.many + 1) (blk (lay n) b st.many st.many (({ st with many := st.many + 1 } : LS).push p [] st.many)).many) (LgL b) := h3
      have p1 := Piece.round (p := p) (q := q) g3 (by omega) (by omega) (by simp only [In, false_or]; omega) (by simp only [In, false_or]; omega) (by simp only [In, false_or]; omega)
      refine ⟨[(p, [], st.many)] ++ A ++ [(st.many, [], q)], ?_, ?_, p1.congr (fun a => ?_) fun _ => Iff.rfl⟩
      · show (blk (lay n) b st.many st.many _).arr ++ [(st.many, [], q)] = _
        rw [h1]
        simp only [LS.push, List.append_assoc]
      · show st.many ≤ (blk (lay n) b st.many st.many _).many
        omega
      · show _ ↔ In st.many (blk (lay n) b st.many st.many _).many a
        simp only [In, false_or]; omega
    | @undo _ b _ k =>
      simp only [lay, LgS]
      obtain ⟨A, h1, h2, h3⟩ := ih (unL b) (fun s hs => by
        obtain ⟨t, ht, rfl⟩ := unL_mem.mp hs
        exact (k t ht).un) p q st hp hq
      exact ⟨A, h1, h2, h3.congr (fun _ => Iff.rfl) fun w => LgL_un b w⟩
    | @part _ m b _ _ k =>
      simp only [lay, LgS]
      exact ih b k p q st hp hq
/-- what is reached from 0 along arrows -/
inductive Rch (A : Arr) : Nat → List Nat → Prop
  | nil : Rch A 0 []
  | snoc {a b : Nat} {w l : List Nat} : Rch A a w → (a, l, b) ∈ A → Rch A b (w ++ l)
theorem Piece.rch {A : Arr} {N : Nat → Prop} {P : List Nat → Prop} (x : Piece A 0 1 N P) (n0 : ¬ N 0) (n1 : ¬ N 1) (w : List Nat) : Rch A 1 w ↔ P w := by
  constructor
  · intro h
    have key : ∀ {b w}, Rch A b w → (b = 0 ∧ w = []) ∨ ((b = 1 ∨ N b) ∧ Pth A N 0 b w) := by
      intro b w h
      induction h with
      | nil => exact .inl ⟨rfl, rfl⟩
      | @snoc a b w l _ h ih =>
        obtain ⟨s, t⟩ := x.src _ _ _ h
        rcases ih with ⟨rfl, rfl⟩ | ⟨ha, hp⟩
        · exact .inr ⟨t, .one h⟩
        · rcases s with rfl | s
          · exact (ha.elim (fun z => absurd z (by decide)) n0).elim
          · exact .inr ⟨t, hp.cat s (.one h)⟩
    rcases key h with ⟨e, _⟩ | ⟨_, hp⟩
    · exact absurd e (by decide)
    · exact (x.lng _).mp hp
  · intro h
    have key : ∀ {a b v u}, Pth A N a b v → Rch A a u → Rch A b (u ++ v) := by
      intro a b v u h
      induction h generalizing u with
      | one h => exact fun r => r.snoc h
      | cons h _ _ ih => exact fun r => by rw [← List.append_assoc]; exact ih (r.snoc h)
    have := key ((x.lng w).mpr h) .nil
    rwa [List.nil_append] at this
/-- the rows along a flow's arrows from 0 to 1 are those of runs -/
theorem flow_rch {d : List Nat} {ps : List Nat → Option (List T)} {n : Nat} {b : List T} (h : ∀ s ∈ b, R d ps n s) (w : List Nat) : Rch (flowOf n b).arr 1 w ↔ LgL b w := by
  obtain ⟨A, h1, h2, h3⟩ := blk_lays (f := lay n) (fun s hs => lay_lays (h s hs)) 0 1 ⟨2, [], []⟩ (by decide) (by decide)
  have e : (flowOf n b).arr = A := h1
  rw [e]
  exact h3.rch (by unfold In; simp) (by unfold In; simp) w
end PG
/-! Lots of rows, each once. -/
namespace PG
open L2 RB PyProof.Rows
theorem nodup_sub {α : Type} [DecidableEq α] : ∀ {l m : List α}, l.Nodup → (∀ x ∈ l, x ∈ m) → l.length ≤ m.length
  | [], _, _, _ => Nat.zero_le _
  | x :: l, m, nd, h => by
    rw [List.nodup_cons] at nd
    have hx := h x List.mem_cons_self
    have := nodup_sub (l := l) (m := m.erase x) nd.2 fun y hy => (List.mem_erase_of_ne (fun (e : y = x) => nd.1 (e ▸ hy))).mpr (h y (List.mem_cons_of_mem _ hy))
    rw [List.length_erase_of_mem hx] at this
    have := List.length_pos_of_mem hx
    rw [List.length_cons]; omega
/-- all rows of at most m letters of these -/
def words (al : List Nat) : Nat → List (List Nat)
  | 0 => [[]]
  | m + 1 => [] :: al.flatMap fun c => (words al m).map (c :: ·)
theorem mem_words {al : List Nat} : ∀ {m : Nat} {r : List Nat}, r.length ≤ m → (∀ c ∈ r, c ∈ al) → r ∈ words al m
  | 0, r, h, _ => by rw [List.length_eq_zero_iff.mp (Nat.le_zero.mp h)]; simp [words]
  | m + 1, [], _, _ => by simp [words]
  | m + 1, c :: r, h, hc => by
    simp only [words]
    refine List.mem_cons_of_mem _ (List.mem_flatMap.mpr ⟨c, hc c List.mem_cons_self, List.mem_map.mpr ⟨r, mem_words (by simpa using h) fun x hx => hc x (List.mem_cons_of_mem _ hx), rfl⟩⟩)
def manyW (k : Nat) : Nat → Nat
  | 0 => 1
  | m + 1 => 1 + k * manyW k m
theorem words_len (al : List Nat) : ∀ m, (words al m).length = manyW al.length m
  | 0 => rfl
  | m + 1 => by
    simp only [words, manyW, List.length_cons, List.length_flatMap, List.length_map, words_len al m]
    have : ∀ l : List Nat, (l.map fun _ => manyW al.length m).sum = l.length * manyW al.length m := fun l => by
      induction l with
      | nil => simp
      | cons a l ih => simp only [List.map_cons, List.sum_cons, ih, List.length_cons, Nat.add_mul, Nat.one_mul]; omega
    rw [this]; omega
/-- letters over the deeds -/
def lets (d : List Nat) : List Nat := d ++ d.map sw
theorem few_rows {d : List Nat} {m : Nat} {rs : List (List Nat)} (nd : rs.Nodup) (h : ∀ r ∈ rs, r.length ≤ m ∧ ∀ c ∈ r, c ∈ lets d) : rs.length ≤ manyW (2 * d.length) m := by
  have := nodup_sub nd fun r hr => mem_words (al := lets d) (h r hr).1 (h r hr).2
  rw [words_len] at this
  rwa [show (lets d).length = 2 * d.length by unfold lets; rw [List.length_append, List.length_map]; omega] at this
/-- one row more, once -/
def ins (ks : List (List Nat)) (w : List Nat) : List (List Nat) := if w ∈ ks then ks else ks ++ [w]
theorem ins_mem {ks : List (List Nat)} {w x : List Nat} : x ∈ ins ks w ↔ x ∈ ks ∨ x = w := by
  unfold ins
  split
  · rename_i h
    exact ⟨.inl, fun z => z.elim id fun e => e ▸ h⟩
  · simp
theorem ins_nodup {ks : List (List Nat)} {w : List Nat} (h : ks.Nodup) : (ins ks w).Nodup := by
  unfold ins
  split
  · exact h
  · rename_i n
    refine List.nodup_append.mpr ⟨h, by simp, fun a ha b hb e => ?_⟩
    rw [List.mem_singleton.mp hb] at e
    exact n (e ▸ ha)
/-- the dict of them -/
def DK (ks : List (List Nat)) : List (L2.Key × V) := ks.map fun w => (Sum.inr (S w), V.bl true)
theorem DK_len (ks : List (List Nat)) : (DK ks).length = ks.length := by unfold DK; rw [List.length_map]
theorem put_DK (ks : List (List Nat)) (w : List Nat) : putK (DK ks) (Sum.inr (S w)) (.bl true) = DK (ins ks w) := by
  have any : ((DK ks).any fun kv => decide (kv.1 = (Sum.inr (S w) : L2.Key))) = decide (w ∈ ks) := by
    rw [Bool.eq_iff_iff, List.any_eq_true, decide_eq_true_iff]
    constructor
    · rintro ⟨kv, h, e⟩
      obtain ⟨x, hx, rfl⟩ := List.mem_map.mp h
      have : (Sum.inr (S x) : L2.Key) = Sum.inr (S w) := of_decide_eq_true e
      rw [← S_inj (Sum.inr.inj this)]; exact hx
    · intro h
      exact ⟨_, List.mem_map.mpr ⟨w, h, rfl⟩, decide_eq_true rfl⟩
  unfold putK ins
  by_cases h : w ∈ ks
  · rw [if_pos (any.trans (decide_eq_true h)), if_pos h]
    unfold DK
    rw [List.map_map]
    refine List.map_congr_left fun x hx => ?_
    simp only [Function.comp]
    split
    · rename_i e
      rw [show S x = S w from Sum.inr.inj e]
    · rfl
  · rw [if_neg (by rw [any, decide_eq_false h]; decide), if_neg h]
    unfold DK
    rw [List.map_append]; rfl
theorem has_DK (ks : List (List Nat)) (w : List Nat) : (valV (DK ks) (Sum.inr (S w))).isSome = decide (w ∈ ks) := by
  unfold valV
  rw [Option.isSome_map, Bool.eq_iff_iff, List.find?_isSome, decide_eq_true_iff]
  constructor
  · rintro ⟨kv, h, e⟩
    obtain ⟨x, hx, rfl⟩ := List.mem_map.mp h
    have : (Sum.inr (S x) : L2.Key) = Sum.inr (S w) := of_decide_eq_true e
    rw [← S_inj (Sum.inr.inj this)]; exact hx
  · intro h
    exact ⟨_, List.mem_map.mpr ⟨w, h, rfl⟩, decide_eq_true rfl⟩
/-- products -/
def addR (m : Nat) (u : List Nat) (ks : List (List Nat)) (x : List Nat) : List (List Nat) := if u.length + x.length ≤ m then ins ks (u ++ x) else ks
def prods (rs xs : List (List Nat)) (m : Nat) : List (List Nat) := rs.foldl (fun ks u => xs.foldl (addR m u) ks) []
theorem addR_mem {m : Nat} {u : List Nat} {w : List Nat} : ∀ {xs ks : List (List Nat)}, w ∈ xs.foldl (addR m u) ks ↔ w ∈ ks ∨ ∃ x ∈ xs, w = u ++ x ∧ u.length + x.length ≤ m
  | [], ks => by simp
  | x :: xs, ks => by
    rw [List.foldl_cons, addR_mem]
    unfold addR
    constructor
    · rintro (h | ⟨y, hy, h⟩)
      · split at h
        · rename_i le
          rcases ins_mem.mp h with h | h
          · exact .inl h
          · exact .inr ⟨x, List.mem_cons_self, h, le⟩
        · exact .inl h
      · exact .inr ⟨y, List.mem_cons_of_mem _ hy, h⟩
    · rintro (h | ⟨y, hy, h, le⟩)
      · left; split
        · exact ins_mem.mpr (.inl h)
        · exact h
      · rcases List.mem_cons.mp hy with rfl | hy
        · left; rw [if_pos le]; exact ins_mem.mpr (.inr h)
        · exact .inr ⟨y, hy, h, le⟩
theorem addR_nodup {m : Nat} {u : List Nat} : ∀ {xs ks : List (List Nat)}, ks.Nodup → (xs.foldl (addR m u) ks).Nodup
  | [], _, h => h
  | x :: xs, ks, h => by
    rw [List.foldl_cons]
    refine addR_nodup ?_
    unfold addR; split
    · exact ins_nodup h
    · exact h
theorem prods_mem {rs xs : List (List Nat)} {m : Nat} {w : List Nat} : w ∈ prods rs xs m ↔ ∃ u ∈ rs, ∃ x ∈ xs, w = u ++ x ∧ u.length + x.length ≤ m := by
  have key : ∀ (rs ks : List (List Nat)), w ∈ rs.foldl (fun ks u => xs.foldl (addR m u) ks) ks ↔ w ∈ ks ∨ ∃ u ∈ rs, ∃ x ∈ xs, w = u ++ x ∧ u.length + x.length ≤ m := by
    intro rs
    induction rs with
    | nil => simp
    | cons u rs ih =>
      intro ks
      rw [List.foldl_cons, ih, addR_mem]
      constructor
      · rintro ((h | h) | ⟨u', hu, h⟩)
        · exact .inl h
        · exact .inr ⟨u, List.mem_cons_self, h⟩
        · exact .inr ⟨u', List.mem_cons_of_mem _ hu, h⟩
      · rintro (h | ⟨u', hu, h⟩)
        · exact .inl (.inl h)
        · rcases List.mem_cons.mp hu with rfl | hu
          · exact .inl (.inr h)
          · exact .inr ⟨u', hu, h⟩
  unfold prods
  rw [key]; simp
theorem prods_nodup {rs xs : List (List Nat)} {m : Nat} : (prods rs xs m).Nodup := by
  have key : ∀ (rs ks : List (List Nat)), ks.Nodup → (rs.foldl (fun ks u => xs.foldl (addR m u) ks) ks).Nodup := by
    intro rs
    induction rs with
    | nil => exact fun _ h => h
    | cons u rs ih => exact fun ks h => ih _ (addR_nodup h)
  exact key rs [] .nil
/-! ### rows of runs have letters over the deeds -/
def GW (d w : List Nat) : Prop := Ls w ∧ ∀ c ∈ w, c ∈ lets d
theorem GW.nil (d : List Nat) : GW d [] := ⟨Ls.nil, fun _ h => nomatch h⟩
theorem GW.app {d u v : List Nat} (a : GW d u) (b : GW d v) : GW d (u ++ v) := ⟨a.1.app b.1, fun c h => (List.mem_append.mp h).elim (a.2 c) (b.2 c)⟩
theorem GW.inv {d u : List Nat} (a : GW d u) : GW d (inv u) := ⟨a.1.inv, fun c h => by
  unfold RB.inv at h
  rw [List.mem_reverse, List.mem_map] at h
  obtain ⟨x, hx, rfl⟩ := h
  have := a.2 x hx
  unfold lets at this ⊢
  rcases List.mem_append.mp this with z | z
  · exact List.mem_append_right _ (List.mem_map.mpr ⟨x, z, rfl⟩)
  · obtain ⟨y, hy, rfl⟩ := List.mem_map.mp z
    rw [sw_sw]; exact List.mem_append_left _ hy⟩
theorem gw_of {d r : List Nat} (l : Ls r) (o : OverD d r) : GW d r := ⟨l, fun c h => by
  have h1 := o c h
  have h2 := l c h
  unfold lets
  unfold lo1 at h1
  unfold RB.IsL at h2
  by_cases c1 : 65 ≤ c ∧ c ≤ 90
  · rw [if_pos c1] at h1
    refine List.mem_append_right _ (List.mem_map.mpr ⟨_, h1, ?_⟩)
    unfold sw
    rw [if_neg (by omega), if_pos (by omega)]; omega
  · rw [if_neg c1] at h1
    exact List.mem_append_left _ h1⟩
theorem gw_L {d : List Nat} : ∀ {b : List T} {w : List Nat}, (∀ s ∈ b, ∀ w, LgS s w → GW d w) → LgL b w → GW d w
  | [], w, _, h => by simp only [LgL] at h; rw [h]; exact .nil d
  | s :: r, w, k, h => by
    simp only [LgL] at h
    obtain ⟨u, v, rfl, h1, h2⟩ := h
    exact (k s List.mem_cons_self u h1).app (gw_L (fun x hx => k x (List.mem_cons_of_mem _ hx)) h2)
theorem gw_S {d : List Nat} {ps : List Nat → Option (List T)} {n : Nat} {t : T} (h : R d ps n t) : ∀ w, LgS t w → GW d w := by
  induction h with
  | dot a b _ => intro w k; simp only [LgS] at k; rw [k]; exact gw_of a b
  | alt _ _ _ _ ih =>
    intro w k
    simp only [LgS] at k
    obtain ⟨b, hb, k⟩ := LgBs_mem.mp k
    exact gw_L (ih b hb) k
  | loop _ _ ih =>
    intro w k
    simp only [LgS] at k
    induction k with
    | nil => exact .nil d
    | app a _ i2 => exact (gw_L ih a).app i2
  | undo _ _ ih =>
    intro w k
    simp only [LgS] at k
    have := (gw_L ih k).inv
    rwa [inv_inv'] at this
  | part _ _ _ ih =>
    intro w k
    simp only [LgS] at k
    exact gw_L ih k
theorem gw_few {d : List Nat} {m : Nat} {rs : List (List Nat)} (nd : rs.Nodup) (h : ∀ r ∈ rs, r.length ≤ m ∧ GW d r) : rs.length ≤ manyW (2 * d.length) m := few_rows nd fun r hr => ⟨(h r hr).1, (h r hr).2.2⟩
/-! ### round by round -/
def NF (P : List Nat → Prop) : Nat → List Nat → Prop
  | 0, w => w = []
  | k + 1, w => w = [] ∨ ∃ u x, NF P k u ∧ P x ∧ x ≠ [] ∧ w = u ++ x
theorem NF.up {P : List Nat → Prop} : ∀ {k : Nat} {w : List Nat}, NF P k w → NF P (k + 1) w
  | 0, w, h => .inl h
  | k + 1, w, h => by
    rcases h with h | ⟨u, x, h1, h2, h3, h4⟩
    · exact .inl h
    · exact .inr ⟨u, x, h1.up, h2, h3, h4⟩
theorem NF.le {P : List Nat → Prop} {k j : Nat} {w : List Nat} (h : NF P k w) (l : k ≤ j) : NF P j w := by
  induction l with
  | refl => exact h
  | step _ ih => exact ih.up
theorem NF.cons {P : List Nat → Prop} {u : List Nat} (hu : P u) (ne : u ≠ []) : ∀ {k : Nat} {v : List Nat}, NF P k v → NF P (k + 1) (u ++ v)
  | 0, v, h => by
    have h : v = [] := h
    subst h
    exact .inr ⟨[], u, rfl, hu, ne, by simp⟩
  | k + 1, v, h => by
    rcases h with rfl | ⟨a, x, h1, h2, h3, rfl⟩
    · exact .inr ⟨[], u, NF.le (k := 0) rfl (Nat.zero_le _), hu, ne, by simp⟩
    · exact .inr ⟨u ++ a, x, NF.cons hu ne h1, h2, h3, by rw [List.append_assoc]⟩
theorem nf_of {P : List Nat → Prop} {w : List Nat} (h : Star P w) : NF P w.length w := by
  induction h with
  | nil => exact rfl
  | @app u v hu _ ih =>
    by_cases ne : u = []
    · subst ne; simpa using ih
    · refine (NF.cons hu ne ih).le ?_
      have := List.length_pos_iff.mpr ne
      rw [List.length_append]; omega
/-- k turns of going round -/
structure Rnd (P : List Nat → Prop) (m k : Nat) (fo fr : List (List Nat)) : Prop where
  nd : fo.Nodup
  ndr : fr.Nodup
  sub : ∀ w ∈ fr, w ∈ fo
  ok : ∀ w ∈ fo, Star P w ∧ w.length ≤ m
  cl : ∀ w ∈ fo, w ∉ fr → ∀ x, P x → w.length + x.length ≤ m → w ++ x ∈ fo
  nf : ∀ w, w.length ≤ m → NF P k w → w ∈ fo
theorem Rnd.zero (P : List Nat → Prop) (m : Nat) : Rnd P m 0 [[]] [[]] :=
  ⟨by simp, by simp, fun _ h => h, fun w h => by rw [List.mem_singleton.mp h]; exact ⟨.nil, Nat.zero_le _⟩, fun w h n => absurd h n, fun w _ h => by rw [show w = [] from h]; exact List.mem_singleton.mpr rfl⟩
theorem insAll_mem {w : List Nat} : ∀ {xs ks : List (List Nat)}, w ∈ xs.foldl ins ks ↔ w ∈ ks ∨ w ∈ xs
  | [], ks => by simp
  | x :: xs, ks => by rw [List.foldl_cons, insAll_mem, ins_mem, List.mem_cons, or_assoc]
theorem insAll_nodup : ∀ {xs ks : List (List Nat)}, ks.Nodup → (xs.foldl ins ks).Nodup
  | [], _, h => h
  | x :: xs, ks, h => by rw [List.foldl_cons]; exact insAll_nodup (ins_nodup h)
theorem Rnd.next {P : List Nat → Prop} {m k : Nat} {fo fr rr : List (List Nat)} (x : Rnd P m k fo fr) (hr : ∀ w, w ∈ rr ↔ P w ∧ w.length ≤ m) :
    Rnd P m (k + 1) (((prods fr rr m).filter fun w => decide (w ∉ fo)).foldl ins fo) ((prods fr rr m).filter fun w => decide (w ∉ fo)) := by
  have mem : ∀ {w}, w ∈ (prods fr rr m).filter (fun w => decide (w ∉ fo)) ↔ w ∈ prods fr rr m ∧ w ∉ fo := fun {w} => by rw [List.mem_filter, decide_eq_true_iff]
  have to : ∀ {u y}, u ∈ fr → P y → u.length + y.length ≤ m → u ++ y ∈ ((prods fr rr m).filter fun w => decide (w ∉ fo)).foldl ins fo := fun {u y} hu hy le => by
    rw [insAll_mem]
    by_cases c : u ++ y ∈ fo
    · exact .inl c
    · exact .inr (mem.mpr ⟨prods_mem.mpr ⟨u, hu, y, (hr y).mpr ⟨hy, by omega⟩, rfl, le⟩, c⟩)
  have any : ∀ {u y}, u ∈ fo → P y → u.length + y.length ≤ m → u ++ y ∈ ((prods fr rr m).filter fun w => decide (w ∉ fo)).foldl ins fo := fun {u y} hu hy le => by
    by_cases c : u ∈ fr
    · exact to c hy le
    · rw [insAll_mem]; exact .inl (x.cl u hu c y hy le)
  refine ⟨insAll_nodup x.nd, prods_nodup.filter _, fun w h => insAll_mem.mpr (.inr h), fun w h => ?_, fun w h n y hy le => ?_, fun w le h => ?_⟩
  · rcases insAll_mem.mp h with h | h
    · exact x.ok w h
    · obtain ⟨u, hu, y, hy, rfl, le⟩ := prods_mem.mp (mem.mp h).1
      have s1 := (x.ok u (x.sub u hu)).1
      have s2 : Star P (y ++ []) := .app ((hr y).mp hy).1 .nil
      rw [List.append_nil] at s2
      exact ⟨s1.cat s2, by rw [List.length_append]; exact le⟩
  · rcases insAll_mem.mp h with h | h
    · exact any h hy le
    · exact absurd h n
  · rcases h with rfl | ⟨u, y, h1, h2, _, rfl⟩
    · rw [insAll_mem]; exact .inl (x.nf [] (Nat.zero_le _) (NF.le (k := 0) rfl (Nat.zero_le _)))
    · rw [List.length_append] at le
      exact any (x.nf u (by omega) h1) h2 le
theorem Rnd.end_ {P : List Nat → Prop} {m k : Nat} {fo fr : List (List Nat)} (x : Rnd P m k fo fr) (h : m ≤ k) (w : List Nat) : w ∈ fo ↔ Star P w ∧ w.length ≤ m :=
  ⟨x.ok w, fun ⟨s, le⟩ => x.nf w le ((nf_of s).le (by omega))⟩
end PG
/-! sorted of a list of texts, however many. -/
namespace GO
open PySem PySem.Spec PyProof.Rows L2 RB PG
/-- they ascend -/
def AscS (l : List (List Nat)) : Prop := l.Pairwise (· ≤ ·)
theorem asc_of : ∀ {x : Str} {r : List Str}, risingS x r = true → (∀ y ∈ r, x.cps.toList ≤ y.cps.toList) ∧ r.Pairwise fun a b => a.cps.toList ≤ b.cps.toList
  | _, [], _ => ⟨fun _ h => (nomatch h), .nil⟩
  | x, y :: r, h => by
    have h : (!ltCps y.cps.toList x.cps.toList && risingS y r) = true := h
    rw [Bool.and_eq_true] at h
    obtain ⟨h1, h2⟩ := h
    obtain ⟨k1, k2⟩ := asc_of h2
    rw [ltCps_eq] at h1
    have le : x.cps.toList ≤ y.cps.toList := List.not_lt.mp (by simpa using h1)
    refine ⟨fun z hz => ?_, List.pairwise_cons.mpr ⟨k1, k2⟩⟩
    rcases List.mem_cons.mp hz with e | hz
    · rw [e]; exact le
    · exact List.le_trans le (k1 z hz)
theorem asc_sorted {l : List Str} (h : sortedS l = true) : l.Pairwise fun a b => a.cps.toList ≤ b.cps.toList := by
  cases l with
  | nil => exact .nil
  | cons x r =>
    obtain ⟨k1, k2⟩ := asc_of h
    exact List.pairwise_cons.mpr ⟨k1, k2⟩
/-- sorted of rows -/
def rSortedR (K : PySem.W.Frag) : List V → Hp → VK → Prop := fun vs H Q => ∃ (a : Addr) (rs : List (List Nat)), vs = [.ref a] ∧ SqL K H a (rs.map fun r => V.str (S r)) ∧
  ∀ ys p, ys.Perm rs → AscS ys → H p = none → Q (.ref p) (upd H p (.lst (ys.map fun r => V.str (S r))))
theorem cps_S (r : List Nat) : (S r).cps.toList = r := by
  first | rfl | simp [S] | (unfold S; simp)
theorem sorted_rows {X : Cx} {K : PySem.W.Frag} (e : X.K = K) : CallR X (.builtin "sorted") (rSortedR K) := by
  subst e
  intro pins s σ H vs us Q I r word
  obtain ⟨a, rs, rfl, here, fin⟩ := word
  obtain ⟨its, rel, isl, room⟩ := I.list here
  have rel2 : Vals ((rs.map S).map V.str) its := by rw [List.map_map]; exact rel
  have many := rel.length
  rw [Vals.ref1 r]
  refine sorted_strsAny isl.isList rel2.strs (by rw [← many]; exact room) fun out ys k1 k2 k3 => ?_
  obtain ⟨ep, at_⟩ := sortedAll_at s.heap its out
  obtain ⟨zs, e1, e2⟩ : ∃ zs : List (List Nat), ys = zs.map S ∧ zs.Perm rs := by
    have inv : ∀ l : List (List Nat), (l.map S).map (fun z : Str => z.cps.toList) = l := fun l => by
      rw [List.map_map]
      conv => rhs; rw [← List.map_id l]
      exact List.map_congr_left fun x _ => cps_S x
    refine ⟨ys.map fun z => z.cps.toList, ?_, ?_⟩
    · rw [List.map_map]
      conv => lhs; rw [← List.map_id ys]
      refine List.map_congr_left fun z hz => ?_
      obtain ⟨x, _, rfl⟩ := List.mem_map.mp (k2.mem_iff.mp hz)
      show S x = S (S x).cps.toList
      rw [cps_S]
    · have := k2.map fun z : Str => z.cps.toList
      rwa [inv] at this
  subst e1
  have up : AscS zs := by
    have := List.pairwise_map.mp (asc_sorted k3)
    exact this.imp fun h => by rwa [cps_S, cps_S] at h
  have small : (zs.map fun r => V.str (S r)).length ≤ sizeLine := by
    rw [List.length_map, e2.length_eq]
    rw [List.length_map] at room; exact room
  have vals : Vals (zs.map fun r => V.str (S r)) out.toList := by
    have := vals_of_strs k1
    rwa [List.map_map] at this
  exact ⟨.ref _, upd H (s.heap.objs.size + 1) (.lst (zs.map fun r => V.str (S r))), I.laid (t' := s.toks) (fun _ _ => sortedAll_old) (Nat.le_succ _) ⟨small, out.toList, ep, vals, at_⟩, rfl, fin zs _ e2 up (I.hok.fresh (Nat.le_succ _))⟩
/-- sorted lots of the same rows are one -/
theorem sorted_one {xs ys rs ts : List (List Nat)} (p1 : xs.Perm rs) (p2 : ys.Perm ts) (a1 : AscS xs) (a2 : AscS ys) (n1 : rs.Nodup) (n2 : ts.Nodup) (h : ∀ w, w ∈ rs ↔ w ∈ ts) : xs = ys :=
  List.Perm.eq_of_pairwise (le := (· ≤ ·)) (fun a b _ _ k1 k2 => List.le_antisymm k1 k2) a1 a2 (p1.trans (((List.perm_ext_iff_of_nodup n1 n2).mpr h).trans p2.symm))
end GO
/-! A display of one pair whose key is a tuple. -/
namespace GO
open PySem PySem.Spec PyProof.Rows L2 RB PG
def tDispT (tk tv : TE) : TE := fun σ H Q => ∀ p, H p = none → tPairs [(tk, tv)] σ (upd H p (.dT [])) fun ps H2 => ∃ x y, ps = [(x, y)] ∧ H2 p = some (.dT []) ∧ ∃ (b : Addr) (k : List L2.Key), x = .ref b ∧ H2 b = some (.tup (k.map kV)) ∧ Q (.ref p) (upd H2 p (.dT (putK [] k y)))
theorem pe_dispT {X : Cx} {pos : Pos} {k v : Expr} {tk tv : TE} (hu : X.A.units + 1 < cLine) (h : PPs X pos [some k] [v] [(tk, tv)]) : PE X (.Dict [some k] [v] pos) (tDispT tk tv) := by
  refine ⟨fun pins s σ H Q I q => ?_⟩
  have new := I.hok.fresh (Nat.le_refl s.heap.objs.size)
  have I1 := I.laid (a := s.heap.objs.size) (o := .dT []) (h' := s.heap.push { cls := .type "dict", data := .dict #[] }) (t' := s.toks) (fun _ _ q => Heap.get?_push_of_some _ q) (Nat.le_refl _) (dt_empty s.heap I.big)
  have word := q _ new
  have made := h.run pins _ σ _ _ I1 word
  rw [arm_eval_Dict, zip_pairTrees [some k] [v] X.env pos rfl rfl, dictDisplay_pairs _ (fun z => by have := pairTrees_length [some k] [v] X.env pos rfl rfl; rw [z] at this; cases this) (by rw [pairTrees_length [some k] [v] X.env pos rfl rfl]; exact (show 1 < 17 by decide))]
  refine wpAny_bind (wpAny_standAt (wpAny_bind ?_))
  unfold subDict
  refine wpAny_bind (wpAny_alloc ?_)
  refine wpAny_bind (wpAny_holding ?_)
  rw [if_pos (by rw [pairTrees_length [some k] [v] X.env pos rfl rfl]; exact (show 1 ≤ 15 by decide))]
  refine wpAny_bind (wpAny_mono made (fun vs s1 h1 => ?_) fun _ _ e => e)
  obtain ⟨ps, H2, I2, rel, x, y, rfl, e, b, kk, rfl, eb, q2⟩ := h1
  obtain ⟨u, r, rfl, ru, rv⟩ : ∃ u r, vs = [(u, r)] ∧ RelV (.ref b) u ∧ RelV y r := by
    cases rel with
    | cons a t => cases t; exact ⟨_, _, rfl, a.1, a.2⟩
  cases (show u = Value.ref b from ru)
  obtain ⟨z, hd, xs, rx, dd⟩ := dt_of I2.hok e
  cases rx
  refine wpAny_holding ?_
  rw [List.forIn_cons]
  refine wpAny_bind (wpAny_bind (wpAny_bind (wpAny_dictSet_heap (hsz := Nat.zero_le _) (show _ < cLine by omega) (key_of I2.hok eb) dd fun h' dd' hs => wpAny_pure ?_)))
  dsimp only
  rw [List.forIn_nil]
  refine wpAny_pure (wpAny_pure (wpAny_pure (wpAny_pure ?_)))
  obtain ⟨o, es, ep, ho, h2, h3, h4, _, h5⟩ := dd'
  refine ⟨.ref s.heap.objs.size, upd H2 s.heap.objs.size (.dT (putK [] kk y)), d_write I2 (by rw [e]; exact True.intro) hs ⟨o, ho⟩ ⟨?_, hd, _, (KT.put (kvs := []) (xs := []) (H := H2) .nil kk eb rv).keeps fun c ys ec => ?_, o, es, ep, ho, h2, h3, h4, h5⟩, rfl, q2⟩
  · rw [sizeLine_eq]; unfold putK; simp
  · rw [upd_ne (ne_of ec e (fun z => nomatch z))]
    exact ec
end GO
/-! What is reached along arrows, worked off from a list of what waits. -/
namespace PG
open L2 RB PyProof.Rows
abbrev PR := Nat × List Nat
/-- found and waiting -/
structure Wk (arr : Arr) (m : Nat) (fo wa : List PR) : Prop where
  nd : fo.Nodup
  zero : (0, []) ∈ fo
  sub : ∀ x ∈ wa, x ∈ fo
  ok : ∀ x ∈ fo, Rch arr x.1 x.2 ∧ x.2.length ≤ m
  cl : ∀ x ∈ fo, x ∉ wa → ∀ l b, (x.1, l, b) ∈ arr → x.2.length + l.length ≤ m → (b, x.2 ++ l) ∈ fo
/-- one is worked off, along the arrows of P so far -/
structure Wm (arr : Arr) (m : Nat) (fo wa : List PR) (x : PR) (P : List (List Nat × Nat)) : Prop where
  nd : fo.Nodup
  zero : (0, []) ∈ fo
  here : x ∈ fo
  sub : ∀ y ∈ wa, y ∈ fo
  ok : ∀ y ∈ fo, Rch arr y.1 y.2 ∧ y.2.length ≤ m
  cl : ∀ y ∈ fo, y ∉ wa → y ≠ x → ∀ l b, (y.1, l, b) ∈ arr → y.2.length + l.length ≤ m → (b, y.2 ++ l) ∈ fo
  cx : ∀ l b, (l, b) ∈ P → x.2.length + l.length ≤ m → (b, x.2 ++ l) ∈ fo
theorem Wk.start (arr : Arr) (m : Nat) : Wk arr m [(0, [])] [(0, [])] :=
  ⟨by simp, List.mem_singleton.mpr rfl, fun _ h => h, fun x h => by rw [List.mem_singleton.mp h]; exact ⟨.nil, Nat.zero_le _⟩, fun x h n => absurd h n⟩
theorem Wk.pop {arr : Arr} {m : Nat} {fo wa : List PR} {x : PR} (w : Wk arr m fo (wa ++ [x])) : Wm arr m fo wa x [] :=
  ⟨w.nd, w.zero, w.sub x (List.mem_append_right _ (List.mem_singleton.mpr rfl)), fun y h => w.sub y (List.mem_append_left _ h), w.ok, fun y h n ne => w.cl y h fun z => (List.mem_append.mp z).elim n fun z => ne (List.mem_singleton.mp z), fun _ _ h => nomatch h⟩
theorem Wm.done {arr : Arr} {m : Nat} {fo wa : List PR} {x : PR} {P : List (List Nat × Nat)} (w : Wm arr m fo wa x P) (all : ∀ l b, (x.1, l, b) ∈ arr → (l, b) ∈ P) : Wk arr m fo wa :=
  ⟨w.nd, w.zero, w.sub, w.ok, fun y h n l b ha le => by
    by_cases e : y = x
    · subst e; exact w.cx l b (all l b ha) le
    · exact w.cl y h n e l b ha le⟩
/-- the arrow leads nowhere new -/
theorem Wm.skip {arr : Arr} {m : Nat} {fo wa : List PR} {x : PR} {P : List (List Nat × Nat)} {l : List Nat} {b : Nat} (w : Wm arr m fo wa x P) (h : ¬ (x.2.length + l.length ≤ m ∧ (b, x.2 ++ l) ∉ fo)) : Wm arr m fo wa x (P ++ [(l, b)]) :=
  ⟨w.nd, w.zero, w.here, w.sub, w.ok, w.cl, fun l' b' hp le => by
    rcases List.mem_append.mp hp with z | z
    · exact w.cx l' b' z le
    · cases List.mem_singleton.mp z
      exact Classical.byContradiction fun n => h ⟨le, n⟩⟩
/-- the arrow leads to what is new -/
theorem Wm.more {arr : Arr} {m : Nat} {fo wa : List PR} {x : PR} {P : List (List Nat × Nat)} {l : List Nat} {b : Nat} (w : Wm arr m fo wa x P) (ha : (x.1, l, b) ∈ arr) (le : x.2.length + l.length ≤ m) (nw : (b, x.2 ++ l) ∉ fo) : Wm arr m (fo ++ [(b, x.2 ++ l)]) (wa ++ [(b, x.2 ++ l)]) x (P ++ [(l, b)]) := by
  have to : ∀ {y : PR}, y ∈ fo → y ∈ fo ++ [(b, x.2 ++ l)] := fun h => List.mem_append_left _ h
  refine ⟨List.nodup_append.mpr ⟨w.nd, by simp, fun a h c hc e => nw (List.mem_singleton.mp hc ▸ e ▸ h)⟩, to w.zero, to w.here, fun y h => ?_, fun y h => ?_, fun y h n ne l' b' h2 le2 => ?_, fun l' b' hp le2 => ?_⟩
  · rcases List.mem_append.mp h with z | z
    · exact to (w.sub y z)
    · exact List.mem_append_right _ z
  · rcases List.mem_append.mp h with z | z
    · exact w.ok y z
    · rw [List.mem_singleton.mp z]
      exact ⟨(w.ok x w.here).1.snoc ha, by rw [List.length_append]; exact le⟩
  · rcases List.mem_append.mp h with z | z
    · exact to (w.cl y z (fun k => n (List.mem_append_left _ k)) ne l' b' h2 le2)
    · exact absurd (List.mem_append_right _ z) n
  · rcases List.mem_append.mp hp with z | z
    · exact to (w.cx l' b' z le2)
    · cases List.mem_singleton.mp z
      exact List.mem_append_right _ (List.mem_singleton.mpr rfl)
theorem Wk.end_ {arr : Arr} {m : Nat} {fo : List PR} (w : Wk arr m fo []) (a : Nat) (u : List Nat) : (a, u) ∈ fo ↔ Rch arr a u ∧ u.length ≤ m := by
  have key : ∀ {a : Nat} {u : List Nat}, Rch arr a u → u.length ≤ m → (a, u) ∈ fo := fun h => by
    induction h with
    | nil => exact fun _ => w.zero
    | @snoc a b v l _ ha ih =>
      intro le
      rw [List.length_append] at le
      exact w.cl (a, v) (ih (by omega)) (fun z => nomatch z) l b ha le
  exact ⟨w.ok (a, u), fun ⟨h, le⟩ => key h le⟩
/-- how many there can be -/
theorem Wk_few {d : List Nat} {m n : Nat} {fo : List PR} (nd : fo.Nodup) (h : ∀ x ∈ fo, x.1 < n ∧ x.2.length ≤ m ∧ GW d x.2) : fo.length ≤ n * manyW (2 * d.length) m := by
  have := nodup_sub (m := (List.range n).flatMap fun a => (words (lets d) m).map fun w => (a, w)) nd fun x hx => by
    obtain ⟨h1, h2, h3⟩ := h x hx
    exact List.mem_flatMap.mpr ⟨x.1, List.mem_range.mpr h1, List.mem_map.mpr ⟨x.2, mem_words h2 h3.2, rfl⟩⟩
  refine Nat.le_trans this (Nat.le_of_eq ?_)
  rw [List.length_flatMap]
  simp only [List.length_map, words_len, show (lets d).length = 2 * d.length by unfold lets; rw [List.length_append, List.length_map]; omega]
  have sum : ∀ l : List Nat, (l.map fun _ => manyW (2 * d.length) m).sum = l.length * manyW (2 * d.length) m := fun l => by
    induction l with
    | nil => simp
    | cons a l ih => simp only [List.map_cons, List.sum_cons, ih, List.length_cons, Nat.add_mul, Nat.one_mul]; omega
  rw [sum, List.length_range]
/-- the dict of what is found -/
def keyP (x : PR) : List L2.Key := [Sum.inl (x.1 : Int), Sum.inr (S x.2)]
theorem keyP_inj {x y : PR} (h : keyP x = keyP y) : x = y := by
  unfold keyP at h
  obtain ⟨h1, h2⟩ := List.cons.inj h
  have a : (x.1 : Int) = y.1 := Sum.inl.inj h1
  have b := S_inj (Sum.inr.inj (List.cons.inj h2).1)
  exact Prod.ext (by omega) b
def DT' (fo : List PR) : List (List L2.Key × V) := fo.map fun x => (keyP x, V.bl true)
theorem put_DT {fo : List PR} {x : PR} (h : x ∉ fo) : putK (DT' fo) (keyP x) (.bl true) = DT' (fo ++ [x]) := by
  unfold putK
  rw [if_neg]
  · unfold DT'; rw [List.map_append]; rfl
  · intro e
    obtain ⟨kv, h1, h2⟩ := List.any_eq_true.mp e
    obtain ⟨y, hy, rfl⟩ := List.mem_map.mp h1
    exact h (keyP_inj (of_decide_eq_true h2) ▸ hy)
theorem has_DT (fo : List PR) (x : PR) : (valV (DT' fo) (keyP x)).isSome = decide (x ∈ fo) := by
  unfold valV
  rw [Option.isSome_map, Bool.eq_iff_iff, List.find?_isSome, decide_eq_true_iff]
  constructor
  · rintro ⟨kv, h, e⟩
    obtain ⟨y, hy, rfl⟩ := List.mem_map.mp h
    rw [← keyP_inj (of_decide_eq_true e)]; exact hy
  · intro h
    exact ⟨_, List.mem_map.mpr ⟨x, h, rfl⟩, decide_eq_true rfl⟩
end PG
/-! What a flow's arrows bear, and where they lead. -/
namespace PG
open L2 RB PyProof.Rows
/-- what an arrow may bear: nothing, or a letter over the deeds -/
def Lt (d r : List Nat) : Prop := GW d r ∧ r.length ≤ 12
theorem lt_nil (d : List Nat) : Lt d [] := ⟨.nil d, Nat.zero_le _⟩
def AG (d : List Nat) (st : LS) : Prop := ∀ a ∈ st.arr, Lt d a.2.1
theorem AG.push {d : List Nat} {st : LS} {p q : Nat} {r : List Nat} (h : AG d st) (hr : Lt d r) : AG d (st.push p r q) := fun a ha => by
  rcases List.mem_append.mp (show a ∈ st.arr ++ [(p, r, q)] from ha) with z | z
  · exact h a z
  · rw [List.mem_singleton.mp z]; exact hr
theorem run_ag {d : List Nat} {f : T → Nat → Nat → LS → LS} {g : Nat → Nat} : ∀ {b : List T} {i : Nat} {st : LS}, (∀ s ∈ b, ∀ p q st, AG d st → AG d (f s p q st)) → AG d st → AG d (run f g b i st)
  | [], _, _, _, h => h
  | s :: r, i, st, k, h => run_ag (b := r) (fun x hx => k x (List.mem_cons_of_mem _ hx)) (k s List.mem_cons_self _ _ _ h)
theorem blk_ag {d : List Nat} {f : T → Nat → Nat → LS → LS} {b : List T} {p q : Nat} {st : LS} (k : ∀ s ∈ b, ∀ p q st, AG d st → AG d (f s p q st)) (h : AG d st) : AG d (blk f b p q st) := by
  unfold blk
  split
  · exact h.push (lt_nil d)
  · exact run_ag k h
theorem rowR_ag {d : List Nat} {g : Nat → Nat} : ∀ {r : List Nat} {i : Nat} {st : LS}, GW d r → AG d st → AG d (rowR g r i st)
  | [], _, _, _, h => h
  | c :: r, i, st, k, h => rowR_ag (r := r) ⟨fun x hx => k.1 x (List.mem_cons_of_mem _ hx), fun x hx => k.2 x (List.mem_cons_of_mem _ hx)⟩ (h.push ⟨⟨fun x hx => by rw [List.mem_singleton.mp hx]; exact k.1 c List.mem_cons_self, fun x hx => by rw [List.mem_singleton.mp hx]; exact k.2 c List.mem_cons_self⟩, show 1 ≤ 12 by decide⟩)
theorem layR_ag {d r : List Nat} {p q : Nat} {st : LS} (k : GW d r) (h : AG d st) : AG d (layR r p q st) := by
  unfold layR
  split
  · exact h.push (lt_nil d)
  · exact rowR_ag k h
theorem eits_ag {d : List Nat} {f : List T → Nat → Nat → LS → LS} {p q : Nat} : ∀ {bs : List (List T)} {st : LS}, (∀ b ∈ bs, ∀ p q st, AG d st → AG d (f b p q st)) → AG d st → AG d (eits f p q bs st)
  | [], _, _, h => h
  | b :: r, st, k, h => eits_ag (bs := r) (fun x hx => k x (List.mem_cons_of_mem _ hx)) (k b List.mem_cons_self _ _ _ h)
theorem oths_ag {d : List Nat} {f : List T → Nat → Nat → LS → LS} {m q : Nat} : ∀ {bs : List (List T)} {st : LS}, (∀ b ∈ bs, ∀ p q st, AG d st → AG d (f b p q st)) → AG d st → AG d (oths f m q bs st)
  | [], _, _, h => h
  | b :: r, st, k, h => oths_ag (bs := r) (fun x hx => k x (List.mem_cons_of_mem _ hx)) (k b List.mem_cons_self _ _ _ (AG.push (st := { st with many := st.many + 1 }) h (lt_nil d)))
theorem lay_ag {d : List Nat} {ps : List Nat → Option (List T)} {n : Nat} : ∀ {t : T}, R d ps n t → ∀ p q st, AG d st → AG d (lay n t p q st) := by
  induction n with
  | zero =>
    intro t h p q st a
    cases h with
    | dot L o _ => simp only [lay]; exact layR_ag (gw_of L o) a
  | succ n ih =>
    intro t h p q st a
    have hb : ∀ b : List T, (∀ s ∈ b, R d ps n s) → ∀ p q st, AG d st → AG d (blk (lay n) b p q st) := fun b k p q st a => blk_ag (fun s hs => ih (k s hs)) a
    cases h with
    | dot L o _ => simp only [lay]; exact layR_ag (gw_of L o) a
    | @alt _ o bs _ _ _ k => cases o with
      | false => simp only [lay]; exact eits_ag (fun b hx => hb b (k b hx)) a
      | true => simp only [lay]; exact oths_ag (fun b hx => hb b (k b hx)) (AG.push (st := { st with many := st.many + 1, oth := st.oth ++ [st.many] }) a (lt_nil d))
    | loop _ k => simp only [lay]; exact (hb _ k _ _ _ (AG.push (st := { st with many := st.many + 1 }) a (lt_nil d))).push (lt_nil d)
    | @undo _ b _ k =>
      simp only [lay]
      exact hb (unL b) (fun s hs => by
        obtain ⟨t, ht, rfl⟩ := unL_mem.mp hs
        exact (k t ht).un) _ _ _ a
    | part _ _ k => simp only [lay]; exact hb _ k _ _ _ a
theorem flow_ag {d : List Nat} {ps : List Nat → Option (List T)} {n : Nat} {b : List T} (h : RB_ d ps n b) : AG d (flowOf n b) := blk_ag (fun s hs => lay_ag (h.2 s hs)) (fun _ z => nomatch z)

theorem flow_in {d : List Nat} {ps : List Nat → Option (List T)} {n : Nat} {b : List T} (h : RB_ d ps n b) : 2 ≤ (flowOf n b).many ∧ ∀ a l c, (a, l, c) ∈ (flowOf n b).arr → a < (flowOf n b).many ∧ c < (flowOf n b).many := by
  obtain ⟨A, h1, h2, h3⟩ := blk_lays (f := lay n) (fun s hs => lay_lays (h.2 s hs)) 0 1 ⟨2, [], []⟩ (by decide) (by decide)
  have e : (flowOf n b).arr = A := h1
  have m : 2 ≤ (flowOf n b).many := h2
  refine ⟨m, fun a l c k => ?_⟩
  rw [e] at k
  obtain ⟨s, t⟩ := h3.src a l c k
  have s : a = 0 ∨ In 2 (flowOf n b).many a := s
  have t : c = 1 ∨ In 2 (flowOf n b).many c := t
  unfold In at s t
  omega
theorem flow_ub {d : List Nat} {ps : List Nat → Option (List T)} {n : Nat} {b : List T} (h : RB_ d ps n b) (z1 : (szB b).1 ≤ 58) (z2 : (szB b).2 ≤ 200) : (flowOf n b).many ≤ 60 ∧ (flowOf n b).arr.length ≤ 200 := by
  obtain ⟨u1, u2⟩ := blk_ub (f := lay n) (b := b) (p := 0) (q := 1) (st := ⟨2, [], []⟩) fun s hs p q st => lay_ub
  have u1 : (flowOf n b).many ≤ 2 + (szB b).1 := u1
  have u2 : (flowOf n b).arr.length ≤ 0 + (szB b).2 := u2
  omega
end PG
namespace K07
open PySem PySem.Spec PyProof.Rows L2 RB MV
def topS (i : Nat) : Stmt := PySem.Challenge.pw_runsback_k07_whole_rows_along_flows.main.body.getD i (.Pass ⟨0, 0, 0, 0⟩)
abbrev s_is_small_word : Stmt := topS 1
abbrev s_is_deeds : Stmt := topS 2
abbrev s_is_row : Stmt := topS 3
abbrev s_is_row_over : Stmt := topS 4
abbrev s_undoings : Stmt := topS 6
abbrev s_is_block : Stmt := topS 8
abbrev s_is_statement : Stmt := topS 9
abbrev s_are_blocks : Stmt := topS 10
abbrev s_names_in : Stmt := topS 11
abbrev s_undone_block : Stmt := topS 12
abbrev s_undone_statement : Stmt := topS 13
abbrev s_flow : Stmt := topS 15
abbrev s_laid : Stmt := topS 16
abbrev s_Laying_init : Stmt := inClass (topS 17) 0
abbrev s_Laying_place : Stmt := inClass (topS 17) 1
abbrev s_Laying_stops : Stmt := inClass (topS 17) 2
abbrev s_Laying_lay_block : Stmt := inClass (topS 17) 3
abbrev s_Laying_lay : Stmt := inClass (topS 17) 4
abbrev s_Laying_lay_row : Stmt := inClass (topS 17) 5
abbrev s_Laying_lay_other : Stmt := inClass (topS 17) 6
abbrev s_Laying_lay_loop : Stmt := inClass (topS 17) 7
abbrev s_BadProgram_init : Stmt := inClass (topS 20) 0
abbrev s_flow_size : Stmt := topS 22
abbrev s_block_size : Stmt := topS 23
abbrev s_statement_size : Stmt := topS 24
abbrev s_sum_of_sizes : Stmt := topS 25
abbrev s_Program_init : Stmt := inClass (topS 29) 0
abbrev s_Program_parts : Stmt := inClass (topS 29) 1
abbrev s_Program__eq_ : Stmt := inClass (topS 29) 2
abbrev s_are_parts : Stmt := topS 30
abbrev s_is_within : Stmt := topS 31
abbrev s_hand : Stmt := topS 33
abbrev s_draw : Stmt := topS 34
abbrev s_undoing : Stmt := topS 35
abbrev s_back : Stmt := topS 36
abbrev s_deeds : Stmt := topS 37
abbrev s_row : Stmt := topS 38
abbrev s_statement : Stmt := topS 39
abbrev s_block : Stmt := topS 40
abbrev s_sizes : Stmt := topS 41
abbrev s_parts_drawn : Stmt := topS 42
abbrev s_drawn : Stmt := topS 43
abbrev s_products : Stmt := topS 44
abbrev s_rows : Stmt := topS 45
abbrev s_statement_rows : Stmt := topS 46
abbrev s_along : Stmt := topS 47
abbrev s_law : Stmt := topS 48
theorem sc_is_small_word : FnScope ["thing"] ["thing"] (defScope s_is_small_word) := ⟨rfl, rfl, rfl, by decide +kernel, rfl, by decide +kernel, by decide +kernel⟩
theorem sc_is_deeds : FnScope ["thing", "one", "two"] ["thing"] (defScope s_is_deeds) := ⟨rfl, rfl, rfl, by decide +kernel, rfl, by decide +kernel, by decide +kernel⟩
theorem sc_is_row : FnScope ["thing"] ["thing"] (defScope s_is_row) := ⟨rfl, rfl, rfl, by decide +kernel, rfl, by decide +kernel, by decide +kernel⟩
theorem sc_is_row_over : FnScope ["deeds", "thing", "letter"] ["deeds", "thing"] (defScope s_is_row_over) := ⟨rfl, rfl, rfl, by decide +kernel, rfl, by decide +kernel, by decide +kernel⟩
theorem sc_undoings : FnScope ["row"] ["row"] (defScope s_undoings) := ⟨rfl, rfl, rfl, by decide +kernel, rfl, by decide +kernel, by decide +kernel⟩
theorem sc_is_block : FnScope ["deeds", "names", "thing", "depth", "item"] ["deeds", "names", "thing", "depth"] (defScope s_is_block) := ⟨rfl, rfl, rfl, by decide +kernel, rfl, by decide +kernel, by decide +kernel⟩
theorem sc_is_statement : FnScope ["deeds", "names", "thing", "depth", "word", "inner"] ["deeds", "names", "thing", "depth"] (defScope s_is_statement) := ⟨rfl, rfl, rfl, by decide +kernel, rfl, by decide +kernel, by decide +kernel⟩
theorem sc_are_blocks : FnScope ["deeds", "names", "thing", "depth", "block"] ["deeds", "names", "thing", "depth"] (defScope s_are_blocks) := ⟨rfl, rfl, rfl, by decide +kernel, rfl, by decide +kernel, by decide +kernel⟩
theorem sc_names_in : FnScope ["block", "names", "word", "inner", "choice"] ["block"] (defScope s_names_in) := ⟨rfl, rfl, rfl, by decide +kernel, rfl, by decide +kernel, by decide +kernel⟩
theorem sc_undone_block : FnScope ["parts", "block", "statement"] ["parts", "block"] (defScope s_undone_block) := ⟨rfl, rfl, rfl, by decide +kernel, rfl, by decide +kernel, by decide +kernel⟩
theorem sc_undone_statement : FnScope ["parts", "statement", "word", "inner", "block"] ["parts", "statement"] (defScope s_undone_statement) := ⟨rfl, rfl, rfl, by decide +kernel, rfl, by decide +kernel, by decide +kernel⟩
theorem sc_flow : FnScope ["program", "laying"] ["program"] (defScope s_flow) := ⟨rfl, rfl, rfl, by decide +kernel, rfl, by decide +kernel, by decide +kernel⟩
theorem sc_laid : FnScope ["program", "laying"] ["program"] (defScope s_laid) := ⟨rfl, rfl, rfl, by decide +kernel, rfl, by decide +kernel, by decide +kernel⟩
theorem sc_Laying_init : FnScope ["self", "blocks"] ["self", "blocks"] (defScope s_Laying_init) := ⟨rfl, rfl, rfl, by decide +kernel, rfl, by decide +kernel, by decide +kernel⟩
theorem sc_Laying_place : FnScope ["self"] ["self"] (defScope s_Laying_place) := ⟨rfl, rfl, rfl, by decide +kernel, rfl, by decide +kernel, by decide +kernel⟩
theorem sc_Laying_stops : FnScope ["self", "start", "goal", "ways", "stops", "_"] ["self", "start", "goal", "ways"] (defScope s_Laying_stops) := ⟨rfl, rfl, rfl, by decide +kernel, rfl, by decide +kernel, by decide +kernel⟩
theorem sc_Laying_lay_block : FnScope ["self", "block", "start", "goal", "stops", "at", "statement"] ["self", "block", "start", "goal"] (defScope s_Laying_lay_block) := ⟨rfl, rfl, rfl, by decide +kernel, rfl, by decide +kernel, by decide +kernel⟩
theorem sc_Laying_lay : FnScope ["self", "statement", "start", "goal", "word", "inner", "block"] ["self", "statement", "start", "goal"] (defScope s_Laying_lay) := ⟨rfl, rfl, rfl, by decide +kernel, rfl, by decide +kernel, by decide +kernel⟩
theorem sc_Laying_lay_row : FnScope ["self", "row", "start", "goal", "stops", "at", "letter"] ["self", "row", "start", "goal"] (defScope s_Laying_lay_row) := ⟨rfl, rfl, rfl, by decide +kernel, rfl, by decide +kernel, by decide +kernel⟩
theorem sc_Laying_lay_other : FnScope ["self", "blocks", "start", "goal", "middle", "block", "begin"] ["self", "blocks", "start", "goal"] (defScope s_Laying_lay_other) := ⟨rfl, rfl, rfl, by decide +kernel, rfl, by decide +kernel, by decide +kernel⟩
theorem sc_Laying_lay_loop : FnScope ["self", "block", "start", "goal", "turn"] ["self", "block", "start", "goal"] (defScope s_Laying_lay_loop) := ⟨rfl, rfl, rfl, by decide +kernel, rfl, by decide +kernel, by decide +kernel⟩
theorem sc_BadProgram_init : FnScope ["self", "part"] ["self", "part"] (defScope s_BadProgram_init) := ⟨rfl, rfl, rfl, by decide +kernel, rfl, by decide +kernel, by decide +kernel⟩
theorem sc_flow_size : FnScope ["parts", "body", "places", "arrows"] ["parts", "body"] (defScope s_flow_size) := ⟨rfl, rfl, rfl, by decide +kernel, rfl, by decide +kernel, by decide +kernel⟩
theorem sc_block_size : FnScope ["parts", "known", "block", "places", "arrows", "statement"] ["parts", "known", "block"] (defScope s_block_size) := ⟨rfl, rfl, rfl, by decide +kernel, rfl, by decide +kernel, by decide +kernel⟩
theorem sc_statement_size : FnScope ["parts", "known", "statement", "word", "inner", "places", "arrows", "more", "block"] ["parts", "known", "statement"] (defScope s_statement_size) := ⟨rfl, rfl, rfl, by decide +kernel, rfl, by decide +kernel, by decide +kernel⟩
theorem sc_sum_of_sizes : FnScope ["sizes", "places", "_", "arrows"] ["sizes"] (defScope s_sum_of_sizes) := ⟨rfl, rfl, rfl, by decide +kernel, rfl, by decide +kernel, by decide +kernel⟩
theorem sc_Program_init : FnScope ["self", "deeds", "parts", "body", "places", "arrows"] ["self", "deeds", "parts", "body"] (defScope s_Program_init) := ⟨rfl, rfl, rfl, by decide +kernel, rfl, by decide +kernel, by decide +kernel⟩
theorem sc_Program_parts : FnScope ["self"] ["self"] (defScope s_Program_parts) := ⟨rfl, rfl, rfl, by decide +kernel, rfl, by decide +kernel, by decide +kernel⟩
theorem sc_Program__eq_ : FnScope ["self", "other"] ["self", "other"] (defScope s_Program__eq_) := ⟨rfl, rfl, rfl, by decide +kernel, rfl, by decide +kernel, by decide +kernel⟩
theorem sc_are_parts : FnScope ["deeds", "thing", "named", "name"] ["deeds", "thing"] (defScope s_are_parts) := ⟨rfl, rfl, rfl, by decide +kernel, rfl, by decide +kernel, by decide +kernel⟩
theorem sc_is_within : FnScope ["named", "part", "seen", "waiting", "name"] ["named", "part"] (defScope s_is_within) := ⟨rfl, rfl, rfl, by decide +kernel, rfl, by decide +kernel, by decide +kernel⟩
theorem sc_hand : FnScope ["_law_script", "_law_cells", "_law_cell"] ["_law_script"] (defScope s_hand) := ⟨rfl, rfl, rfl, by decide +kernel, rfl, by decide +kernel, by decide +kernel⟩
theorem sc_draw : FnScope ["_law_hand_here", "_law_many", "_law_cell", "_law_digit", "_law_number"] ["_law_hand_here", "_law_many"] (defScope s_draw) := ⟨rfl, rfl, rfl, by decide +kernel, rfl, by decide +kernel, by decide +kernel⟩
theorem sc_undoing : FnScope ["_law_letter"] ["_law_letter"] (defScope s_undoing) := ⟨rfl, rfl, rfl, by decide +kernel, rfl, by decide +kernel, by decide +kernel⟩
theorem sc_back : FnScope ["_law_row_here", "_law_letter"] ["_law_row_here"] (defScope s_back) := ⟨rfl, rfl, rfl, by decide +kernel, rfl, by decide +kernel, by decide +kernel⟩
theorem sc_deeds : FnScope ["_law_hand_here", "_law_most", "_law_many", "_law_found", "_law_rest", "_law_turn", "_law_at"] ["_law_hand_here", "_law_most"] (defScope s_deeds) := ⟨rfl, rfl, rfl, by decide +kernel, rfl, by decide +kernel, by decide +kernel⟩
theorem sc_row : FnScope ["_law_hand_here", "_law_deeds_here", "_law_many", "_law_letters", "_law_turn"] ["_law_hand_here", "_law_deeds_here", "_law_many"] (defScope s_row) := ⟨rfl, rfl, rfl, by decide +kernel, rfl, by decide +kernel, by decide +kernel⟩
theorem sc_statement : FnScope ["_law_hand_here", "_law_deeds_here", "_law_names", "_law_room", "_law_deep", "_law_kind", "_law_many", "_law_blocks", "_law_turn"] ["_law_hand_here", "_law_deeds_here", "_law_names", "_law_room", "_law_deep"] (defScope s_statement) := ⟨rfl, rfl, rfl, by decide +kernel, rfl, by decide +kernel, by decide +kernel⟩
theorem sc_block : FnScope ["_law_hand_here", "_law_deeds_here", "_law_names", "_law_room", "_law_deep", "_law_found", "_law_turn"] ["_law_hand_here", "_law_deeds_here", "_law_names", "_law_room", "_law_deep"] (defScope s_block) := ⟨rfl, rfl, rfl, by decide +kernel, rfl, by decide +kernel, by decide +kernel⟩
theorem sc_sizes : FnScope ["_law_block_here", "_law_parts", "_law_places", "_law_arrows", "_law_word", "_law_inner", "_law_blocks", "_law_pairs", "_law_more", "_law_each", "_law_pair"] ["_law_block_here", "_law_parts"] (defScope s_sizes) := ⟨rfl, rfl, rfl, by decide +kernel, rfl, by decide +kernel, by decide +kernel⟩
theorem sc_parts_drawn : FnScope ["_law_hand_here", "_law_deeds_here", "_law_names", "_law_parts", "_law_turn", "_law_name"] ["_law_hand_here", "_law_deeds_here"] (defScope s_parts_drawn) := ⟨rfl, rfl, rfl, by decide +kernel, rfl, by decide +kernel, by decide +kernel⟩
theorem sc_drawn : FnScope ["_law_hand_here", "_law_most", "_law_many", "_law_deeds_here", "_law_parts", "_law_body", "_law_room", "_law_turn", "_law_sizes_here"] ["_law_hand_here", "_law_most", "_law_many"] (defScope s_drawn) := ⟨rfl, rfl, rfl, by decide +kernel, rfl, by decide +kernel, by decide +kernel⟩
theorem sc_products : FnScope ["_law_ones", "_law_others", "_law_most", "_law_found", "_law_one", "_law_other"] ["_law_ones", "_law_others", "_law_most"] (defScope s_products) := ⟨rfl, rfl, rfl, by decide +kernel, rfl, by decide +kernel, by decide +kernel⟩
theorem sc_rows : FnScope ["_law_block_here", "_law_parts", "_law_most", "_law_found", "_law_statement_here"] ["_law_block_here", "_law_parts", "_law_most"] (defScope s_rows) := ⟨rfl, rfl, rfl, by decide +kernel, rfl, by decide +kernel, by decide +kernel⟩
theorem sc_statement_rows : FnScope ["_law_statement_here", "_law_parts", "_law_most", "_law_word", "_law_inner", "_law_rounds", "_law_found", "_law_fresh", "_law_turn", "_law_row_here", "_law_block_here"] ["_law_statement_here", "_law_parts", "_law_most"] (defScope s_statement_rows) := ⟨rfl, rfl, rfl, by decide +kernel, rfl, by decide +kernel, by decide +kernel⟩
theorem sc_along : FnScope ["_law_told", "_law_most", "_law_goes", "_law_first", "_law_letter", "_law_last", "_law_found", "_law_waiting", "_law_place", "_law_row_here", "_law_more", "_law_state"] ["_law_told", "_law_most"] (defScope s_along) := ⟨rfl, rfl, rfl, by decide +kernel, rfl, by decide +kernel, by decide +kernel⟩
theorem sc_law : FnScope ["_law_script", "_law_hand_here", "_law_turn", "_law_deeds_here", "_law_parts", "_law_body", "_law_most", "_law_rows_here", "_law_undone", "_law_rounds", "_law_row_here"] ["_law_script"] (defScope s_law) := ⟨rfl, rfl, rfl, by decide +kernel, rfl, by decide +kernel, by decide +kernel⟩
/-- where the defs and classes of the text stand -/
structure Ad where
  a_is_small_word : Addr
  d_is_small_word : FuncData
  a_is_deeds : Addr
  d_is_deeds : FuncData
  a_is_row : Addr
  d_is_row : FuncData
  a_is_row_over : Addr
  d_is_row_over : FuncData
  a_undoings : Addr
  d_undoings : FuncData
  a_is_block : Addr
  d_is_block : FuncData
  a_is_statement : Addr
  d_is_statement : FuncData
  a_are_blocks : Addr
  d_are_blocks : FuncData
  a_names_in : Addr
  d_names_in : FuncData
  a_undone_block : Addr
  d_undone_block : FuncData
  a_undone_statement : Addr
  d_undone_statement : FuncData
  a_flow : Addr
  d_flow : FuncData
  a_laid : Addr
  d_laid : FuncData
  a_Laying_init : Addr
  d_Laying_init : FuncData
  a_Laying_place : Addr
  d_Laying_place : FuncData
  a_Laying_stops : Addr
  d_Laying_stops : FuncData
  a_Laying_lay_block : Addr
  d_Laying_lay_block : FuncData
  a_Laying_lay : Addr
  d_Laying_lay : FuncData
  a_Laying_lay_row : Addr
  d_Laying_lay_row : FuncData
  a_Laying_lay_other : Addr
  d_Laying_lay_other : FuncData
  a_Laying_lay_loop : Addr
  d_Laying_lay_loop : FuncData
  a_BadProgram_init : Addr
  d_BadProgram_init : FuncData
  a_flow_size : Addr
  d_flow_size : FuncData
  a_block_size : Addr
  d_block_size : FuncData
  a_statement_size : Addr
  d_statement_size : FuncData
  a_sum_of_sizes : Addr
  d_sum_of_sizes : FuncData
  a_Program_init : Addr
  d_Program_init : FuncData
  a_Program_parts : Addr
  d_Program_parts : FuncData
  a_Program__eq_ : Addr
  d_Program__eq_ : FuncData
  a_are_parts : Addr
  d_are_parts : FuncData
  a_is_within : Addr
  d_is_within : FuncData
  a_hand : Addr
  d_hand : FuncData
  a_draw : Addr
  d_draw : FuncData
  a_undoing : Addr
  d_undoing : FuncData
  a_back : Addr
  d_back : FuncData
  a_deeds : Addr
  d_deeds : FuncData
  a_row : Addr
  d_row : FuncData
  a_statement : Addr
  d_statement : FuncData
  a_block : Addr
  d_block : FuncData
  a_sizes : Addr
  d_sizes : FuncData
  a_parts_drawn : Addr
  d_parts_drawn : FuncData
  a_drawn : Addr
  d_drawn : FuncData
  a_products : Addr
  d_products : FuncData
  a_rows : Addr
  d_rows : FuncData
  a_statement_rows : Addr
  d_statement_rows : FuncData
  a_along : Addr
  d_along : FuncData
  a_law : Addr
  d_law : FuncData
  c_Laying : Addr
  c_RunsError : Addr
  c_BadProgram : Addr
  c_Program : Addr
  p_Program_parts : Addr
  v_MOST_PLACES : Value
  v_MOST_ARROWS : Value
/-- what the top has written -/
structure Txt (K : PySem.W.Frag) (mg : Str → Option Value) (A : Ad) : Prop where
  F_is_small_word : Fun K "is_small_word" "is_small_word" s_is_small_word A.a_is_small_word A.d_is_small_word
  g_is_small_word : mg "is_small_word" = some (.ref A.a_is_small_word)
  b_is_small_word : Binds K A.d_is_small_word ["thing"] []
  F_is_deeds : Fun K "is_deeds" "is_deeds" s_is_deeds A.a_is_deeds A.d_is_deeds
  g_is_deeds : mg "is_deeds" = some (.ref A.a_is_deeds)
  b_is_deeds : Binds K A.d_is_deeds ["thing"] []
  F_is_row : Fun K "is_row" "is_row" s_is_row A.a_is_row A.d_is_row
  g_is_row : mg "is_row" = some (.ref A.a_is_row)
  b_is_row : Binds K A.d_is_row ["thing"] []
  F_is_row_over : Fun K "is_row_over" "is_row_over" s_is_row_over A.a_is_row_over A.d_is_row_over
  g_is_row_over : mg "is_row_over" = some (.ref A.a_is_row_over)
  b_is_row_over : Binds K A.d_is_row_over ["deeds", "thing"] []
  F_undoings : Fun K "undoings" "undoings" s_undoings A.a_undoings A.d_undoings
  g_undoings : mg "undoings" = some (.ref A.a_undoings)
  b_undoings : Binds K A.d_undoings ["row"] []
  F_is_block : Fun K "is_block" "is_block" s_is_block A.a_is_block A.d_is_block
  g_is_block : mg "is_block" = some (.ref A.a_is_block)
  b_is_block : Binds K A.d_is_block ["deeds", "names", "thing", "depth"] []
  F_is_statement : Fun K "is_statement" "is_statement" s_is_statement A.a_is_statement A.d_is_statement
  g_is_statement : mg "is_statement" = some (.ref A.a_is_statement)
  b_is_statement : Binds K A.d_is_statement ["deeds", "names", "thing", "depth"] []
  F_are_blocks : Fun K "are_blocks" "are_blocks" s_are_blocks A.a_are_blocks A.d_are_blocks
  g_are_blocks : mg "are_blocks" = some (.ref A.a_are_blocks)
  b_are_blocks : Binds K A.d_are_blocks ["deeds", "names", "thing", "depth"] []
  F_names_in : Fun K "names_in" "names_in" s_names_in A.a_names_in A.d_names_in
  g_names_in : mg "names_in" = some (.ref A.a_names_in)
  b_names_in : Binds K A.d_names_in ["block"] []
  F_undone_block : Fun K "undone_block" "undone_block" s_undone_block A.a_undone_block A.d_undone_block
  g_undone_block : mg "undone_block" = some (.ref A.a_undone_block)
  b_undone_block : Binds K A.d_undone_block ["parts", "block"] []
  F_undone_statement : Fun K "undone_statement" "undone_statement" s_undone_statement A.a_undone_statement A.d_undone_statement
  g_undone_statement : mg "undone_statement" = some (.ref A.a_undone_statement)
  b_undone_statement : Binds K A.d_undone_statement ["parts", "statement"] []
  F_flow : Fun K "flow" "flow" s_flow A.a_flow A.d_flow
  g_flow : mg "flow" = some (.ref A.a_flow)
  b_flow : Binds K A.d_flow ["program"] []
  F_laid : Fun K "laid" "laid" s_laid A.a_laid A.d_laid
  g_laid : mg "laid" = some (.ref A.a_laid)
  b_laid : Binds K A.d_laid ["program"] []
  F_Laying_init : Fun K "__init__" "Laying.__init__" s_Laying_init A.a_Laying_init A.d_Laying_init
  b_Laying_init : Binds K A.d_Laying_init ["self", "blocks"] []
  F_Laying_place : Fun K "place" "Laying.place" s_Laying_place A.a_Laying_place A.d_Laying_place
  b_Laying_place : Binds K A.d_Laying_place ["self"] []
  F_Laying_stops : Fun K "stops" "Laying.stops" s_Laying_stops A.a_Laying_stops A.d_Laying_stops
  b_Laying_stops : Binds K A.d_Laying_stops ["self", "start", "goal", "ways"] []
  F_Laying_lay_block : Fun K "lay_block" "Laying.lay_block" s_Laying_lay_block A.a_Laying_lay_block A.d_Laying_lay_block
  b_Laying_lay_block : Binds K A.d_Laying_lay_block ["self", "block", "start", "goal"] []
  F_Laying_lay : Fun K "lay" "Laying.lay" s_Laying_lay A.a_Laying_lay A.d_Laying_lay
  b_Laying_lay : Binds K A.d_Laying_lay ["self", "statement", "start", "goal"] []
  F_Laying_lay_row : Fun K "lay_row" "Laying.lay_row" s_Laying_lay_row A.a_Laying_lay_row A.d_Laying_lay_row
  b_Laying_lay_row : Binds K A.d_Laying_lay_row ["self", "row", "start", "goal"] []
  F_Laying_lay_other : Fun K "lay_other" "Laying.lay_other" s_Laying_lay_other A.a_Laying_lay_other A.d_Laying_lay_other
  b_Laying_lay_other : Binds K A.d_Laying_lay_other ["self", "blocks", "start", "goal"] []
  F_Laying_lay_loop : Fun K "lay_loop" "Laying.lay_loop" s_Laying_lay_loop A.a_Laying_lay_loop A.d_Laying_lay_loop
  b_Laying_lay_loop : Binds K A.d_Laying_lay_loop ["self", "block", "start", "goal"] []
  F_BadProgram_init : Fun K "__init__" "BadProgram.__init__" s_BadProgram_init A.a_BadProgram_init A.d_BadProgram_init
  b_BadProgram_init : Binds K A.d_BadProgram_init ["self", "part"] []
  F_flow_size : Fun K "flow_size" "flow_size" s_flow_size A.a_flow_size A.d_flow_size
  g_flow_size : mg "flow_size" = some (.ref A.a_flow_size)
  b_flow_size : Binds K A.d_flow_size ["parts", "body"] []
  F_block_size : Fun K "block_size" "block_size" s_block_size A.a_block_size A.d_block_size
  g_block_size : mg "block_size" = some (.ref A.a_block_size)
  b_block_size : Binds K A.d_block_size ["parts", "known", "block"] []
  F_statement_size : Fun K "statement_size" "statement_size" s_statement_size A.a_statement_size A.d_statement_size
  g_statement_size : mg "statement_size" = some (.ref A.a_statement_size)
  b_statement_size : Binds K A.d_statement_size ["parts", "known", "statement"] []
  F_sum_of_sizes : Fun K "sum_of_sizes" "sum_of_sizes" s_sum_of_sizes A.a_sum_of_sizes A.d_sum_of_sizes
  g_sum_of_sizes : mg "sum_of_sizes" = some (.ref A.a_sum_of_sizes)
  b_sum_of_sizes : Binds K A.d_sum_of_sizes ["sizes"] []
  F_Program_init : Fun K "__init__" "Program.__init__" s_Program_init A.a_Program_init A.d_Program_init
  b_Program_init : Binds K A.d_Program_init ["self", "deeds", "parts", "body"] []
  F_Program_parts : Fun K "parts" "Program.parts" s_Program_parts A.a_Program_parts A.d_Program_parts
  b_Program_parts : Binds K A.d_Program_parts ["self"] []
  F_Program__eq_ : Fun K "__eq__" "Program.__eq__" s_Program__eq_ A.a_Program__eq_ A.d_Program__eq_
  b_Program__eq_ : Binds K A.d_Program__eq_ ["self", "other"] []
  F_are_parts : Fun K "are_parts" "are_parts" s_are_parts A.a_are_parts A.d_are_parts
  g_are_parts : mg "are_parts" = some (.ref A.a_are_parts)
  b_are_parts : Binds K A.d_are_parts ["deeds", "thing"] []
  F_is_within : Fun K "is_within" "is_within" s_is_within A.a_is_within A.d_is_within
  g_is_within : mg "is_within" = some (.ref A.a_is_within)
  b_is_within : Binds K A.d_is_within ["named", "part"] []
  F_hand : Fun K "_law_hand" "_law_hand" s_hand A.a_hand A.d_hand
  g_hand : mg "_law_hand" = some (.ref A.a_hand)
  b_hand : Binds K A.d_hand ["_law_script"] []
  F_draw : Fun K "_law_draw" "_law_draw" s_draw A.a_draw A.d_draw
  g_draw : mg "_law_draw" = some (.ref A.a_draw)
  b_draw : Binds K A.d_draw ["_law_hand_here", "_law_many"] []
  F_undoing : Fun K "_law_undoing" "_law_undoing" s_undoing A.a_undoing A.d_undoing
  g_undoing : mg "_law_undoing" = some (.ref A.a_undoing)
  b_undoing : Binds K A.d_undoing ["_law_letter"] []
  F_back : Fun K "_law_back" "_law_back" s_back A.a_back A.d_back
  g_back : mg "_law_back" = some (.ref A.a_back)
  b_back : Binds K A.d_back ["_law_row_here"] []
  F_deeds : Fun K "_law_deeds" "_law_deeds" s_deeds A.a_deeds A.d_deeds
  g_deeds : mg "_law_deeds" = some (.ref A.a_deeds)
  b_deeds : Binds K A.d_deeds ["_law_hand_here", "_law_most"] []
  F_row : Fun K "_law_row" "_law_row" s_row A.a_row A.d_row
  g_row : mg "_law_row" = some (.ref A.a_row)
  b_row : Binds K A.d_row ["_law_hand_here", "_law_deeds_here", "_law_many"] []
  F_statement : Fun K "_law_statement" "_law_statement" s_statement A.a_statement A.d_statement
  g_statement : mg "_law_statement" = some (.ref A.a_statement)
  b_statement : Binds K A.d_statement ["_law_hand_here", "_law_deeds_here", "_law_names", "_law_room", "_law_deep"] []
  F_block : Fun K "_law_block" "_law_block" s_block A.a_block A.d_block
  g_block : mg "_law_block" = some (.ref A.a_block)
  b_block : Binds K A.d_block ["_law_hand_here", "_law_deeds_here", "_law_names", "_law_room", "_law_deep"] []
  F_sizes : Fun K "_law_sizes" "_law_sizes" s_sizes A.a_sizes A.d_sizes
  g_sizes : mg "_law_sizes" = some (.ref A.a_sizes)
  b_sizes : Binds K A.d_sizes ["_law_block_here", "_law_parts"] []
  F_parts_drawn : Fun K "_law_parts_drawn" "_law_parts_drawn" s_parts_drawn A.a_parts_drawn A.d_parts_drawn
  g_parts_drawn : mg "_law_parts_drawn" = some (.ref A.a_parts_drawn)
  b_parts_drawn : Binds K A.d_parts_drawn ["_law_hand_here", "_law_deeds_here"] []
  F_drawn : Fun K "_law_drawn" "_law_drawn" s_drawn A.a_drawn A.d_drawn
  g_drawn : mg "_law_drawn" = some (.ref A.a_drawn)
  b_drawn : Binds K A.d_drawn ["_law_hand_here", "_law_most", "_law_many"] []
  F_products : Fun K "_law_products" "_law_products" s_products A.a_products A.d_products
  g_products : mg "_law_products" = some (.ref A.a_products)
  b_products : Binds K A.d_products ["_law_ones", "_law_others", "_law_most"] []
  F_rows : Fun K "_law_rows" "_law_rows" s_rows A.a_rows A.d_rows
  g_rows : mg "_law_rows" = some (.ref A.a_rows)
  b_rows : Binds K A.d_rows ["_law_block_here", "_law_parts", "_law_most"] []
  F_statement_rows : Fun K "_law_statement_rows" "_law_statement_rows" s_statement_rows A.a_statement_rows A.d_statement_rows
  g_statement_rows : mg "_law_statement_rows" = some (.ref A.a_statement_rows)
  b_statement_rows : Binds K A.d_statement_rows ["_law_statement_here", "_law_parts", "_law_most"] []
  F_along : Fun K "_law_along" "_law_along" s_along A.a_along A.d_along
  g_along : mg "_law_along" = some (.ref A.a_along)
  b_along : Binds K A.d_along ["_law_told", "_law_most"] []
  F_law : Fun K "law" "law" s_law A.a_law A.d_law
  g_law : mg "law" = some (.ref A.a_law)
  b_law : Binds K A.d_law ["_law_script"] []
  gC_Laying : mg "Laying" = some (.ref A.c_Laying)
  gC_RunsError : mg "RunsError" = some (.ref A.c_RunsError)
  gC_BadProgram : mg "BadProgram" = some (.ref A.c_BadProgram)
  o_BadProgram : OexC K A.c_BadProgram
  i_BadProgram : PySem.W.findIn K (.ref A.c_BadProgram) "__init__" = some (some (.ref A.a_BadProgram_init))
  t_BadProgram : PySem.W.typeIn K (.ref A.a_BadProgram_init) = some (.type "function")
  x_BadProgram : ExcC K A.c_BadProgram
  gC_Program : mg "Program" = some (.ref A.c_Program)
  M_Laying : Mk K A.c_Laying A.a_Laying_init
  cl_Laying : Cls K A.c_Laying
  in_Laying : C8.InsC K A.c_Laying
  nF_Laying_blocks : NoAttr K A.c_Laying "blocks"
  nF_Laying_many : NoAttr K A.c_Laying "many"
  nF_Laying_arrows : NoAttr K A.c_Laying "arrows"
  nF_Laying_others : NoAttr K A.c_Laying "others"
  M_Program : Mk K A.c_Program A.a_Program_init
  cl_Program : Cls K A.c_Program
  in_Program : C8.InsC K A.c_Program
  nF_Program_deeds : NoAttr K A.c_Program "deeds"
  nF_Program_body : NoAttr K A.c_Program "body"
  nF_Program__parts : NoAttr K A.c_Program "_parts"
  eqs_Program : PySem.W.findIn K (.ref A.c_Program) "__eq__" = some (some (.ref A.a_Program__eq_))
  eqf_Program : PySem.W.isFn K (.ref A.a_Program__eq_) = true
  eqn_Program : PySem.W.findIn K (.ref A.c_Program) "__ne__" = some (some (.builtin "object.__ne__"))
  me_Laying_place : Meth K A.c_Laying "place" A.a_Laying_place
  me_Laying_stops : Meth K A.c_Laying "stops" A.a_Laying_stops
  me_Laying_lay_block : Meth K A.c_Laying "lay_block" A.a_Laying_lay_block
  me_Laying_lay : Meth K A.c_Laying "lay" A.a_Laying_lay
  me_Laying_lay_row : Meth K A.c_Laying "lay_row" A.a_Laying_lay_row
  me_Laying_lay_other : Meth K A.c_Laying "lay_other" A.a_Laying_lay_other
  me_Laying_lay_loop : Meth K A.c_Laying "lay_loop" A.a_Laying_lay_loop
  pr_Program_parts : PropOf K A.c_Program "parts" A.p_Program_parts A.a_Program_parts
  m_ValueError : mg "ValueError" = none
  m_abs : mg "abs" = none
  m_all : mg "all" = none
  m_any : mg "any" = none
  m_dict : mg "dict" = none
  m_enumerate : mg "enumerate" = none
  m_int : mg "int" = none
  m_isinstance : mg "isinstance" = none
  m_len : mg "len" = none
  m_list : mg "list" = none
  m_max : mg "max" = none
  m_range : mg "range" = none
  m_sorted : mg "sorted" = none
  m_str : mg "str" = none
  m_sum : mg "sum" = none
  m_tuple : mg "tuple" = none
  m_zip : mg "zip" = none
  c_MOST_PLACES : mg "MOST_PLACES" = some A.v_MOST_PLACES
  r_MOST_PLACES : L2.RelV (V.int (60)) A.v_MOST_PLACES
  c_MOST_ARROWS : mg "MOST_ARROWS" = some A.v_MOST_ARROWS
  r_MOST_ARROWS : L2.RelV (V.int (200)) A.v_MOST_ARROWS
  xn_BadProgram_part : PySem.W.findIn K (.ref A.c_BadProgram) "part" = some none
section
variable {P : Program} {w : World} {K : PySem.W.Frag} {mg : Str → Option Value} {base : Heap} {A : Ad}
local macro_rules | `(tactic| walk_at "cl") => `(tactic| first | exact Txt.cl_Laying (by assumption) | exact Txt.cl_Program (by assumption))
local macro_rules | `(tactic| walk_at "nF") => `(tactic| first | exact Txt.nF_Laying_blocks (by assumption) | exact Txt.nF_Laying_many (by assumption) | exact Txt.nF_Laying_arrows (by assumption) | exact Txt.nF_Laying_others (by assumption) | exact Txt.nF_Program_deeds (by assumption) | exact Txt.nF_Program_body (by assumption) | exact Txt.nF_Program__parts (by assumption))
local macro_rules | `(tactic| walk_at "lk") => `(tactic| first | assumption | exact upd_same | exact upd_old (by walk_at "lk") (by assumption) | exact upd_oth (by walk_at "lk") (by assumption))
local macro_rules | `(tactic| walk_at "sq") => `(tactic| first | assumption | exact SqL.of (by walk_at "lk"))
local macro_rules | `(tactic| walk_at "v") => `(tactic| refine ⟨_, rfl, ?_⟩)
local macro_rules | `(tactic| walk_at "ii") => `(tactic| refine ⟨_, _, rfl, rfl, ?_⟩)
local macro_rules | `(tactic| walk_at "ix") => `(tactic| refine ⟨_, _, _, _, rfl, rfl, (by walk_at "sq"), (by rfl), ?_⟩)
local macro_rules | `(tactic| walk_at "set") => `(tactic| refine ⟨_, _, _, _, rfl, rfl, (by walk_at "lk"), (by rfl), ?_⟩)
local macro_rules | `(tactic| walk_at "int") => `(tactic| refine .inl ⟨_, rfl, ?_⟩)
local macro_rules | `(tactic| walk_at "len") => `(tactic| refine ⟨_, _, rfl, .inl (by walk_at "sq"), ?_⟩)
local macro_rules | `(tactic| walk_at "mul") => `(tactic| refine ⟨_, _, rfl, rfl, (show CMul _ _ from by first | exact .inr ⟨by decide, by decide⟩ | exact .inl ⟨by decide, by decide⟩ | exact .inl ⟨by omega, by omega⟩), ?_⟩)
local macro_rules | `(tactic| walk_at "mod") => `(tactic| refine ⟨_, _, rfl, rfl, (show (0 : Int) < _ from by first | decide | assumption), ?_⟩)
local macro_rules | `(tactic| walk_at "div") => `(tactic| refine ⟨_, _, rfl, rfl, (show CDivW _ _ from by first | exact ⟨by decide, by decide⟩ | exact ⟨by assumption, log_lt (by assumption) (by assumption)⟩), ?_⟩)
local macro_rules | `(tactic| walk_at "pow") => `(tactic| refine ⟨_, _, rfl, rfl, (show CPow _ _ from ⟨by decide, by decide, by decide⟩), ?_⟩)
local macro_rules | `(tactic| walk_at "go") => `(tactic| repeat (first | walk_at "ix" | walk_at "mul" | walk_at "mod" | walk_at "div" | walk_at "pow" | walk_at "ii" | walk_at "v" | walk_at "int" | walk_at "set" | walk_at "len"))
local macro_rules | `(tactic| walk_at "m0") => `(tactic| refine ⟨rfl, _, rfl, rfl, trivial, ?_⟩)
local macro_rules | `(tactic| walk_at "sz") => `(tactic| (simp only [List.length_cons, List.length_nil]; decide))
local macro_rules | `(tactic| walk_at "K") => `(tactic| first | assumption | with_reducible exact upd_same | ((with_reducible apply upd_old); walk_at "K"; assumption) | ((with_reducible apply upd_oth); walk_at "K"; assumption) | ((with_reducible apply GO.lkS); assumption; walk_at "K"))
local macro_rules | `(tactic| walk_at "Q") => `(tactic| first | with_reducible assumption | ((with_reducible apply PG.sqT_same); assumption; walk_at "Q") | ((with_reducible apply PG.sqL_same); assumption; walk_at "Q") | ((with_reducible apply SqL.of); walk_at "K") | ((with_reducible apply SqT.of); walk_at "K"))
local macro_rules | `(tactic| walk_at "sl") => `(tactic| first | assumption | exact Nat.le_trans (by omega : _ ≤ 100000) (by decide))
local macro_rules | `(tactic| walk_at "cc") => `(tactic| first | assumption | decide | exact ⟨by decide, by decide⟩ | exact .inr ⟨by decide, by decide⟩ | exact .inl ⟨by decide, by decide⟩ | exact .inl ⟨by omega, by omega⟩ | exact .inr ⟨by omega, by omega⟩ | omega)
local macro_rules | `(tactic| walk_at "D") => `(tactic| first | assumption | ((with_reducible apply PG.dp_same); assumption; walk_at "D") | exact .str _ | exact .int _ | exact .bl _ | exact .non)
local macro_rules | `(tactic| walk_at "R") => `(tactic| first | with_reducible assumption | ((with_reducible apply PG.rd_same); assumption; walk_at "R") | exact .inl (by walk_at "K"))
local macro_rules | `(tactic| walk_at "ty") => `(tactic| first | exact .base (.str _) | exact .base (.int _) | exact .base (.bl _) | exact .base .non | ((with_reducible apply PG.sqT_ty); walk_at "Q") | exact .base (.dK (by walk_at "K")) | exact .base (.lst (by walk_at "K")) | ((with_reducible apply GO.ty_rd); walk_at "R") | assumption)
local macro_rules | `(tactic| walk_at "fl") => `(tactic| first | (show _ < _; decide) | (simp only [List.length_cons, List.length_nil]; decide) | ((with_reducible apply GO.putF_lt); walk_at "fl"))
local macro_rules | `(tactic| walk_at "g1") => `(tactic| first
  | with_reducible refine GO.seq ?_ | with_reducible refine GO.next ?_ | with_reducible refine GO.asg ?_ | with_reducible refine GO.name (by simp only [L2.wipe, List.set_cons_zero, List.set_cons_succ]; exact rfl) ?_
  | with_reducible refine GO.var (by with_unfolding_all exact rfl) ?_ | with_reducible refine GO.con ?_ | with_reducible refine GO.op ?_ | with_reducible refine GO.i0 ?_ | with_reducible refine GO.un ?_
  | with_reducible refine GO.nil ?_ | with_reducible refine GO.cons ?_ | with_reducible refine GO.tup ?_ | with_reducible refine GO.lst ?_ | with_reducible refine GO.call ?_ | with_reducible refine GO.callS ?_ | with_reducible refine GO.made ?_ | with_reducible refine GO.madeS ?_
  | with_reducible refine GO.cb ?_ | with_reducible refine GO.prop ?_ | ((with_reducible apply GO.propR); walk_at "K") | with_reducible refine GO.meth ?_ | ((with_reducible apply GO.methR); walk_at "K"; rfl) | with_reducible refine GO.fldG ?_ | ((with_reducible apply GO.fldH); walk_at "K"; walk_at "cl"; walk_at "nF"; rfl) | with_reducible refine GO.fld ?_ | with_reducible refine GO.sfl ?_ | with_reducible refine GO.bm ?_ | with_reducible refine GO.bm0 ?_ | with_reducible refine GO.sl ?_ | with_reducible refine GO.nopart ?_ | with_reducible refine GO.part ?_
  | with_reducible refine GO.dput ?_ | with_reducible refine GO.dget ?_ | with_reducible refine GO.din ?_ | with_reducible refine GO.dnin ?_ | with_reducible refine GO.if_ ?_ | with_reducible refine GO.andV ?_ | with_reducible refine GO.orV ?_ | with_reducible refine GO.notV ?_
  | with_reducible refine GO.chain ?_ | with_reducible refine GO.yes ?_ | with_reducible refine GO.test ?_ | with_reducible refine GO.tb ?_ | with_reducible refine GO.not ?_ | with_reducible refine GO.and ?_ | with_reducible refine GO.or ?_
  | with_reducible refine GO.isB ?_ | with_reducible refine GO.partI ?_ | with_reducible refine GO.eqI ?_ | with_reducible refine GO.neI ?_ | with_reducible refine GO.eqS ?_ | with_reducible refine GO.neS ?_ | with_reducible refine GO.eqZ ?_ | with_reducible refine GO.neZ ?_
  | with_reducible refine GO.ifS ?_ | with_reducible refine GO.ret ?_ | with_reducible refine GO.retN ?_ | with_reducible refine GO.drop ?_ | with_reducible refine GO.brk ?_ | with_reducible refine GO.cnt ?_
  | with_reducible refine GO.gcons ?_ | with_reducible refine GO.gnil ?_ | with_reducible refine GO.gsub ?_ | with_reducible refine GO.addI ?_ | with_reducible refine GO.aug (by with_unfolding_all exact rfl) ?_
  | with_reducible refine GO.yesT ?_ | with_reducible refine GO.noF ?_ | with_reducible refine GO.yesNF ?_ | with_reducible refine GO.noNT ?_
  | ((with_reducible apply GO.fldR); walk_at "K"; walk_at "cl"; walk_at "nF"; rfl)
  | ((with_reducible apply GO.sfR); walk_at "K"; walk_at "cl"; walk_at "nF"; walk_at "fl")
  | ((with_reducible apply GO.ixl); walk_at "Q"; rfl)
  | ((with_reducible apply GO.ixt); walk_at "Q"; rfl)
  | ((with_reducible apply GO.gtup); walk_at "Q"; rfl)
  | ((with_reducible apply GO.lenQ); (first | exact .inl (by walk_at "Q") | exact .inr (by walk_at "Q")); (first | (simp only [List.length_cons, List.length_nil, Nat.zero_add, Nat.reduceAdd]; done) | (simp only [List.length_cons, List.length_nil, Nat.zero_add, Nat.reduceAdd]; exact rfl) | rfl))
  | ((with_reducible apply GO.lenS); walk_at "sl")
  | ((with_reducible apply GO.iC); walk_at "cc")
  | ((with_reducible apply GO.isiY); walk_at "ty"; decide +kernel) | ((with_reducible apply GO.isiN); walk_at "ty"; decide +kernel)
  | with_reducible refine GO.lc ?_ | with_reducible refine GO.itup ?_ | with_reducible refine GO.ilst ?_ | with_reducible refine GO.istr ?_ | with_reducible refine GO.irng ?_ | with_reducible refine GO.for_ ?_ | with_reducible refine GO.isS ?_ | with_reducible refine GO.itS ?_
  | with_reducible refine GO.ifT ?_ | with_reducible refine GO.ifF ?_ | with_reducible refine GO.ienS ?_ | with_reducible refine GO.ienT ?_ | with_reducible refine GO.ieS ?_ | ((with_reducible apply GO.ieT); walk_at "Q") | with_reducible refine GO.sfa ?_ | ((with_reducible apply GO.sfa1); walk_at "K"; walk_at "cl"; walk_at "nF"; rfl) | ((with_reducible apply GO.sfa3); walk_at "K"; walk_at "fl") | with_reducible refine GO.revT ?_ | ((with_reducible apply GO.revA); walk_at "Q")
  | with_reducible refine GO.wp (by with_unfolding_all exact rfl) ?_
  | with_reducible refine GO.ikeys ?_ | with_reducible refine GO.dc ?_ | ((with_reducible apply GO.itK); walk_at "K") | with_reducible refine GO.tru ?_ | with_reducible refine GO.notT ?_ | ((with_reducible apply GO.truL); walk_at "Q") | ((with_reducible apply GO.truT); walk_at "Q")
  | ((with_reducible apply GO.tyD); walk_at "K") | ((with_reducible apply GO.tyL); walk_at "K") | with_reducible refine GO.tyS ?_
  | ((with_reducible apply GO.itT); walk_at "Q") | ((with_reducible apply GO.itL); walk_at "Q")
  | with_reducible refine GO.tn (by simp only [L2.wipe, List.set_cons_zero, List.set_cons_succ]; exact rfl) (by with_unfolding_all exact rfl) ?_
  | with_reducible refine GO.noD (by decide +kernel) ?_ | with_reducible refine GO.yesD (by decide +kernel) ?_ | with_reducible refine GO.noN (by decide +kernel) ?_ | with_reducible refine GO.yesN (by decide +kernel) ?_
  | ((with_reducible apply GO.allY); walk_at "K") | ((with_reducible apply GO.anyN); walk_at "K")
  | with_reducible refine GO.noD (by omega) ?_ | with_reducible refine GO.yesD (by omega) ?_)
local macro_rules | `(tactic| walk_at "g") => `(tactic| ((try simp only [L2.kV, Option.isSome_some, Option.isSome_none, L2.start, List.length_cons, List.length_nil, List.map_cons, List.map_nil, List.replicate_succ, List.replicate_zero, Nat.reduceAdd, Nat.reduceSub, List.cons_append, List.nil_append]); (repeat walk_at "g1"); (try dsimp only)))
local macro_rules | `(tactic| walk_at "dn") => `(tactic| first | trivial | exact ⟨rfl, rfl⟩ | exact ⟨rfl, trivial⟩ | exact ⟨rfl, Same.refl _⟩ | exact ⟨decide_eq_false (by omega), rfl⟩ | exact ⟨decide_eq_true (by omega), rfl⟩ | exact ⟨rfl, by assumption⟩)
def sp_is_row (K : PySem.W.Frag) : Sp := fun vs H Q _ => ∃ v b, vs = [v] ∧ RowJ K H v b ∧ Q (.bl b) H
theorem ok_is_row (T : Txt K mg A) : FnOk P w K mg base (CX P w) 1 A.a_is_row A.d_is_row ["thing"] (sp_is_row K) := by
  refine T.F_is_row.okX sc_is_row (fun vs H Q E h => ?_) (fun cdv Ar outer s H vs Q E hr h => ?_)
  · obtain ⟨_, _, rfl, _⟩ := h
    rfl
  · obtain ⟨v, b, rfl, j, q⟩ := h
    refine ⟨_, (pss_one (ps_ret (pe_mid (pe_and (pe_callB (cisi (K := K) rfl) (by rfl) T.m_isinstance bt_isinstance (pa_cons (pv 0) (pa_cons (pe_bltn (v := .ty "str") (by rfl) T.m_str bt_str rfl) pa_nil))) (pe_one (pe_mid (pe_or (pe_cmpR op_eq (pv 0) pe_str (nomark _)) (pe_one (pe_mid (pe_and (pbm0 (K := K) rfl PySem.F.plainAttrs_str PySem.F.slot_str_isascii PySem.F.type_str_isascii mt_isascii (pv 0)) (pe_one (pbm0 (K := K) rfl PySem.F.plainAttrs_str PySem.F.slot_str_isalpha PySem.F.type_str_isalpha mt_isalpha (pv 0))))))))))))), ?_⟩
    refine ⟨fun v' H' => v' = .bl b ∧ H' = H, ?_, fun v' H' ⟨e1, e2⟩ => by subst e1 e2; exact q⟩
    cases j with
    | non ty k =>
      walk_at "v"
      refine ⟨_, _, _, _, _, rfl, .ty _, ty, k, ?_⟩
      walk_at "v"
      exact ⟨rfl, rfl⟩
    | str l =>
      walk_at "v"
      refine ⟨_, _, _, _, _, rfl, .ty _, .base (.str _), kit_str, ?_⟩
      walk_at "v"
      refine iteT ?_
      refine ⟨fun v' H' => v' = .bl (decide (Ls l)) ∧ H' = H, ?_, fun v' H' z => z⟩
      walk_at "v"
      refine ⟨rfl, ?_⟩
      walk_at "v"
      rw [S_nil, dec_eq]
      refine iteB (fun e => ?_) (fun e => ?_)
      · have e1 := of_decide_eq_true e
        subst e1
        exact ⟨by rw [decide_eq_true nil_L], rfl⟩
      · have e1 : l ≠ [] := of_decide_eq_false e
        refine ⟨fun v' H' => v' = .bl (decide (Ls l)) ∧ H' = H, ?_, fun v' H' z => z⟩
        walk_at "v"; walk_at "m0"; walk_at "v"
        rw [asc_iff]
        refine iteB (fun e => ?_) (fun e => ?_)
        · walk_at "v"; walk_at "m0"
          rw [alpha_asc (of_decide_eq_true e), decide_eq_true e1, Bool.true_and]
          exact ⟨rfl, rfl⟩
        · refine ⟨?_, rfl⟩
          rw [decide_eq_false fun z : Ls l => of_decide_eq_false e z.asc]
def sp_small : Sp := fun vs H Q _ => ∃ d, vs = [.str (S d)] ∧ (∀ c ∈ d, 97 ≤ c ∧ c ≤ 122) ∧ d ≠ [] ∧ Q (.bl true) H
theorem ok_is_small_word (T : Txt K mg A) : FnOk P w K mg base (CX P w) 1 A.a_is_small_word A.d_is_small_word ["thing"] (sp_small) := by
  refine T.F_is_small_word.okX sc_is_small_word (fun vs H Q E h => ?_) (fun cdv Ar outer s H vs Q E hr h => ?_)
  · obtain ⟨_, rfl, _⟩ := h
    rfl
  · obtain ⟨d, rfl, low, ne, q⟩ := h
    have hL : Ls d := fun c hc => .inr (low c hc)
    refine ⟨_, (pss_one (ps_ret (pe_mid (pe_and (pe_callB (cisi (K := K) rfl) (by rfl) T.m_isinstance bt_isinstance (pa_cons (pv 0) (pa_cons (pe_bltn (v := .ty "str") (by rfl) T.m_str bt_str rfl) pa_nil))) (pe_and (pbm0 (K := K) rfl PySem.F.plainAttrs_str PySem.F.slot_str_isascii PySem.F.type_str_isascii mt_isascii (pv 0)) (pe_and (pbm0 (K := K) rfl PySem.F.plainAttrs_str PySem.F.slot_str_isalpha PySem.F.type_str_isalpha mt_isalpha (pv 0)) (pe_one (pbm0 (K := K) rfl PySem.F.plainAttrs_str PySem.F.slot_str_islower PySem.F.type_str_islower mt_islower (pv 0))))))))), ?_⟩
    refine ⟨fun v' H' => v' = .bl true ∧ H' = H, ?_, fun v' H' ⟨e1, e2⟩ => by subst e1 e2; exact q⟩
    walk_at "v"
    refine ⟨_, _, _, _, _, rfl, .ty _, .base (.str _), kit_str, ?_⟩
    walk_at "v"
    refine iteT ?_
    walk_at "v"; walk_at "m0"
    rw [asc_iff, decide_eq_true hL.asc]
    walk_at "v"
    refine iteT ?_
    walk_at "v"; walk_at "m0"
    rw [alpha_asc hL.asc, decide_eq_true ne, decide_eq_true hL]
    walk_at "v"
    refine iteT ?_
    walk_at "v"; walk_at "m0"
    rw [islow_all low ne]
    exact ⟨rfl, rfl⟩
def sp_isdeeds : Sp := fun vs H Q _ => ∃ d, vs = [.str (S d)] ∧ Dds d ∧ ∀ H', Same H H' → Q (.bl true) H'
theorem ok_is_deeds (T : Txt K mg A) : FnOk P w K mg base (CX P w) 2 A.a_is_deeds A.d_is_deeds ["thing"] (sp_isdeeds) := by
  refine T.F_is_deeds.okX sc_is_deeds (fun vs H Q E h => ?_) (fun cdv Ar outer s H vs Q E hr h => ?_)
  · obtain ⟨_, rfl, _⟩ := h
    rfl
  · obtain ⟨d, rfl, hd, q⟩ := h
    refine ⟨_, (pss_cons (ps_if (pt_mid (PW.pt (pw_or (pt_not (pt_val (pe_call (ok_is_small_word (K := K) T) hr (by rfl) T.g_is_small_word T.F_is_small_word.kp T.b_is_small_word .nil passF (pa_cons (pv 0) pa_nil)))) (pw_or1 (pt_cmpR op_gt (pe_callB clenS (by rfl) T.m_len bt_len (pa_cons (pv 0) pa_nil)) pe_int (nomark _)))))) (pss_one (ps_ret pe_bl)) pss_nil)
      (pss_one (ps_ret (pe_callB (call_ (K := K) rfl rfl) (by rfl) T.m_all bt_all (pa_cons (pe_lc (own := [("one", 1), ("two", 2)]) (tt := tYes) rfl sc_is_deeds.nd (pi_zipS (by rfl) T.m_zip (pa_cons (pv 0) (pa_cons (pe_slice sl_str (pv 0) (po_some pe_int) po_none) pa_nil))) (blkOk_by (N := ["thing", "one", "two"]) (sc := defScope s_is_deeds) (by decide +kernel)) (fun _ _ _ _ _ => (pgT (K := K) (n := 2) rfl rfl (pgs_cons (pg_name (i := 1) sc_is_deeds.nd rfl (Or.inl rfl)) (pgs_cons (pg_name (i := 2) sc_is_deeds.nd rfl (Or.inl rfl)) pgs_nil)))) (fun _ _ _ _ _ => pts_nil) (fun _ _ _ _ _ => (pe_cmpR op_lt_str (pv 1) (pv 2) (nomark _)))) pa_nil))))), ?_⟩
    have dz : (S d).length ≤ sizeLine := by rw [S_len]; exact Nat.le_trans hd.le (by decide)
    have dl := hd.le
    refine ⟨fun b H' => b = false ∧ H' = H, ?_, ?_⟩
    · walk_at "v"
      refine ⟨d, rfl, hd.de.low, hd.ne, ?_⟩
      walk_at "v"
      refine iteF ?_
      walk_at "v"
      refine ⟨_, rfl, dz, ?_⟩
      walk_at "ii"; walk_at "v"
      exact ⟨by rw [S_len]; exact decide_eq_false (by omega), rfl⟩
    · rintro b H' ⟨rfl, rfl⟩
      refine iteF ?_
      walk_at "v"; walk_at "v"; walk_at "v"
      refine ⟨_, rfl, dz, ?_⟩
      have ct : cutS (S d) (some 1) none = S (d.drop 1) := cut_from d 1
      rw [ct]
      refine ⟨_, _, rfl, fun D hD => ?_⟩
      refine lc_it (walk_zipS (n := d.length - 1) (by show _ = min (S d).length (S (d.drop 1)).length; rw [S_len, S_len, List.length_drop]; omega)) (fun i G => Same H' G ∧ G D = some (.lst (yes i))) ⟨Same.new hD, upd_same⟩ (fun _ _ _ _ => trivial) ?_ ?_
      · rintro i x G1 G2 hi ⟨s1, h1⟩ ⟨T, c, e, rfl, hT, rfl, hc, he⟩
        have hc' : d[i]? = some c := by simpa [S] using hc
        have he' : d[i + 1]? = some e := by
          have : (d.drop 1)[i]? = some e := by simpa [S] using he
          rw [List.getElem?_drop, Nat.add_comm] at this; exact this
        have lt : c < e := by
          obtain ⟨h1, e1⟩ := List.getElem?_eq_some_iff.mp hc'
          obtain ⟨h2, e2⟩ := List.getElem?_eq_some_iff.mp he'
          have := (List.pairwise_iff_getElem.mp hd.de.up) i (i + 1) h1 h2 (Nat.lt_succ_self i)
          omega
        refine ⟨T, _, rfl, SqT.of upd_same, rfl, ?_⟩
        refine ⟨_, _, rfl, ?_⟩
        refine ⟨_, _, rfl, ?_⟩
        refine ⟨rfl, rfl, ?_⟩
        walk_at "v"; walk_at "v"
        refine ⟨_, _, rfl, rfl, ?_⟩
        have nD : H' D = none := hD
        refine ⟨_, upd_old h1 hT, ?_, Same.mut nD (s1.trans (Same.new hT)), ?_⟩
        · rw [yes_len]; exact Nat.lt_of_le_of_lt (by omega : _ ≤ 100) (by decide)
        · rw [upd_same, ← yes_succ]
          have e1 : V.bl (decide ([c] < [e])) = V.bl true := by rw [decide_eq_true (lt_one lt)]
          show some (HO.lst (yes i ++ [V.bl (decide ([c] < [e]))])) = _
          rw [e1]
      · rintro G1 ⟨s1, h1⟩
        refine ⟨D, _, rfl, SqL.of h1, ?_⟩
        rw [all_rep]
        exact q G1 s1
theorem ok_is_row_over (T : Txt K mg A) : FnOk P w K mg base (CX P w) 2 A.a_is_row_over A.d_is_row_over ["deeds", "thing"] (sp_rowover K) := by
  refine T.F_is_row_over.okX sc_is_row_over (fun vs H Q E h => ?_) (fun cdv Ar outer s H vs Q E hr h => ?_)
  · obtain ⟨_, _, _, rfl, _⟩ := h
    rfl
  · obtain ⟨d, v, o, rfl, hd, j, q⟩ := h
    refine ⟨_, (pss_one (ps_ret (pe_mid (pe_and (pe_call (ok_is_row (K := K) T) hr (by rfl) T.g_is_row T.F_is_row.kp T.b_is_row .nil passF (pa_cons (pv 1) pa_nil)) (pe_one (pe_callB (call_ (K := K) rfl rfl) (by rfl) T.m_all bt_all (pa_cons (pe_lc (own := [("letter", 2)]) (tt := tYes) rfl sc_is_row_over.nd (pi_str (pbm0 (K := K) rfl PySem.F.plainAttrs_str PySem.F.slot_str_lower PySem.F.type_str_lower mt_lower (pv 1))) (blkOk_by (N := ["deeds", "thing", "letter"]) (sc := defScope s_is_row_over) (by decide +kernel)) (fun _ _ _ _ _ => (pg_name (i := 2) sc_is_row_over.nd rfl (Or.inl rfl))) (fun _ _ _ _ _ => pts_nil) (fun _ _ _ _ _ => (pe_cmpR op_in_sign (pv 2) (pv 0) rfl))) pa_nil))))))), ?_⟩
    refine ⟨fun v' H' => v' = .bl o.isSome ∧ Same H H', ?_, fun v' H' ⟨e, s⟩ => by subst e; exact q H' s⟩
    have cse : (∃ l, v = .str (S l) ∧ Ls l ∧ l.length ≤ 100000 ∧ o.isSome = decide (OverD d l)) ∨ (RowJ K H v false ∧ o.isSome = false) := by
      cases j with
      | bad j => exact .inr ⟨j, rfl⟩
      | yes hl hz ov => exact .inl ⟨_, rfl, hl, hz, by rw [decide_eq_true ov]; rfl⟩
      | not hl hz ov => exact .inl ⟨_, rfl, hl, hz, by rw [decide_eq_false ov]; rfl⟩
    walk_at "v"
    rcases cse with ⟨l, rfl, hl, hz, eo⟩ | ⟨j, eo⟩
    · refine ⟨_, true, rfl, RowJ.row hl, ?_⟩
      walk_at "v"
      refine iteT ?_
      walk_at "v"
      refine ⟨rfl, _, rfl, rfl, by rw [S_len]; omega, ?_⟩
      rw [lo_asc hl.asc]
      refine ⟨_, rfl, fun D hD => ?_⟩
      refine lc_it (walk_str (z := S (l.map lo1))) (fun i G => Same H G ∧ G D = some (.lst (((l.take i).map fun c => decide (lo1 c ∈ d)).map V.bl))) ⟨Same.new hD, upd_same⟩ (fun _ _ _ _ => trivial) ?_ ?_
      · rintro i x G1 G2 hi ⟨s1, h1⟩ ⟨rfl, c, hc, rfl⟩
        have hc0 : (l.map lo1)[i]? = some c := by simpa [S] using hc
        rw [List.getElem?_map] at hc0
        obtain ⟨b, hb, rfl⟩ := Option.map_eq_some_iff.mp hc0
        refine ⟨rfl, ?_⟩
        walk_at "v"; walk_at "v"
        refine ⟨_, _, rfl, rfl, ?_⟩
        refine ⟨_, h1, ?_, Same.mut hD s1, ?_⟩
        · rw [List.length_map, List.length_map, List.length_take]; exact Nat.lt_of_le_of_lt (by omega : _ ≤ 100000) (by decide)
        · rw [upd_same, take_one hb, List.map_append, List.map_append]; rfl
      · rintro G1 ⟨s1, h1⟩
        rw [show (S (l.map lo1)).cps.size = l.length by show (S (l.map lo1)).length = _; rw [S_len, List.length_map], List.take_length] at h1
        refine ⟨D, _, rfl, SqL.of h1, ?_⟩
        refine ⟨?_, s1⟩
        rw [eo, List.all_map]
        congr 1
        by_cases ov : OverD d l
        · rw [decide_eq_true ov, List.all_eq_true]
          intro c hc
          exact decide_eq_true (ov c hc)
        · rw [decide_eq_false ov, List.all_eq_false]
          have : ∃ c, c ∈ l ∧ ¬ lo1 c ∈ d := by
            apply Classical.byContradiction
            intro no
            exact ov fun c hc => Classical.byContradiction fun k => no ⟨c, hc, k⟩
          obtain ⟨c, hc, nc⟩ := this
          exact ⟨c, hc, by simp [nc]⟩
    · refine ⟨v, false, rfl, j, ?_⟩
      walk_at "v"
      rw [eo]
      exact ⟨rfl, Same.refl _⟩

/-- the names of the parts stand in the dict at q -/
def HasN (H : Hp) (q : Addr) (ps : List Nat → Option (List PG.T)) : Prop := ∃ kvs : List (L2.Key × V), Rd H q (.dK kvs) ∧ ∀ m b, ps m = some b → (valV kvs (Sum.inr (S m))).isSome = true
theorem HasN.same {H H' : Hp} {q : Addr} {ps : List Nat → Option (List PG.T)} (s : Same H H') (h : HasN H q ps) : HasN H' q ps := by
  obtain ⟨k, r, e⟩ := h
  exact ⟨k, PG.rd_same s r, e⟩
def sp_statement1 (K : PySem.W.Frag) (n : Nat) : Sp := fun vs H Q _ => ∃ (d : List Nat) (q : Addr) (v : V) (k : Nat) (t : PG.T) (ps : List Nat → Option (List PG.T)), vs = [.str (S d), .ref q, v, .int k] ∧ Deeds d ∧ HasN H q ps ∧ PG.Stm K H v t ∧ PG.R d ps n t ∧ k + PG.depS t ≤ 6 ∧ ∀ H', Same H H' → Q (.bl true) H'
def sp_block1 (K : PySem.W.Frag) (n : Nat) : Sp := fun vs H Q _ => ∃ (d : List Nat) (q : Addr) (v : V) (k : Nat) (b : List PG.T) (ps : List Nat → Option (List PG.T)), vs = [.str (S d), .ref q, v, .int k] ∧ Deeds d ∧ HasN H q ps ∧ PG.Blk K H v b ∧ PG.RB_ d ps n b ∧ k + PG.depL b ≤ 6 ∧ ∀ H', Same H H' → Q (.bl true) H'
def sp_blocks1 (K : PySem.W.Frag) (n : Nat) : Sp := fun vs H Q _ => ∃ (d : List Nat) (q : Addr) (v : V) (k : Nat) (bs : List (List PG.T)) (ps : List Nat → Option (List PG.T)), vs = [.str (S d), .ref q, v, .int k] ∧ Deeds d ∧ HasN H q ps ∧ Dp K H v (.tuple (PG.dBs bs)) ∧ 1 ≤ bs.length ∧ bs.length ≤ 4 ∧ (∀ b ∈ bs, PG.RB_ d ps n b) ∧ k + PG.depBs bs ≤ 6 ∧ ∀ H', Same H H' → Q (.bl true) H'
abbrev F_st (P : Program) (w : World) (K : PySem.W.Frag) (mg : Str → Option Value) (base : Heap) (A : Ad) (n : Nat) : Prop := FnOk P w K mg base (CX P w) (3 * n + 3) A.a_is_statement A.d_is_statement ["deeds", "names", "thing", "depth"] (sp_statement1 K n)
abbrev F_bl (P : Program) (w : World) (K : PySem.W.Frag) (mg : Str → Option Value) (base : Heap) (A : Ad) (n : Nat) : Prop := FnOk P w K mg base (CX P w) (3 * n + 4) A.a_is_block A.d_is_block ["deeds", "names", "thing", "depth"] (sp_block1 K n)
abbrev F_bs (P : Program) (w : World) (K : PySem.W.Frag) (mg : Str → Option Value) (base : Heap) (A : Ad) (n : Nat) : Prop := FnOk P w K mg base (CX P w) (3 * n + 5) A.a_are_blocks A.d_are_blocks ["deeds", "names", "thing", "depth"] (sp_blocks1 K n)
theorem blk_of (T : Txt K mg A) (n : Nat) (ih_is_statement : F_st P w K mg base A n) : F_bl P w K mg base A n := by
  refine T.F_is_block.okX sc_is_block (fun vs H Q E h => ?_) (fun cdv Ar outer s H vs Q E hr h => ?_)
  · obtain ⟨_, _, _, _, _, _, rfl, _⟩ := h
    rfl
  · obtain ⟨d, q, v, k, b, ps, rfl, hd, hn, hb, rb, dep, fin⟩ := h
    obtain ⟨a, xs, rfl, hx, xl, da⟩ := hb.open_
    refine ⟨_, (pss_cons (ps_if (pt_mid (PW.pt (pw_or (pt_not (pt_val (pe_callB (cisi (K := K) rfl) (by rfl) T.m_isinstance bt_isinstance (pa_cons (pv 2) (pa_cons (pe_bltn (v := .ty "tuple") (by rfl) T.m_tuple bt_tuple rfl) pa_nil))))) (pw_or (pt_cmpR op_gt (pe_callB (clen (K := K) rfl) (by rfl) T.m_len bt_len (pa_cons (pv 2) pa_nil)) pe_int (nomark _)) (pw_or1 (pt_cmpR op_gt (pv 3) pe_int (nomark _))))))) (pss_one (ps_ret pe_bl)) pss_nil)
      (pss_one (ps_ret (pe_callB (call_ (K := K) rfl rfl) (by rfl) T.m_all bt_all (pa_cons (pe_lc (own := [("item", 4)]) (tt := tYes) rfl sc_is_block.nd (piT (K := K) rfl (pv 2)) (blkOk_by (N := ["deeds", "names", "thing", "depth", "item"]) (sc := defScope s_is_block) (by decide +kernel)) (fun _ _ _ _ _ => (pg_name (i := 4) sc_is_block.nd rfl (Or.inl rfl))) (fun _ _ _ _ _ => pts_nil) (fun _ _ _ _ _ => (pe_call ih_is_statement (hr.mono (by omega)) (by rfl) T.g_is_statement T.F_is_statement.kp T.b_is_statement .nil passF (pa_cons (pv 0) (pa_cons (pv 1) (pa_cons (pv 4) (pa_cons (pv 3) pa_nil))))))) pa_nil))))), ?_⟩
    have b8 := rb.1
    refine GO.midF ?_ ?_
    · walk_at "g"
      exact ⟨decide_eq_false (by omega), rfl⟩
    walk_at "g"
    intro D hD
    refine GO.lcS (walk_tup (xs := xs)) GO.FY hD rfl (fun i acc G _ s _ => PG.sqT_same s hx) ?_ ?_
    · rintro i x acc G G' hi s e f ⟨rfl, hxi⟩
      obtain ⟨t, ht, st⟩ := PG.dL_at da hxi
      have tm := List.mem_of_getElem? ht
      walk_at "g"
      refine ⟨d, q, x, k, t, ps, rfl, hd, hn.same s, st.same s, rb.2 t tm, ?_, fun G2 s2 => ?_⟩
      · have := PG.depL_le.mp (Nat.le_refl _) t tm; omega
      exact GO.lnY hD (by omega) s e f s2
    · intro acc G s e f
      obtain rfl : acc = yes _ := f
      walk_at "g"
      exact fin G s
theorem blks_of (T : Txt K mg A) (n : Nat) (ih_is_block : F_bl P w K mg base A n) : F_bs P w K mg base A n := by
  refine T.F_are_blocks.okX sc_are_blocks (fun vs H Q E h => ?_) (fun cdv Ar outer s H vs Q E hr h => ?_)
  · obtain ⟨_, _, _, _, _, _, rfl, _⟩ := h
    rfl
  · obtain ⟨d, q, v, k, bs, ps, rfl, hd, hn, hb, b1, b4, rb, dep, fin⟩ := h
    obtain ⟨a, xs, rfl, hx, da⟩ := PG.dp_tup hb
    have xl : xs.length = bs.length := by rw [PG.dpAll_len da, PG.dBs_map, List.length_map]
    refine ⟨_, (pss_cons (ps_if (pt_mid (PW.pt (pw_or (pt_not (pt_val (pe_callB (cisi (K := K) rfl) (by rfl) T.m_isinstance bt_isinstance (pa_cons (pv 2) (pa_cons (pe_bltn (v := .ty "tuple") (by rfl) T.m_tuple bt_tuple rfl) pa_nil))))) (pw_or1 (pt_not (pt_mid (pt_chain op_le op_le pe_int (pe_callB (clen (K := K) rfl) (by rfl) T.m_len bt_len (pa_cons (pv 2) pa_nil)) pe_int))))))) (pss_one (ps_ret pe_bl)) pss_nil)
      (pss_one (ps_ret (pe_callB (call_ (K := K) rfl rfl) (by rfl) T.m_all bt_all (pa_cons (pe_lc (own := [("block", 4)]) (tt := tYes) rfl sc_are_blocks.nd (piT (K := K) rfl (pv 2)) (blkOk_by (N := ["deeds", "names", "thing", "depth", "block"]) (sc := defScope s_are_blocks) (by decide +kernel)) (fun _ _ _ _ _ => (pg_name (i := 4) sc_are_blocks.nd rfl (Or.inl rfl))) (fun _ _ _ _ _ => pts_nil) (fun _ _ _ _ _ => (pe_call ih_is_block (hr.mono (by omega)) (by rfl) T.g_is_block T.F_is_block.kp T.b_is_block .nil passF (pa_cons (pv 0) (pa_cons (pv 1) (pa_cons (pv 4) (pa_cons (pv 3) pa_nil))))))) pa_nil))))), ?_⟩
    refine GO.midF ?_ ?_
    · walk_at "g"
      refine GO.midT ?_ ?_
      · walk_at "g"
        exact ⟨decide_eq_true (by omega), rfl⟩
      walk_at "g"
      walk_at "dn"
    walk_at "g"
    intro D hD
    refine GO.lcS (walk_tup (xs := xs)) GO.FY hD rfl (fun i acc G _ s _ => PG.sqT_same s hx) ?_ ?_
    · rintro i x acc G G' hi s e f ⟨rfl, hxi⟩
      obtain ⟨b, hb, st⟩ := PG.dBs_at da hxi
      have tm := List.mem_of_getElem? hb
      walk_at "g"
      refine ⟨d, q, x, k, b, ps, rfl, hd, hn.same s, st.same s, rb b tm, ?_, fun G2 s2 => ?_⟩
      · have := PG.depBs_le.mp (Nat.le_refl _) b tm; omega
      exact GO.lnY hD (by omega) s e f s2
    · intro acc G s e f
      obtain rfl : acc = yes _ := f
      walk_at "g"
      exact fin G s
theorem stm_of (T : Txt K mg A) (n : Nat) (spb spbs : Sp) (ih_is_block : FnOk P w K mg base (CX P w) (3 * n + 1) A.a_is_block A.d_is_block ["deeds", "names", "thing", "depth"] spb)
    (ih_are_blocks : FnOk P w K mg base (CX P w) (3 * n + 2) A.a_are_blocks A.d_are_blocks ["deeds", "names", "thing", "depth"] spbs)
    (hb : ∀ m, n = m + 1 → ∀ vs H Q E, sp_block1 K m vs H Q E → spb vs H Q E) (hbs : ∀ m, n = m + 1 → ∀ vs H Q E, sp_blocks1 K m vs H Q E → spbs vs H Q E) : F_st P w K mg base A n := by
  refine T.F_is_statement.okX sc_is_statement (fun vs H Q E h => ?_) (fun cdv Ar outer s H vs Q E hr h => ?_)
  · obtain ⟨_, _, _, _, _, _, rfl, _⟩ := h
    rfl
  · obtain ⟨d, q, v, k, t, ps, rfl, hd, hn, st, rt, dep, fin⟩ := h
    obtain ⟨a, x, rfl, hx, di⟩ := st.open_
    refine ⟨_, (pss_cons (ps_if (pt_mid (PW.pt (pw_or (pt_not (pt_val (pe_callB (cisi (K := K) rfl) (by rfl) T.m_isinstance bt_isinstance (pa_cons (pv 2) (pa_cons (pe_bltn (v := .ty "tuple") (by rfl) T.m_tuple bt_tuple rfl) pa_nil))))) (pw_or (pt_cmpR op_ne (pe_callB (clen (K := K) rfl) (by rfl) T.m_len bt_len (pa_cons (pv 2) pa_nil)) pe_int (nomark _)) (pw_or1 (pt_not (pt_val (pe_callB (cisi (K := K) rfl) (by rfl) T.m_isinstance bt_isinstance (pa_cons (pe_ix (ixT (K := K) rfl) (pv 2) pe_int (fun _ _ => rfl)) (pa_cons (pe_bltn (v := .ty "str") (by rfl) T.m_str bt_str rfl) pa_nil)))))))))) (pss_one (ps_ret pe_bl)) pss_nil)
      (pss_cons (ps_asg (pv 2) (pgT (K := K) (n := 2) rfl rfl (pgs_cons (pg_name (i := 4) sc_is_statement.nd rfl (Or.inl rfl)) (pgs_cons (pg_name (i := 5) sc_is_statement.nd rfl (Or.inl rfl)) pgs_nil))))
      (pss_cons (ps_if (pt_cmpR op_eq (pv 4) pe_str (nomark _)) (pss_one (ps_ret (pe_mid (pe_and (pe_call (ok_is_row_over (K := K) T) (hr.mono (by omega)) (by rfl) T.g_is_row_over T.F_is_row_over.kp T.b_is_row_over .nil passF (pa_cons (pv 0) (pa_cons (pv 5) pa_nil))) (pe_one (pe_cmpR op_le (pe_callB clenS (by rfl) T.m_len bt_len (pa_cons (pv 5) pa_nil)) pe_int (nomark _))))))) pss_nil)
      (pss_cons (ps_if (pt_cmpR (inQ (K := K) rfl) (pv 4) (pe_tup (pa_cons pe_str (pa_cons pe_str pa_nil))) rfl) (pss_one (ps_ret (pe_call ih_are_blocks (hr.mono (by omega)) (by rfl) T.g_are_blocks T.F_are_blocks.kp T.b_are_blocks .nil passF (pa_cons (pv 0) (pa_cons (pv 1) (pa_cons (pv 5) (pa_cons (pe_op op_add (pv 3) pe_int) pa_nil))))))) pss_nil)
      (pss_cons (ps_if (pt_cmpR (inQ (K := K) rfl) (pv 4) (pe_tup (pa_cons pe_str (pa_cons pe_str pa_nil))) rfl) (pss_one (ps_ret (pe_call ih_is_block (hr.mono (by omega)) (by rfl) T.g_is_block T.F_is_block.kp T.b_is_block .nil passF (pa_cons (pv 0) (pa_cons (pv 1) (pa_cons (pv 5) (pa_cons (pe_op op_add (pv 3) pe_int) pa_nil))))))) pss_nil)
      (pss_one (ps_ret (pe_mid (pe_and (pe_cmpR op_eq (pv 4) pe_str (nomark _)) (pe_and (pe_callB (cisi (K := K) rfl) (by rfl) T.m_isinstance bt_isinstance (pa_cons (pv 5) (pa_cons (pe_bltn (v := .ty "str") (by rfl) T.m_str bt_str rfl) pa_nil))) (pe_one (pe_cmp (pc_din (hu_of hr) (pv 5) (pv 1)))))))))))))), ?_⟩
    refine GO.midF ?_ ?_
    · walk_at "g"
      walk_at "dn"
    cases rt with
    | @dot n r L o z =>
      obtain rfl := PG.dp_str di
      have hw : SqT K H a [.str "do", .str (S r)] := hx
      walk_at "g"
      refine GO.midE (v := .bl true) ?_ fin
      walk_at "g"
      refine ⟨d, .str (S r), some r, rfl, hd, .yes L (by omega) o, fun G s => ?_⟩
      walk_at "g"
      exact ⟨by rw [decide_eq_true (by omega)], s⟩
    | @alt n o bs b1 b4 b8 h =>
      have dep2 : k + 1 + PG.depBs bs ≤ 6 := by simp only [PG.depS] at dep; omega
      have hw : SqT K H a [.str (PG.wAlt o), x] := hx
      clear hx
      cases o
      · have hv : SqT K H a [.str "either", x] := hw
        clear hw
        walk_at "g"
        refine ⟨by walk_at "sz", fun p hp => ?_⟩
        refine GO.inT (SqT.of upd_same) rfl rfl (b := true) (by decide +kernel) ?_
        walk_at "g"
        have s1 : Same H (upd H p (.tup [.str "either", .str "other"])) := Same.new hp
        exact hbs _ rfl _ _ _ _ ⟨d, q, x, k + 1, bs, ps, rfl, hd, hn.same s1, PG.dp_same s1 _ _ di, b1, b4, fun b hb => ⟨b8 b hb, h b hb⟩, dep2, fun G s2 => fin G (s1.trans s2)⟩
      · have hv : SqT K H a [.str "other", x] := hw
        clear hw
        walk_at "g"
        refine ⟨by walk_at "sz", fun p hp => ?_⟩
        refine GO.inT (SqT.of upd_same) rfl rfl (b := true) (by decide +kernel) ?_
        walk_at "g"
        have s1 : Same H (upd H p (.tup [.str "either", .str "other"])) := Same.new hp
        exact hbs _ rfl _ _ _ _ ⟨d, q, x, k + 1, bs, ps, rfl, hd, hn.same s1, PG.dp_same s1 _ _ di, b1, b4, fun b hb => ⟨b8 b hb, h b hb⟩, dep2, fun G s2 => fin G (s1.trans s2)⟩
    | @loop n b b8 h =>
      have dep2 : k + 1 + PG.depL b ≤ 6 := by simp only [PG.depS] at dep; omega
      have hv : SqT K H a [.str "loop", x] := hx
      clear hx
      walk_at "g"
      refine ⟨by walk_at "sz", fun p hp => ?_⟩
      refine GO.inT (SqT.of upd_same) rfl rfl (b := false) (by decide +kernel) ?_
      have s1 : Same H (upd H p (.tup [.str "either", .str "other"])) := Same.new hp
      generalize upd H p (.tup [.str "either", .str "other"]) = H1 at s1
      walk_at "g"
      refine ⟨by walk_at "sz", fun p2 hp2 => ?_⟩
      refine GO.inT (SqT.of upd_same) rfl rfl (b := true) (by decide +kernel) ?_
      walk_at "g"
      have s2 : Same H (upd H1 p2 (.tup [.str "loop", .str "undo"])) := s1.trans (Same.new hp2)
      exact hb _ rfl _ _ _ _ ⟨d, q, x, k + 1, b, ps, rfl, hd, hn.same s2, PG.dp_same s2 _ _ di, ⟨b8, h⟩, dep2, fun G s3 => fin G (s2.trans s3)⟩
    | @undo n b b8 h =>
      have dep2 : k + 1 + PG.depL b ≤ 6 := by simp only [PG.depS] at dep; omega
      have hv : SqT K H a [.str "undo", x] := hx
      clear hx
      walk_at "g"
      refine ⟨by walk_at "sz", fun p hp => ?_⟩
      refine GO.inT (SqT.of upd_same) rfl rfl (b := false) (by decide +kernel) ?_
      have s1 : Same H (upd H p (.tup [.str "either", .str "other"])) := Same.new hp
      generalize upd H p (.tup [.str "either", .str "other"]) = H1 at s1
      walk_at "g"
      refine ⟨by walk_at "sz", fun p2 hp2 => ?_⟩
      refine GO.inT (SqT.of upd_same) rfl rfl (b := true) (by decide +kernel) ?_
      walk_at "g"
      have s2 : Same H (upd H1 p2 (.tup [.str "loop", .str "undo"])) := s1.trans (Same.new hp2)
      exact hb _ rfl _ _ _ _ ⟨d, q, x, k + 1, b, ps, rfl, hd, hn.same s2, PG.dp_same s2 _ _ di, ⟨b8, h⟩, dep2, fun G s3 => fin G (s2.trans s3)⟩
    | @part n m b e b8 h =>
      obtain rfl := PG.dp_str di
      have hv : SqT K H a [.str "part", .str (S m)] := hx
      clear hx
      walk_at "g"
      refine ⟨by walk_at "sz", fun p hp => ?_⟩
      refine GO.inT (SqT.of upd_same) rfl rfl (b := false) (by decide +kernel) ?_
      have s1 : Same H (upd H p (.tup [.str "either", .str "other"])) := Same.new hp
      generalize upd H p (.tup [.str "either", .str "other"]) = H1 at s1
      walk_at "g"
      refine ⟨by walk_at "sz", fun p2 hp2 => ?_⟩
      refine GO.inT (SqT.of upd_same) rfl rfl (b := false) (by decide +kernel) ?_
      have s2 : Same H (upd H1 p2 (.tup [.str "loop", .str "undo"])) := s1.trans (Same.new hp2)
      generalize upd H1 p2 (.tup [.str "loop", .str "undo"]) = H2 at s2
      walk_at "g"
      refine GO.midE (v := .bl true) ?_ (fun G s3 => fin G (s2.trans s3))
      walk_at "g"
      obtain ⟨kvs, rq, hs⟩ := hn
      exact ⟨q, _, rfl, .inl ⟨kvs, Sum.inr (S m), PG.rd_same s2 rq, rfl, rfl⟩, by rw [hs m b e], Same.refl _⟩
theorem rec_st (T : Txt K mg A) : ∀ n, F_st P w K mg base A n ∧ F_bl P w K mg base A n ∧ F_bs P w K mg base A n
  | 0 => by
    have h1 : F_st P w K mg base A 0 := stm_of T 0 (fun _ _ _ _ => False) (fun _ _ _ _ => False) (GO.never _ _ _ _) (GO.never _ _ _ _) (fun m e => absurd e (Nat.succ_ne_zero m).symm) (fun m e => absurd e (Nat.succ_ne_zero m).symm)
    have h2 := blk_of T 0 h1
    exact ⟨h1, h2, blks_of T 0 h2⟩
  | n + 1 => by
    obtain ⟨_, b1, b2⟩ := rec_st T n
    have h1 : F_st P w K mg base A (n + 1) := stm_of T (n + 1) _ _ b1 b2 (fun m e vs H Q E h => by cases e; exact h) (fun m e vs H Q E h => by cases e; exact h)
    have h2 := blk_of T (n + 1) h1
    exact ⟨h1, h2, blks_of T (n + 1) h2⟩
theorem ok_is_block (T : Txt K mg A) : F_bl P w K mg base A 20 := (rec_st T 20).2.1

abbrev nmV (l : List (List Nat)) : List V := l.map fun m => V.str (S m)
def sp_names (K : PySem.W.Frag) (n : Nat) : Sp := fun vs H Q _ => ∃ (v : V) (b : List PG.T) (d : List Nat) (ps : List Nat → Option (List PG.T)), vs = [v] ∧ PG.Blk K H v b ∧ PG.RB_ d ps n b ∧ (PG.nmL b).length ≤ 10000 ∧ ∀ p H', Same H H' → H p = none → H' p = some (.lst (nmV (PG.nmL b))) → Q (.ref p) H'
abbrev F_nm (P : Program) (w : World) (K : PySem.W.Frag) (mg : Str → Option Value) (base : Heap) (A : Ad) (n : Nat) : Prop := FnOk P w K mg base (CX P w) (1 * n + 1) A.a_names_in A.d_names_in ["block"] (sp_names K n)
theorem nm_of (T : Txt K mg A) (n : Nat) (spn : Sp) (ih_names_in : FnOk P w K mg base (CX P w) n A.a_names_in A.d_names_in ["block"] spn)
    (hn : ∀ m, n = m + 1 → ∀ vs H Q E, sp_names K m vs H Q E → spn vs H Q E) : F_nm P w K mg base A n := by
  show FnOk P w K mg base (CX P w) (1 * n + 0 + 1) A.a_names_in A.d_names_in ["block"] (sp_names K n)
  refine T.F_names_in.okX sc_names_in (fun vs H Q E h => ?_) (fun cdv Ar outer s H vs Q E hr h => ?_)
  · obtain ⟨_, _, _, _, rfl, _⟩ := h
    rfl
  · obtain ⟨v, b, d, ps, rfl, hb, rb, nl, fin⟩ := h
    obtain ⟨a, xs, rfl, hx, xl, da⟩ := hb.open_
    refine ⟨_, (pss_cons (ps_set (i := 1) sc_names_in.nd rfl (Or.inl rfl) (pe_lst pa_nil))
      (pss_cons (ps_for (passes_of rfl) rfl (piT (K := K) rfl (pv 0)) (pgT (K := K) (n := 2) rfl rfl (pgs_cons (pg_name (i := 2) sc_names_in.nd rfl (Or.inl rfl)) (pgs_cons (pg_name (i := 3) sc_names_in.nd rfl (Or.inl rfl)) pgs_nil))) (pss_one (ps_if (pt_cmpR op_eq (pv 2) pe_str (nomark _)) (pss_one (ps_expr (pbm (K := K) rfl PySem.F.plainAttrs_list PySem.F.slot_list_append PySem.F.type_list_append mt_append (pv 1) (pa_cons (pv 3) pa_nil)))) (pss_one (ps_if (pt_cmpR (inQ (K := K) rfl) (pv 2) (pe_tup (pa_cons pe_str (pa_cons pe_str pa_nil))) rfl) (pss_one (ps_for (passes_of rfl) rfl (piT (K := K) rfl (pv 3)) (pg_name (i := 4) sc_names_in.nd rfl (Or.inl rfl)) (pss_one (ps_expr (pbm (K := K) rfl PySem.F.plainAttrs_list PySem.F.slot_list_extend PySem.F.type_list_extend mt_extend (pv 1) (pa_cons (pe_call ih_names_in (hr.mono (by omega)) (by rfl) T.g_names_in T.F_names_in.kp T.b_names_in .nil passF (pa_cons (pv 4) pa_nil)) pa_nil)))))) (pss_one (ps_if (pt_cmpR op_ne (pv 2) pe_str (nomark _)) (pss_one (ps_expr (pbm (K := K) rfl PySem.F.plainAttrs_list PySem.F.slot_list_extend PySem.F.type_list_extend mt_extend (pv 1) (pa_cons (pe_call ih_names_in (hr.mono (by omega)) (by rfl) T.g_names_in T.F_names_in.kp T.b_names_in .nil passF (pa_cons (pv 3) pa_nil)) pa_nil)))) pss_nil)))))))
      (pss_one (ps_ret (pv 1))))), ?_⟩
    walk_at "g"
    refine ⟨by walk_at "sz", fun p hp => ?_⟩
    have e0 : upd H p (.lst []) p = some (.lst []) := upd_same
    have s0 : Same H (upd H p (.lst [])) := Same.new hp
    generalize upd H p (.lst []) = H0 at e0 s0
    walk_at "g"
    refine GO.forI (walk_tup (xs := xs)) (fun i σ' G => ∃ y2 y3 y4, σ' = [some (.ref a), some (.ref p), y2, y3, y4] ∧ Same H G ∧ G p = some (.lst (nmV (PG.nmL (b.take i))))) ⟨none, none, none, rfl, s0, e0⟩ (fun i σ' G _ ⟨_, _, _, _, s, _⟩ => PG.sqT_same s hx) ?_ ?_
    · rintro i x σ' G G' hi ⟨y2, y3, y4, rfl, s1, h1⟩ ⟨rfl, hxi⟩
      obtain ⟨t, ht, st⟩ := PG.dL_at da hxi
      have tm := List.mem_of_getElem? ht
      obtain ⟨c, y, rfl, hc, di⟩ := st.open_
      have en := PG.nmL_take ht
      have nb : (PG.nmL (b.take i)).length + (PG.nmS t).length ≤ 10000 := by
        have := congrArg List.length (PG.nmL_split ht)
        rw [List.length_append, List.length_append] at this
        omega
      cases rb.2 t tm with
      | @dot n r L o z =>
        obtain rfl := PG.dp_str di
        have hw : SqT K H c [.str "do", .str (S r)] := hc
        walk_at "g"
        refine ⟨by walk_at "sz", fun u hu => ?_⟩
        refine GO.inT (SqT.of upd_same) rfl rfl (b := false) (by decide +kernel) ?_
        walk_at "g"
        refine ⟨_, _, _, rfl, s1.trans (Same.new hu), ?_⟩
        rw [en]
        simp only [PG.nmS, List.append_nil]
        exact upd_old h1 hu
      | @alt n o bs b1 b4 b8 h =>
        have hw : SqT K H c [.str (PG.wAlt o), y] := hc
        obtain ⟨ya, ys, rfl, hy, db⟩ := PG.dp_tup di
        have yl : ys.length = bs.length := by rw [PG.dpAll_len db, PG.dBs_map, List.length_map]
        have cl : ∀ (wd : Str) (G2 : Hp) (y4 : Option V) (DD : Ends), Same G' G2 → (∀ y4' G3, Same H G3 → G3 p = some (.lst (nmV (PG.nmL (b.take (i + 1))))) → DD.nx [some (.ref a), some (.ref p), some (.str wd), some (.ref ya), y4'] G3) →
            GO.FL (gName 4) (tDrop (tBM K "list" rExtend (tVar 1) (tCons (tCall spn [] (fun x x_1 x_2 => False) (tCons (tVar 4) tNil)) tNil))) DD [some (.ref a), some (.ref p), some (.str wd), some (.ref ya), y4] (Itt K ya) G2 := by
          intro wd G2 y4 DD s2 go
          refine GO.forI (walk_tup (xs := ys)) (fun j σ' G => ∃ y4, σ' = [some (.ref a), some (.ref p), some (.str wd), some (.ref ya), y4] ∧ Same H G ∧ G p = some (.lst (nmV (PG.nmL (b.take i) ++ PG.nmBs (bs.take j)))))
            ⟨y4, rfl, s1.trans s2, by rw [s2 _ _ h1]; simp [PG.nmBs]⟩ (fun j σ' G _ ⟨_, _, s, _⟩ => ?_) ?_ ?_
          · exact PG.sqT_same s hy
          · rintro j z σ' G3 G4 hj ⟨y4, rfl, s3, h3⟩ ⟨rfl, hz⟩
            obtain ⟨b', hb', bz⟩ := PG.dBs_at db hz
            have bm := List.mem_of_getElem? hb'
            have nb2 : (PG.nmBs (bs.take j)).length + (PG.nmL b').length ≤ (PG.nmBs bs).length := by
              have := congrArg List.length (PG.nmBs_split hb')
              rw [List.length_append, List.length_append] at this
              omega
            have nb3 : (PG.nmS (.alt o bs)).length = (PG.nmBs bs).length := by simp only [PG.nmS]
            walk_at "g"
            refine hn _ rfl _ _ _ _ ⟨z, b', d, ps, rfl, PG.dp_same s3 _ _ bz, ⟨b8 b' bm, h b' bm⟩, by omega, fun u2 G5 s5 n5 h5 => ?_⟩
            walk_at "g"
            refine GO.ext (s5 _ _ h3) h5 ?_ ?_
            · simp only [List.length_map, List.length_append]; omega
            walk_at "g"
            refine ⟨_, rfl, Same.mut hp (s3.trans s5), ?_⟩
            rw [upd_same, PG.nmBs_take hb']
            simp only [nmV, List.map_append, List.append_assoc]
          · rintro σ' G3 ⟨y4, rfl, s3, h3⟩
            refine go _ _ s3 ?_
            rw [h3, en, yl, List.take_length]
            simp only [PG.nmS]
        cases o
        · have hv : SqT K H c [.str "either", .ref ya] := hw
          clear hw hc
          walk_at "g"
          refine ⟨by walk_at "sz", fun u hu => ?_⟩
          refine GO.inT (SqT.of upd_same) rfl rfl (b := true) (by decide +kernel) ?_
          have s2 : Same G' (upd G' u (.tup [.str "either", .str "other"])) := Same.new hu
          generalize upd G' u (.tup [.str "either", .str "other"]) = G2 at s2
          have s12 := s1.trans s2
          walk_at "g"
          exact cl _ G2 _ _ s2 fun y4' G3 s3 h3 => ⟨_, _, _, rfl, s3, h3⟩
        · have hv : SqT K H c [.str "other", .ref ya] := hw
          clear hw hc
          walk_at "g"
          refine ⟨by walk_at "sz", fun u hu => ?_⟩
          refine GO.inT (SqT.of upd_same) rfl rfl (b := true) (by decide +kernel) ?_
          have s2 : Same G' (upd G' u (.tup [.str "either", .str "other"])) := Same.new hu
          generalize upd G' u (.tup [.str "either", .str "other"]) = G2 at s2
          have s12 := s1.trans s2
          walk_at "g"
          exact cl _ G2 _ _ s2 fun y4' G3 s3 h3 => ⟨_, _, _, rfl, s3, h3⟩
      | @loop n b' b8 h =>
        have hw : SqT K H c [.str "loop", y] := hc
        walk_at "g"
        refine ⟨by walk_at "sz", fun u hu => ?_⟩
        refine GO.inT (SqT.of upd_same) rfl rfl (b := false) (by decide +kernel) ?_
        have s2 : Same G' (upd G' u (.tup [.str "either", .str "other"])) := Same.new hu
        generalize upd G' u (.tup [.str "either", .str "other"]) = G2 at s2
        walk_at "g"
        refine hn _ rfl _ _ _ _ ⟨y, b', d, ps, rfl, PG.dp_same (s1.trans s2) _ _ di, ⟨b8, h⟩, ?_, fun u2 G3 s3 n3 h3 => ?_⟩
        · simp only [PG.nmS] at nb; omega
        walk_at "g"
        refine GO.ext (s3 _ _ (s2 _ _ h1)) h3 ?_ ?_
        · simp only [PG.nmS] at nb; simp only [List.length_map]; omega
        walk_at "g"
        refine ⟨_, _, _, rfl, Same.mut hp (s1.trans (s2.trans s3)), ?_⟩
        rw [upd_same, en]
        simp only [PG.nmS, nmV, List.map_append]
      | @undo n b' b8 h =>
        have hw : SqT K H c [.str "undo", y] := hc
        walk_at "g"
        refine ⟨by walk_at "sz", fun u hu => ?_⟩
        refine GO.inT (SqT.of upd_same) rfl rfl (b := false) (by decide +kernel) ?_
        have s2 : Same G' (upd G' u (.tup [.str "either", .str "other"])) := Same.new hu
        generalize upd G' u (.tup [.str "either", .str "other"]) = G2 at s2
        walk_at "g"
        refine hn _ rfl _ _ _ _ ⟨y, b', d, ps, rfl, PG.dp_same (s1.trans s2) _ _ di, ⟨b8, h⟩, ?_, fun u2 G3 s3 n3 h3 => ?_⟩
        · simp only [PG.nmS] at nb; omega
        walk_at "g"
        refine GO.ext (s3 _ _ (s2 _ _ h1)) h3 ?_ ?_
        · simp only [PG.nmS] at nb; simp only [List.length_map]; omega
        walk_at "g"
        refine ⟨_, _, _, rfl, Same.mut hp (s1.trans (s2.trans s3)), ?_⟩
        rw [upd_same, en]
        simp only [PG.nmS, nmV, List.map_append]
      | @part n m b' e b8 h =>
        obtain rfl := PG.dp_str di
        have hw : SqT K H c [.str "part", .str (S m)] := hc
        walk_at "g"
        refine GO.app h1 (by simp only [List.length_map]; omega) ?_
        refine ⟨_, _, _, rfl, Same.mut hp s1, ?_⟩
        rw [upd_same, en]
        simp only [PG.nmS, nmV, List.map_append, List.map_cons, List.map_nil]
    rintro σ' G ⟨y2, y3, y4, rfl, s1, h1⟩
    walk_at "g"
    refine fin p G s1 hp ?_
    rw [h1, xl, List.take_length]
theorem rec_nm (T : Txt K mg A) : ∀ n, F_nm P w K mg base A n
  | 0 => nm_of T 0 (fun _ _ _ _ => False) (GO.never _ _ _ _) fun m e => absurd e (Nat.succ_ne_zero m).symm
  | n + 1 => by
    have f : FnOk P w K mg base (CX P w) (n + 1) A.a_names_in A.d_names_in ["block"] (sp_names K n) := by
      have g := rec_nm T n
      unfold F_nm at g
      rwa [Nat.one_mul] at g
    exact nm_of T (n + 1) _ f fun m e vs H Q E h => by cases e; exact h
theorem ok_names_in (T : Txt K mg A) : F_nm P w K mg base A 20 := rec_nm T 20

/-- which names each part's block has, as a dict of lists -/
def NmAt (H : Hp) (q : Addr) (nm : List (List Nat × List (List Nat))) : Prop := ∃ kvs : List (L2.Key × V), Rd H q (.dK kvs) ∧ ∀ m l, nm.lookup m = some l → ∃ a, valV kvs (Sum.inr (S m)) = some (.ref a) ∧ H a = some (.lst (nmV l))
theorem NmAt.same {H H' : Hp} {q : Addr} {nm : List (List Nat × List (List Nat))} (s : Same H H') (h : NmAt H q nm) : NmAt H' q nm := by
  obtain ⟨k, r, e⟩ := h
  refine ⟨k, PG.rd_same s r, fun m l z => ?_⟩
  obtain ⟨a, e1, e2⟩ := e m l z
  exact ⟨a, e1, s _ _ e2⟩
def sp_within1 : Sp := fun vs H Q _ => ∃ (q : Addr) (part : List Nat) (nm : List (List Nat × List (List Nat))) (rk : List Nat → Nat) (L : Nat) (l0 : List (List Nat)), vs = [.ref q, .str (S part)] ∧ NmAt H q nm ∧ nm.lookup part = some l0 ∧ nm.length ≤ 4 ∧ L ≤ 10000 ∧
  (∀ m l, nm.lookup m = some l → l.length ≤ L ∧ ∀ x ∈ l, rk x < rk m ∧ (nm.lookup x).isSome = true) ∧ ∀ H', Same H H' → Q (.bl false) H'
/-- the names that have not been seen -/
def unseen (nm : List (List Nat × List (List Nat))) (sn : List (L2.Key × V)) : Nat := (nm.filter fun p => (valV sn (Sum.inr (S p.1))).isNone).length
theorem unseen_le (nm : List (List Nat × List (List Nat))) (sn : List (L2.Key × V)) : unseen nm sn ≤ nm.length := List.length_filter_le _ _
theorem unseen_mono (nm : List (List Nat × List (List Nat))) (sn : List (L2.Key × V)) (k : L2.Key) (v : V) : unseen nm (putK sn k v) ≤ unseen nm sn := by
  unfold unseen
  induction nm with
  | nil => exact Nat.le_refl _
  | cons y t ih2 =>
    rw [List.filter_cons, List.filter_cons]
    by_cases e : (Sum.inr (S y.1) : L2.Key) = k
    · rw [valV_put, if_pos e, Option.isNone_some, if_neg Bool.false_ne_true]
      split
      · rw [List.length_cons]; omega
      · exact ih2
    · rw [valV_put, if_neg e]
      split
      · rw [List.length_cons, List.length_cons]; omega
      · exact ih2
theorem unseen_put {nm : List (List Nat × List (List Nat))} {sn : List (L2.Key × V)} {x : List Nat} {v : V} (h : (nm.lookup x).isSome = true) (n : valV sn (Sum.inr (S x)) = none) : unseen nm (putK sn (Sum.inr (S x)) v) < unseen nm sn := by
  unfold unseen
  induction nm with
  | nil => cases h
  | cons p r ih =>
    have mono : (r.filter fun p => (valV (putK sn (Sum.inr (S x)) v) (Sum.inr (S p.1))).isNone).length ≤ (r.filter fun p => (valV sn (Sum.inr (S p.1))).isNone).length := by
      clear ih h
      induction r with
      | nil => exact Nat.le_refl _
      | cons y t ih2 =>
        rw [List.filter_cons, List.filter_cons]
        by_cases e : (Sum.inr (S y.1) : L2.Key) = Sum.inr (S x)
        · rw [valV_put, if_pos e, Option.isNone_some, if_neg Bool.false_ne_true]
          split
          · rw [List.length_cons]; omega
          · exact ih2
        · rw [valV_put, if_neg e]
          split
          · rw [List.length_cons, List.length_cons]; omega
          · exact ih2
    rw [List.filter_cons, List.filter_cons]
    by_cases e : (Sum.inr (S p.1) : L2.Key) = Sum.inr (S x)
    · have k : (valV sn (Sum.inr (S p.1))).isNone = true := by rw [e, n]; rfl
      rw [valV_put, if_pos e, if_pos k, Option.isNone_some, if_neg Bool.false_ne_true, List.length_cons]
      omega
    · have h2 : (r.lookup x).isSome = true := by
        obtain ⟨a, b⟩ := p
        rw [List.lookup_cons] at h
        have : (x == a) = false := by
          refine beq_eq_false_iff_ne.mpr fun z => e ?_
          rw [z]
        rw [this] at h
        exact h
      have := ih h2
      rw [valV_put, if_neg e]
      split
      · rw [List.length_cons, List.length_cons]; omega
      · exact this
theorem put_len_old {sn : List (L2.Key × V)} {k : L2.Key} {v u : V} (h : valV sn k = some u) : (putK sn k v).length = sn.length := by
  unfold putK
  have : (sn.any fun kv => decide (kv.1 = k)) = true := by
    unfold valV at h
    obtain ⟨x, hx, _⟩ := Option.map_eq_some_iff.mp h
    refine List.any_eq_true.mpr ⟨x, List.mem_of_find?_eq_some hx, ?_⟩
    have := List.find?_some hx
    simpa using this
  rw [if_pos this, List.length_map]
theorem seen_put {nm : List (List Nat × List (List Nat))} {sn : List (L2.Key × V)} {x : List Nat} {v : V} (h : (nm.lookup x).isSome = true) (b : sn.length + unseen nm sn ≤ 4) : (putK sn (Sum.inr (S x)) v).length + unseen nm (putK sn (Sum.inr (S x)) v) ≤ 4 := by
  cases e : valV sn (Sum.inr (S x)) with
  | none =>
    have h1 := unseen_put (v := v) h e
    have h2 := GO.put_len sn (Sum.inr (S x)) v
    omega
  | some u =>
    have h1 := unseen_mono nm sn (Sum.inr (S x)) v
    rw [put_len_old e]
    omega
theorem ok_is_within (T : Txt K mg A) : FnOk P w K mg base (CX P w) 1 A.a_is_within A.d_is_within ["named", "part"] (sp_within1) := by
  refine T.F_is_within.okX sc_is_within (fun vs H Q E h => ?_) (fun cdv Ar outer s H vs Q E hr h => ?_)
  · obtain ⟨_, _, _, _, _, _, rfl, _⟩ := h
    rfl
  · obtain ⟨q, part, nm, rk, L, l0, rfl, hn, h0, n4, hL, ac, fin⟩ := h
    obtain ⟨kvs, rq, look⟩ := hn
    obtain ⟨a0, va, ha⟩ := look _ _ h0
    refine ⟨_, (pss_cons (ps_set (i := 2) sc_is_within.nd rfl (Or.inl rfl) pe_dnewK)
      (pss_cons (ps_set (i := 3) sc_is_within.nd rfl (Or.inl rfl) (pe_callTy (clist (K := K) rfl) (by rfl) T.m_list bt_list (pa_cons (pe_dget (hu_of hr) (pv 0) (pv 1) (fun _ _ => rfl)) pa_nil)))
      (pss_cons (ps_while (passes_of rfl) (ptru (K := K) rfl (pv 3) (by intro _; rfl)) (pss_cons (ps_set (i := 4) sc_is_within.nd rfl (Or.inl rfl) (pbm0 (K := K) rfl PySem.F.plainAttrs_list PySem.F.slot_list_pop PySem.F.type_list_pop mt_pop (pv 3)))
      (pss_one (ps_if (pt_cmp (pc_dnotin (hu_of hr) (pv 4) (pv 2))) (pss_cons (ps_dput (hu_of hr) (pv 2) (pv 4) pe_bl rfl)
      (pss_one (ps_expr (pbm (K := K) rfl PySem.F.plainAttrs_list PySem.F.slot_list_extend PySem.F.type_list_extend mt_extend (pv 3) (pa_cons (pe_dget (hu_of hr) (pv 0) (pv 4) (fun _ _ => rfl)) pa_nil))))) pss_nil))))
      (pss_one (ps_ret (pe_cmp (pc_din (hu_of hr) (pv 1) (pv 2)))))))), ?_⟩
    walk_at "g"
    refine GO.dnew fun sd hsd => ?_
    have s0 : Same H (upd H sd (.dK [])) := Same.new hsd
    have e0 : upd H sd (.dK []) sd = some (.dK []) := upd_same
    generalize upd H sd (.dK []) = H0 at s0 e0
    walk_at "g"
    refine GO.dgetR (PG.rd_same s0 rq) va ?_
    walk_at "g"
    refine ⟨a0, _, rfl, .inl (SqL.of (s0 _ _ ha)), fun wl hwl => ?_⟩
    have s1 : Same H (upd H0 wl (.lst (nmV l0))) := s0.trans (Same.new hwl)
    have e1 : upd H0 wl (.lst (nmV l0)) wl = some (.lst (nmV l0)) := upd_same
    have e2 : upd H0 wl (.lst (nmV l0)) sd = some (.dK []) := upd_old e0 hwl
    have wn : H wl = none := Same.free s0 hwl
    have ws : wl ≠ sd := (ne_of_none e0 hwl).symm
    generalize upd H0 wl (.lst (nmV l0)) = H1 at s1 e1 e2
    walk_at "g"
    obtain ⟨l0L, ac0⟩ := ac _ _ h0
    refine GO.whl (fun m σ' G => ∃ y ws sn, σ' = [some (.ref q), some (.str (S part)), some (.ref sd), some (.ref wl), y] ∧ Same H G ∧ G wl = some (.lst (nmV ws)) ∧ G sd = some (.dK sn) ∧ m = ws.length + unseen nm sn * (L + 1) ∧ m ≤ 5 * (L + 1) ∧ sn.length + unseen nm sn ≤ 4 ∧
      (∀ x ∈ ws, rk x < rk part ∧ (nm.lookup x).isSome = true) ∧ ∀ x, valV sn (Sum.inr (S x)) ≠ none → rk x < rk part) (l0.length + unseen nm [] * (L + 1)) ⟨none, l0, [], rfl, s1, e1, e2, rfl, ?_, ?_, ac0, fun x h => (h rfl).elim⟩ ?_
    · have := unseen_le nm []
      have h3 : unseen nm [] * (L + 1) ≤ 4 * (L + 1) := Nat.mul_le_mul_right _ (by omega)
      omega
    · have := unseen_le nm []
      rw [List.length_nil]; omega
    · rintro m σ' G ⟨y, ws', sn, rfl, s2, f1, f2, em, mb, snl, hws, hsn⟩
      walk_at "g"
      rcases List.eq_nil_or_concat ws' with rfl | ⟨w2, x, rfl⟩
      · have np : valV sn (Sum.inr (S part)) = none := by
          cases e : valV sn (Sum.inr (S part)) with
          | none => rfl
          | some z => exact absurd (hsn part (by rw [e]; exact fun z => nomatch z)) (Nat.lt_irrefl _)
        show if (!true) = true then _ else _
        walk_at "g"
        refine GO.dinR (.inl f2) ?_
        rw [np]
        exact fin G s2
      have en : nmV (w2 ++ [x]) = nmV w2 ++ [V.str (S x)] := by simp [nmV]
      rw [List.concat_eq_append] at f1 em hws ⊢
      obtain ⟨rx, dx⟩ := hws x (List.mem_append_right _ (List.mem_singleton_self _))
      rw [en] at f1 ⊢
      rw [show (nmV w2 ++ [V.str (S x)]).isEmpty = false by simp]
      walk_at "g"
      refine GO.wb ?_
      walk_at "g"
      refine GO.pop f1 ?_
      have s3 : Same H (upd G wl (.lst (nmV w2))) := Same.mut wn s2
      have g1 : upd G wl (.lst (nmV w2)) wl = some (.lst (nmV w2)) := upd_same
      have g2 : upd G wl (.lst (nmV w2)) sd = some (.dK sn) := upd_oth f2 ws.symm
      generalize upd G wl (.lst (nmV w2)) = G2 at s3 g1 g2
      have hw2 : ∀ z ∈ w2, rk z < rk part ∧ (nm.lookup z).isSome = true := fun z hz => hws z (List.mem_append_left _ hz)
      rw [List.length_append, List.length_singleton] at em
      walk_at "g"
      refine GO.dinR (.inl g2) ?_
      cases ex : valV sn (Sum.inr (S x)) with
      | some z =>
        walk_at "g"
        exact ⟨w2.length + unseen nm sn * (L + 1), by omega, _, w2, sn, rfl, s3, g1, g2, rfl, by omega, snl, hw2, hsn⟩
      | none =>
        obtain ⟨lx, hlx⟩ := Option.isSome_iff_exists.mp dx
        obtain ⟨lL, acx⟩ := ac _ _ hlx
        obtain ⟨ax, vx, hax⟩ := look _ _ hlx
        have un := unseen_put (v := .bl true) dx ex
        have unm : (unseen nm (putK sn (Sum.inr (S x)) (.bl true)) + 1) * (L + 1) ≤ unseen nm sn * (L + 1) := Nat.mul_le_mul_right _ un
        rw [Nat.add_mul, Nat.one_mul] at unm
        walk_at "g"
        refine GO.dputR g2 (by omega) ?_
        have pl := GO.put_len sn (Sum.inr (S x)) (.bl true)
        have s4 : Same H (upd G2 sd (.dK (putK sn (Sum.inr (S x)) (.bl true)))) := Same.mut hsd s3
        have k1 : upd G2 sd (.dK (putK sn (Sum.inr (S x)) (.bl true))) wl = some (.lst (nmV w2)) := upd_oth g1 ws
        have k2 : upd G2 sd (.dK (putK sn (Sum.inr (S x)) (.bl true))) sd = some (.dK (putK sn (Sum.inr (S x)) (.bl true))) := upd_same
        generalize upd G2 sd (.dK (putK sn (Sum.inr (S x)) (.bl true))) = G4 at s4 k1 k2
        walk_at "g"
        refine GO.dgetR (PG.rd_same s4 rq) vx ?_
        walk_at "g"
        refine GO.ext k1 (s4 _ _ hax) ?_ ?_
        · simp only [List.length_map]; omega
        walk_at "g"
        refine ⟨(w2 ++ lx).length + unseen nm (putK sn (Sum.inr (S x)) (.bl true)) * (L + 1), ?_, _, w2 ++ lx, _, rfl, Same.mut wn s4, ?_, upd_oth k2 ws.symm, rfl, ?_, ?_, ?_, ?_⟩
        · rw [List.length_append]; omega
        · rw [upd_same]; simp [nmV]
        · rw [List.length_append]; omega
        · omega
        · intro z hz
          rcases List.mem_append.mp hz with k | k
          · exact hw2 z k
          · obtain ⟨r1, r2⟩ := acx z k
            exact ⟨Nat.lt_trans r1 rx, r2⟩
        · intro z hz
          rw [valV_put] at hz
          split at hz
          · rename_i e
            have := S_inj (Sum.inr.inj e)
            rw [this]; exact rx
          · exact hsn z hz

def sp_parts1 (K : PySem.W.Frag) : Sp := fun vs H Q _ => ∃ (d : List Nat) (q : Addr) (kvs : List (L2.Key × V)) (ps : List (List Nat × List PG.T)), vs = [.str (S d), .ref q] ∧ Deeds d ∧ Rd H q (.dK kvs) ∧ PG.Prt K H kvs ps ∧ GO.PsOk d ps ∧ ∀ H', Same H H' → Q (.bl true) H'
theorem ok_are_parts (T : Txt K mg A) : FnOk P w K mg base (CX P w) 65 A.a_are_parts A.d_are_parts ["deeds", "thing"] (sp_parts1 K) := by
  refine T.F_are_parts.okX sc_are_parts (fun vs H Q E h => ?_) (fun cdv Ar outer s H vs Q E hr h => ?_)
  · obtain ⟨_, _, _, _, rfl, _⟩ := h
    rfl
  · obtain ⟨d, q, kvs, ps, rfl, hd, hqR, hp, ok, fin⟩ := h
    obtain ⟨U, hq, eU⟩ := GO.du hqR
    have kl := hp.len
    have p4 := ok.len
    refine ⟨_, (pss_cons (ps_if (pt_mid (PW.pt (pw_or (pt_not (pt_val (pe_callB (cisi (K := K) rfl) (by rfl) T.m_isinstance bt_isinstance (pa_cons (pv 1) (pa_cons (pe_bltn (v := .ty "dict") (by rfl) T.m_dict bt_dict rfl) pa_nil))))) (pw_or1 (pt_cmpR op_gt (pe_callB GO.clenDR (by rfl) T.m_len bt_len (pa_cons (pv 1) pa_nil)) pe_int (nomark _)))))) (pss_one (ps_ret pe_bl)) pss_nil)
      (pss_cons (ps_if (pt_not (pt_val (pe_callB (call_ (K := K) rfl rfl) (by rfl) T.m_all bt_all (pa_cons (GO.pe_lockR (pe_lc (own := [("name", 3)]) (tt := tYes) rfl sc_are_parts.nd (pi_keys (pv 1)) (blkOk_by (N := ["deeds", "thing", "named", "name"]) (sc := defScope s_are_parts) (by decide +kernel)) (fun _ _ _ _ _ => (pg_name (i := 3) sc_are_parts.nd rfl (Or.inl rfl))) (fun _ _ _ _ _ => pts_nil) (fun _ _ _ _ _ => (pe_mid (pe_and (pe_call (ok_is_small_word (K := K) T) (hr.mono (by decide)) (by rfl) T.g_is_small_word T.F_is_small_word.kp T.b_is_small_word .nil passF (pa_cons (pv 3) pa_nil)) (pe_one (pe_cmpR op_le (pe_callB clenS (by rfl) T.m_len bt_len (pa_cons (pv 3) pa_nil)) pe_int (nomark _)))))))) pa_nil)))) (pss_one (ps_ret pe_bl)) pss_nil)
      (pss_cons (ps_if (pt_not (pt_val (pe_callB (call_ (K := K) rfl rfl) (by rfl) T.m_all bt_all (pa_cons (GO.pe_lockR (pe_lc (own := [("name", 3)]) (tt := tYes) rfl sc_are_parts.nd (pi_keys (pv 1)) (blkOk_by (N := ["deeds", "thing", "named", "name"]) (sc := defScope s_are_parts) (by decide +kernel)) (fun _ _ _ _ _ => (pg_name (i := 3) sc_are_parts.nd rfl (Or.inl rfl))) (fun _ _ _ _ _ => pts_nil) (fun _ _ _ _ _ => (pe_call (ok_is_block (K := K) T) hr (by rfl) T.g_is_block T.F_is_block.kp T.b_is_block .nil passF (pa_cons (pv 0) (pa_cons (pv 1) (pa_cons (pe_dget (hu_of hr) (pv 1) (pv 3) (fun _ _ => rfl)) (pa_cons pe_int pa_nil)))))))) pa_nil)))) (pss_one (ps_ret pe_bl)) pss_nil)
      (pss_cons (ps_set (i := 2) sc_are_parts.nd rfl (Or.inr rfl) (GO.pe_lockR (pe_dc (own := [("name", 3)]) (tt := tYes) rfl sc_are_parts.nd (pi_keys (pv 1)) (blkOk_by (N := ["deeds", "thing", "named", "name"]) (sc := defScope s_are_parts) (by decide +kernel)) (fun _ _ _ _ _ => (pg_name (i := 3) sc_are_parts.nd rfl (Or.inl rfl))) (fun _ _ _ _ _ => pts_nil) (fun _ _ _ _ _ => (pv 3)) (fun _ _ _ _ _ => (pe_call (ok_names_in (K := K) T) (hr.mono (by decide)) (by rfl) T.g_names_in T.F_names_in.kp T.b_names_in .nil passF (pa_cons (pe_dget (hu_of hr) (pv 1) (pv 3) (fun _ _ => rfl)) pa_nil))))))
      (pss_one (ps_ret (pe_not (pe_callB (cany (K := K) rfl rfl) (by rfl) T.m_any bt_any (pa_cons (GO.pe_lockR (pe_lc (own := [("name", 3)]) (tt := tYes) rfl sc_are_parts.nd (pi_keys (pv 2)) (blkOk_by (N := ["deeds", "thing", "named", "name"]) (sc := defScope s_are_parts) (by decide +kernel)) (fun _ _ _ _ _ => (pg_name (i := 3) sc_are_parts.nd rfl (Or.inl rfl))) (fun _ _ _ _ _ => pts_nil) (fun _ _ _ _ _ => (pe_call (ok_is_within (K := K) T) (hr.mono (by decide)) (by rfl) T.g_is_within T.F_is_within.kp T.b_is_within .nil passF (pa_cons (pv 2) (pa_cons (pv 3) pa_nil)))))) pa_nil))))))))), ?_⟩
    refine GO.midF ?_ ?_
    · walk_at "g"
      refine ⟨q, kvs, rfl, hqR, ?_⟩
      walk_at "g"
      walk_at "dn"
    obtain ⟨rk, ac⟩ := ok.acy
    walk_at "g"
    refine GO.lockER hq eU fun od => ?_
    have hl : upd H q (.frz od (.dK kvs)) q = some (.frz od (.dK kvs)) := upd_same
    have back : ∀ G, Same (upd H q (.frz od (.dK kvs))) G → Same H (upd G q U) := fun G s => GO.lock_sameU hq s
    have hpl : PG.Prt K (upd H q (.frz od (.dK kvs))) kvs ps := GO.prt_atU hq eU hp
    generalize upd H q (.frz od (.dK kvs)) = HL at hl back hpl
    walk_at "g"
    intro D hD
    refine GO.lcS (walk_keys (kvs := kvs)) GO.FY hD rfl (fun i acc G _ s _ => s _ _ hl) ?_ ?_
    · rintro i x acc G G' hi s e f ⟨rfl, k, v, hk, rfl⟩
      obtain ⟨n, b, hp2, rfl, hb⟩ := GO.prt_get hpl hk
      obtain ⟨ne, n8, low⟩ := ok.nam _ (List.mem_of_getElem? hp2)
      dsimp only at ne n8 low
      walk_at "g"
      refine GO.midE (v := .bl true) ?_ (fun G2 s2 => GO.lnY hD (by omega) s e f s2)
      walk_at "g"
      refine ⟨n, rfl, low, ne, ?_⟩
      walk_at "g"
      exact ⟨by rw [decide_eq_true (by omega)], Same.refl _⟩
    · intro acc G s e f
      obtain rfl : acc = yes _ := f
      refine ⟨s _ _ hl, ?_⟩
      have e1 : upd G q U D = some (.lst (yes kvs.length)) := upd_oth e (ne_of e (s _ _ hl) fun z => nomatch z)
      have s1 := back G s
      have hq1 := s1 _ _ hq
      generalize upd G q U = H1 at e1 s1 hq1
      clear hl back hpl e s hD
      walk_at "g"
      have hp1 := hp.same s1
      refine GO.lockER hq1 eU fun od => ?_
      have hl : upd H1 q (.frz od (.dK kvs)) q = some (.frz od (.dK kvs)) := upd_same
      have back : ∀ G, Same (upd H1 q (.frz od (.dK kvs))) G → Same H1 (upd G q U) := fun G s => GO.lock_sameU hq1 s
      have hpl : PG.Prt K (upd H1 q (.frz od (.dK kvs))) kvs ps := GO.prt_atU hq1 eU hp1
      generalize upd H1 q (.frz od (.dK kvs)) = HL at hl back hpl
      have hN : HasN HL q (PG.look ps) := ⟨kvs, .inr ⟨od, hl⟩, fun m b e => by
        obtain ⟨v, e2, _⟩ := hpl.get e
        rw [e2]; rfl⟩
      walk_at "g"
      intro D2 hD2
      refine GO.lcS (walk_keys (kvs := kvs)) GO.FY hD2 rfl (fun i acc G _ s _ => s _ _ hl) ?_ ?_
      · rintro i x acc G G' hi s e f ⟨rfl, k, v, hk, rfl⟩
        obtain ⟨n, b, hp2, rfl, hb⟩ := GO.prt_get hpl hk
        obtain ⟨rb, db, _⟩ := ok.blk _ (List.mem_of_getElem? hp2)
        obtain ⟨v2, e2, hb2⟩ := hpl.get (GO.look_at ok.nd hp2)
        dsimp only at rb db
        walk_at "g"
        refine GO.dgetR (.inr ⟨od, s _ _ hl⟩) e2 ?_
        walk_at "g"
        refine ⟨d, q, v2, 1, b, PG.look ps, rfl, hd, hN.same s, hb2.same s, rb, by omega, fun G2 s2 => ?_⟩
        exact GO.lnY hD2 (by omega) s e f s2
      · intro acc G s e f
        obtain rfl : acc = yes _ := f
        refine ⟨s _ _ hl, ?_⟩
        have e2 : upd G q U D2 = some (.lst (yes kvs.length)) := upd_oth e (ne_of e (s _ _ hl) fun z => nomatch z)
        have s2 := s1.trans (back G s)
        have hq2 := s2 _ _ hq
        generalize upd G q U = H2 at e2 s2 hq2
        clear hl back hpl e s hD2 hN s1 hq1 hp1 e1
        have hp2 := hp.same s2
        walk_at "g"
        refine GO.lockER hq2 eU fun od => ?_
        have hl : upd H2 q (.frz od (.dK kvs)) q = some (.frz od (.dK kvs)) := upd_same
        have back : ∀ G, Same (upd H2 q (.frz od (.dK kvs))) G → Same H2 (upd G q U) := fun G s => GO.lock_sameU hq2 s
        have hpl : PG.Prt K (upd H2 q (.frz od (.dK kvs))) kvs ps := GO.prt_atU hq2 eU hp2
        generalize upd H2 q (.frz od (.dK kvs)) = HL at hl back hpl
        walk_at "g"
        intro D3 hD3
        refine dc_it (walk_keys (kvs := kvs)) (fun i G => Same HL G ∧ ∃ kv2, G D3 = some (.dK kv2) ∧ kv2.length ≤ i ∧ (∀ kv ∈ kv2, ∃ n b, kv.1 = Sum.inr (S n) ∧ PG.look ps n = some b) ∧
          ∀ n b, PG.look (ps.take i) n = some b → ∃ a, valV kv2 (Sum.inr (S n)) = some (.ref a) ∧ G a = some (.lst (nmV (PG.nmL b)))) ⟨Same.new hD3, [], upd_same, Nat.le_refl _, fun kv h => (nomatch h), fun n b h => by simp [PG.look] at h⟩ (fun i G _ h => h.1 _ _ hl) ?_ ?_
        · rintro i x G G' hi ⟨s, kv2, f1, f2, f3, f4⟩ ⟨rfl, k, v, hk, rfl⟩
          obtain ⟨n, b, hpi, rfl, hb⟩ := GO.prt_get hpl hk
          have lk := GO.look_at ok.nd hpi
          obtain ⟨rb, db, nl⟩ := ok.blk _ (List.mem_of_getElem? hpi)
          obtain ⟨v2, e2, hb2⟩ := hpl.get lk
          dsimp only at rb db nl
          walk_at "g"
          refine GO.dgetR (.inr ⟨od, s _ _ hl⟩) e2 ?_
          walk_at "g"
          refine ⟨v2, b, d, PG.look ps, rfl, hb2.same s, rb, nl, fun p G2 s2 np h2 => ?_⟩
          have pn : p ≠ D3 := (ne_of_none f1 np).symm
          refine ⟨kv2, Sum.inr (S n), rfl, s2 _ _ f1, Nat.lt_of_le_of_lt (by omega : _ ≤ 100) (by decide), Same.mut hD3 (s.trans s2), _, upd_same, ?_, ?_, ?_⟩
          · have := GO.put_len kv2 (Sum.inr (S n)) (.ref p); omega
          · intro kv hkv
            rcases GO.put_mem hkv with z | z | ⟨kv', z, e⟩
            · exact ⟨n, b, z, lk⟩
            · exact f3 kv z
            · rw [← e]; exact f3 kv' z
          · intro m c hm
            rw [List.take_add_one, hpi] at hm
            rw [valV_put]
            rcases GO.look_snoc hm with z | ⟨rfl, rfl⟩
            · have mn : m ≠ n := by
                rintro rfl
                have mem := GO.look_mem z
                obtain ⟨j, hj, ej⟩ := List.getElem_of_mem mem
                rw [List.length_take] at hj
                have e1 : ps[j]? = some (m, c) := by
                  rw [← ej, List.getElem_take]
                  exact List.getElem?_eq_getElem _
                have nd := ok.nd
                have e2 : (ps.map Prod.fst)[j]? = some m := by rw [List.getElem?_map, e1]; rfl
                have e3 : (ps.map Prod.fst)[i]? = some m := by rw [List.getElem?_map, hpi]; rfl
                have := (List.getElem?_inj (by rw [List.length_map]; omega) nd).mp (e2.trans e3.symm)
                omega
              rw [if_neg fun z => mn (S_inj (Sum.inr.inj z))]
              obtain ⟨a, a1, a2⟩ := f4 m c z
              have h4 := s2 _ _ a2
              exact ⟨a, a1, upd_oth h4 (ne_of h4 (s2 _ _ f1) fun z => nomatch z)⟩
            · rw [if_pos rfl]
              exact ⟨p, rfl, upd_oth h2 pn⟩
        · rintro G ⟨s, kv2, f1, f2, f3, f4⟩
          refine ⟨s _ _ hl, ?_⟩
          rw [kl, List.take_length] at f4
          have nq : ∀ {a : Addr} {o : HO}, G a = some o → (∀ ob u, o ≠ .frz ob u) → a ≠ q := fun {a o} h1 h2 e => by
            rw [e] at h1
            rw [s _ _ hl] at h1
            exact h2 _ _ (Option.some.inj h1).symm
          have d3q : D3 ≠ q := nq f1 fun _ _ z => nomatch z
          have s3 := s2.trans (back G s)
          have e3 : upd G q U D3 = some (.dK kv2) := upd_oth f1 d3q
          have e4 : ∀ n b, PG.look ps n = some b → ∃ a, valV kv2 (Sum.inr (S n)) = some (.ref a) ∧ upd G q U a = some (.lst (nmV (PG.nmL b))) := fun n b h => by
            obtain ⟨a, a1, a2⟩ := f4 n b h
            exact ⟨a, a1, upd_oth a2 (nq a2 fun _ _ z => nomatch z)⟩
          generalize upd G q U = H3 at s3 e3 e4
          clear f1 f4 s back hl hpl hq2 hp2 s2 nq hD3
          walk_at "g"
          refine GO.lockER e3 (.inl rfl) fun od => ?_
          have hl : upd H3 D3 (.frz od (.dK kv2)) D3 = some (.frz od (.dK kv2)) := upd_same
          have back : ∀ G, Same (upd H3 D3 (.frz od (.dK kv2))) G → Same H (upd G D3 (.dK kv2)) := fun G s => s3.trans (PG.lock_same e3 s)
          have hN : NmAt (upd H3 D3 (.frz od (.dK kv2))) D3 (ps.map fun p => (p.1, PG.nmL p.2)) := ⟨kv2, .inr ⟨od, hl⟩, fun m l h => by
            rw [GO.lookup_nm] at h
            obtain ⟨b, hb, rfl⟩ := Option.map_eq_some_iff.mp h
            obtain ⟨a, a1, a2⟩ := e4 m b hb
            exact ⟨a, a1, upd_oth a2 (ne_of a2 e3 fun z => nomatch z)⟩⟩
          have ac2 : ∀ m l, (ps.map fun p => (p.1, PG.nmL p.2)).lookup m = some l → l.length ≤ 10000 ∧ ∀ x ∈ l, rk x < rk m ∧ ((ps.map fun p => (p.1, PG.nmL p.2)).lookup x).isSome = true := fun m l h => by
            rw [GO.lookup_nm] at h
            obtain ⟨b, hb, rfl⟩ := Option.map_eq_some_iff.mp h
            have mem := GO.look_mem hb
            refine ⟨(ok.blk _ mem).2.2, fun x hx => ?_⟩
            obtain ⟨r1, r2⟩ := ac _ mem x hx
            refine ⟨r1, ?_⟩
            rw [GO.lookup_nm, Option.isSome_map]; exact r2
          generalize upd H3 D3 (.frz od (.dK kv2)) = HL2 at hl back hN
          walk_at "g"
          intro D4 hD4
          refine GO.lcS (walk_keys (kvs := kv2)) GO.FN hD4 rfl (fun i acc G _ s _ => s _ _ hl) ?_ ?_
          · rintro i x acc G5 G6 hi s e f ⟨rfl, k, v, hk, rfl⟩
            obtain ⟨n, b, ek, lk⟩ := f3 _ (List.mem_of_getElem? hk)
            dsimp only at ek
            subst ek
            walk_at "g"
            refine ⟨D3, n, _, rk, 10000, PG.nmL b, rfl, hN.same s, ?_, ?_, Nat.le_refl _, ac2, fun G7 s7 => GO.lnN hD4 (by omega) s e f s7⟩
            · rw [GO.lookup_nm, lk]; rfl
            · rw [List.length_map]; exact p4
          · intro acc G5 s e f
            obtain rfl : acc = GO.nos _ := f
            refine ⟨s _ _ hl, ?_⟩
            have e5 : upd G5 D3 (.dK kv2) D4 = some (.lst (GO.nos kv2.length)) := upd_oth e (ne_of e (s _ _ hl) fun z => nomatch z)
            have s5 := back G5 s
            generalize upd G5 D3 (.dK kv2) = H5 at e5 s5
            walk_at "g"
            exact fin H5 s5

def sp_sum (K : PySem.W.Frag) : Sp := fun vs H Q _ => ∃ (a : Addr) (xs : List V) (zs : List (Nat × Nat)), vs = [.ref a] ∧ H a = some (.lst xs) ∧ DpAll K H xs (zs.map GO.szD) ∧ zs.length ≤ 1000 ∧
  ∀ p H', Same H H' → H p = none → H' p = some (.tup [.int ((zs.map Prod.fst).sum : Nat), .int ((zs.map Prod.snd).sum : Nat)]) → Q (.ref p) H'
theorem ok_sum_of_sizes (T : Txt K mg A) : FnOk P w K mg base (CX P w) 1 A.a_sum_of_sizes A.d_sum_of_sizes ["sizes"] (sp_sum K) := by
  refine T.F_sum_of_sizes.okX sc_sum_of_sizes (fun vs H Q E h => ?_) (fun cdv Ar outer s H vs Q E hr h => ?_)
  · obtain ⟨_, _, _, rfl, _⟩ := h
    rfl
  · obtain ⟨a, xs, zs, rfl, ha, da, z1, fin⟩ := h
    have xl : xs.length = zs.length := by rw [PG.dpAll_len da, List.length_map]
    have item : ∀ {i : Nat} {x : V}, xs[i]? = some x → ∃ z t, zs[i]? = some z ∧ x = .ref t ∧ SqT K H t [.int z.1, .int z.2] := fun {i x} e => by
      obtain ⟨d, e2, r⟩ := PG.dpAll_at da e
      rw [List.getElem?_map] at e2
      obtain ⟨z, hz, rfl⟩ := Option.map_eq_some_iff.mp e2
      obtain ⟨t, p, q, rfl, s, r1, r2⟩ := PG.two r
      rw [PG.dp_int r1, PG.dp_int r2] at s
      exact ⟨z, t, hz, rfl, s⟩
    refine ⟨_, (pss_one (ps_ret (pe_tup (pa_cons (pe_callB (csum (K := K) rfl rfl) (by rfl) T.m_sum bt_sum (pa_cons (pe_lc (own := [("places", 1), ("_", 2)]) (tt := tYes) rfl sc_sum_of_sizes.nd (piL (K := K) rfl (pv 0)) (blkOk_by (N := ["sizes", "places", "_", "arrows"]) (sc := defScope s_sum_of_sizes) (by decide +kernel)) (fun _ _ _ _ _ => (pgT (K := K) (n := 2) rfl rfl (pgs_cons (pg_name (i := 1) sc_sum_of_sizes.nd rfl (Or.inl rfl)) (pgs_cons (pg_name (i := 2) sc_sum_of_sizes.nd rfl (Or.inl rfl)) pgs_nil)))) (fun _ _ _ _ _ => pts_nil) (fun _ _ _ _ _ => (pv 1))) pa_nil)) (pa_cons (pe_callB (csum (K := K) rfl rfl) (by rfl) T.m_sum bt_sum (pa_cons (pe_lc (own := [("_", 2), ("arrows", 3)]) (tt := tYes) rfl sc_sum_of_sizes.nd (piL (K := K) rfl (pv 0)) (blkOk_by (N := ["sizes", "places", "_", "arrows"]) (sc := defScope s_sum_of_sizes) (by decide +kernel)) (fun _ _ _ _ _ => (pgT (K := K) (n := 2) rfl rfl (pgs_cons (pg_name (i := 2) sc_sum_of_sizes.nd rfl (Or.inl rfl)) (pgs_cons (pg_name (i := 3) sc_sum_of_sizes.nd rfl (Or.inl rfl)) pgs_nil)))) (fun _ _ _ _ _ => pts_nil) (fun _ _ _ _ _ => (pv 3))) pa_nil)) pa_nil))))), ?_⟩
    walk_at "g"
    intro D hD
    refine GO.lcS (walk_list (xs := xs)) (GO.FT zs fun z => V.int z.1) hD rfl (fun i acc G _ s _ => SqL.of (s _ _ ha)) ?_ ?_
    · rintro i x acc G G' hi s e f ⟨rfl, hx⟩
      obtain ⟨z, t, hz, rfl, ht⟩ := item hx
      walk_at "g"
      exact GO.lnT hz rfl hD (by omega) s e f (Same.refl _)
    · intro acc G s e f
      obtain rfl := GO.ft_end f (by omega)
      have e' : G D = some (.lst ((zs.map Prod.fst).map fun n : Nat => V.int n)) := by rw [e, List.map_map]; rfl
      walk_at "g"
      refine GO.sumQ e' ?_
      walk_at "g"
      intro D2 hD2
      refine GO.lcS (walk_list (xs := xs)) (GO.FT zs fun z => V.int z.2) hD2 rfl (fun i acc G2 _ s2 _ => SqL.of (s2 _ _ (s _ _ ha))) ?_ ?_
      · rintro i x acc G2 G3 hi s2 e2 f2 ⟨rfl, hx⟩
        obtain ⟨z, t, hz, rfl, ht⟩ := item hx
        have s12 := s.trans s2
        walk_at "g"
        exact GO.lnT hz rfl hD2 (by omega) s2 e2 f2 (Same.refl _)
      · intro acc G2 s2 e2 f2
        obtain rfl := GO.ft_end f2 (by omega)
        have e' : G2 D2 = some (.lst ((zs.map Prod.snd).map fun n : Nat => V.int n)) := by rw [e2, List.map_map]; rfl
        walk_at "g"
        refine GO.sumQ e' ?_
        walk_at "g"
        refine ⟨by walk_at "sz", fun p hp => ?_⟩
        have s12 := s.trans s2
        exact fin p _ (s12.trans (Same.new hp)) (Same.free s12 hp) upd_same

/-- the sizes of parts that are known -/
def KnOk (K : PySem.W.Frag) (H : Hp) (kn : List (L2.Key × V)) (ps : List (List Nat × List PG.T)) : Prop := kn.length + unseen (ps.map fun p => (p.1, PG.nmL p.2)) kn ≤ 4 ∧ ∀ n u, valV kn (Sum.inr (S n)) = some u → ∃ b, PG.look ps n = some b ∧ Dp K H u (GO.szD (PG.szB b))
theorem KnOk.mono {K : PySem.W.Frag} {H H' : Hp} {kn : List (L2.Key × V)} {ps : List (List Nat × List PG.T)} (st : ∀ a zs, SqT K H a zs → SqT K H' a zs) (h : KnOk K H kn ps) : KnOk K H' kn ps := ⟨h.1, fun n u e => by
  obtain ⟨b, e1, e2⟩ := h.2 n u e
  exact ⟨b, e1, PG.dp_mono st _ _ (GO.noL_szD _) e2⟩⟩
/-- what all that reckons sizes is handed: the parts at q, the known sizes at k -/
structure SzIn (K : PySem.W.Frag) (H : Hp) (q k : Addr) (ps : List (List Nat × List PG.T)) : Prop where
  parts : ∃ kvs, Rd H q (.dK kvs) ∧ PG.Prt K H kvs ps
  known : ∃ kn, H k = some (.dK kn) ∧ KnOk K H kn ps
  ne : q ≠ k
theorem SzIn.same {K : PySem.W.Frag} {H H' : Hp} {q k : Addr} {ps : List (List Nat × List PG.T)} (s : Same H H') (x : SzIn K H q k ps) : SzIn K H' q k ps := by
  obtain ⟨⟨kvs, a, b⟩, ⟨kn, c, d⟩, e⟩ := x
  exact ⟨⟨kvs, PG.rd_same s a, b.same s⟩, ⟨kn, s _ _ c, d.mono fun a zs h => PG.sqT_same s h⟩, e⟩
/-- on to a heap in which the known sizes alone may have changed -/
def SzGo (K : PySem.W.Frag) (q k : Addr) (ps : List (List Nat × List PG.T)) (H H' : Hp) : Prop := But k H H' ∧ SzIn K H' q k ps
theorem SzGo.trans {K : PySem.W.Frag} {q k : Addr} {ps : List (List Nat × List PG.T)} {H H1 H2 : Hp} (a : SzGo K q k ps H H1) (b : SzGo K q k ps H1 H2) : SzGo K q k ps H H2 := ⟨a.1.trans b.1, b.2⟩
theorem SzGo.same {K : PySem.W.Frag} {q k : Addr} {ps : List (List Nat × List PG.T)} {H H1 H2 : Hp} (a : SzGo K q k ps H H1) (s : Same H1 H2) : SzGo K q k ps H H2 := ⟨a.1.trans s.but, a.2.same s⟩
theorem SzIn.refl {K : PySem.W.Frag} {H : Hp} {q k : Addr} {ps : List (List Nat × List PG.T)} (x : SzIn K H q k ps) : SzGo K q k ps H H := ⟨But.refl _ _, x⟩
theorem SzGo.st {K : PySem.W.Frag} {q k : Addr} {ps : List (List Nat × List PG.T)} {H H' : Hp} (x : SzIn K H q k ps) (g : SzGo K q k ps H H') : ∀ a zs, SqT K H a zs → SqT K H' a zs := by
  obtain ⟨kn, c, _⟩ := x.known
  exact GO.sqT_but c g.1
theorem SzGo.blk {K : PySem.W.Frag} {q k : Addr} {ps : List (List Nat × List PG.T)} {H H' : Hp} (x : SzIn K H q k ps) (g : SzGo K q k ps H H') {v : V} {b : List PG.T} (h : PG.Blk K H v b) : PG.Blk K H' v b := PG.dp_mono (g.st x) _ _ (by simpa [PG.noL] using PG.noL_L b) h
theorem SzGo.stm {K : PySem.W.Frag} {q k : Addr} {ps : List (List Nat × List PG.T)} {H H' : Hp} (x : SzIn K H q k ps) (g : SzGo K q k ps H H') {v : V} {t : PG.T} (h : PG.Stm K H v t) : PG.Stm K H' v t := PG.dp_mono (g.st x) _ _ (PG.noL_S t) h
def sp_ssize (K : PySem.W.Frag) (n : Nat) : Sp := fun vs H Q _ => ∃ (q k : Addr) (v : V) (d : List Nat) (ps : List (List Nat × List PG.T)) (t : PG.T), vs = [.ref q, .ref k, v] ∧ SzIn K H q k ps ∧ PG.Stm K H v t ∧ PG.R d (PG.look ps) n t ∧
  ∀ u H', SzGo K q k ps H H' → Dp K H' u (GO.szD (PG.szS t)) → Q u H'
def sp_bsize (K : PySem.W.Frag) (n : Nat) : Sp := fun vs H Q _ => ∃ (q k : Addr) (v : V) (d : List Nat) (ps : List (List Nat × List PG.T)) (b : List PG.T), vs = [.ref q, .ref k, v] ∧ SzIn K H q k ps ∧ PG.Blk K H v b ∧ PG.RB_ d (PG.look ps) n b ∧
  ∀ u H', SzGo K q k ps H H' → Dp K H' u (GO.szD (PG.szB b)) → Q u H'
/-- the list of what is told of some things one by one, sizes becoming known meanwhile -/
def SzF (K : PySem.W.Frag) (q k : Addr) (ps : List (List Nat × List PG.T)) (zs : List (Nat × Nat)) : Nat → List V → List (L2.Key × V) → Hp → Prop := fun i acc _ G => SzIn K G q k ps ∧ DpAll K G acc ((zs.take i).map GO.szD)
theorem szF_at {K : PySem.W.Frag} {q k D : Addr} {ps : List (List Nat × List PG.T)} {zs : List (Nat × Nat)} {i : Nat} {acc xs y : List V} {kn : List (L2.Key × V)} {G : Hp} (hD : G D = some (.lst xs)) (h : SzF K q k ps zs i acc kn G) : SzF K q k ps zs i acc kn (upd G D (.lst y)) := by
  obtain ⟨⟨⟨kvs, a, b⟩, ⟨kn', c, d⟩, e⟩, f⟩ := h
  have st := GO.sqT_off (K := K) (y := y) hD
  have nl : ∀ l : List (Nat × Nat), PG.noLs (l.map GO.szD) = true := fun l => by
    induction l with
    | nil => rfl
    | cons z r ih => simp only [List.map_cons, PG.noLs, GO.noL_szD, ih, Bool.and_self]
  exact ⟨⟨⟨kvs, GO.rd_oth a (GO.rd_nl a hD), Paired.mapP b fun _ _ z => ⟨z.1, PG.dp_mono st _ _ (by simpa [PG.noL] using PG.noL_L _) z.2⟩⟩, ⟨kn', upd_oth c (ne_of c hD fun z => nomatch z), d.mono st⟩, e⟩, PG.dpAll_mono st _ _ (nl _) f⟩
theorem szF_next {K : PySem.W.Frag} {q k : Addr} {ps : List (List Nat × List PG.T)} {zs : List (Nat × Nat)} {z : Nat × Nat} {i : Nat} {acc : List V} {u : V} {G G2 : Hp} (hz : zs[i]? = some z) (x : SzIn K G q k ps) (g : SzGo K q k ps G G2) (f : DpAll K G acc ((zs.take i).map GO.szD)) (du : Dp K G2 u (GO.szD z)) : DpAll K G2 (acc ++ [u]) ((zs.take (i + 1)).map GO.szD) := by
  rw [take_one hz, List.map_append]
  have nl : ∀ l : List (Nat × Nat), PG.noLs (l.map GO.szD) = true := fun l => by
    induction l with
    | nil => rfl
    | cons z r ih => simp only [List.map_cons, PG.noLs, GO.noL_szD, ih, Bool.and_self]
  exact PG.dpAll_snoc (PG.dpAll_mono (g.st x) _ _ (nl _) f) du
abbrev F_ss (P : Program) (w : World) (K : PySem.W.Frag) (mg : Str → Option Value) (base : Heap) (A : Ad) (n : Nat) : Prop := FnOk P w K mg base (CX P w) (2 * n + 2) A.a_statement_size A.d_statement_size ["parts", "known", "statement"] (sp_ssize K n)
abbrev F_sb (P : Program) (w : World) (K : PySem.W.Frag) (mg : Str → Option Value) (base : Heap) (A : Ad) (n : Nat) : Prop := FnOk P w K mg base (CX P w) (2 * n + 3) A.a_block_size A.d_block_size ["parts", "known", "block"] (sp_bsize K n)
theorem bsz_of (T : Txt K mg A) (n : Nat) (ih_statement_size : F_ss P w K mg base A n) : F_sb P w K mg base A n := by
  refine T.F_block_size.okX sc_block_size (fun vs H Q E h => ?_) (fun cdv Ar outer s H vs Q E hr h => ?_)
  · obtain ⟨_, _, _, _, _, _, rfl, _⟩ := h
    rfl
  · obtain ⟨q, k, v, d, ps, b, rfl, zi, hb, rb, fin⟩ := h
    obtain ⟨a, xs, rfl, hx, xl, da⟩ := hb.open_
    have b8 := rb.1
    refine ⟨_, (pss_cons (ps_if (pt_not (ptru (K := K) rfl (pv 2) (by intro _; rfl))) (pss_one (ps_ret (pe_tup (pa_cons pe_int (pa_cons pe_int pa_nil))))) pss_nil)
      (pss_cons (ps_asg (pe_call (ok_sum_of_sizes (K := K) T) (hr.mono (by omega)) (by rfl) T.g_sum_of_sizes T.F_sum_of_sizes.kp T.b_sum_of_sizes .nil passF (pa_cons (pe_lc (own := [("statement", 5)]) (tt := tYes) rfl sc_block_size.nd (piT (K := K) rfl (pv 2)) (blkOk_by (N := ["parts", "known", "block", "places", "arrows", "statement"]) (sc := defScope s_block_size) (by decide +kernel)) (fun _ _ _ _ _ => (pg_name (i := 5) sc_block_size.nd rfl (Or.inl rfl))) (fun _ _ _ _ _ => pts_nil) (fun _ _ _ _ _ => (pe_call ih_statement_size (hr.mono (by omega)) (by rfl) T.g_statement_size T.F_statement_size.kp T.b_statement_size .nil passF (pa_cons (pv 0) (pa_cons (pv 1) (pa_cons (pv 5) pa_nil)))))) pa_nil)) (pgT (K := K) (n := 2) rfl rfl (pgs_cons (pg_name (i := 3) sc_block_size.nd rfl (Or.inl rfl)) (pgs_cons (pg_name (i := 4) sc_block_size.nd rfl (Or.inl rfl)) pgs_nil))))
      (pss_one (ps_ret (pe_tup (pa_cons (pe_op op_sub (pe_op op_add (pv 3) (pe_callB (clen (K := K) rfl) (by rfl) T.m_len bt_len (pa_cons (pv 2) pa_nil))) pe_int) (pa_cons (pv 4) pa_nil))))))), ?_⟩
    walk_at "g"
    cases b with
    | nil =>
      obtain rfl : xs = [] := List.length_eq_zero_iff.mp xl
      rw [show (!!(([] : List V).isEmpty)) = true from rfl]
      walk_at "g"
      refine ⟨by walk_at "sz", fun p hp => ?_⟩
      exact fin _ _ (zi.refl.same (Same.new hp)) (.tup (SqT.of upd_same) (.cons (.int 0) (.cons (.int 1) .nil)))
    | cons t0 r =>
      have xe : xs.isEmpty = false := by
        cases xs with
        | nil => cases xl
        | cons _ _ => rfl
      rw [show (!!xs.isEmpty) = false by rw [xe]; rfl]
      generalize eb : t0 :: r = b at *
      have b1 : 1 ≤ b.length := by rw [← eb]; exact Nat.succ_le_succ (Nat.zero_le _)
      have bn : b ≠ [] := by rw [← eb]; exact fun z => nomatch z
      clear eb
      obtain ⟨kn, hk, ko⟩ := id zi.known
      walk_at "g"
      intro D hD
      have Dk : D ≠ k := (ne_of_none hk hD).symm
      refine GO.lcK (walk_tup (xs := xs)) (SzF K q k ps (b.map PG.szS)) hD hk ⟨zi.same (Same.new hD), .nil⟩ (fun G s => GO.sqT_but hk s _ _ hx) ?_ ?_
      · rintro i x acc kn2 G G' hi s e ek f ⟨rfl, hxi⟩
        obtain ⟨t, ht, st⟩ := PG.dL_at da hxi
        have tm := List.mem_of_getElem? ht
        walk_at "g"
        refine ⟨q, k, x, d, ps, t, rfl, f.1, GO.stm_but hk s st, rb.2 t tm, fun u G2 g2 du => ?_⟩
        obtain ⟨kn3, hk3, ko3⟩ := id g2.2.known
        have e2 := g2.1 _ _ Dk e
        refine GO.lnk hD Dk ?_ s e g2.1 hk3 (szF_at e2 ⟨g2.2, ?_⟩)
        · have := PG.dpAll_len f.2
          rw [List.length_map, List.length_take] at this
          omega
        · exact szF_next (by rw [List.getElem?_map, ht]; rfl) f.1 g2 f.2 du
      · intro acc kn2 G s e ek f
        have f2 := f.2
        rw [xl, ← List.length_map (f := PG.szS), List.take_length] at f2
        walk_at "g"
        refine ⟨D, acc, b.map PG.szS, rfl, e, f2, by rw [List.length_map]; omega, fun p G2 s2 hp h2 => ?_⟩
        have hx2 : SqT K G2 a xs := PG.sqT_same s2 (GO.sqT_but hk s _ _ hx)
        walk_at "g"
        refine ⟨by walk_at "sz", fun p2 hp2 => ?_⟩
        refine fin _ _ ((show SzGo K q k ps H G from ⟨s, f.1⟩).same (s2.trans (Same.new hp2))) (.tup (SqT.of upd_same) (.cons ?_ (.cons ?_ .nil)))
        · have e1 : ((((b.map PG.szS).map Prod.fst).sum : Nat) : Int) + (xs.length : Int) - 1 = ((PG.szB b).1 : Nat) := by simp only [PG.szB, PG.szL_sum]; omega
          rw [← e1]; exact .int _
        · have e1 : (((b.map PG.szS).map Prod.snd).sum : Nat) = (PG.szB b).2 := by simp only [PG.szB, PG.szL_sum, if_neg bn]
          rw [← e1]; exact .int _
theorem ssz_of (T : Txt K mg A) (n : Nat) (spb : Sp) (ih_block_size : FnOk P w K mg base (CX P w) (2 * n + 1) A.a_block_size A.d_block_size ["parts", "known", "block"] spb)
    (hb : ∀ m, n = m + 1 → ∀ vs H Q E, sp_bsize K m vs H Q E → spb vs H Q E) : F_ss P w K mg base A n := by
  refine T.F_statement_size.okX sc_statement_size (fun vs H Q E h => ?_) (fun cdv Ar outer s H vs Q E hr h => ?_)
  · obtain ⟨_, _, _, _, _, _, rfl, _⟩ := h
    rfl
  · obtain ⟨q, k, v, d, ps, t, rfl, zi, st, rt, fin⟩ := h
    obtain ⟨a, x, rfl, hx, di⟩ := st.open_
    obtain ⟨kvs, hq, hp⟩ := id zi.parts
    refine ⟨_, (pss_cons (ps_asg (pv 2) (pgT (K := K) (n := 2) rfl rfl (pgs_cons (pg_name (i := 3) sc_statement_size.nd rfl (Or.inl rfl)) (pgs_cons (pg_name (i := 4) sc_statement_size.nd rfl (Or.inl rfl)) pgs_nil))))
      (pss_cons (ps_if (pt_cmpR op_eq (pv 3) pe_str (nomark _)) (pss_one (ps_ret (pe_tup (pa_cons (pe_callB (call_max2 rfl) (by rfl) T.m_max bt_max (pa_cons (pe_op op_sub (pe_callB clenS (by rfl) T.m_len bt_len (pa_cons (pv 4) pa_nil)) pe_int) (pa_cons pe_int pa_nil))) (pa_cons (pe_callB (call_max2 rfl) (by rfl) T.m_max bt_max (pa_cons (pe_callB clenS (by rfl) T.m_len bt_len (pa_cons (pv 4) pa_nil)) (pa_cons pe_int pa_nil))) pa_nil))))) pss_nil)
      (pss_cons (ps_if (pt_cmpR op_eq (pv 3) pe_str (nomark _)) (C8.pss_cut (ps_if (pt_cmp (pc_dnotin (hu_of hr) (pv 4) (pv 1))) (pss_one (ps_dput (hu_of hr) (pv 1) (pv 4) (pe_call ih_block_size (hr.mono (by omega)) (by rfl) T.g_block_size T.F_block_size.kp T.b_block_size .nil passF (pa_cons (pv 0) (pa_cons (pv 1) (pa_cons (pe_dget (hu_of hr) (pv 0) (pv 4) (fun _ _ => rfl)) pa_nil)))) rfl)) pss_nil)
      (pss_one (ps_ret (pe_dget (hu_of hr) (pv 1) (pv 4) (fun _ _ => rfl))))) pss_nil)
      (pss_cons (ps_if (pt_cmpR (inQ (K := K) rfl) (pv 3) (pe_tup (pa_cons pe_str (pa_cons pe_str pa_nil))) rfl) (pss_cons (ps_asg (pe_call (ok_sum_of_sizes (K := K) T) (hr.mono (by omega)) (by rfl) T.g_sum_of_sizes T.F_sum_of_sizes.kp T.b_sum_of_sizes .nil passF (pa_cons (pe_lc (own := [("block", 8)]) (tt := tYes) rfl sc_statement_size.nd (piT (K := K) rfl (pv 4)) (blkOk_by (N := ["parts", "known", "statement", "word", "inner", "places", "arrows", "more", "block"]) (sc := defScope s_statement_size) (by decide +kernel)) (fun _ _ _ _ _ => (pg_name (i := 8) sc_statement_size.nd rfl (Or.inl rfl))) (fun _ _ _ _ _ => pts_nil) (fun _ _ _ _ _ => (pe_call ih_block_size (hr.mono (by omega)) (by rfl) T.g_block_size T.F_block_size.kp T.b_block_size .nil passF (pa_cons (pv 0) (pa_cons (pv 1) (pa_cons (pv 8) pa_nil)))))) pa_nil)) (pgT (K := K) (n := 2) rfl rfl (pgs_cons (pg_name (i := 5) sc_statement_size.nd rfl (Or.inl rfl)) (pgs_cons (pg_name (i := 6) sc_statement_size.nd rfl (Or.inl rfl)) pgs_nil))))
      (pss_cons (ps_set (i := 7) sc_statement_size.nd rfl (Or.inl rfl) (pe_mid (pe_ifExp (pt_cmpR op_eq (pv 3) pe_str (nomark _)) (pe_op op_add pe_int (pe_callB (clen (K := K) rfl) (by rfl) T.m_len bt_len (pa_cons (pv 4) pa_nil))) pe_int)))
      (pss_one (ps_ret (pe_tup (pa_cons (pe_op op_add (pv 5) (pv 7)) (pa_cons (pe_op op_add (pv 6) (pv 7)) pa_nil))))))) pss_nil)
      (pss_cons (ps_asg (pe_call ih_block_size (hr.mono (by omega)) (by rfl) T.g_block_size T.F_block_size.kp T.b_block_size .nil passF (pa_cons (pv 0) (pa_cons (pv 1) (pa_cons (pv 4) pa_nil)))) (pgT (K := K) (n := 2) rfl rfl (pgs_cons (pg_name (i := 5) sc_statement_size.nd rfl (Or.inl rfl)) (pgs_cons (pg_name (i := 6) sc_statement_size.nd rfl (Or.inl rfl)) pgs_nil))))
      (pss_one (ps_ret (pe_mid (pe_ifExp (pt_cmpR op_eq (pv 3) pe_str (nomark _)) (pe_tup (pa_cons (pe_op op_add (pv 5) pe_int) (pa_cons (pe_op op_add (pv 6) pe_int) pa_nil))) (pe_tup (pa_cons (pv 5) (pa_cons (pv 6) pa_nil)))))))))))), ?_⟩
    cases rt with
    | @dot n r L o z =>
      obtain rfl := PG.dp_str di
      have hw : SqT K H a [.str "do", .str (S r)] := hx
      walk_at "g"
      refine ⟨_, _, rfl, ?_⟩
      walk_at "g"
      refine ⟨_, _, rfl, ?_⟩
      walk_at "g"
      refine ⟨by walk_at "sz", fun p hp => ?_⟩
      refine fin _ _ (zi.refl.same (Same.new hp)) (.tup (SqT.of upd_same) (.cons ?_ (.cons ?_ .nil)))
      · have e1 : (if (0 : Int) > (r.length : Int) - 1 then (0 : Int) else (r.length : Int) - 1) = ((r.length - 1 : Nat) : Int) := by split <;> omega
        rw [e1]; exact .int _
      · have e1 : (if (1 : Int) > (r.length : Int) then (1 : Int) else (r.length : Int)) = ((max r.length 1 : Nat) : Int) := by split <;> omega
        rw [e1]; exact .int _
    | @alt n o bs b1 b4 b8 h =>
      obtain ⟨ya, ys, rfl, hy, db⟩ := PG.dp_tup di
      have yl : ys.length = bs.length := by rw [PG.dpAll_len db, PG.dBs_map, List.length_map]
      have hw : SqT K H a [.str (PG.wAlt o), .ref ya] := hx
      clear hx
      cases o
      · have hv : SqT K H a [.str "either", .ref ya] := hw
        clear hw
        walk_at "g"
        refine ⟨by walk_at "sz", fun p hp => ?_⟩
        refine GO.inT (SqT.of upd_same) rfl rfl (b := true) (by decide +kernel) ?_
        have s1 : Same H (upd H p (.tup [.str "either", .str "other"])) := Same.new hp
        generalize upd H p (.tup [.str "either", .str "other"]) = H1 at s1
        have zi1 := zi.same s1
        have hy1 := PG.sqT_same s1 hy
        have db1 := PG.dpAll_same s1 _ _ db
        obtain ⟨kn, hk, ko⟩ := id zi1.known
        walk_at "g"
        intro D hD
        have Dk : D ≠ k := (ne_of_none hk hD).symm
        refine GO.lcK (walk_tup (xs := ys)) (SzF K q k ps (bs.map PG.szB)) hD hk ⟨zi1.same (Same.new hD), .nil⟩ (fun G s => GO.sqT_but hk s _ _ hy1) ?_ ?_
        · rintro i z acc kn2 G G' hi s e ek f ⟨rfl, hz⟩
          obtain ⟨b, hb', bz⟩ := PG.dBs_at db1 hz
          have bm := List.mem_of_getElem? hb'
          walk_at "g"
          refine hb _ rfl _ _ _ _ ⟨q, k, z, d, ps, b, rfl, f.1, GO.blk_but hk s bz, ⟨b8 b bm, h b bm⟩, fun u G2 g2 du => ?_⟩
          obtain ⟨kn3, hk3, ko3⟩ := id g2.2.known
          have e2 := g2.1 _ _ Dk e
          refine GO.lnk hD Dk ?_ s e g2.1 hk3 (szF_at e2 ⟨g2.2, ?_⟩)
          · have := PG.dpAll_len f.2
            rw [List.length_map, List.length_take] at this
            omega
          · exact szF_next (by rw [List.getElem?_map, hb']; rfl) f.1 g2 f.2 du
        · intro acc kn2 G s e ek f
          have f2 := f.2
          rw [yl, ← List.length_map (f := PG.szB), List.take_length] at f2
          walk_at "g"
          refine ⟨D, acc, bs.map PG.szB, rfl, e, f2, by rw [List.length_map]; omega, fun u G2 s2 hu h2 => ?_⟩
          have hy2 : SqT K G2 ya ys := PG.sqT_same s2 (GO.sqT_but hk s _ _ hy1)
          walk_at "g"
          refine ⟨fun v' G' => v' = .int (0) ∧ G' = G2, ?_, fun v' G' ⟨e1, e2⟩ => ?_⟩
          · walk_at "g"
            walk_at "dn"
          subst e1 e2
          walk_at "g"
          refine ⟨by walk_at "sz", fun p2 hp2 => ?_⟩
          refine fin _ _ (((show SzGo K q k ps H H1 from ⟨s1.but, zi1⟩).trans ⟨s, f.1⟩).same (s2.trans (Same.new hp2))) (.tup (SqT.of upd_same) (.cons ?_ (.cons ?_ .nil)))
          · have e1 : ((((bs.map PG.szB).map Prod.fst).sum : Nat) : Int) + 0 = ((PG.szS (.alt false bs)).1 : Nat) := by simp only [PG.szS, PG.szBs_sum, Bool.false_eq_true, if_false]; omega
            rw [← e1]; exact .int _
          · have e1 : ((((bs.map PG.szB).map Prod.snd).sum : Nat) : Int) + 0 = ((PG.szS (.alt false bs)).2 : Nat) := by simp only [PG.szS, PG.szBs_sum, Bool.false_eq_true, if_false]; omega
            rw [← e1]; exact .int _
      · have hv : SqT K H a [.str "other", .ref ya] := hw
        clear hw
        walk_at "g"
        refine ⟨by walk_at "sz", fun p hp => ?_⟩
        refine GO.inT (SqT.of upd_same) rfl rfl (b := true) (by decide +kernel) ?_
        have s1 : Same H (upd H p (.tup [.str "either", .str "other"])) := Same.new hp
        generalize upd H p (.tup [.str "either", .str "other"]) = H1 at s1
        have zi1 := zi.same s1
        have hy1 := PG.sqT_same s1 hy
        have db1 := PG.dpAll_same s1 _ _ db
        obtain ⟨kn, hk, ko⟩ := id zi1.known
        walk_at "g"
        intro D hD
        have Dk : D ≠ k := (ne_of_none hk hD).symm
        refine GO.lcK (walk_tup (xs := ys)) (SzF K q k ps (bs.map PG.szB)) hD hk ⟨zi1.same (Same.new hD), .nil⟩ (fun G s => GO.sqT_but hk s _ _ hy1) ?_ ?_
        · rintro i z acc kn2 G G' hi s e ek f ⟨rfl, hz⟩
          obtain ⟨b, hb', bz⟩ := PG.dBs_at db1 hz
          have bm := List.mem_of_getElem? hb'
          walk_at "g"
          refine hb _ rfl _ _ _ _ ⟨q, k, z, d, ps, b, rfl, f.1, GO.blk_but hk s bz, ⟨b8 b bm, h b bm⟩, fun u G2 g2 du => ?_⟩
          obtain ⟨kn3, hk3, ko3⟩ := id g2.2.known
          have e2 := g2.1 _ _ Dk e
          refine GO.lnk hD Dk ?_ s e g2.1 hk3 (szF_at e2 ⟨g2.2, ?_⟩)
          · have := PG.dpAll_len f.2
            rw [List.length_map, List.length_take] at this
            omega
          · exact szF_next (by rw [List.getElem?_map, hb']; rfl) f.1 g2 f.2 du
        · intro acc kn2 G s e ek f
          have f2 := f.2
          rw [yl, ← List.length_map (f := PG.szB), List.take_length] at f2
          walk_at "g"
          refine ⟨D, acc, bs.map PG.szB, rfl, e, f2, by rw [List.length_map]; omega, fun u G2 s2 hu h2 => ?_⟩
          have hy2 : SqT K G2 ya ys := PG.sqT_same s2 (GO.sqT_but hk s _ _ hy1)
          walk_at "g"
          refine ⟨fun v' G' => v' = .int (1 + (ys.length : Int)) ∧ G' = G2, ?_, fun v' G' ⟨e1, e2⟩ => ?_⟩
          · walk_at "g"
            walk_at "dn"
          subst e1 e2
          walk_at "g"
          refine ⟨by walk_at "sz", fun p2 hp2 => ?_⟩
          refine fin _ _ (((show SzGo K q k ps H H1 from ⟨s1.but, zi1⟩).trans ⟨s, f.1⟩).same (s2.trans (Same.new hp2))) (.tup (SqT.of upd_same) (.cons ?_ (.cons ?_ .nil)))
          · have e1 : ((((bs.map PG.szB).map Prod.fst).sum : Nat) : Int) + (1 + (ys.length : Int)) = ((PG.szS (.alt true bs)).1 : Nat) := by simp only [PG.szS, PG.szBs_sum, if_true]; omega
            rw [← e1]; exact .int _
          · have e1 : ((((bs.map PG.szB).map Prod.snd).sum : Nat) : Int) + (1 + (ys.length : Int)) = ((PG.szS (.alt true bs)).2 : Nat) := by simp only [PG.szS, PG.szBs_sum, if_true]; omega
            rw [← e1]; exact .int _
    | @loop n b b8 h =>
      have hv : SqT K H a [.str "loop", x] := hx
      clear hx
      walk_at "g"
      refine ⟨by walk_at "sz", fun p hp => ?_⟩
      refine GO.inT (SqT.of upd_same) rfl rfl (b := false) (by decide +kernel) ?_
      have s1 : Same H (upd H p (.tup [.str "either", .str "other"])) := Same.new hp
      generalize upd H p (.tup [.str "either", .str "other"]) = H1 at s1
      walk_at "g"
      refine hb _ rfl _ _ _ _ ⟨q, k, x, d, ps, b, rfl, zi.same s1, PG.dp_same s1 _ _ di, ⟨b8, h⟩, fun u G g du => ?_⟩
      obtain ⟨t, y1, y2, rfl, ht, d1, d2⟩ := PG.two du
      rw [PG.dp_int d1, PG.dp_int d2] at ht
      walk_at "g"
      refine ⟨Q, ?_, fun _ _ h => h⟩
      walk_at "g"
      refine ⟨by walk_at "sz", fun p2 hp2 => ?_⟩
      refine fin _ _ ((show SzGo K q k ps H G from ⟨s1.but.trans g.1, g.2⟩).same (Same.new hp2)) (.tup (SqT.of upd_same) (.cons ?_ (.cons ?_ .nil)))
      · have e1 : ((PG.szB b).1 : Int) + 1 = ((PG.szS (.loop b)).1 : Nat) := by simp only [PG.szS, PG.szB]; omega
        rw [← e1]; exact .int _
      · have e1 : ((PG.szB b).2 : Int) + 2 = ((PG.szS (.loop b)).2 : Nat) := by simp only [PG.szS, PG.szB]; omega
        rw [← e1]; exact .int _
    | @undo n b b8 h =>
      have hv : SqT K H a [.str "undo", x] := hx
      clear hx
      walk_at "g"
      refine ⟨by walk_at "sz", fun p hp => ?_⟩
      refine GO.inT (SqT.of upd_same) rfl rfl (b := false) (by decide +kernel) ?_
      have s1 : Same H (upd H p (.tup [.str "either", .str "other"])) := Same.new hp
      generalize upd H p (.tup [.str "either", .str "other"]) = H1 at s1
      walk_at "g"
      refine hb _ rfl _ _ _ _ ⟨q, k, x, d, ps, b, rfl, zi.same s1, PG.dp_same s1 _ _ di, ⟨b8, h⟩, fun u G g du => ?_⟩
      obtain ⟨t, y1, y2, rfl, ht, d1, d2⟩ := PG.two du
      rw [PG.dp_int d1, PG.dp_int d2] at ht
      walk_at "g"
      refine ⟨Q, ?_, fun _ _ h => h⟩
      walk_at "g"
      refine ⟨by walk_at "sz", fun p2 hp2 => ?_⟩
      exact fin _ _ ((show SzGo K q k ps H G from ⟨s1.but.trans g.1, g.2⟩).same (Same.new hp2)) (.tup (SqT.of upd_same) (.cons (.int _) (.cons (.int _) .nil)))
    | @part n m b e b8 h =>
      obtain rfl := PG.dp_str di
      have hv : SqT K H a [.str "part", .str (S m)] := hx
      clear hx
      obtain ⟨kn, hk, ko⟩ := id zi.known
      obtain ⟨v, ev, bv⟩ := hp.get e
      have key : ∀ (G : Hp) (kn' : List (L2.Key × V)) (u : V), SzGo K q k ps H G → G k = some (.dK kn') → valV kn' (Sum.inr (S m)) = some u → Dp K G u (GO.szD (PG.szB b)) → Q u G := fun G kn' u g _ _ du => fin u G g du
      walk_at "g"
      refine GO.cutM (fun σ' G => ∃ kn' u, σ' = [some (.ref q), some (.ref k), some (.ref a), some (.str "part"), some (.str (S m)), none, none, none, none] ∧ SzGo K q k ps H G ∧ G k = some (.dK kn') ∧ valV kn' (Sum.inr (S m)) = some u ∧ Dp K G u (GO.szD (PG.szB b))) ?_ ?_
      · walk_at "g"
        refine GO.dinR (.inl hk) ?_
        cases eu : valV kn (Sum.inr (S m)) with
        | some u =>
          walk_at "g"
          obtain ⟨b', e', du⟩ := ko.2 m u eu
          rw [e] at e'
          cases e'
          exact ⟨kn, u, rfl, zi.refl, hk, eu, du⟩
        | none =>
          walk_at "g"
          refine GO.dgetR hq ev ?_
          walk_at "g"
          refine hb _ rfl _ _ _ _ ⟨q, k, v, d, ps, b, rfl, zi, bv, ⟨b8, h⟩, fun u G g du => ?_⟩
          obtain ⟨kn', hk', ko'⟩ := id g.2.known
          walk_at "g"
          refine GO.dputR hk' (by have := ko'.1; omega) ?_
          have st2 := GO.sqT_at (K := K) (u := .dK (putK kn' (Sum.inr (S m)) u)) hk'
          obtain ⟨kvs2, hq2, hp2⟩ := g.2.parts
          have bn : But k H (upd G k (.dK (putK kn' (Sum.inr (S m)) u))) := g.1.trans But.set
          refine ⟨_, u, trivial, ⟨bn, ⟨kvs2, GO.rd_oth hq2 zi.ne, GO.prt_at hk' hp2⟩, ⟨_, upd_same, seen_put ?_ ko'.1, fun n' u' e' => ?_⟩, zi.ne⟩, upd_same, by rw [valV_put, if_pos rfl], PG.dp_mono st2 _ _ (GO.noL_szD _) du⟩
          · rw [GO.lookup_nm, e]; rfl
          · rw [valV_put] at e'
            split at e'
            · rename_i eq
              have := S_inj (Sum.inr.inj eq)
              cases e'
              exact ⟨b, by rw [this]; exact e, PG.dp_mono st2 _ _ (GO.noL_szD _) du⟩
            · obtain ⟨b', h1, h2⟩ := ko'.2 n' u' e'
              exact ⟨b', h1, PG.dp_mono st2 _ _ (GO.noL_szD _) h2⟩
      · rintro σ' G ⟨kn', u, rfl, g, hk', eu, du⟩
        walk_at "g"
        refine GO.dgetR (.inl hk') eu ?_
        exact fin u G g du
theorem rec_sz (T : Txt K mg A) : ∀ n, F_ss P w K mg base A n ∧ F_sb P w K mg base A n
  | 0 => by
    have h1 : F_ss P w K mg base A 0 := ssz_of T 0 (fun _ _ _ _ => False) (GO.never _ _ _ _) (fun m e => absurd e (Nat.succ_ne_zero m).symm)
    exact ⟨h1, bsz_of T 0 h1⟩
  | n + 1 => by
    obtain ⟨_, b1⟩ := rec_sz T n
    have h1 : F_ss P w K mg base A (n + 1) := ssz_of T (n + 1) _ b1 (fun m e vs H Q E h => by cases e; exact h)
    exact ⟨h1, bsz_of T (n + 1) h1⟩
theorem ok_block_size (T : Txt K mg A) : F_sb P w K mg base A 20 := (rec_sz T 20).2

def sp_flowsize (K : PySem.W.Frag) : Sp := fun vs H Q _ => ∃ (q : Addr) (v : V) (d : List Nat) (kvs : List (L2.Key × V)) (ps : List (List Nat × List PG.T)) (b : List PG.T), vs = [.ref q, v] ∧ Rd H q (.dK kvs) ∧ PG.Prt K H kvs ps ∧ ps.length ≤ 4 ∧ PG.Blk K H v b ∧ PG.RB_ d (PG.look ps) 20 b ∧
  ∀ p H', Same H H' → H' p = some (.tup [.int ((PG.szB b).1 + 2 : Nat), .int ((PG.szB b).2 : Nat)]) → Q (.ref p) H'
theorem ok_flow_size (T : Txt K mg A) : FnOk P w K mg base (CX P w) 44 A.a_flow_size A.d_flow_size ["parts", "body"] (sp_flowsize K) := by
  refine T.F_flow_size.okX sc_flow_size (fun vs H Q E h => ?_) (fun cdv Ar outer s H vs Q E hr h => ?_)
  · obtain ⟨_, _, _, _, _, _, rfl, _⟩ := h
    rfl
  · obtain ⟨q, v, d, kvs, ps, b, rfl, hq, hp, p4, hb, rb, fin⟩ := h
    refine ⟨_, (pss_cons (ps_asg (pe_call (ok_block_size (K := K) T) hr (by rfl) T.g_block_size T.F_block_size.kp T.b_block_size .nil passF (pa_cons (pv 0) (pa_cons pe_dnewK (pa_cons (pv 1) pa_nil)))) (pgT (K := K) (n := 2) rfl rfl (pgs_cons (pg_name (i := 2) sc_flow_size.nd rfl (Or.inl rfl)) (pgs_cons (pg_name (i := 3) sc_flow_size.nd rfl (Or.inl rfl)) pgs_nil))))
      (pss_one (ps_ret (pe_tup (pa_cons (pe_op op_add (pv 2) pe_int) (pa_cons (pv 3) pa_nil)))))), ?_⟩
    walk_at "g"
    refine GO.dnew fun k hk => ?_
    have s1 : Same H (upd H k (.dK [])) := Same.new hk
    have zi : SzIn K (upd H k (.dK [])) q k ps := ⟨⟨kvs, PG.rd_same s1 hq, hp.same s1⟩, ⟨[], upd_same, by
      have := unseen_le (ps.map fun p => (p.1, PG.nmL p.2)) []
      rw [List.length_map] at this
      rw [List.length_nil]; omega, fun n u e => nomatch e⟩, GO.rd_nn hq hk⟩
    have back : ∀ G, But k (upd H k (.dK [])) G → Same H G := fun G h a o e => h a o (ne_of_none e hk) (s1 _ _ e)
    have hb1 := hb.same s1
    generalize upd H k (.dK []) = H1 at zi back hb1
    walk_at "g"
    refine ⟨q, k, v, d, ps, b, rfl, zi, hb1, rb, fun u G g du => ?_⟩
    obtain ⟨t, y1, y2, rfl, ht, d1, d2⟩ := PG.two du
    rw [PG.dp_int d1, PG.dp_int d2] at ht
    walk_at "g"
    refine ⟨by walk_at "sz", fun p hp => ?_⟩
    exact fin p _ ((back G g.1).trans (Same.new hp)) upd_same
/-- a program in the heap -/
def ProgAt (C : Addr) (K : PySem.W.Frag) (H : Hp) (p : Addr) (d : List Nat) (ps : List (List Nat × List PG.T)) (b : List PG.T) : Prop := ∃ (dx q : Addr) (kvs : List (L2.Key × V)) (v : V),
  H p = some (.ins C dx [("deeds", .str (S d)), ("body", v), ("_parts", .ref q)]) ∧ H q = some (.dK kvs) ∧ PG.Prt K H kvs ps ∧ PG.Blk K H v b
theorem ProgAt.same {C : Addr} {K : PySem.W.Frag} {H H' : Hp} {p : Addr} {d : List Nat} {ps : List (List Nat × List PG.T)} {b : List PG.T} (s : Same H H') (x : ProgAt C K H p d ps b) : ProgAt C K H' p d ps b := by
  obtain ⟨dx, q, kvs, v, h1, h2, h3, h4⟩ := x
  exact ⟨dx, q, kvs, v, s _ _ h1, s _ _ h2, h3.same s, h4.same s⟩
def spPart1 : Sp := fun vs H Q _ => ∃ (x dx C : Addr) (v : V), vs = [.ref x, v] ∧ H x = some (.ins C dx []) ∧ Q .non (upd H x (.ins C dx [("part", v)]))
def sp_pinit (C CB : Addr) (K : PySem.W.Frag) : Sp := fun vs H Q E => ∃ (x dx q : Addr) (v : V) (d : List Nat) (kvs : List (L2.Key × V)) (ps : List (List Nat × List PG.T)) (b : List PG.T), vs = [.ref x, .str (S d), .ref q, v] ∧ H x = some (.ins C dx []) ∧ Dds d ∧ Rd H q (.dK kvs) ∧ PG.Prt K H kvs ps ∧ GO.PsOk d ps ∧
  PG.Blk K H v b ∧ PG.RB_ d (PG.look ps) 20 b ∧ PG.depL b ≤ 5 ∧ ((PG.szB b).1 ≤ 58 ∧ (PG.szB b).2 ≤ 200 → ∀ H', But x H H' → ProgAt C K H' x d ps b → Q .non H') ∧
  (¬ ((PG.szB b).1 ≤ 58 ∧ (PG.szB b).2 ≤ 200) → ∀ dd H', But x H H' → H' dd = some (.xd [("part", .str "size")]) → E (.ref CB) (some dd) H')

def sp_bpinit (C : Addr) : Sp := fun vs H Q _ => ∃ (x : Addr) (m : V), vs = [.ref x, m] ∧ H x = some (exo x C none) ∧ ∀ dx, H dx = none → dx ≠ x → Q .non (upd (upd H dx (exd dx [("part", m)])) x (exo x C (some dx)))
theorem ok_BadProgram_init (T : Txt K mg A) : FnOk P w K mg base (CX P w) 1 A.a_BadProgram_init A.d_BadProgram_init ["self", "part"] (sp_bpinit A.c_BadProgram) := by
  refine T.F_BadProgram_init.okX sc_BadProgram_init (fun vs H Q E h => ?_) (fun cdv Ar outer s H vs Q E hr h => ?_)
  · obtain ⟨_, _, rfl, _⟩ := h
    rfl
  · obtain ⟨x, m, rfl, hx, q⟩ := h
    refine ⟨_, (pss_one (ps_ost (pv 0) (pv 1))), ?_⟩
    walk_at "v"; walk_at "v"
    exact ⟨x, A.c_BadProgram, rfl, T.o_BadProgram, T.xn_BadProgram_part, .inl ⟨hx, q⟩⟩
theorem ok_Program_init (T : Txt K mg A) : FnOk P w K mg base (CX P w) 66 A.a_Program_init A.d_Program_init ["self", "deeds", "parts", "body"] (sp_pinit A.c_Program A.c_BadProgram K) := by
  refine T.F_Program_init.okX sc_Program_init (fun vs H Q E h => ?_) (fun cdv Ar outer s H vs Q E hr h => ?_)
  · obtain ⟨_, _, _, _, _, _, _, _, rfl, _⟩ := h
    rfl
  · obtain ⟨x, dx, q, v, d, kvs, ps, b, rfl, hx, hd, hq, hp, ok, hb, rb, db, fin, bad⟩ := h
    refine ⟨_, (pss_cons (ps_if (pt_not (pt_val (pe_call (ok_is_deeds (K := K) T) (hr.mono (by decide)) (by rfl) T.g_is_deeds T.F_is_deeds.kp T.b_is_deeds .nil passF (pa_cons (pv 1) pa_nil)))) (pss_one (ps_raise rfl (takes_of rfl rfl rfl rfl) (pmk_oex T.o_BadProgram T.i_BadProgram T.t_BadProgram (ok_BadProgram_init T) (hr.mono (by decide)) T.b_BadProgram_init .nil passF (by rfl) T.gC_BadProgram (pa_cons pe_str pa_nil)))) pss_nil)
      (pss_cons (ps_if (pt_not (pt_val (pe_call (ok_are_parts (K := K) T) hr (by rfl) T.g_are_parts T.F_are_parts.kp T.b_are_parts .nil passF (pa_cons (pv 1) (pa_cons (pv 2) pa_nil))))) (pss_one (ps_raise rfl (takes_of rfl rfl rfl rfl) (pmk_oex T.o_BadProgram T.i_BadProgram T.t_BadProgram (ok_BadProgram_init T) (hr.mono (by decide)) T.b_BadProgram_init .nil passF (by rfl) T.gC_BadProgram (pa_cons pe_str pa_nil)))) pss_nil)
      (pss_cons (ps_if (pt_not (pt_val (pe_call (ok_is_block (K := K) T) (hr.mono (by decide)) (by rfl) T.g_is_block T.F_is_block.kp T.b_is_block .nil passF (pa_cons (pv 1) (pa_cons (pv 2) (pa_cons (pv 3) (pa_cons pe_int pa_nil))))))) (pss_one (ps_raise rfl (takes_of rfl rfl rfl rfl) (pmk_oex T.o_BadProgram T.i_BadProgram T.t_BadProgram (ok_BadProgram_init T) (hr.mono (by decide)) T.b_BadProgram_init .nil passF (by rfl) T.gC_BadProgram (pa_cons pe_str pa_nil)))) pss_nil)
      (pss_cons (ps_asg (pe_call (ok_flow_size (K := K) T) (hr.mono (by decide)) (by rfl) T.g_flow_size T.F_flow_size.kp T.b_flow_size .nil passF (pa_cons (pv 2) (pa_cons (pv 3) pa_nil))) (pgT (K := K) (n := 2) rfl rfl (pgs_cons (pg_name (i := 4) sc_Program_init.nd rfl (Or.inl rfl)) (pgs_cons (pg_name (i := 5) sc_Program_init.nd rfl (Or.inl rfl)) pgs_nil))))
      (pss_cons (ps_if (pt_mid (PW.pt (pw_or (pt_cmpR op_gt (pv 4) (pe_glob (v := V.int (60)) (by rfl) T.c_MOST_PLACES T.r_MOST_PLACES) (nomark _)) (pw_or1 (pt_cmpR op_gt (pv 5) (pe_glob (v := V.int (200)) (by rfl) T.c_MOST_ARROWS T.r_MOST_ARROWS) (nomark _)))))) (pss_one (ps_raise rfl (takes_of rfl rfl rfl rfl) (pmk_oex T.o_BadProgram T.i_BadProgram T.t_BadProgram (ok_BadProgram_init T) (hr.mono (by decide)) T.b_BadProgram_init .nil passF (by rfl) T.gC_BadProgram (pa_cons pe_str pa_nil)))) pss_nil)
      (pss_cons (ps_fldK (K := K) rfl (pv 0) (pv 1) rfl)
      (pss_cons (ps_fldK (K := K) rfl (pv 0) (pv 3) rfl)
      (pss_one (ps_fldK (K := K) rfl (pv 0) (pe_callTy call_dictD (by rfl) T.m_dict bt_dict (pa_cons (pv 2) pa_nil)) rfl))))))))), ?_⟩
    walk_at "g"
    refine ⟨d, rfl, hd, fun H1 s1 => ?_⟩
    walk_at "g"
    refine ⟨d, q, kvs, ps, rfl, hd.de, PG.rd_same s1 hq, hp.same s1, ok, fun H2 s2 => ?_⟩
    have s3 := s1.trans s2
    have hp2 := hp.same s3
    walk_at "g"
    refine ⟨d, q, v, 1, b, PG.look ps, rfl, hd.de, ⟨kvs, PG.rd_same s3 hq, fun m c e => by
      obtain ⟨u, e2, _⟩ := hp2.get e
      rw [e2]; rfl⟩, hb.same s3, rb, by omega, fun H3 s4 => ?_⟩
    have s5 := s3.trans s4
    walk_at "g"
    refine ⟨q, v, d, kvs, ps, b, rfl, PG.rd_same s5 hq, hp.same s5, ok.len, hb.same s5, rb, fun u H4 s6 hu => ?_⟩
    have s7 := s5.trans s6
    walk_at "g"
    refine ⟨fun c G => c = decide (¬ ((PG.szB b).1 ≤ 58 ∧ (PG.szB b).2 ≤ 200)) ∧ G = H4, ?_, ?_⟩
    · by_cases big : 58 < (PG.szB b).1
      · walk_at "g"
        exact ⟨by rw [decide_eq_true (by omega)], rfl⟩
      · walk_at "g"
        refine ⟨?_, rfl⟩
        by_cases b2 : 200 < (PG.szB b).2
        · rw [decide_eq_true (by omega), decide_eq_true (by omega)]
        · rw [decide_eq_false (by omega), decide_eq_false (by omega)]
    rintro c G ⟨rfl, rfl⟩
    by_cases fits : (PG.szB b).1 ≤ 58 ∧ (PG.szB b).2 ≤ 200
    · rw [decide_eq_false (fun z => z fits)]
      have hx4 := s7 _ _ hx
      have hq4 := PG.rd_same s7 hq
      have nq : q ≠ x := GO.rd_ni hq hx
      walk_at "g"
      refine ⟨q, kvs, rfl, GO.rd_oth (GO.rd_oth hq4 nq) nq, fun p2 hp2 => ?_⟩
      walk_at "g"
      have xp : x ≠ p2 := ne_of_none upd_same hp2
      have bt := GO.but_set (u := HO.ins A.c_Program dx (putF (Str.ofString "_parts") (V.ref p2) (putF (Str.ofString "body") v (putF (Str.ofString "deeds") (V.str (S d)) [])))) (GO.but_new (u := .dK kvs) (GO.but_set (u := HO.ins A.c_Program dx (putF (Str.ofString "body") v (putF (Str.ofString "deeds") (V.str (S d)) []))) (GO.but_set (u := HO.ins A.c_Program dx (putF (Str.ofString "deeds") (V.str (S d)) [])) (s7.but : But x H G))) hp2)
      exact fin fits _ bt ⟨dx, p2, kvs, v, upd_same, upd_oth upd_same xp.symm, GO.prt_butI hx bt hp, GO.blk_butI hx bt hb⟩
    · rw [decide_eq_true fits]
      walk_at "g"
      refine ⟨by show 1 ≤ 1000; decide, fun e he => ?_⟩
      refine ⟨e, .str "size", rfl, upd_same, fun dy f1 f2 => ⟨rfl, dy, [("part", .str "size")], upd_same, ?_, ?_, bad fits dy _ ?_ ?_⟩⟩
      · exact upd_oth upd_same f2
      · exact (upd_ne f2).symm.trans f1
      · intro a o n ho
        have ho := s7 _ _ ho
        have n1 := ne_of_none ho he
        have n2 : a ≠ dy := ne_of_none (upd_oth ho n1) f1
        rw [upd_ne n2]
        unfold del
        rw [if_neg n1, upd_ne n1, upd_ne n2, upd_ne n1]
        exact ho
      · exact upd_same

theorem ok_undoings (T : Txt K mg A) : FnOk P w K mg base (CX P w) 1 A.a_undoings A.d_undoings ["row"] (sp_undoings) := by
  refine T.F_undoings.okX sc_undoings (fun vs H Q E h => ?_) (fun cdv Ar outer s H vs Q E hr h => ?_)
  · obtain ⟨_, rfl, _⟩ := h
    rfl
  · obtain ⟨l, rfl, hl, hz, q⟩ := h
    refine ⟨_, (pss_one (ps_ret (pe_revS (pbm0 (K := K) rfl PySem.F.plainAttrs_str PySem.F.slot_str_swapcase PySem.F.type_str_swapcase mt_swapcase (pv 0))))), ?_⟩
    walk_at "v"
    refine ⟨rfl, _, rfl, rfl, by rw [S_len]; omega, ?_⟩
    rw [swap_asc hl.asc]
    refine ⟨_, rfl, by rw [S_len, List.length_map]; exact Nat.le_trans hz (by decide), ?_⟩
    rw [S_rev]
    exact q

def sp_pparts (C : Addr) (K : PySem.W.Frag) : Sp := fun vs H Q _ => ∃ (p : Addr) (d : List Nat) (ps : List (List Nat × List PG.T)) (b : List PG.T), vs = [.ref p] ∧ ProgAt C K H p d ps b ∧ ∀ u kvs H', Same H H' → H' u = some (.dK kvs) → PG.Prt K H' kvs ps → Q (.ref u) H'
theorem ok_Program_parts (T : Txt K mg A) : FnOk P w K mg base (CX P w) 1 A.a_Program_parts A.d_Program_parts ["self"] (sp_pparts A.c_Program K) := by
  refine T.F_Program_parts.okX sc_Program_parts (fun vs H Q E h => ?_) (fun cdv Ar outer s H vs Q E hr h => ?_)
  · obtain ⟨_, _, _, _, rfl, _⟩ := h
    rfl
  · obtain ⟨p, d, ps, b, rfl, pa, fin⟩ := h
    obtain ⟨dx, q, kvs, v, h1, h2, h3, h4⟩ := id pa
    refine ⟨_, (pss_one (ps_ret (pe_callTy call_dictD (by rfl) T.m_dict bt_dict (pa_cons (pe_fldK (K := K) rfl (pv 0) rfl) pa_nil)))), ?_⟩
    walk_at "g"
    refine ⟨q, kvs, rfl, .inl h2, fun u hu => ?_⟩
    exact fin u kvs _ (Same.new hu) upd_same (h3.same (Same.new hu))
def sp_ublk (K : PySem.W.Frag) (n : Nat) : Sp := fun vs H Q _ => ∃ (q : Addr) (v : V) (d : List Nat) (kvs : List (L2.Key × V)) (ps : List (List Nat × List PG.T)) (b : List PG.T), vs = [.ref q, v] ∧ H q = some (.dK kvs) ∧ PG.Prt K H kvs ps ∧ PG.Blk K H v b ∧ PG.RB_ d (PG.look ps) n b ∧
  ∀ u H', Same H H' → PG.Blk K H' u (PG.unL b) → Q u H'
def sp_ustm (K : PySem.W.Frag) (n : Nat) : Sp := fun vs H Q _ => ∃ (q : Addr) (v : V) (d : List Nat) (kvs : List (L2.Key × V)) (ps : List (List Nat × List PG.T)) (t : PG.T), vs = [.ref q, v] ∧ H q = some (.dK kvs) ∧ PG.Prt K H kvs ps ∧ PG.Stm K H v t ∧ PG.R d (PG.look ps) n t ∧
  ∀ u H', Same H H' → PG.Stm K H' u (PG.unS t) → Q u H'
abbrev F_us (P : Program) (w : World) (K : PySem.W.Frag) (mg : Str → Option Value) (base : Heap) (A : Ad) (n : Nat) : Prop := FnOk P w K mg base (CX P w) (2 * n + 2) A.a_undone_statement A.d_undone_statement ["parts", "statement"] (sp_ustm K n)
abbrev F_ub (P : Program) (w : World) (K : PySem.W.Frag) (mg : Str → Option Value) (base : Heap) (A : Ad) (n : Nat) : Prop := FnOk P w K mg base (CX P w) (2 * n + 3) A.a_undone_block A.d_undone_block ["parts", "block"] (sp_ublk K n)
theorem ub_of (T : Txt K mg A) (n : Nat) (ih_undone_statement : F_us P w K mg base A n) : F_ub P w K mg base A n := by
  refine T.F_undone_block.okX sc_undone_block (fun vs H Q E h => ?_) (fun cdv Ar outer s H vs Q E hr h => ?_)
  · obtain ⟨_, _, _, _, _, _, rfl, _⟩ := h
    rfl
  · obtain ⟨q, v, d, kvs, ps, b, rfl, hq, hp, hb, rb, fin⟩ := h
    obtain ⟨a, xs, rfl, hx, xl, da⟩ := hb.open_
    refine ⟨_, (pss_one (ps_ret (pe_callTy (ctupF (K := K) rfl) (by rfl) T.m_tuple bt_tuple (pa_cons (pe_lc (own := [("statement", 2)]) (tt := tYes) rfl sc_undone_block.nd (piT (K := K) rfl (pe_revT (K := K) rfl (pv 1))) (blkOk_by (N := ["parts", "block", "statement"]) (sc := defScope s_undone_block) (by decide +kernel)) (fun _ _ _ _ _ => (pg_name (i := 2) sc_undone_block.nd rfl (Or.inl rfl))) (fun _ _ _ _ _ => pts_nil) (fun _ _ _ _ _ => (pe_call ih_undone_statement (hr.mono (by omega)) (by rfl) T.g_undone_statement T.F_undone_statement.kp T.b_undone_statement .nil passF (pa_cons (pv 0) (pa_cons (pv 2) pa_nil))))) pa_nil)))), ?_⟩
    have b8 := rb.1
    walk_at "g"
    intro r H1 s1 hr1
    walk_at "g"
    intro D hD
    have nl : PG.noLs (PG.dL (PG.unL b)) = true := PG.noL_L _
    have dr : DpAll K H xs.reverse (PG.dL b.reverse) := by rw [PG.dL_map, List.map_reverse, ← PG.dL_map]; exact PG.dpAll_rev da
    refine GO.lcS (walk_tup (xs := xs.reverse)) (GO.FB K (PG.dL (PG.unL b))) hD .nil (fun i acc G _ s _ => PG.sqT_same s hr1) ?_ ?_
    · rintro i x acc G G' hi s e f ⟨rfl, hxi⟩
      obtain ⟨t, ht, st⟩ := PG.dL_at dr hxi
      have tm : t ∈ b := List.mem_reverse.mp (List.mem_of_getElem? ht)
      have sG := s1.trans s
      walk_at "g"
      refine ⟨q, x, d, kvs, ps, t, rfl, sG _ _ hq, hp.same sG, st.same sG, rb.2 t tm, fun u G2 s2 du => ?_⟩
      exact GO.lnB nl (by rw [PG.dL_map, PG.unL_map, ← List.map_reverse, List.map_map, List.getElem?_map, ht]; rfl) hD (by rw [PG.dL_map, List.length_map, PG.unL_len]; omega) s e f s2 du
    · intro acc G s e f
      walk_at "g"
      refine GO.tupF (SqL.of e) fun l G2 s2 hl => ?_
      exact fin _ _ ((s1.trans s).trans s2) (.tup hl (PG.dpAll_same s2 _ _ (GO.fb_end f (by rw [List.length_reverse, xl, PG.dL_map, List.length_map, PG.unL_len]; exact Nat.le_refl _))))

theorem us_of (T : Txt K mg A) (n : Nat) (spb : Sp) (ih_undone_block : FnOk P w K mg base (CX P w) (2 * n + 1) A.a_undone_block A.d_undone_block ["parts", "block"] spb)
    (hb : ∀ m, n = m + 1 → ∀ vs H Q E, sp_ublk K m vs H Q E → spb vs H Q E) : F_us P w K mg base A n := by
  refine T.F_undone_statement.okX sc_undone_statement (fun vs H Q E h => ?_) (fun cdv Ar outer s H vs Q E hr h => ?_)
  · obtain ⟨_, _, _, _, _, _, rfl, _⟩ := h
    rfl
  · obtain ⟨q, v, d, kvs, ps, t, rfl, hq, hp, st, rt, fin⟩ := h
    obtain ⟨a, x, rfl, hx, di⟩ := st.open_
    refine ⟨_, (pss_cons (ps_asg (pv 1) (pgT (K := K) (n := 2) rfl rfl (pgs_cons (pg_name (i := 2) sc_undone_statement.nd rfl (Or.inl rfl)) (pgs_cons (pg_name (i := 3) sc_undone_statement.nd rfl (Or.inl rfl)) pgs_nil))))
      (pss_cons (ps_if (pt_cmpR op_eq (pv 2) pe_str (nomark _)) (pss_one (ps_ret (pe_tup (pa_cons pe_str (pa_cons (pe_call (ok_undoings (K := K) T) (hr.mono (by omega)) (by rfl) T.g_undoings T.F_undoings.kp T.b_undoings .nil passF (pa_cons (pv 3) pa_nil)) pa_nil))))) pss_nil)
      (pss_cons (ps_if (pt_cmpR (inQ (K := K) rfl) (pv 2) (pe_tup (pa_cons pe_str (pa_cons pe_str pa_nil))) rfl) (pss_one (ps_ret (pe_tup (pa_cons (pv 2) (pa_cons (pe_callTy (ctupF (K := K) rfl) (by rfl) T.m_tuple bt_tuple (pa_cons (pe_lc (own := [("block", 4)]) (tt := tYes) rfl sc_undone_statement.nd (piT (K := K) rfl (pv 3)) (blkOk_by (N := ["parts", "statement", "word", "inner", "block"]) (sc := defScope s_undone_statement) (by decide +kernel)) (fun _ _ _ _ _ => (pg_name (i := 4) sc_undone_statement.nd rfl (Or.inl rfl))) (fun _ _ _ _ _ => pts_nil) (fun _ _ _ _ _ => (pe_call ih_undone_block (hr.mono (by omega)) (by rfl) T.g_undone_block T.F_undone_block.kp T.b_undone_block .nil passF (pa_cons (pv 0) (pa_cons (pv 4) pa_nil))))) pa_nil)) pa_nil))))) pss_nil)
      (pss_cons (ps_if (pt_cmpR op_eq (pv 2) pe_str (nomark _)) (pss_one (ps_ret (pe_tup (pa_cons pe_str (pa_cons (pe_call ih_undone_block (hr.mono (by omega)) (by rfl) T.g_undone_block T.F_undone_block.kp T.b_undone_block .nil passF (pa_cons (pv 0) (pa_cons (pv 3) pa_nil))) pa_nil))))) pss_nil)
      (pss_cons (ps_if (pt_cmpR op_eq (pv 2) pe_str (nomark _)) (pss_one (ps_ret (pe_tup (pa_cons pe_str (pa_cons (pe_dget (hu_of hr) (pv 0) (pv 3) (fun _ _ => rfl)) pa_nil))))) pss_nil)
      (pss_one (ps_ret (pe_tup (pa_cons pe_str (pa_cons (pe_tup (pa_cons (pv 3) pa_nil)) pa_nil)))))))))), ?_⟩
    cases rt with
    | @dot n r L o z =>
      obtain rfl := PG.dp_str di
      have hw : SqT K H a [.str "do", .str (S r)] := hx
      walk_at "g"
      refine ⟨r, rfl, L, by omega, ?_⟩
      walk_at "g"
      refine ⟨by walk_at "sz", fun p hp => ?_⟩
      exact fin _ _ (Same.new hp) (by rw [GO.un_dot]; exact GO.stm_mk (SqT.of upd_same) (.str _))
    | @alt n o bs b1 b4 b8 h =>
      obtain ⟨ya, ys, rfl, hy, db⟩ := PG.dp_tup di
      have yl : ys.length = bs.length := by rw [PG.dpAll_len db, PG.dBs_map, List.length_map]
      have hw : SqT K H a [.str (PG.wAlt o), .ref ya] := hx
      clear hx
      have nd : (PG.wAlt o : Str) ≠ "do" := by cases o <;> decide +kernel
      have iw : inV (.str (PG.wAlt o)) [.str "either", .str "other"] = true := by cases o <;> decide +kernel
      walk_at "g"
      refine ⟨by walk_at "sz", fun z hz => ?_⟩
      refine GO.inT (SqT.of upd_same) rfl rfl (b := true) iw ?_
      have s1 : Same H (upd H z (.tup [.str "either", .str "other"])) := Same.new hz
      generalize upd H z (.tup [.str "either", .str "other"]) = H1 at s1
      walk_at "g"
      intro D hD
      have hy1 := PG.sqT_same s1 hy
      have nl : PG.noLs (PG.dBs (bs.map PG.unL)) = true := PG.noL_Bs _
      refine GO.lcS (walk_tup (xs := ys)) (GO.FB K (PG.dBs (bs.map PG.unL))) hD .nil (fun i acc G _ s _ => PG.sqT_same s hy1) ?_ ?_
      · rintro i x acc G G' hi s e f ⟨rfl, hxi⟩
        obtain ⟨b, hb', bz⟩ := PG.dBs_at db hxi
        have bm := List.mem_of_getElem? hb'
        have sG := s1.trans s
        walk_at "g"
        refine hb _ rfl _ _ _ _ ⟨q, x, d, kvs, ps, b, rfl, sG _ _ hq, hp.same sG, bz.same sG, ⟨b8 b bm, h b bm⟩, fun u G2 s2 du => ?_⟩
        exact GO.lnB nl (by rw [PG.dBs_map, List.getElem?_map, List.getElem?_map, hb']; rfl) hD (by rw [PG.dBs_map, List.length_map, List.length_map]; omega) s e f s2 du
      · intro acc G s e f
        walk_at "g"
        refine GO.tupF (SqL.of e) fun l G2 s2 hl => ?_
        walk_at "g"
        refine ⟨by walk_at "sz", fun p2 hp2 => ?_⟩
        have s3 : Same G (upd G2 p2 (.tup [.str (PG.wAlt o), .ref l])) := s2.trans (Same.new hp2)
        exact fin _ _ ((s1.trans s).trans s3) (by rw [GO.un_alt]; exact GO.stm_mk (SqT.of upd_same) (.tup (PG.sqT_same (Same.new hp2) hl) (PG.dpAll_same s3 _ _ (GO.fb_end f (by rw [yl, PG.dBs_map, List.length_map, List.length_map]; exact Nat.le_refl _)))))
    | @loop n b b8 h =>
      have hv : SqT K H a [.str "loop", x] := hx
      clear hx
      walk_at "g"
      refine ⟨by walk_at "sz", fun z hz => ?_⟩
      refine GO.inT (SqT.of upd_same) rfl rfl (b := false) (by decide +kernel) ?_
      have s1 : Same H (upd H z (.tup [.str "either", .str "other"])) := Same.new hz
      generalize upd H z (.tup [.str "either", .str "other"]) = H1 at s1
      walk_at "g"
      refine hb _ rfl _ _ _ _ ⟨q, x, d, kvs, ps, b, rfl, s1 _ _ hq, hp.same s1, PG.dp_same s1 _ _ di, ⟨b8, h⟩, fun u G s2 du => ?_⟩
      walk_at "g"
      refine ⟨by walk_at "sz", fun p2 hp2 => ?_⟩
      exact fin _ _ ((s1.trans s2).trans (Same.new hp2)) (by rw [GO.un_loop]; exact GO.stm_mk (SqT.of upd_same) (du.same (Same.new hp2)))
    | @undo n b b8 h =>
      have hv : SqT K H a [.str "undo", x] := hx
      clear hx
      walk_at "g"
      refine ⟨by walk_at "sz", fun z hz => ?_⟩
      refine GO.inT (SqT.of upd_same) rfl rfl (b := false) (by decide +kernel) ?_
      have s1 : Same H (upd H z (.tup [.str "either", .str "other"])) := Same.new hz
      generalize upd H z (.tup [.str "either", .str "other"]) = H1 at s1
      walk_at "g"
      refine ⟨by walk_at "sz", fun p2 hp2 => ?_⟩
      walk_at "g"
      refine ⟨by walk_at "sz", fun p3 hp3 => ?_⟩
      have s3 : Same H (upd (upd H1 p2 (.tup [x])) p3 (.tup [.str "either", .ref p2])) := (s1.trans (Same.new hp2)).trans (Same.new hp3)
      have k3 : Dp K (upd (upd H1 p2 (.tup [x])) p3 (.tup [.str "either", .ref p2])) (.ref p2) (.tuple (PG.dBs [b])) := by
        rw [PG.dBs_map]; exact .tup (SqT.of (upd_old upd_same hp3)) (.cons (PG.dp_same s3 _ _ di) .nil)
      exact fin _ _ s3 (by rw [GO.un_undo]; exact GO.stm_mk (SqT.of upd_same) k3)
    | @part n m b e b8 h =>
      obtain rfl := PG.dp_str di
      have hv : SqT K H a [.str "part", .str (S m)] := hx
      clear hx
      obtain ⟨v, ev, bv⟩ := hp.get e
      walk_at "g"
      refine ⟨by walk_at "sz", fun z hz => ?_⟩
      refine GO.inT (SqT.of upd_same) rfl rfl (b := false) (by decide +kernel) ?_
      have s1 : Same H (upd H z (.tup [.str "either", .str "other"])) := Same.new hz
      generalize upd H z (.tup [.str "either", .str "other"]) = H1 at s1
      walk_at "g"
      refine GO.dgetR (.inl (s1 _ _ hq)) ev ?_
      walk_at "g"
      refine ⟨by walk_at "sz", fun p2 hp2 => ?_⟩
      have s3 : Same H (upd H1 p2 (.tup [.str "undo", v])) := s1.trans (Same.new hp2)
      exact fin _ _ s3 (by rw [GO.un_part]; exact GO.stm_mk (SqT.of upd_same) (bv.same s3))

theorem rec_un (T : Txt K mg A) : ∀ n, F_us P w K mg base A n ∧ F_ub P w K mg base A n
  | 0 => by
    have h1 : F_us P w K mg base A 0 := us_of T 0 (fun _ _ _ _ => False) (GO.never _ _ _ _) (fun m e => absurd e (Nat.succ_ne_zero m).symm)
    exact ⟨h1, ub_of T 0 h1⟩
  | n + 1 => by
    obtain ⟨_, b1⟩ := rec_un T n
    have h1 : F_us P w K mg base A (n + 1) := us_of T (n + 1) _ b1 (fun m e vs H Q E h => by cases e; exact h)
    exact ⟨h1, ub_of T (n + 1) h1⟩
theorem ok_undone_block (T : Txt K mg A) : F_ub P w K mg base A 20 := (rec_un T 20).2

def sp_linit (C : Addr) : Sp := fun vs H Q _ => ∃ (x dx q : Addr), vs = [.ref x, .ref q] ∧ H x = some (.ins C dx []) ∧ ∀ ar ot H', But x H H' → H' x = some (.ins C dx [("blocks", .ref q), ("many", .int 2), ("arrows", .ref ar), ("others", .ref ot)]) → H' ar = some (.lst []) → H' ot = some (.lst []) → ar ≠ ot → H ar = none → H ot = none → Q .non H'
theorem ok_Laying_init (T : Txt K mg A) : FnOk P w K mg base (CX P w) 1 A.a_Laying_init A.d_Laying_init ["self", "blocks"] (sp_linit A.c_Laying) := by
  refine T.F_Laying_init.okX sc_Laying_init (fun vs H Q E h => ?_) (fun cdv Ar outer s H vs Q E hr h => ?_)
  · obtain ⟨_, _, _, rfl, _⟩ := h
    rfl
  · obtain ⟨x, dx, q, rfl, hx, fin⟩ := h
    refine ⟨_, (pss_cons (ps_fldK (K := K) rfl (pv 0) (pv 1) rfl)
      (pss_cons (ps_fldK (K := K) rfl (pv 0) pe_int rfl)
      (pss_cons (ps_fldK (K := K) rfl (pv 0) (pe_lst pa_nil) rfl)
      (pss_one (ps_fldK (K := K) rfl (pv 0) (pe_lst pa_nil) rfl))))), ?_⟩
    walk_at "g"
    refine ⟨by walk_at "sz", fun ar ha => ?_⟩
    walk_at "g"
    refine ⟨by walk_at "sz", fun ot hb => ?_⟩
    walk_at "g"
    have nx : x ≠ ar := ne_of_none upd_same ha
    have no : x ≠ ot := ne_of_none upd_same hb
    have na : ar ≠ ot := ne_of_none (upd_oth upd_same nx.symm) hb
    refine fin ar ot _ ?_ upd_same (upd_oth (upd_oth (upd_oth upd_same nx.symm) na) nx.symm) (upd_oth upd_same no.symm) na ?_ ?_
    · exact GO.but_set (GO.but_new (GO.but_set (GO.but_new (GO.but_set (GO.but_set (But.refl _ _))) ha)) hb)
    · exact GO.none_upd (GO.none_upd ha)
    · exact GO.none_upd (GO.none_upd (GO.none_upd (GO.none_upd hb)))
def sp_lplace (C : Addr) (K : PySem.W.Frag) : Sp := fun vs H Q _ => ∃ (y q ar ot : Addr) (ps : List (List Nat × List PG.T)) (st : PG.LS), vs = [.ref y] ∧ GO.Ly C K H y q ar ot ps st ∧ ∀ H', GO.Mv y ar ot H H' → GO.Ly C K H' y q ar ot ps { st with many := st.many + 1 } → Q (.int st.many) H'
theorem ok_Laying_place (T : Txt K mg A) : FnOk P w K mg base (CX P w) 1 A.a_Laying_place A.d_Laying_place ["self"] (sp_lplace A.c_Laying K) := by
  refine T.F_Laying_place.okX sc_Laying_place (fun vs H Q E h => ?_) (fun cdv Ar outer s H vs Q E hr h => ?_)
  · obtain ⟨_, _, _, _, _, _, rfl, _⟩ := h
    rfl
  · obtain ⟨y, q, ar, ot, ps, st, rfl, l, fin⟩ := h
    obtain ⟨dx, ho⟩ := id l.obj
    refine ⟨_, (pss_cons (ps_fldaugK (K := K) rfl (pv 0) pe_int in_add)
      (pss_one (ps_ret (pe_op op_sub (pe_fldK (K := K) rfl (pv 0) rfl) pe_int)))), ?_⟩
    walk_at "g"
    obtain ⟨l2, m2⟩ := l.more (dx := dx) (k := 1) (i := (st.many : Int) + 1) (by omega) (putF "many" (.int ((st.many : Int) + 1)) [("blocks", .ref q), ("many", .int st.many), ("arrows", .ref ar), ("others", .ref ot)]) rfl
    rw [show (st.many : Int) + 1 - 1 = st.many by omega]
    exact fin _ m2 l2
def sp_lstops (C : Addr) (K : PySem.W.Frag) : Sp := fun vs H Q _ => ∃ (y q ar ot : Addr) (ps : List (List Nat × List PG.T)) (st : PG.LS) (p g n : Nat), vs = [.ref y, .int p, .int g, .int n] ∧ 1 ≤ n ∧ n ≤ 1000 ∧ GO.Ly C K H y q ar ot ps st ∧
  ∀ r H', GO.Mv y ar ot H H' → GO.Ly C K H' y q ar ot ps { st with many := st.many + (n - 1) } → r ≠ y → r ≠ ar → r ≠ ot → H' r = some (.lst ((List.range (n + 1)).map fun i => V.int (PG.stop p g st.many n i))) → Q (.ref r) H'
theorem ok_Laying_stops (T : Txt K mg A) : FnOk P w K mg base (CX P w) 2 A.a_Laying_stops A.d_Laying_stops ["self", "start", "goal", "ways"] (sp_lstops A.c_Laying K) := by
  refine T.F_Laying_stops.okX sc_Laying_stops (fun vs H Q E h => ?_) (fun cdv Ar outer s H vs Q E hr h => ?_)
  · obtain ⟨_, _, _, _, _, _, _, _, _, rfl, _⟩ := h
    rfl
  · obtain ⟨y, q, ar, ot, ps, st, p, g, n, rfl, n1, n9, l, fin⟩ := h
    refine ⟨_, (pss_cons (ps_set (i := 4) sc_Laying_stops.nd rfl (Or.inl rfl) (pe_lst (pa_cons (pv 1) pa_nil)))
      (pss_cons (ps_for (passes_of rfl) rfl (pi_range1 (by rfl) T.m_range (pa_cons (pe_op op_sub (pv 3) pe_int) pa_nil)) (pg_name (i := 5) sc_Laying_stops.nd rfl (Or.inl rfl)) (pss_one (ps_expr (pbm (K := K) rfl PySem.F.plainAttrs_list PySem.F.slot_list_append PySem.F.type_list_append mt_append (pv 4) (pa_cons (pe_meth0 (pv 0) T.cl_Laying T.me_Laying_place (ok_Laying_place (K := K) T) hr T.b_Laying_place .nil passF) pa_nil)))))
      (pss_one (ps_ret (pe_op op_cat (pv 4) (pe_lst (pa_cons (pv 2) pa_nil))))))), ?_⟩
    walk_at "g"
    refine ⟨by walk_at "sz", fun s hs => ?_⟩
    walk_at "g"
    refine GO.itR (n - 1) (by omega) (by omega) (by omega) ?_
    obtain ⟨f1, f2, f3⟩ := l.fresh hs
    refine GO.forI (walk_range (lo := 0) (n := n - 1)) (fun i σ' G => ∃ y5, σ' = [some (V.ref y), some (V.int p), some (V.int g), some (V.int n), some (V.ref s), y5] ∧ GO.Mv y ar ot H G ∧ GO.Ly A.c_Laying K G y q ar ot ps { st with many := st.many + i } ∧ G s = some (.lst ((List.range (i + 1)).map fun j => V.int (PG.stop p g st.many n j))))
      ⟨none, rfl, (GO.Mv.refl _ _ _ _).off hs, l.same (Same.new hs), upd_same⟩ (fun _ _ _ _ _ => trivial) ?_ ?_
    · rintro i x σ' G G' hi ⟨y5, rfl, m, l2, e⟩ ⟨rfl, rfl⟩
      obtain ⟨dx, ho⟩ := id l2.obj
      walk_at "g"
      refine ⟨y, q, ar, ot, ps, _, rfl, l2, fun G2 m2 l3 => ?_⟩
      have e2 := m2 _ _ f1 f2 f3 e
      walk_at "g"
      refine GO.app e2 (by rw [List.length_map, List.length_range]; omega) ?_
      refine ⟨_, rfl, (m.trans m2).off hs, l3.at_ e2 f2 f3, ?_⟩
      rw [show i + 1 + 1 = (i + 1) + 1 by rfl, List.range_succ (n := i + 1), List.map_append]
      have e3 : PG.stop p g st.many n (i + 1) = st.many + i := by unfold PG.stop; rw [if_neg (by omega), if_pos (by omega)]; omega
      rw [show ([i + 1] : List Nat).map (fun j => V.int (PG.stop p g st.many n j)) = [V.int ((st.many + i : Nat) : Int)] by rw [← e3]; rfl]
      exact upd_same
    · rintro σ' G ⟨y5, rfl, m, l2, e⟩
      walk_at "g"
      refine ⟨by walk_at "sz", fun r1 h1 => ?_⟩
      refine GO.catL (upd_old e h1) upd_same (by rw [List.length_map, List.length_range, List.length_singleton]; omega) fun r h2 => ?_
      have l3 := l2.same (Same.new (o := .lst [.int g]) h1)
      obtain ⟨z1, z2, z3⟩ := l3.fresh h2
      refine fin r _ ((m.trans (GO.Mv.of (Same.new h1))).trans (GO.Mv.of (Same.new h2))) (l3.same (Same.new h2)) z1 z2 z3 ?_
      have e3 : PG.stop p g st.many n n = g := by unfold PG.stop; rw [if_neg (by omega), if_neg (by omega)]
      rw [show n + 1 = (n - 1 + 1) + 1 by omega, List.range_succ (n := n - 1 + 1), List.map_append]
      rw [show ([n - 1 + 1] : List Nat).map (fun j => V.int (PG.stop p g st.many n j)) = [V.int (g : Int)] by rw [show n - 1 + 1 = n by omega, List.map_singleton, e3]]
      exact upd_same
/-- laid onto what was laid -/
def sp_lrow (C : Addr) (K : PySem.W.Frag) : Sp := fun vs H Q _ => ∃ (y q ar ot : Addr) (ps : List (List Nat × List PG.T)) (st : PG.LS) (r : List Nat) (p g : Nat), vs = [.ref y, .str (S r), .int p, .int g] ∧ r.length ≤ 1000 ∧ st.arr.length + max r.length 1 ≤ 10000 ∧ GO.Ly C K H y q ar ot ps st ∧
  ∀ H', GO.Mv y ar ot H H' → GO.Ly C K H' y q ar ot ps (PG.layR r p g st) → Q .non H'
theorem ok_Laying_lay_row (T : Txt K mg A) : FnOk P w K mg base (CX P w) 3 A.a_Laying_lay_row A.d_Laying_lay_row ["self", "row", "start", "goal"] (sp_lrow A.c_Laying K) := by
  refine T.F_Laying_lay_row.okX sc_Laying_lay_row (fun vs H Q E h => ?_) (fun cdv Ar outer s H vs Q E hr h => ?_)
  · obtain ⟨_, _, _, _, _, _, _, _, _, rfl, _⟩ := h
    rfl
  · obtain ⟨y, q, ar, ot, ps, st, r, p, g, rfl, r9, bd, l, fin⟩ := h
    refine ⟨_, (pss_cons (ps_if (pt_cmpR op_eq (pv 1) pe_str (nomark _)) (pss_cons (ps_expr (pbm (K := K) rfl PySem.F.plainAttrs_list PySem.F.slot_list_append PySem.F.type_list_append mt_append (pe_fldK (K := K) rfl (pv 0) rfl) (pa_cons (pe_tup (pa_cons (pv 2) (pa_cons pe_str (pa_cons (pv 3) pa_nil)))) pa_nil)))
      (pss_one ps_retN)) pss_nil)
      (pss_cons (ps_set (i := 4) sc_Laying_lay_row.nd rfl (Or.inl rfl) (pe_meth (pv 0) T.cl_Laying T.me_Laying_stops (ok_Laying_stops (K := K) T) hr T.b_Laying_stops .nil passF (pa_cons (pv 2) (pa_cons (pv 3) (pa_cons (pe_callB clenS (by rfl) T.m_len bt_len (pa_cons (pv 1) pa_nil)) pa_nil)))))
      (pss_one (ps_for (passes_of rfl) rfl (pi_enumS (by rfl) T.m_enumerate (pa_cons (pv 1) pa_nil)) (pgT (K := K) (n := 2) rfl rfl (pgs_cons (pg_name (i := 5) sc_Laying_lay_row.nd rfl (Or.inl rfl)) (pgs_cons (pg_name (i := 6) sc_Laying_lay_row.nd rfl (Or.inl rfl)) pgs_nil))) (pss_one (ps_expr (pbm (K := K) rfl PySem.F.plainAttrs_list PySem.F.slot_list_append PySem.F.type_list_append mt_append (pe_fldK (K := K) rfl (pv 0) rfl) (pa_cons (pe_tup (pa_cons (pe_ix (ixL (K := K) rfl) (pv 4) (pv 5) (fun _ _ => rfl)) (pa_cons (pv 6) (pa_cons (pe_ix (ixL (K := K) rfl) (pv 4) (pe_op op_add (pv 5) pe_int) (fun _ _ => rfl)) pa_nil)))) pa_nil)))))))), ?_⟩
    walk_at "g"
    obtain ⟨dx, ho⟩ := id l.obj
    obtain ⟨as, ha, da⟩ := id l.arr
    have al : as.length ≤ 1000000 := by
      have := PG.dpAll_len da
      rw [List.length_map] at this; omega
    by_cases e : r = []
    · subst e
      refine GO.yesD (show (S [] : Str) = Str.ofString "" by decide +kernel) ?_
      walk_at "g"
      refine ⟨by walk_at "sz", fun u hu => ?_⟩
      refine GO.app (upd_old ha hu) al ?_
      walk_at "g"
      obtain ⟨l2, m2⟩ := l.push (r := []) (a := p) (b := g) ha hu
      exact fin _ m2 (by unfold PG.layR; rw [if_pos rfl]; exact l2)
    · refine GO.noD (fun z => e (by
        have := congrArg (fun s : Str => s.length) z
        rw [S_len] at this
        exact List.length_eq_zero_iff.mp this)) ?_
      have r1 : 1 ≤ r.length := List.length_pos_iff.mpr e
      walk_at "g"
      refine ⟨y, q, ar, ot, ps, st, p, g, r.length, rfl, r1, r9, l, fun s G0 m0 l0 f1 f2 f3 es => ?_⟩
      walk_at "g"
      have arz : st.arr.length + r.length ≤ 10000 := by omega
      generalize hst : ({ st with many := st.many + (r.length - 1) } : PG.LS) = st0 at l0
      have ae : st0.arr = st.arr := by rw [← hst]
      refine GO.forI GO.walk_enS (fun i σ' G => ∃ y5 y6 sti, σ' = [some (V.ref y), some (V.str (S r)), some (V.int p), some (V.int g), some (V.ref s), y5, y6] ∧ GO.Mv y ar ot H G ∧ GO.Ly A.c_Laying K G y q ar ot ps sti ∧ sti.arr.length = st.arr.length + i ∧
        G s = some (.lst ((List.range (r.length + 1)).map fun j => V.int (PG.stop p g st.many r.length j))) ∧ PG.rowR (PG.stop p g st.many r.length) (r.drop i) i sti = PG.layR r p g st)
        ⟨none, none, st0, rfl, m0, l0, by rw [ae]; rfl, es, by unfold PG.layR; rw [if_neg e, hst]; rfl⟩ (fun _ _ _ _ _ => trivial) ?_ ?_
      · rintro i x σ' G G' hi ⟨y5, y6, sti, rfl, m, l2, le, es2, fe⟩ ⟨T, c, rfl, hT, rfl, hc⟩
        have l3 := l2.same (Same.new (o := .tup [.int (i : Nat), .str (S [c])]) hT)
        have m3 := m.trans (GO.Mv.of (Same.new (o := .tup [.int (i : Nat), .str (S [c])]) hT))
        have es3 := Same.new (o := .tup [.int (i : Nat), .str (S [c])]) hT _ _ es2
        have eT : upd G T (.tup [.int (i : Nat), .str (S [c])]) T = some (.tup [.int (i : Nat), .str (S [c])]) := upd_same
        generalize upd G T (.tup [.int (i : Nat), .str (S [c])]) = G1 at l3 m3 es3 eT
        obtain ⟨dx, ho⟩ := id l3.obj
        obtain ⟨as, ha, da⟩ := id l3.arr
        walk_at "g"
        refine GO.ixl (SqL.of es3) (GO.at_rng (i := i) (by omega) rfl) ?_
        walk_at "g"
        refine GO.ixl (SqL.of es3) (GO.at_rng (i := i + 1) (by omega) (by omega)) ?_
        walk_at "g"
        refine ⟨by walk_at "sz", fun u hu => ?_⟩
        walk_at "g"
        have al2 : as.length ≤ 1000000 := by
          have := PG.dpAll_len da
          rw [List.length_map] at this; omega
        refine GO.app (upd_old ha hu) al2 ?_
        obtain ⟨l4, m4⟩ := l3.push (r := [c]) (a := PG.stop p g st.many r.length i) (b := PG.stop p g st.many r.length (i + 1)) ha hu
        have ns : s ≠ y ∧ s ≠ ar ∧ s ≠ ot := ⟨f1, f2, f3⟩
        refine ⟨_, _, _, rfl, m3.trans m4, l4, ?_, m4 _ _ f1 f2 f3 es3, ?_⟩
        · show (sti.arr ++ [_]).length = _
          rw [List.length_append, le]; rfl
        · rw [← fe, List.drop_eq_getElem_cons hi]
          have ec : r[i] = c := by rw [List.getElem?_eq_getElem hi] at hc; exact Option.some.inj hc
          rw [ec]; rfl
      · rintro σ' G ⟨y5, y6, sti, rfl, m, l2, le, es2, fe⟩
        rw [List.drop_length] at fe
        walk_at "g"
        exact fin G m (by rw [← fe]; exact l2)

def sp_lblk (C : Addr) (K : PySem.W.Frag) (n : Nat) : Sp := fun vs H Q _ => ∃ (y q ar ot : Addr) (ps : List (List Nat × List PG.T)) (st : PG.LS) (v : V) (d : List Nat) (b : List PG.T) (p g : Nat), vs = [.ref y, v, .int p, .int g] ∧ PG.Blk K H v b ∧ PG.RB_ d (PG.look ps) n b ∧
  st.many + (PG.szB b).1 ≤ 10000 ∧ st.arr.length + (PG.szB b).2 ≤ 10000 ∧ GO.Ly C K H y q ar ot ps st ∧ ∀ H', GO.Mv y ar ot H H' → GO.Ly C K H' y q ar ot ps (PG.blk (PG.lay n) b p g st) → Q .non H'
def sp_lay (C : Addr) (K : PySem.W.Frag) (n : Nat) : Sp := fun vs H Q _ => ∃ (y q ar ot : Addr) (ps : List (List Nat × List PG.T)) (st : PG.LS) (v : V) (d : List Nat) (t : PG.T) (p g : Nat), vs = [.ref y, v, .int p, .int g] ∧ PG.Stm K H v t ∧ PG.R d (PG.look ps) n t ∧
  st.many + (PG.szS t).1 ≤ 10000 ∧ st.arr.length + (PG.szS t).2 ≤ 10000 ∧ GO.Ly C K H y q ar ot ps st ∧ ∀ H', GO.Mv y ar ot H H' → GO.Ly C K H' y q ar ot ps (PG.lay n t p g st) → Q .non H'
abbrev F_ly (P : Program) (w : World) (K : PySem.W.Frag) (mg : Str → Option Value) (base : Heap) (A : Ad) (n : Nat) : Prop := FnOk P w K mg base (CX P w) (3 * n + 50) A.a_Laying_lay A.d_Laying_lay ["self", "statement", "start", "goal"] (sp_lay A.c_Laying K n)
abbrev F_lb (P : Program) (w : World) (K : PySem.W.Frag) (mg : Str → Option Value) (base : Heap) (A : Ad) (n : Nat) : Prop := FnOk P w K mg base (CX P w) (3 * n + 51) A.a_Laying_lay_block A.d_Laying_lay_block ["self", "block", "start", "goal"] (sp_lblk A.c_Laying K n)
theorem lb_of (T : Txt K mg A) (n : Nat) (ih_Laying_lay : F_ly P w K mg base A n) : F_lb P w K mg base A n := by
  refine T.F_Laying_lay_block.okX sc_Laying_lay_block (fun vs H Q E h => ?_) (fun cdv Ar outer s H vs Q E hr h => ?_)
  · obtain ⟨_, _, _, _, _, _, _, _, _, _, _, rfl, _⟩ := h
    rfl
  · obtain ⟨y, q, ar, ot, ps, st, v, d, b, p, g, rfl, hb, rb, bd1, bd2, l, fin⟩ := h
    obtain ⟨a, xs, rfl, hx, xl, da⟩ := hb.open_
    refine ⟨_, (pss_cons (ps_if (pt_not (ptru (K := K) rfl (pv 1) (by intro _; rfl))) (pss_cons (ps_expr (pbm (K := K) rfl PySem.F.plainAttrs_list PySem.F.slot_list_append PySem.F.type_list_append mt_append (pe_fldK (K := K) rfl (pv 0) rfl) (pa_cons (pe_tup (pa_cons (pv 2) (pa_cons pe_str (pa_cons (pv 3) pa_nil)))) pa_nil)))
      (pss_one ps_retN)) pss_nil)
      (pss_cons (ps_set (i := 4) sc_Laying_lay_block.nd rfl (Or.inl rfl) (pe_meth (pv 0) T.cl_Laying T.me_Laying_stops (ok_Laying_stops (K := K) T) (hr.mono (by omega)) T.b_Laying_stops .nil passF (pa_cons (pv 2) (pa_cons (pv 3) (pa_cons (pe_callB (clen (K := K) rfl) (by rfl) T.m_len bt_len (pa_cons (pv 1) pa_nil)) pa_nil)))))
      (pss_one (ps_for (passes_of rfl) rfl (pi_enumT (K := K) rfl (by rfl) T.m_enumerate (pa_cons (pv 1) pa_nil)) (pgT (K := K) (n := 2) rfl rfl (pgs_cons (pg_name (i := 5) sc_Laying_lay_block.nd rfl (Or.inl rfl)) (pgs_cons (pg_name (i := 6) sc_Laying_lay_block.nd rfl (Or.inl rfl)) pgs_nil))) (pss_one (ps_expr (pe_meth (pv 0) T.cl_Laying T.me_Laying_lay ih_Laying_lay (hr.mono (by omega)) T.b_Laying_lay .nil passF (pa_cons (pv 6) (pa_cons (pe_ix (ixL (K := K) rfl) (pv 4) (pv 5) (fun _ _ => rfl)) (pa_cons (pe_ix (ixL (K := K) rfl) (pv 4) (pe_op op_add (pv 5) pe_int) (fun _ _ => rfl)) pa_nil)))))))))), ?_⟩
    have b8 := rb.1
    obtain ⟨dx, ho⟩ := id l.obj
    obtain ⟨as, ha, dar⟩ := id l.arr
    walk_at "g"
    have al : as.length ≤ 1000000 := by
      have := PG.dpAll_len dar
      rw [List.length_map] at this; omega
    cases b with
    | nil =>
      obtain rfl : xs = [] := List.length_eq_zero_iff.mp xl
      refine GO.yesNF ?_
      walk_at "g"
      refine ⟨by walk_at "sz", fun u hu => ?_⟩
      refine GO.app (upd_old ha hu) al ?_
      walk_at "g"
      obtain ⟨l2, m2⟩ := l.push (r := []) (a := p) (b := g) ha hu
      exact fin _ m2 (by unfold PG.blk; rw [if_pos rfl]; exact l2)
    | cons t0 r0 =>
      generalize eb : t0 :: r0 = b at *
      have bn : b ≠ [] := by rw [← eb]; exact fun z => nomatch z
      clear eb t0 r0
      have b1 : 1 ≤ b.length := List.length_pos_iff.mpr bn
      have xe : xs.isEmpty = false := by
        cases xs with
        | nil => rw [List.length_nil] at xl; omega
        | cons _ _ => rfl
      have sz1 : (PG.szB b).1 = (PG.szL b).1 + (b.length - 1) := rfl
      have sz2 : (PG.szB b).2 = (PG.szL b).2 := by simp only [PG.szB, if_neg bn]
      rw [show (!!xs.isEmpty) = false by rw [xe]; rfl]
      walk_at "g"
      refine ⟨y, q, ar, ot, ps, st, p, g, b.length, by rw [xl]; rfl, b1, by omega, l, fun s G0 m0 l0 f1 f2 f3 es => ?_⟩
      have hx0 := l.sqT m0 hx
      walk_at "g"
      have da0 : DpAll K G0 xs (PG.dL b) := PG.dpAll_mono (fun _ _ => l.sqT m0) _ _ (PG.noL_L b) da
      generalize hst : ({ st with many := st.many + (b.length - 1) } : PG.LS) = st0 at l0
      have ae : st0.arr = st.arr := by rw [← hst]
      have me : st0.many = st.many + (b.length - 1) := by rw [← hst]
      have ls : st0.many + (PG.szL b).1 ≤ 10000 := by omega
      have la : st0.arr.length + (PG.szL b).2 ≤ 10000 := by rw [ae]; omega
      refine GO.forI (walk_enumT (ys := xs)) (fun i σ' G => ∃ y5 y6 sti, σ' = [some (V.ref y), some (V.ref a), some (V.int p), some (V.int g), some (V.ref s), y5, y6] ∧ GO.Mv y ar ot G0 G ∧ GO.Ly A.c_Laying K G y q ar ot ps sti ∧ sti.many + (PG.szL (b.drop i)).1 ≤ 10000 ∧ sti.arr.length + (PG.szL (b.drop i)).2 ≤ 10000 ∧
        PG.run (PG.lay n) (PG.stop p g st.many b.length) (b.drop i) i sti = PG.blk (PG.lay n) b p g st)
        ⟨none, none, st0, rfl, GO.Mv.refl _ _ _ _, l0, by simpa using ls, by simpa using la, by unfold PG.blk; rw [if_neg bn, hst]; rfl⟩ (fun i σ' G _ h => by obtain ⟨_, _, _, _, m, _⟩ := h; exact l0.sqT m hx0) ?_ ?_
      · rintro i x σ' G G' hi ⟨y5, y6, sti, rfl, m, l2, lm, lr, fe⟩ ⟨T, vi, vx, rfl, hT, rfl, e1, e2⟩
        obtain rfl : V.int (i : Nat) = vi := Option.some.inj e1
        obtain ⟨t, ht, stt⟩ := PG.dL_at da0 e2
        have l3 := l2.same (Same.new (o := .tup [.int (i : Nat), vx]) hT)
        have m3 := m.trans (GO.Mv.of (Same.new (o := .tup [.int (i : Nat), vx]) hT))
        have es3 := m3 _ _ f1 f2 f3 es
        have eT : upd G T (.tup [.int (i : Nat), vx]) T = some (.tup [.int (i : Nat), vx]) := upd_same
        generalize upd G T (.tup [.int (i : Nat), vx]) = G1 at l3 m3 es3 eT
        have st1 := l0.stm m3 stt
        obtain ⟨dx, ho⟩ := id l3.obj
        rw [xl] at hi
        walk_at "g"
        refine GO.ixl (SqL.of es3) (GO.at_rng (i := i) (by omega) rfl) ?_
        walk_at "g"
        refine GO.ixl (SqL.of es3) (GO.at_rng (i := i + 1) (by omega) (by omega)) ?_
        walk_at "g"
        have dr : b.drop i = t :: b.drop (i + 1) := by
          rw [List.drop_eq_getElem_cons hi]
          have ec : b[i] = t := by rw [List.getElem?_eq_getElem hi] at ht; exact Option.some.inj ht
          rw [ec]
        rw [dr] at lm lr fe
        have s1 : (PG.szL (t :: b.drop (i + 1))).1 = (PG.szS t).1 + (PG.szL (b.drop (i + 1))).1 := by simp only [PG.szL]
        have s2 : (PG.szL (t :: b.drop (i + 1))).2 = (PG.szS t).2 + (PG.szL (b.drop (i + 1))).2 := by simp only [PG.szL]
        obtain ⟨u1, u2⟩ := PG.lay_ub (n := n) (t := t) (p := PG.stop p g st.many b.length i) (q := PG.stop p g st.many b.length (i + 1)) (st := sti)
        refine ⟨y, q, ar, ot, ps, sti, vx, d, t, _, _, rfl, st1, rb.2 t (List.mem_of_getElem? ht), by omega, by omega, l3, fun G2 m4 l4 => ?_⟩
        walk_at "g"
        exact ⟨_, _, _, rfl, m3.trans m4, l4, by omega, by omega, by rw [← fe]; rfl⟩
      · rintro σ' G ⟨y5, y6, sti, rfl, m, l2, lm, lr, fe⟩
        rw [xl, List.drop_length] at fe
        walk_at "g"
        exact fin G (m0.trans m) (by rw [← fe]; exact l2)

def sp_loth (C : Addr) (K : PySem.W.Frag) (n : Nat) : Sp := fun vs H Q _ => ∃ (y q ar ot : Addr) (ps : List (List Nat × List PG.T)) (st : PG.LS) (v : V) (d : List Nat) (bs : List (List PG.T)) (p g : Nat), vs = [.ref y, v, .int p, .int g] ∧ Dp K H v (.tuple (PG.dBs bs)) ∧ (∀ b ∈ bs, PG.RB_ d (PG.look ps) n b) ∧
  st.many + (PG.szS (.alt true bs)).1 ≤ 10000 ∧ st.arr.length + (PG.szS (.alt true bs)).2 ≤ 10000 ∧ GO.Ly C K H y q ar ot ps st ∧ ∀ H', GO.Mv y ar ot H H' → GO.Ly C K H' y q ar ot ps (PG.lay (n + 1) (.alt true bs) p g st) → Q .non H'
def sp_llp (C : Addr) (K : PySem.W.Frag) (n : Nat) : Sp := fun vs H Q _ => ∃ (y q ar ot : Addr) (ps : List (List Nat × List PG.T)) (st : PG.LS) (v : V) (d : List Nat) (b : List PG.T) (p g : Nat), vs = [.ref y, v, .int p, .int g] ∧ PG.Blk K H v b ∧ PG.RB_ d (PG.look ps) n b ∧
  st.many + (PG.szS (.loop b)).1 ≤ 10000 ∧ st.arr.length + (PG.szS (.loop b)).2 ≤ 10000 ∧ GO.Ly C K H y q ar ot ps st ∧ ∀ H', GO.Mv y ar ot H H' → GO.Ly C K H' y q ar ot ps (PG.lay (n + 1) (.loop b) p g st) → Q .non H'
abbrev F_lo (P : Program) (w : World) (K : PySem.W.Frag) (mg : Str → Option Value) (base : Heap) (A : Ad) (n : Nat) : Prop := FnOk P w K mg base (CX P w) (3 * n + 52) A.a_Laying_lay_other A.d_Laying_lay_other ["self", "blocks", "start", "goal"] (sp_loth A.c_Laying K n)
abbrev F_ll (P : Program) (w : World) (K : PySem.W.Frag) (mg : Str → Option Value) (base : Heap) (A : Ad) (n : Nat) : Prop := FnOk P w K mg base (CX P w) (3 * n + 52) A.a_Laying_lay_loop A.d_Laying_lay_loop ["self", "block", "start", "goal"] (sp_llp A.c_Laying K n)
theorem lo_of (T : Txt K mg A) (n : Nat) (ih_Laying_lay_block : F_lb P w K mg base A n) : F_lo P w K mg base A n := by
  refine T.F_Laying_lay_other.okX sc_Laying_lay_other (fun vs H Q E h => ?_) (fun cdv Ar outer s H vs Q E hr h => ?_)
  · obtain ⟨_, _, _, _, _, _, _, _, _, _, _, rfl, _⟩ := h
    rfl
  · obtain ⟨y, q, ar, ot, ps, st, v, d, bs, p, g, rfl, hv, rb, bd1, bd2, l, fin⟩ := h
    obtain ⟨a, xs, rfl, hx, da⟩ := PG.dp_tup hv
    have xl : xs.length = bs.length := by rw [PG.dpAll_len da, PG.dBs_map, List.length_map]
    refine ⟨_, (pss_cons (ps_set (i := 4) sc_Laying_lay_other.nd rfl (Or.inl rfl) (pe_meth0 (pv 0) T.cl_Laying T.me_Laying_place (ok_Laying_place (K := K) T) (hr.mono (by omega)) T.b_Laying_place .nil passF))
      (pss_cons (ps_expr (pbm (K := K) rfl PySem.F.plainAttrs_list PySem.F.slot_list_append PySem.F.type_list_append mt_append (pe_fldK (K := K) rfl (pv 0) rfl) (pa_cons (pv 4) pa_nil)))
      (pss_cons (ps_expr (pbm (K := K) rfl PySem.F.plainAttrs_list PySem.F.slot_list_append PySem.F.type_list_append mt_append (pe_fldK (K := K) rfl (pv 0) rfl) (pa_cons (pe_tup (pa_cons (pv 2) (pa_cons pe_str (pa_cons (pv 4) pa_nil)))) pa_nil)))
      (pss_one (ps_for (passes_of rfl) rfl (piT (K := K) rfl (pv 1)) (pg_name (i := 5) sc_Laying_lay_other.nd rfl (Or.inl rfl)) (pss_cons (ps_set (i := 6) sc_Laying_lay_other.nd rfl (Or.inl rfl) (pe_meth0 (pv 0) T.cl_Laying T.me_Laying_place (ok_Laying_place (K := K) T) (hr.mono (by omega)) T.b_Laying_place .nil passF))
      (pss_cons (ps_expr (pbm (K := K) rfl PySem.F.plainAttrs_list PySem.F.slot_list_append PySem.F.type_list_append mt_append (pe_fldK (K := K) rfl (pv 0) rfl) (pa_cons (pe_tup (pa_cons (pv 4) (pa_cons pe_str (pa_cons (pv 6) pa_nil)))) pa_nil)))
      (pss_one (ps_expr (pe_meth (pv 0) T.cl_Laying T.me_Laying_lay_block ih_Laying_lay_block (hr.mono (by omega)) T.b_Laying_lay_block .nil passF (pa_cons (pv 5) (pa_cons (pv 6) (pa_cons (pv 3) pa_nil))))))))))))), ?_⟩
    obtain ⟨dx, ho⟩ := id l.obj
    walk_at "g"
    refine ⟨y, q, ar, ot, ps, st, rfl, l, fun G1 m1 l1 => ?_⟩
    obtain ⟨dx, ho⟩ := id l1.obj
    have hot := l1.oth
    walk_at "g"
    have ob := l.ob
    refine GO.app hot (by rw [List.length_map]; show st.oth.length ≤ _; omega) ?_
    obtain ⟨l2, m2⟩ := l1.other (n := st.many) (show st.oth.length + 1 ≤ st.many + 1 by omega) hot
    generalize upd G1 ot (.lst (_ ++ [.int st.many])) = G2 at l2 m2
    obtain ⟨dx, ho⟩ := id l2.obj
    obtain ⟨as, ha, dar⟩ := id l2.arr
    walk_at "g"
    refine ⟨by walk_at "sz", fun u hu => ?_⟩
    walk_at "g"
    have e1 : (PG.szS (.alt true bs)).1 = (PG.szBs bs).1 + (1 + bs.length) := by simp only [PG.szS, if_true]
    have e2 : (PG.szS (.alt true bs)).2 = (PG.szBs bs).2 + (1 + bs.length) := by simp only [PG.szS, if_true]
    refine l2.pushed [] ha (show st.arr.length ≤ 10000 by omega) hu fun G3 m3 l3 => ?_
    have m13 := (m1.trans m2).trans m3
    have hx3 := l.sqT m13 hx
    have da3 := l.bls m13 da
    have pl : (({ st with many := st.many + 1, oth := st.oth ++ [st.many] } : PG.LS).push p [] st.many).arr.length = st.arr.length + 1 := by show (st.arr ++ [_]).length = _; rw [List.length_append]; rfl
    have pm : (({ st with many := st.many + 1, oth := st.oth ++ [st.many] } : PG.LS).push p [] st.many).many = st.many + 1 := rfl
    have pe : PG.oths (PG.blk (PG.lay n)) st.many g bs (({ st with many := st.many + 1, oth := st.oth ++ [st.many] } : PG.LS).push p [] st.many) = PG.lay (n + 1) (.alt true bs) p g st := by simp only [PG.lay]
    replace l3 : GO.Ly A.c_Laying K G3 y q ar ot ps (({ st with many := st.many + 1, oth := st.oth ++ [st.many] } : PG.LS).push p [] st.many) := l3
    generalize (({ st with many := st.many + 1, oth := st.oth ++ [st.many] } : PG.LS).push p [] st.many) = st0 at l3 pl pm pe
    walk_at "g"
    refine GO.forI (walk_tup (xs := xs)) (fun i σ' G => ∃ y5 y6 sti, σ' = [some (V.ref y), some (V.ref a), some (V.int p), some (V.int g), some (V.int st.many), y5, y6] ∧ GO.Mv y ar ot G3 G ∧ GO.Ly A.c_Laying K G y q ar ot ps sti ∧ sti.many + ((PG.szBs (bs.drop i)).1 + (bs.length - i)) ≤ 10000 ∧ sti.arr.length + ((PG.szBs (bs.drop i)).2 + (bs.length - i)) ≤ 10000 ∧
      PG.oths (PG.blk (PG.lay n)) st.many g (bs.drop i) sti = PG.lay (n + 1) (.alt true bs) p g st)
      ⟨none, none, st0, rfl, GO.Mv.refl _ _ _ _, l3, by rw [pm, List.drop_zero]; omega, by rw [pl, List.drop_zero]; omega, pe⟩ (fun i σ' G _ h => by obtain ⟨_, _, _, _, m, _⟩ := h; exact l3.sqT m hx3) ?_ ?_
    · rintro i x σ' G G' hi ⟨y5, y6, sti, rfl, m, l4, lm, lr, fe⟩ ⟨rfl, e2'⟩
      obtain ⟨b, hb', bz⟩ := PG.dBs_at da3 e2'
      obtain ⟨dx, ho⟩ := id l4.obj
      rw [xl] at hi
      walk_at "g"
      refine ⟨y, q, ar, ot, ps, sti, rfl, l4, fun G5 m5 l5 => ?_⟩
      obtain ⟨dx, ho⟩ := id l5.obj
      obtain ⟨as, ha, dar⟩ := id l5.arr
      walk_at "g"
      refine ⟨by walk_at "sz", fun u hu => ?_⟩
      walk_at "g"
      have dr : bs.drop i = b :: bs.drop (i + 1) := by
        rw [List.drop_eq_getElem_cons hi]
        have ec : bs[i] = b := by rw [List.getElem?_eq_getElem hi] at hb'; exact Option.some.inj hb'
        rw [ec]
      rw [dr] at lm lr fe
      have s1 : (PG.szBs (b :: bs.drop (i + 1))).1 = (PG.szB b).1 + (PG.szBs (bs.drop (i + 1))).1 := by simp only [PG.szBs, PG.szB]
      have s2 : (PG.szBs (b :: bs.drop (i + 1))).2 = (PG.szB b).2 + (PG.szBs (bs.drop (i + 1))).2 := by simp only [PG.szBs, PG.szB]
      refine l5.pushed [] ha (show sti.arr.length ≤ 10000 by omega) hu fun G6 m6 l6 => ?_
      have ql : (({ sti with many := sti.many + 1 } : PG.LS).push st.many [] sti.many).arr.length = sti.arr.length + 1 := by show (sti.arr ++ [_]).length = _; rw [List.length_append]; rfl
      have qm : (({ sti with many := sti.many + 1 } : PG.LS).push st.many [] sti.many).many = sti.many + 1 := rfl
      replace l6 : GO.Ly A.c_Laying K G6 y q ar ot ps (({ sti with many := sti.many + 1 } : PG.LS).push st.many [] sti.many) := l6
      obtain ⟨u1, u2⟩ := PG.blk_ub (f := PG.lay n) (b := b) (p := sti.many) (q := g) (st := (({ sti with many := sti.many + 1 } : PG.LS).push st.many [] sti.many)) fun s _ p q st => PG.lay_ub
      obtain ⟨dx, ho⟩ := id l6.obj
      walk_at "g"
      have mm := (m.trans m5).trans m6
      refine ⟨y, q, ar, ot, ps, _, x, d, b, sti.many, g, rfl, l3.blk mm bz, rb b (List.mem_of_getElem? hb'), by rw [qm]; omega, by rw [ql]; omega, l6, fun G7 m7 l7 => ?_⟩
      walk_at "g"
      rw [qm] at u1
      rw [ql] at u2
      exact ⟨_, _, _, rfl, mm.trans m7, l7, by omega, by omega, by rw [← fe]; rfl⟩
    · rintro σ' G ⟨y5, y6, sti, rfl, m, l4, lm, lr, fe⟩
      rw [xl, List.drop_length] at fe
      walk_at "g"
      exact fin G (m13.trans m) (by rw [← fe]; exact l4)
theorem ll_of (T : Txt K mg A) (n : Nat) (ih_Laying_lay_block : F_lb P w K mg base A n) : F_ll P w K mg base A n := by
  refine T.F_Laying_lay_loop.okX sc_Laying_lay_loop (fun vs H Q E h => ?_) (fun cdv Ar outer s H vs Q E hr h => ?_)
  · obtain ⟨_, _, _, _, _, _, _, _, _, _, _, rfl, _⟩ := h
    rfl
  · obtain ⟨y, q, ar, ot, ps, st, v, d, b, p, g, rfl, hb, rb, bd1, bd2, l, fin⟩ := h
    refine ⟨_, (pss_cons (ps_set (i := 4) sc_Laying_lay_loop.nd rfl (Or.inl rfl) (pe_meth0 (pv 0) T.cl_Laying T.me_Laying_place (ok_Laying_place (K := K) T) (hr.mono (by omega)) T.b_Laying_place .nil passF))
      (pss_cons (ps_expr (pbm (K := K) rfl PySem.F.plainAttrs_list PySem.F.slot_list_append PySem.F.type_list_append mt_append (pe_fldK (K := K) rfl (pv 0) rfl) (pa_cons (pe_tup (pa_cons (pv 2) (pa_cons pe_str (pa_cons (pv 4) pa_nil)))) pa_nil)))
      (pss_cons (ps_expr (pe_meth (pv 0) T.cl_Laying T.me_Laying_lay_block ih_Laying_lay_block (hr.mono (by omega)) T.b_Laying_lay_block .nil passF (pa_cons (pv 1) (pa_cons (pv 4) (pa_cons (pv 4) pa_nil)))))
      (pss_one (ps_expr (pbm (K := K) rfl PySem.F.plainAttrs_list PySem.F.slot_list_append PySem.F.type_list_append mt_append (pe_fldK (K := K) rfl (pv 0) rfl) (pa_cons (pe_tup (pa_cons (pv 4) (pa_cons pe_str (pa_cons (pv 3) pa_nil)))) pa_nil))))))), ?_⟩
    obtain ⟨dx, ho⟩ := id l.obj
    walk_at "g"
    refine ⟨y, q, ar, ot, ps, st, rfl, l, fun G1 m1 l1 => ?_⟩
    obtain ⟨dx, ho⟩ := id l1.obj
    obtain ⟨as, ha, dar⟩ := id l1.arr
    walk_at "g"
    refine ⟨by walk_at "sz", fun u hu => ?_⟩
    walk_at "g"
    have e1 : (PG.szS (.loop b)).1 = (PG.szB b).1 + 1 := by simp only [PG.szS, PG.szB]
    have e2 : (PG.szS (.loop b)).2 = (PG.szB b).2 + 2 := by simp only [PG.szS, PG.szB]
    refine l1.pushed [] ha (show st.arr.length ≤ 10000 by omega) hu fun G2 m2 l2 => ?_
    obtain ⟨dx, ho⟩ := id l2.obj
    walk_at "g"
    have pl : (({ st with many := st.many + 1 } : PG.LS).push p [] st.many).arr.length = st.arr.length + 1 := by show (st.arr ++ [_]).length = _; rw [List.length_append]; rfl
    refine ⟨y, q, ar, ot, ps, _, v, d, b, st.many, st.many, rfl, l1.blk m2 (l.blk m1 hb), rb, ?_, ?_, l2, fun G3 m3 l3 => ?_⟩
    · show st.many + 1 + _ ≤ 10000
      omega
    · rw [pl]; omega
    obtain ⟨dx, ho⟩ := id l3.obj
    obtain ⟨as, ha, dar⟩ := id l3.arr
    walk_at "g"
    refine ⟨by walk_at "sz", fun u hu => ?_⟩
    walk_at "g"
    have ub := (PG.blk_ub (f := PG.lay n) (b := b) (p := st.many) (q := st.many) (st := (({ st with many := st.many + 1 } : PG.LS).push p [] st.many)) fun s _ p q st => PG.lay_ub).2
    rw [pl] at ub
    refine l3.pushed [] ha (by omega) hu fun G4 m4 l4 => ?_
    walk_at "g"
    exact fin _ (((m1.trans m2).trans m3).trans m4) (by simp only [PG.lay]; exact l4)

theorem ly_of (T : Txt K mg A) (n : Nat) (spb spo spl : Sp) (ih_Laying_lay_block : FnOk P w K mg base (CX P w) (3 * n + 48) A.a_Laying_lay_block A.d_Laying_lay_block ["self", "block", "start", "goal"] spb)
    (ih_Laying_lay_other : FnOk P w K mg base (CX P w) (3 * n + 49) A.a_Laying_lay_other A.d_Laying_lay_other ["self", "blocks", "start", "goal"] spo) (ih_Laying_lay_loop : FnOk P w K mg base (CX P w) (3 * n + 49) A.a_Laying_lay_loop A.d_Laying_lay_loop ["self", "block", "start", "goal"] spl)
    (hb : ∀ m, n = m + 1 → ∀ vs H Q E, sp_lblk A.c_Laying K m vs H Q E → spb vs H Q E) (ho_ : ∀ m, n = m + 1 → ∀ vs H Q E, sp_loth A.c_Laying K m vs H Q E → spo vs H Q E) (hl : ∀ m, n = m + 1 → ∀ vs H Q E, sp_llp A.c_Laying K m vs H Q E → spl vs H Q E) (h20 : n ≤ 20) : F_ly P w K mg base A n := by
  refine T.F_Laying_lay.okX sc_Laying_lay (fun vs H Q E h => ?_) (fun cdv Ar outer s H vs Q E hr h => ?_)
  · obtain ⟨_, _, _, _, _, _, _, _, _, _, _, rfl, _⟩ := h
    rfl
  · obtain ⟨y, q, ar, ot, ps, st, v, d, t, p, g, rfl, sv, rt, bd1, bd2, l, fin⟩ := h
    obtain ⟨a, x, rfl, hx, di⟩ := sv.open_
    refine ⟨_, (pss_cons (ps_asg (pv 1) (pgT (K := K) (n := 2) rfl rfl (pgs_cons (pg_name (i := 4) sc_Laying_lay.nd rfl (Or.inl rfl)) (pgs_cons (pg_name (i := 5) sc_Laying_lay.nd rfl (Or.inl rfl)) pgs_nil))))
      (pss_one (ps_if (pt_cmpR op_eq (pv 4) pe_str (nomark _)) (pss_one (ps_expr (pe_meth (pv 0) T.cl_Laying T.me_Laying_lay_row (ok_Laying_lay_row (K := K) T) (hr.mono (by omega)) T.b_Laying_lay_row .nil passF (pa_cons (pv 5) (pa_cons (pv 2) (pa_cons (pv 3) pa_nil)))))) (pss_one (ps_if (pt_cmpR op_eq (pv 4) pe_str (nomark _)) (pss_one (ps_for (passes_of rfl) rfl (piT (K := K) rfl (pv 5)) (pg_name (i := 6) sc_Laying_lay.nd rfl (Or.inl rfl)) (pss_one (ps_expr (pe_meth (pv 0) T.cl_Laying T.me_Laying_lay_block ih_Laying_lay_block (hr.mono (by omega)) T.b_Laying_lay_block .nil passF (pa_cons (pv 6) (pa_cons (pv 2) (pa_cons (pv 3) pa_nil)))))))) (pss_one (ps_if (pt_cmpR op_eq (pv 4) pe_str (nomark _)) (pss_one (ps_expr (pe_meth (pv 0) T.cl_Laying T.me_Laying_lay_other ih_Laying_lay_other (hr.mono (by omega)) T.b_Laying_lay_other .nil passF (pa_cons (pv 5) (pa_cons (pv 2) (pa_cons (pv 3) pa_nil)))))) (pss_one (ps_if (pt_cmpR op_eq (pv 4) pe_str (nomark _)) (pss_one (ps_expr (pe_meth (pv 0) T.cl_Laying T.me_Laying_lay_loop ih_Laying_lay_loop (hr.mono (by omega)) T.b_Laying_lay_loop .nil passF (pa_cons (pv 5) (pa_cons (pv 2) (pa_cons (pv 3) pa_nil)))))) (pss_one (ps_if (pt_cmpR op_eq (pv 4) pe_str (nomark _)) (pss_one (ps_expr (pe_meth (pv 0) T.cl_Laying T.me_Laying_lay_block ih_Laying_lay_block (hr.mono (by omega)) T.b_Laying_lay_block .nil passF (pa_cons (pe_dget (hu_of hr) (pe_fldK (K := K) rfl (pv 0) rfl) (pv 5) (fun _ _ => rfl)) (pa_cons (pv 2) (pa_cons (pv 3) pa_nil)))))) (pss_one (ps_expr (pe_meth (pv 0) T.cl_Laying T.me_Laying_lay_block ih_Laying_lay_block (hr.mono (by omega)) T.b_Laying_lay_block .nil passF (pa_cons (pe_call (ok_undone_block (K := K) T) (hr.mono (by omega)) (by rfl) T.g_undone_block T.F_undone_block.kp T.b_undone_block .nil passF (pa_cons (pe_fldK (K := K) rfl (pv 0) rfl) (pa_cons (pv 5) pa_nil))) (pa_cons (pv 2) (pa_cons (pv 3) pa_nil))))))))))))))))), ?_⟩
    obtain ⟨dx, ho⟩ := id l.obj
    cases rt with
    | @dot n r L o z =>
      obtain rfl := PG.dp_str di
      have hw : SqT K H a [.str "do", .str (S r)] := hx
      walk_at "g"
      have e2 : (PG.szS (.dot r)).2 = max r.length 1 := by simp only [PG.szS]
      exact ⟨y, q, ar, ot, ps, st, r, p, g, rfl, by omega, by omega, l, fun H' m l' => fin H' m (by simp only [PG.lay]; exact l')⟩
    | @alt n o bs b1 b4 b8 h =>
      cases o
      · have hv : SqT K H a [.str "either", x] := hx
        clear hx
        obtain ⟨ya, ys, rfl, hy, db⟩ := PG.dp_tup di
        have yl : ys.length = bs.length := by rw [PG.dpAll_len db, PG.dBs_map, List.length_map]
        walk_at "g"
        have e1 : (PG.szS (.alt false bs)).1 = (PG.szBs bs).1 := by simp [PG.szS]
        have e2 : (PG.szS (.alt false bs)).2 = (PG.szBs bs).2 := by simp [PG.szS]
        refine GO.forI (walk_tup (xs := ys)) (fun i σ' G => ∃ y6 sti, σ' = [some (V.ref y), some (V.ref a), some (V.int p), some (V.int g), some (V.str "either"), some (V.ref ya), y6] ∧ GO.Mv y ar ot H G ∧ GO.Ly A.c_Laying K G y q ar ot ps sti ∧ sti.many + (PG.szBs (bs.drop i)).1 ≤ 10000 ∧ sti.arr.length + (PG.szBs (bs.drop i)).2 ≤ 10000 ∧
          PG.eits (PG.blk (PG.lay n)) p g (bs.drop i) sti = PG.lay (n + 1) (.alt false bs) p g st)
          ⟨none, st, rfl, GO.Mv.refl _ _ _ _, l, by rw [List.drop_zero]; omega, by rw [List.drop_zero]; omega, by simp only [PG.lay, List.drop_zero]⟩ (fun i σ' G _ h => by obtain ⟨_, _, _, m, _⟩ := h; exact l.sqT m hy) ?_ ?_
        · rintro i x σ' G G' hi ⟨y6, sti, rfl, m, l4, lm, lr, fe⟩ ⟨rfl, e2'⟩
          obtain ⟨b, hb', bz⟩ := PG.dBs_at db e2'
          obtain ⟨dx, ho⟩ := id l4.obj
          rw [yl] at hi
          have bm := List.mem_of_getElem? hb'
          have dr : bs.drop i = b :: bs.drop (i + 1) := by
            rw [List.drop_eq_getElem_cons hi]
            have ec : bs[i] = b := by rw [List.getElem?_eq_getElem hi] at hb'; exact Option.some.inj hb'
            rw [ec]
          rw [dr] at lm lr fe
          have s1 : (PG.szBs (b :: bs.drop (i + 1))).1 = (PG.szB b).1 + (PG.szBs (bs.drop (i + 1))).1 := by simp only [PG.szBs, PG.szB]
          have s2 : (PG.szBs (b :: bs.drop (i + 1))).2 = (PG.szB b).2 + (PG.szBs (bs.drop (i + 1))).2 := by simp only [PG.szBs, PG.szB]
          obtain ⟨u1, u2⟩ := PG.blk_ub (f := PG.lay n) (b := b) (p := p) (q := g) (st := sti) fun s _ p q st => PG.lay_ub
          walk_at "g"
          refine hb _ rfl _ _ _ _ ⟨y, q, ar, ot, ps, sti, x, d, b, p, g, rfl, l.blk m bz, ⟨b8 b bm, h b bm⟩, by omega, by omega, l4, fun G2 m2 l2 => ?_⟩
          walk_at "g"
          exact ⟨_, _, rfl, m.trans m2, l2, by omega, by omega, by rw [← fe]; rfl⟩
        · rintro σ' G ⟨y6, sti, rfl, m, l4, lm, lr, fe⟩
          rw [yl, List.drop_length] at fe
          walk_at "g"
          exact fin G m (by rw [← fe]; exact l4)
      · have hv : SqT K H a [.str "other", x] := hx
        clear hx
        walk_at "g"
        exact ho_ _ rfl _ _ _ _ ⟨y, q, ar, ot, ps, st, x, d, bs, p, g, rfl, di, fun b hb => ⟨b8 b hb, h b hb⟩, bd1, bd2, l, fin⟩
    | @loop n b b8 h =>
      have hv : SqT K H a [.str "loop", x] := hx
      clear hx
      walk_at "g"
      exact hl _ rfl _ _ _ _ ⟨y, q, ar, ot, ps, st, x, d, b, p, g, rfl, di, ⟨b8, h⟩, bd1, bd2, l, fin⟩
    | @undo n b b8 h =>
      have hv : SqT K H a [.str "undo", x] := hx
      clear hx
      obtain ⟨kvs, hq, hp⟩ := id l.parts
      walk_at "g"
      refine ⟨q, x, d, kvs, ps, b, rfl, hq, hp, di, PG.RB_.le ⟨b8, h⟩ (by omega : n ≤ 20), fun u H1 s1 du => ?_⟩
      have e1 : (PG.szS (.undo b)).1 = (PG.szB b).1 := by simp only [PG.szS, PG.szB]
      have e2 : (PG.szS (.undo b)).2 = (PG.szB b).2 := by simp only [PG.szS, PG.szB]
      walk_at "g"
      exact hb _ rfl _ _ _ _ ⟨y, q, ar, ot, ps, st, u, d, PG.unL b, p, g, rfl, du, PG.RB_.un ⟨b8, h⟩, by rw [PG.szB_un]; omega, by rw [PG.szB_un]; omega, l.same s1, fun H' m l' => fin H' ((GO.Mv.of s1).trans m) (by simp only [PG.lay]; exact l')⟩
    | @part n m b e b8 h =>
      obtain rfl := PG.dp_str di
      have hv : SqT K H a [.str "part", .str (S m)] := hx
      clear hx
      obtain ⟨kvs, hq, hp⟩ := id l.parts
      obtain ⟨v, ev, bv⟩ := hp.get e
      walk_at "g"
      refine GO.dgetR (.inl hq) ev ?_
      have e1 : (PG.szS (.part m b)).1 = (PG.szB b).1 := by simp only [PG.szS, PG.szB]
      have e2 : (PG.szS (.part m b)).2 = (PG.szB b).2 := by simp only [PG.szS, PG.szB]
      walk_at "g"
      exact hb _ rfl _ _ _ _ ⟨y, q, ar, ot, ps, st, v, d, b, p, g, rfl, bv, ⟨b8, h⟩, by omega, by omega, l, fun H' m l' => fin H' m (by simp only [PG.lay]; exact l')⟩
theorem rec_ly (T : Txt K mg A) : ∀ n, n ≤ 20 → F_ly P w K mg base A n ∧ F_lb P w K mg base A n
  | 0, h => by
    have h1 : F_ly P w K mg base A 0 := ly_of T 0 (fun _ _ _ _ => False) (fun _ _ _ _ => False) (fun _ _ _ _ => False) (GO.never _ _ _ _) (GO.never _ _ _ _) (GO.never _ _ _ _) (fun m e => absurd e (Nat.succ_ne_zero m).symm) (fun m e => absurd e (Nat.succ_ne_zero m).symm) (fun m e => absurd e (Nat.succ_ne_zero m).symm) h
    exact ⟨h1, lb_of T 0 h1⟩
  | n + 1, h => by
    obtain ⟨_, b1⟩ := rec_ly T n (by omega)
    have h1 : F_ly P w K mg base A (n + 1) := ly_of T (n + 1) _ _ _ b1 (lo_of T n b1) (ll_of T n b1) (fun m e vs H Q E h => by cases e; exact h) (fun m e vs H Q E h => by cases e; exact h) (fun m e vs H Q E h => by cases e; exact h) h
    exact ⟨h1, lb_of T (n + 1) h1⟩
theorem ok_Laying_lay_block (T : Txt K mg A) : F_lb P w K mg base A 20 := (rec_ly T 20 (Nat.le_refl _)).2

def sp_laid (C CL : Addr) (K : PySem.W.Frag) : Sp := fun vs H Q _ => ∃ (p : Addr) (d : List Nat) (ps : List (List Nat × List PG.T)) (b : List PG.T), vs = [.ref p] ∧ ProgAt C K H p d ps b ∧ PG.RB_ d (PG.look ps) 20 b ∧ (PG.szB b).1 ≤ 58 ∧ (PG.szB b).2 ≤ 200 ∧
  ∀ y q ar ot H', Same H H' → GO.Ly CL K H' y q ar ot ps (PG.flowOf 20 b) → Q (.ref y) H'
theorem ok_laid (T : Txt K mg A) : FnOk P w K mg base (CX P w) 112 A.a_laid A.d_laid ["program"] (sp_laid A.c_Program A.c_Laying K) := by
  refine T.F_laid.okX sc_laid (fun vs H Q E h => ?_) (fun cdv Ar outer s H vs Q E hr h => ?_)
  · obtain ⟨_, _, _, _, rfl, _⟩ := h
    rfl
  · obtain ⟨p, d, ps, b, rfl, pa, rb, z1, z2, fin⟩ := h
    refine ⟨_, (pss_cons (ps_set (i := 1) sc_laid.nd rfl (Or.inl rfl) (pe_make T.M_Laying (ok_Laying_init (K := K) T) (hr.mono (by decide)) (by rfl) T.gC_Laying T.b_Laying_init .nil passF (pa_cons (pe_prop (pv 0) T.cl_Program T.pr_Program_parts (ok_Program_parts (K := K) T) (hr.mono (by decide)) T.b_Program_parts .nil passF rfl) pa_nil)))
      (pss_cons (ps_expr (pe_meth (pv 1) T.cl_Laying T.me_Laying_lay_block (ok_Laying_lay_block (K := K) T) hr T.b_Laying_lay_block .nil passF (pa_cons (pe_fldK (K := K) rfl (pv 0) rfl) (pa_cons pe_int (pa_cons pe_int pa_nil)))))
      (pss_one (ps_ret (pv 1))))), ?_⟩
    obtain ⟨dx, q, kvs, v, h1, h2, h3, h4⟩ := id pa
    walk_at "g"
    refine ⟨p, d, ps, b, rfl, pa, fun q2 kvs2 H1 s1 hq2 hp2 => ?_⟩
    walk_at "g"
    intro x dx2 hx hdx nx
    refine ⟨x, dx2, q2, rfl, upd_same, fun ar ot H2 bt hx2 har hot ne n1 n2 => ⟨rfl, ?_⟩⟩
    have s2 : Same H1 H2 := fun b o e => bt b o (ne_of_none e hx) (upd_oth (upd_oth e (ne_of_none e hdx)) (ne_of_none e hx))
    have s12 := s1.trans s2
    have l : GO.Ly A.c_Laying K H2 x q2 ar ot ps ⟨2, [], []⟩ := ⟨⟨dx2, hx2⟩, ⟨[], har, .nil⟩, hot, ⟨kvs2, s2 _ _ hq2, hp2.same s2⟩, ne, Nat.zero_le _⟩
    walk_at "g"
    refine ⟨x, q2, ar, ot, ps, ⟨2, [], []⟩, v, d, b, 0, 1, rfl, h4.same s12, rb, show 2 + _ ≤ _ by omega, show 0 + _ ≤ _ by omega, l, fun H3 m l3 => ?_⟩
    walk_at "g"
    have none_of : ∀ a, H1 a = none → H a = none := fun a e => by
      cases e2 : H a with
      | none => rfl
      | some o => rw [s1 _ _ e2] at e; cases e
    exact fin x q2 ar ot H3 (m.same s12 (none_of _ hx) (none_of _ (GO.none_upd (GO.none_upd n1))) (none_of _ (GO.none_upd (GO.none_upd n2)))) l3
def sp_flow (C : Addr) (K : PySem.W.Frag) : Sp := fun vs H Q _ => ∃ (p : Addr) (d : List Nat) (ps : List (List Nat × List PG.T)) (b : List PG.T), vs = [.ref p] ∧ ProgAt C K H p d ps b ∧ PG.RB_ d (PG.look ps) 20 b ∧ (PG.szB b).1 ≤ 58 ∧ (PG.szB b).2 ≤ 200 ∧
  ∀ u H', Same H H' → Dp K H' u (GO.flD (PG.flowOf 20 b)) → Q u H'
theorem ok_flow (T : Txt K mg A) : FnOk P w K mg base (CX P w) 113 A.a_flow A.d_flow ["program"] (sp_flow A.c_Program K) := by
  refine T.F_flow.okX sc_flow (fun vs H Q E h => ?_) (fun cdv Ar outer s H vs Q E hr h => ?_)
  · obtain ⟨_, _, _, _, rfl, _⟩ := h
    rfl
  · obtain ⟨p, d, ps, b, rfl, pa, rb, z1, z2, fin⟩ := h
    refine ⟨_, (pss_cons (ps_set (i := 1) sc_flow.nd rfl (Or.inl rfl) (pe_call (ok_laid (K := K) T) hr (by rfl) T.g_laid T.F_laid.kp T.b_laid .nil passF (pa_cons (pv 0) pa_nil)))
      (pss_one (ps_ret (pe_tup (pa_cons (pe_fldK (K := K) rfl (pv 1) rfl) (pa_cons (pe_fldK (K := K) rfl (pv 1) rfl) pa_nil)))))), ?_⟩
    walk_at "g"
    refine ⟨p, d, ps, b, rfl, pa, rb, z1, z2, fun y q ar ot H1 s1 l => ?_⟩
    obtain ⟨dx, ho⟩ := id l.obj
    obtain ⟨as, ha, dar⟩ := id l.arr
    walk_at "g"
    refine ⟨by walk_at "sz", fun u hu => ?_⟩
    have s2 : Same H1 (upd H1 u (.tup [.int (PG.flowOf 20 b).many, .ref ar])) := Same.new hu
    exact fin (.ref u) _ (s1.trans s2) (.tup (SqT.of upd_same) (.cons (.int _) (.cons (.lst (SqL.of (s2 _ _ ha)) (PG.dpAll_same s2 _ _ dar)) .nil)))

theorem ok_hand (T : Txt K mg A) : FnOk P w K mg base (CX P w) 1 A.a_hand A.d_hand ["_law_script"] (sp_hand K) := by
  refine T.F_hand.okX sc_hand (fun vs H Q E h => ?_) (fun cdv Ar outer s H vs Q E hr h => ?_)
  · obtain ⟨_, _, rfl, _⟩ := h
    rfl
  · obtain ⟨a, ns, rfl, hS, hz, q⟩ := h
    refine ⟨_, (pss_cons (ps_setLc (i := 1) (own := [("_law_cell", 2)]) (tt := tYes) rfl sc_hand.nd rfl rfl (sw_true rfl rfl rfl (by decide +kernel)) (piL (K := K) rfl (pe_slice (slL (K := K) rfl) (pv 0) po_none (po_some pe_int))) (blkOk_by (N := ["_law_script", "_law_cells", "_law_cell"]) (sc := defScope s_hand) (by decide +kernel)) (fun _ _ _ _ _ => (pg_name (i := 2) sc_hand.nd rfl (Or.inl rfl))) (fun _ _ _ _ _ => pts_nil) (fun _ _ _ _ _ => (pe_callB call_abs (by rfl) T.m_abs bt_abs (pa_cons (pe_callTy call_int1 (by rfl) T.m_int bt_int (pa_cons (pv 2) pa_nil)) pa_nil))))
      (pss_one (ps_ret (pe_lst (pa_cons (pv 1) (pa_cons pe_int (pa_cons pe_int (pa_cons (pe_op op_add pe_int (pe_callB (clen (K := K) rfl) (by rfl) T.m_len bt_len (pa_cons (pv 1) pa_nil))) (pa_cons pe_int pa_nil))))))))), ?_⟩
    walk_at "v"; walk_at "v"
    refine ⟨a, _, rfl, hS, fun p hp => ?_⟩
    have e63 : cutV (ns.map V.int) none (some 63) = ns.map V.int := by
      have := cutV_to (ns.map V.int) 63
      rw [List.take_of_length_le (by rw [List.length_map]; exact hz)] at this
      exact this
    rw [e63]
    refine ⟨p, rfl, ⟨_, SqL.of upd_same⟩, fun D hD => ?_⟩
    have npD : p ≠ D := ne_of_none upd_same hD
    refine lc_list (xs := ns.map V.int) (Pv := fun i H' => Same H H' ∧ H' p = some (.lst (ns.map V.int)) ∧ H' D = some (.lst ((ns.take i).map fun z => V.int (if z < 0 then -z else z)))) ⟨(Same.new hp).trans (Same.new hD), upd_oth upd_same npD, upd_same⟩ (fun i H' _ z => SqL.of z.2.1) ?_ ?_
    · rintro i x H1 hx ⟨s1, h1, h2⟩
      obtain ⟨z, hz', rfl⟩ : ∃ z, ns[i]? = some z ∧ x = .int z := by
        rw [List.getElem?_map] at hx
        cases e : ns[i]? with
        | none => rw [e] at hx; cases hx
        | some z => rw [e] at hx; exact ⟨z, rfl, (Option.some.inj hx).symm⟩
      refine ⟨rfl, ?_⟩
      walk_at "v"; walk_at "int"; walk_at "v"
      have nD : H D = none := Same.free (Same.new hp) hD
      refine ⟨_, h2, ?_, Same.mut nD s1, upd_oth h1 npD, ?_⟩
      · rw [List.length_map, List.length_take]; exact Nat.lt_of_le_of_lt (by omega : _ ≤ 63) (by decide)
      · rw [upd_same, take_one hz', List.map_append]; rfl
    · rintro H1 ⟨s1, h1, h2⟩
      rw [List.length_map, List.take_length] at h2
      have e3 : (ns.map fun z => V.int (if z < 0 then -z else z)) = (ns.map fun z => if z < 0 then -z else z).map V.int := by rw [List.map_map]; rfl
      rw [e3] at h2
      walk_at "v"; walk_at "v"; walk_at "len"; walk_at "ii"
      refine ⟨by walk_at "sz", fun h hh => ?_⟩
      refine q h D _ ?_ (s1.trans (Same.new hh)) ⟨_, 0, 0, _, 0, upd_same, upd_old h2 hh, by decide, by omega, ?_, by decide, ne_of_none h2 hh⟩
      · exact Same.free s1 hh
      · intro z hz2
        obtain ⟨y, _, e⟩ := List.mem_map.mp hz2
        rw [← e]; split <;> omega

theorem ok_draw (T : Txt K mg A) : FnOk P w K mg base (CX P w) 1 A.a_draw A.d_draw ["_law_hand_here", "_law_many"] (sp_draw) := by
  refine T.F_draw.okX sc_draw (fun vs H Q E h => ?_) (fun cdv Ar outer s H vs Q E hr h => ?_)
  · obtain ⟨_, _, _, rfl, _⟩ := h
    rfl
  · obtain ⟨h, c, n, rfl, ⟨cells, i, held, st, k, hh, hc, i0, i1, cp, h0, hch⟩, n0, n1, q⟩ := h
    refine ⟨_, (C8.pss_cut (ps_if (pt_mid (PW.pt (pw_and (pt_cmpR op_eq (pe_ix (ixL (K := K) rfl) (pv 0) pe_int (fun _ _ => rfl)) pe_int (nomark _)) (pw_and1 (pt_cmpR op_lt (pe_ix (ixL (K := K) rfl) (pv 0) pe_int (fun _ _ => rfl)) (pe_callB (clen (K := K) rfl) (by rfl) T.m_len bt_len (pa_cons (pe_ix (ixL (K := K) rfl) (pv 0) pe_int (fun _ _ => rfl)) pa_nil)) (nomark _)))))) (pss_cons (ps_set (i := 2) sc_draw.nd rfl (Or.inl rfl) (pe_ix (ixL (K := K) rfl) (pe_ix (ixL (K := K) rfl) (pv 0) pe_int (fun _ _ => rfl)) (pe_ix (ixL (K := K) rfl) (pv 0) pe_int (fun _ _ => rfl)) (fun _ _ => rfl)))
      (pss_cons (ps_asg (pe_op op_add (pe_ix (ixL (K := K) rfl) (pv 0) pe_int (fun _ _ => rfl)) pe_int) (pg_sub (pv 0) pe_int set_list))
      (pss_cons (ps_asg (pe_op op_mod (pe_callTy call_int1 (by rfl) T.m_int bt_int (pa_cons (pe_op op_add (pe_op op_add (pe_op op_mul (pe_ix (ixL (K := K) rfl) (pv 0) pe_int (fun _ _ => rfl)) pe_int) (pv 2)) pe_int) pa_nil)) pe_int) (pg_sub (pv 0) pe_int set_list))
      (pss_one (ps_if (pt_cmpR op_ge (pv 2) (pe_op op_pow pe_int pe_int) (nomark _)) (pss_one (ps_asg (pv 2) (pg_sub (pv 0) pe_int set_list))) pss_nil))))) pss_nil)
      (pss_cons (ps_if (pt_cmpR op_gt (pe_ix (ixL (K := K) rfl) (pv 0) pe_int (fun _ _ => rfl)) pe_int (nomark _)) (pss_cons (ps_set (i := 3) sc_draw.nd rfl (Or.inl rfl) (pe_op op_mod (pe_callTy call_int1 (by rfl) T.m_int bt_int (pa_cons (pe_ix (ixL (K := K) rfl) (pv 0) pe_int (fun _ _ => rfl)) pa_nil)) (pv 1)))
      (pss_cons (ps_asg (pe_op op_fdivW (pe_ix (ixL (K := K) rfl) (pv 0) pe_int (fun _ _ => rfl)) (pv 1)) (pg_sub (pv 0) pe_int set_list))
      (pss_one (ps_ret (pv 3))))) pss_nil)
      (pss_cons (ps_asg (pe_op op_add (pe_ix (ixL (K := K) rfl) (pv 0) pe_int (fun _ _ => rfl)) pe_int) (pg_sub (pv 0) pe_int set_list))
      (pss_cons (ps_set (i := 4) sc_draw.nd rfl (Or.inl rfl) (pe_op op_mod (pe_callTy call_int1 (by rfl) T.m_int bt_int (pa_cons (pe_op op_mul (pe_callTy call_int1 (by rfl) T.m_int bt_int (pa_cons (pe_op op_add (pe_ix (ixL (K := K) rfl) (pv 0) pe_int (fun _ _ => rfl)) (pe_op op_mul pe_int (pe_ix (ixL (K := K) rfl) (pv 0) pe_int (fun _ _ => rfl)))) pa_nil)) pe_int) pa_nil)) pe_int))
      (pss_cons (ps_set (i := 4) sc_draw.nd rfl (Or.inl rfl) (pe_op op_mod (pe_callTy call_int1 (by rfl) T.m_int bt_int (pa_cons (pe_op op_mul (pv 4) (pe_op op_add (pe_op op_fdivW (pv 4) pe_int) pe_int)) pa_nil)) pe_int))
      (pss_cons (ps_set (i := 4) sc_draw.nd rfl (Or.inl rfl) (pe_op op_mod (pe_callTy call_int1 (by rfl) T.m_int bt_int (pa_cons (pe_op op_mul (pv 4) (pe_op op_add (pe_op op_fdivW (pv 4) pe_int) pe_int)) pa_nil)) pe_int))
      (pss_one (ps_ret (pe_op op_mod (pe_callTy call_int1 (by rfl) T.m_int bt_int (pa_cons (pe_op op_fdivW (pv 4) pe_int) pa_nil)) (pv 1)))))))))), ?_⟩
    -- if nothing is held, and there is a cell more
    refine ⟨fun σ' H' => ∃ (y2 : Option V) (i' held' st' : Int), σ' = [some (.ref h), some (.int n), y2, none, none] ∧ But h H H' ∧ H' h = some (.lst [.ref c, .int i', .int held', .int st', .int k]) ∧ 0 ≤ i' ∧ i' ≤ cells.length ∧ 0 ≤ held', ?_, ?_⟩
    · refine ⟨fun b H' => H' = H ∧ (b = true → i < cells.length), ?_, ?_⟩
      · walk_at "v"; walk_at "ix"
        refine ⟨rfl, ?_⟩; walk_at "v"
        refine iteB (fun e => ?_) (fun _ => ⟨rfl, fun z => by cases z⟩)
        walk_at "go"
        refine ⟨rfl, fun z => ?_⟩
        have lt2 := of_decide_eq_true z
        rw [List.length_map] at lt2
        exact lt2
      · rintro b H' ⟨rfl, hb⟩
        refine iteB (fun e => ?_) (fun e => ⟨_, _, _, _, rfl, But.refl _ _, hh, i0, i1, h0⟩)
        have hi := hb e
        obtain ⟨j, rfl⟩ : ∃ j : Nat, i = j := ⟨i.toNat, by omega⟩
        have hj : j < cells.length := by omega
        have hx : (cells.map V.int)[j]? = some (.int cells[j]) := by rw [List.getElem?_map, List.getElem?_eq_getElem hj]; rfl
        have hp : 0 ≤ cells[j] := cp _ (List.getElem_mem hj)
        walk_at "v"; walk_at "ix"; walk_at "v"; walk_at "ix"
        refine ⟨_, _, _, _, rfl, rfl, (by walk_at "sq"), atI_int rfl hx, ?_⟩
        walk_at "go"
        refine iteB (fun g => ?_) (fun g => ?_)
        · walk_at "go"
          refine ⟨_, _, _, _, rfl, ?_, upd_same, by omega, by omega, hp⟩
          intro b o hb he
          rw [upd_ne hb, upd_ne hb, upd_ne hb]; exact he
        · refine ⟨_, _, _, _, rfl, ?_, upd_same, by omega, by omega, h0⟩
          intro b o hb he
          rw [upd_ne hb, upd_ne hb]; exact he
    · rintro σ' H1 ⟨y2, i', held', st', rfl, b1, hh1, i2, i3, h1⟩
      have hc1 : H1 c = some (.lst (cells.map V.int)) := b1 _ _ hch hc
      walk_at "v"; walk_at "ix"; walk_at "ii"; walk_at "v"
      refine iteB (fun e => ?_) (fun e => ?_)
      · have hp := of_decide_eq_true e
        walk_at "go"
        refine q _ _ (mod_in n0).1 (mod_in n0).2 ⟨?_, cells, i', _, _, _, upd_same, upd_oth hc1 hch, i2, i3, cp, div_in n0 (by omega), hch⟩
        exact b1.trans But.set
      · walk_at "go"
        refine q _ _ (mod_in n0).1 (mod_in n0).2 ⟨?_, cells, i', _, _, _, upd_same, upd_oth hc1 hch, i2, i3, cp, h1, hch⟩
        exact b1.trans But.set

/-- the undoing of a letter -/
def sp_undoing : Sp := fun vs H Q _ => ∃ c, vs = [.str (S [c])] ∧ IsL c ∧ Q (.str (S [sw c])) H
theorem ok_undoing (T : Txt K mg A) : FnOk P w K mg base (CX P w) 1 A.a_undoing A.d_undoing ["_law_letter"] (sp_undoing) := by
  refine T.F_undoing.okX sc_undoing (fun vs H Q E h => ?_) (fun cdv Ar outer s H vs Q E hr h => ?_)
  · obtain ⟨_, rfl, _⟩ := h
    rfl
  · obtain ⟨c, rfl, hc, q⟩ := h
    have ha : c < 128 := (Ls.one hc).asc c List.mem_cons_self
    refine ⟨_, (pss_cons (ps_if (pt_val (pbm0 (K := K) rfl PySem.F.plainAttrs_str PySem.F.slot_str_islower PySem.F.type_str_islower mt_islower (pv 0))) (pss_one (ps_ret (pbm0 (K := K) rfl PySem.F.plainAttrs_str PySem.F.slot_str_upper PySem.F.type_str_upper mt_upper (pv 0)))) pss_nil)
      (pss_one (ps_ret (pbm0 (K := K) rfl PySem.F.plainAttrs_str PySem.F.slot_str_lower PySem.F.type_str_lower mt_lower (pv 0))))), ?_⟩
    walk_at "v"; walk_at "m0"; walk_at "v"
    have hz : (S [c]).length ≤ 5592405 := by rw [S_len]; exact (by decide : 1 ≤ 5592405)
    rw [islo_one ha]
    refine iteB (fun e => ?_) (fun e => ?_)
    · walk_at "v"
      refine ⟨rfl, _, rfl, rfl, hz, ?_⟩
      rw [up_asc (Ls.one hc).asc, List.map_cons, sw_up (of_decide_eq_true e)]
      exact q
    · walk_at "v"
      refine ⟨rfl, _, rfl, rfl, hz, ?_⟩
      rw [lo_asc (Ls.one hc).asc, List.map_cons, sw_lo hc (of_decide_eq_false e)]
      exact q

/-- the undoings, from the last to the first -/
def sp_back : Sp := fun vs H Q _ => ∃ l, vs = [.str (S l)] ∧ Ls l ∧ l.length ≤ 100000 ∧ ∀ H', Same H H' → Q (.str (S (inv l))) H'
theorem ok_back (T : Txt K mg A) : FnOk P w K mg base (CX P w) 2 A.a_back A.d_back ["_law_row_here"] (sp_back) := by
  refine T.F_back.okX sc_back (fun vs H Q E h => ?_) (fun cdv Ar outer s H vs Q E hr h => ?_)
  · obtain ⟨_, rfl, _⟩ := h
    rfl
  · obtain ⟨l, rfl, hl, hz, q⟩ := h
    refine ⟨_, (pss_one (ps_ret (pbm (K := K) rfl PySem.F.plainAttrs_str PySem.F.slot_str_join PySem.F.type_str_join (mjoin (K := K) rfl) pe_str (pa_cons (pe_lc (own := [("_law_letter", 1)]) (tt := tYes) rfl sc_back.nd (pi_str (pe_revS (pv 0))) (blkOk_by (N := ["_law_row_here", "_law_letter"]) (sc := defScope s_back) (by decide +kernel)) (fun _ _ _ _ _ => (pg_name (i := 1) sc_back.nd rfl (Or.inl rfl))) (fun _ _ _ _ _ => pts_nil) (fun _ _ _ _ _ => (pe_call (ok_undoing (K := K) T) hr (by rfl) T.g_undoing T.F_undoing.kp T.b_undoing .nil passF (pa_cons (pv 1) pa_nil)))) pa_nil)))), ?_⟩
    refine ⟨rfl, ?_⟩
    walk_at "v"
    refine ⟨_, rfl, ?_, _, rfl, fun D hD => ?_⟩
    · rw [S_len]; exact Nat.le_trans hz (by decide)
    rw [S_rev]
    refine ⟨fun i m H' => m = l.length - i ∧ i ≤ l.length ∧ Same H H' ∧ H' D = some (.lst (ones ((l.reverse.take i).map sw))), ⟨_, rfl, Nat.zero_le _, Same.new hD, upd_same⟩, ?_⟩
    rintro i m H1 ⟨rfl, hi, s1, h1⟩
    by_cases hlt : i < l.length
    · refine .inr ⟨?_, fun H' => Same H H' ∧ H' D = some (.lst (ones ((l.reverse.take (i + 1)).map sw))), fun H' z => ⟨_, by omega, rfl, hlt, z⟩, ?_⟩
      · show i < (S l.reverse).cps.size
        have : (S l.reverse).cps.size = l.reverse.length := S_len _
        rw [this, List.length_reverse]; exact hlt
      rintro x H' ⟨rfl, c, hc, rfl⟩
      have hc' : l.reverse[i]? = some c := by simpa [S] using hc
      have hcl : IsL c := hl.rev c (List.mem_of_getElem? hc')
      refine ⟨rfl, ?_⟩
      walk_at "v"
      refine ⟨c, rfl, hcl, _, h1, ?_, ?_⟩
      · rw [ones_len, List.length_map, List.length_take]; exact Nat.lt_of_le_of_lt (by omega : _ ≤ 100000) (by decide)
      · refine ⟨fun b o hb => ?_, ?_⟩
        · rw [upd_ne (ne_of_none hb hD)]; exact s1 b o hb
        · rw [upd_same, take_one hc', List.map_append]; unfold ones; rw [List.map_append]; rfl
    · have ei : i = l.length := by omega
      subst ei
      have e2 : l.reverse.take l.length = l.reverse := List.take_of_length_le (by rw [List.length_reverse]; exact Nat.le_refl _)
      rw [e2, ones_eq, List.map_reverse] at h1
      refine .inl ⟨?_, ?_⟩
      · show (S l.reverse).cps.size ≤ _
        have : (S l.reverse).cps.size = l.reverse.length := S_len _
        rw [this, List.length_reverse]; exact Nat.le_refl _
      · refine ⟨_, _, _, rfl, rfl, .inl (SqL.of h1), ?_, ?_⟩
        · rw [nil_len, Nat.mul_zero, Nat.add_zero, sum_one, List.length_reverse, List.length_map]; omega
        · rw [S_nil, RB.join_nil, flat_one]
          exact q _ s1

theorem ok_deeds (T : Txt K mg A) : FnOk P w K mg base (CX P w) 2 A.a_deeds A.d_deeds ["_law_hand_here", "_law_most"] (sp_deeds) := by
  refine T.F_deeds.okX sc_deeds (fun vs H Q E h => ?_) (fun cdv Ar outer s H vs Q E hr h => ?_)
  · obtain ⟨_, _, _, rfl, _⟩ := h
    rfl
  · obtain ⟨h, c, n, rfl, hH, n1, n2, q⟩ := h
    refine ⟨_, (pss_cons (ps_set (i := 2) sc_deeds.nd rfl (Or.inl rfl) (pe_op op_add pe_int (pe_call (ok_draw (K := K) T) hr (by rfl) T.g_draw T.F_draw.kp T.b_draw .nil passF (pa_cons (pv 0) (pa_cons (pv 1) pa_nil)))))
      (pss_cons (ps_set (i := 3) sc_deeds.nd rfl (Or.inl rfl) pe_str)
      (pss_cons (ps_set (i := 4) sc_deeds.nd rfl (Or.inl rfl) pe_str)
      (pss_cons (ps_for (passes_of rfl) rfl (pi_range1 (by rfl) T.m_range (pa_cons (pv 2) pa_nil)) (pg_name (i := 5) sc_deeds.nd rfl (Or.inl rfl)) (pss_cons (ps_set (i := 6) sc_deeds.nd rfl (Or.inl rfl) (pe_call (ok_draw (K := K) T) hr (by rfl) T.g_draw T.F_draw.kp T.b_draw .nil passF (pa_cons (pv 0) (pa_cons (pe_op op_sub (pe_callB clenS (by rfl) T.m_len bt_len (pa_cons (pv 4) pa_nil)) (pe_op op_sub (pe_op op_sub (pv 2) (pv 5)) pe_int)) pa_nil))))
      (pss_cons (ps_set (i := 3) sc_deeds.nd rfl (Or.inl rfl) (pe_op op_add_str (pv 3) (pe_ix ix_str (pv 4) (pv 6) (fun _ _ => rfl))))
      (pss_one (ps_set (i := 4) sc_deeds.nd rfl (Or.inl rfl) (pe_slice sl_str (pv 4) (po_some (pe_op op_add (pv 6) pe_int)) po_none))))))
      (pss_one (ps_ret (pv 3))))))), ?_⟩
    walk_at "v"; walk_at "v"
    refine ⟨h, c, n, rfl, hH, by omega, by omega, fun m0 H1 m00 m01 g1 => ?_⟩
    walk_at "ii"
    obtain ⟨m, rfl⟩ : ∃ m : Nat, m0 = m := ⟨m0.toNat, by omega⟩
    walk_at "v"
    refine ⟨_, rfl, by omega, by omega, ?_⟩
    rw [show ((1 : Int) + (m : Nat)).toNat = m + 1 by omega]
    refine for_range (n := m + 1) (fun i σ' H' => ∃ f k y5 y6, σ' = [some (.ref h), some (.int n), some (.int (1 + (m : Nat))), some (.str (S f)), some (.str (S (alph.drop k))), y5, y6] ∧ f.length = i ∧ k ≤ 26 ∧ m + 1 - i ≤ 26 - k ∧ i ≤ m + 1 ∧
      (∀ x ∈ f, 97 ≤ x ∧ x < 97 + k) ∧ List.Pairwise (· < ·) f ∧ Go h c H H') ⟨[], 0, none, none, by rw [List.drop_zero, ← alph_is, ← S_nil]; rfl, rfl, by omega, by omega, by omega, (fun _ z => nomatch z), .nil, g1⟩ ?_ ?_
    · rintro i σ' H2 hi ⟨f, k, y5, y6, rfl, ef, k26, hk, _, hf, hp, g2⟩
      have lr : (alph.drop k).length = 26 - k := by rw [List.length_drop, alph_len]
      have rs : (S (alph.drop k)).length ≤ sizeLine := by rw [S_len, lr]; exact Nat.le_trans (by omega : _ ≤ 26) (by decide)
      walk_at "v"; walk_at "v"
      refine ⟨_, rfl, rs, ?_⟩
      rw [S_len, lr]
      walk_at "v"; walk_at "v"; walk_at "ii"; walk_at "ii"; walk_at "ii"
      refine ⟨h, c, _, rfl, g2.2, by omega, by omega, fun a0 H3 a00 a01 g3 => ?_⟩
      obtain ⟨a, rfl⟩ : ∃ a : Nat, a0 = a := ⟨a0.toNat, by omega⟩
      have ha : k + a < 26 := by omega
      walk_at "v"; walk_at "v"; walk_at "v"
      refine ⟨_, _, 97 + (k + a), rfl, rfl, rs, atI_int rfl (by rw [S_list, List.getElem?_drop]; exact alph_at ha), ?_⟩
      refine ⟨_, _, rfl, rfl, ?_, ?_⟩
      · rw [S_len]; show f.length + 1 ≤ sizeLine; exact Nat.le_trans (by omega : _ ≤ 100) (by decide)
      rw [show ({ cps := #[97 + (k + a)] } : Str) = S [97 + (k + a)] from rfl, S_app]
      walk_at "v"; walk_at "v"; walk_at "ii"; walk_at "v"
      refine ⟨_, rfl, rs, ?_⟩
      have ea : ((a : Int) + 1) = ((a + 1 : Nat) : Int) := by omega
      rw [ea, cut_from, List.drop_drop]
      refine ⟨f ++ [97 + (k + a)], k + (a + 1), _, _, rfl, by rw [List.length_append, ef]; rfl, by omega, by omega, by omega, fun x hx => ?_, ?_, g2.trans g3⟩
      · rcases List.mem_append.mp hx with z | z
        · have := hf x z; omega
        · have := List.mem_singleton.mp z; omega
      · rw [List.pairwise_append]
        exact ⟨hp, List.pairwise_singleton _ _, fun x hx y hy => by have := hf x hx; have := List.mem_singleton.mp hy; omega⟩
    · rintro σ' H2 ⟨f, k, y5, y6, rfl, ef, k26, hk, _, hf, hp, g2⟩
      walk_at "v"
      refine q f H2 ⟨fun x hx => by have := hf x hx; omega, hp⟩ (fun z => ?_) (by omega) g2
      rw [z] at ef
      cases ef

/-- a row of n letters over the deeds d -/
def sp_row : Sp := fun vs H Q _ => ∃ (h c : Addr) (d : List Nat) (n : Nat), vs = [.ref h, .str (S d), .int n] ∧ Hand H h c ∧ Ls d ∧ d ≠ [] ∧ d.length ≤ 1000 ∧ n ≤ 1000 ∧
  ∀ l H', l.length = n → Ls l → (∀ c ∈ l, c ∈ d ∨ ∃ b ∈ d, c = up1 b) → Go h c H H' → Q (.str (S l)) H'
theorem ok_row (T : Txt K mg A) : FnOk P w K mg base (CX P w) 2 A.a_row A.d_row ["_law_hand_here", "_law_deeds_here", "_law_many"] (sp_row) := by
  refine T.F_row.okX sc_row (fun vs H Q E h => ?_) (fun cdv Ar outer s H vs Q E hr h => ?_)
  · obtain ⟨_, _, _, _, rfl, _⟩ := h
    rfl
  · obtain ⟨h, c, d, n, rfl, hH, hd, d0, dz, nz, q⟩ := h
    refine ⟨_, (pss_cons (ps_set (i := 3) sc_row.nd rfl (Or.inr rfl) (pe_op op_add_str (pv 1) (pbm0 (K := K) rfl PySem.F.plainAttrs_str PySem.F.slot_str_upper PySem.F.type_str_upper mt_upper (pv 1))))
      (pss_one (ps_ret (pbm (K := K) rfl PySem.F.plainAttrs_str PySem.F.slot_str_join PySem.F.type_str_join (mjoin (K := K) rfl) pe_str (pa_cons (pe_lc (own := [("_law_turn", 4)]) (tt := tYes) rfl sc_row.nd (pi_range1 (by rfl) T.m_range (pa_cons (pv 2) pa_nil)) (blkOk_by (N := ["_law_hand_here", "_law_deeds_here", "_law_many", "_law_letters", "_law_turn"]) (sc := defScope s_row) (by decide +kernel)) (fun _ _ _ _ _ => (pg_name (i := 4) sc_row.nd rfl (Or.inl rfl))) (fun _ _ _ _ _ => pts_nil) (fun _ _ _ _ _ => (pe_ix ix_str (pv 3) (pe_call (ok_draw (K := K) T) hr (by rfl) T.g_draw T.F_draw.kp T.b_draw .nil passF (pa_cons (pv 0) (pa_cons (pe_callB clenS (by rfl) T.m_len bt_len (pa_cons (pv 3) pa_nil)) pa_nil))) (fun _ _ => rfl)))) pa_nil))))), ?_⟩
    walk_at "v"; walk_at "v"
    refine ⟨rfl, _, rfl, rfl, ?_, ?_⟩
    · rw [S_len]; omega
    rw [up_asc hd.asc]
    refine ⟨_, _, rfl, rfl, ?_, ?_⟩
    · rw [S_len, S_len, List.length_map]; exact Nat.le_trans (by omega : _ ≤ 2000) (by decide)
    rw [S_app]
    have hL : Ls (d ++ d.map up1) := hd.app hd.up
    have hlen : (d ++ d.map up1).length = 2 * d.length := by rw [List.length_append, List.length_map]; omega
    have hpos : 0 < d.length := List.length_pos_iff.mpr d0
    generalize eL : d ++ d.map up1 = L at hL hlen
    refine ⟨rfl, ?_⟩
    walk_at "v"
    refine ⟨_, rfl, by omega, by omega, fun D hD => ?_⟩
    refine lc_range (Pv := fun i H' => ∃ l, l.length = i ∧ (∀ c ∈ l, c ∈ L) ∧ Go h c H H' ∧ H' D = some (.lst (ones l))) ⟨[], rfl, (fun _ z => nomatch z), Go.new hH hD, upd_same⟩ ?_ ?_
    · rintro i H1 hi ⟨l, el, hl, g1, h1⟩
      have hi' : i < n := by simpa using hi
      refine ⟨rfl, ?_⟩
      walk_at "v"; walk_at "v"; walk_at "v"
      refine ⟨_, rfl, ?_, ?_⟩
      · rw [S_len]; exact Nat.le_trans (by omega : _ ≤ 2000) (by decide)
      refine ⟨h, c, _, rfl, g1.2, by rw [S_len]; omega, by rw [S_len]; omega, fun k H2 k0 k1 g2 => ?_⟩
      rw [S_len] at k1
      obtain ⟨j, rfl⟩ : ∃ j : Nat, k = j := ⟨k.toNat, by omega⟩
      have hj : j < L.length := by omega
      refine ⟨_, _, L[j], rfl, rfl, ?_, atI_int rfl (by rw [S_list]; exact List.getElem?_eq_getElem hj), ?_⟩
      · rw [S_len]; exact Nat.le_trans (by omega : _ ≤ 2000) (by decide)
      have h2 := g2.1 _ _ (hH.ne hD).1 h1
      refine ⟨_, h2, ?_, l ++ [L[j]], by rw [List.length_append, el]; rfl, ?_, (g1.trans g2).put hH hD, ?_⟩
      · rw [ones_len]; exact Nat.lt_of_le_of_lt (by omega : _ ≤ 1000) (by decide)
      · intro c hc
        rcases List.mem_append.mp hc with z | z
        · exact hl c z
        · rw [List.mem_singleton.mp z]; exact List.getElem_mem hj
      · rw [upd_same]; unfold ones; rw [List.map_append]; rfl
    · rintro H1 ⟨l, el, hl, g1, h1⟩
      have el' : l.length = n := by simpa using el
      rw [ones_eq] at h1
      refine ⟨_, _, _, rfl, rfl, .inl (SqL.of h1), ?_, ?_⟩
      · rw [nil_len, Nat.mul_zero, Nat.add_zero, sum_one]; omega
      · rw [S_nil, RB.join_nil, flat_one]
        refine q l H1 el' (fun c hc => hL c (hl c hc)) (fun c hc => ?_) g1
        have := hl c hc
        rw [← eL] at this
        rcases List.mem_append.mp this with z | z
        · exact .inl z
        · obtain ⟨b, hb, e⟩ := List.mem_map.mp z
          exact .inr ⟨b, hb, e.symm⟩

/-- a hand and a room (a list of one number) -/
def Rm (h c rm : Addr) (H : Hp) : Prop := Hand H h c ∧ (∃ r : Int, H rm = some (.lst [.int r])) ∧ rm ≠ h ∧ rm ≠ c
def Mw (h c rm : Addr) (H H' : Hp) : Prop := (∀ b o, b ≠ h → b ≠ rm → H b = some o → H' b = some o) ∧ Rm h c rm H'
theorem Mw.trans {h c rm : Addr} {H H1 H2 : Hp} (a : Mw h c rm H H1) (b : Mw h c rm H1 H2) : Mw h c rm H H2 := ⟨fun x o n1 n2 e => b.1 x o n1 n2 (a.1 x o n1 n2 e), b.2⟩
theorem Rm.refl {h c rm : Addr} {H : Hp} (r : Rm h c rm H) : Mw h c rm H H := ⟨fun _ _ _ _ e => e, r⟩
theorem Rm.go {h c rm : Addr} {H H' : Hp} (r : Rm h c rm H) (g : Go h c H H') : Mw h c rm H H' := by
  obtain ⟨_, ⟨k, e⟩, n1, n2⟩ := r
  exact ⟨fun b o nb _ hb => g.1 b o nb hb, g.2, ⟨k, g.1 _ _ n1 e⟩, n1, n2⟩
theorem Rm.same {h c rm : Addr} {H H' : Hp} (r : Rm h c rm H) (s : Same H H') : Mw h c rm H H' := r.go (r.1.go s)
theorem Rm.set {h c rm : Addr} {H : Hp} {i : Int} (r : Rm h c rm H) : Mw h c rm H (upd H rm (.lst [.int i])) := by
  obtain ⟨hh, _, n1, n2⟩ := r
  exact ⟨fun b o _ nb hb => upd_oth hb nb, hh.put ⟨n1, n2⟩, ⟨i, upd_same⟩, n1, n2⟩
theorem Rm.sqT {K : PySem.W.Frag} {h c rm : Addr} {H H' : Hp} (r : Rm h c rm H) (m : Mw h c rm H H') : ∀ a zs, SqT K H a zs → SqT K H' a zs := fun a zs x => by
  obtain ⟨⟨cells, i, held, st, k, h1, _⟩, ⟨_, e⟩, _⟩ := r
  rcases x with (x | ⟨o, x⟩) | x
  · exact .inl (.inl (m.1 _ _ (ne_of x h1 fun z => nomatch z) (ne_of x e fun z => nomatch z) x))
  · exact .inl (.inr ⟨o, m.1 _ _ (ne_of x h1 fun z => nomatch z) (ne_of x e fun z => nomatch z) x⟩)
  · exact .inr x
theorem Rm.blk {K : PySem.W.Frag} {h c rm : Addr} {H H' : Hp} (r : Rm h c rm H) (m : Mw h c rm H H') {v : V} {b : List PG.T} (x : PG.Blk K H v b) : PG.Blk K H' v b := PG.dp_mono (r.sqT m) _ _ (by simpa [PG.noL] using PG.noL_L b) x
/-- what is drawn: right, not deep, names few -/
structure Gd (d : List Nat) (ps : List Nat → Option (List PG.T)) (ns : List (List Nat)) (k n : Nat) (t : PG.T) : Prop where
  r : PG.R d ps k t
  dep : PG.depS t ≤ n
  few : (PG.nmS t).length ≤ 9 ^ n
  nam : ∀ x ∈ PG.nmS t, x ∈ ns
/-- what the drawing of statements is handed -/
structure GIn (H : Hp) (h c nm rm : Addr) (d : List Nat) (ns : List (List Nat)) (ps : List Nat → Option (List PG.T)) (e : Nat) : Prop where
  de : Deeds d
  d0 : d ≠ []
  frm : Rm h c rm H
  fnm : H nm = some (.lst (nmV ns))
  n1 : nm ≠ h
  n2 : nm ≠ rm
  nl : ns.length ≤ 4
  ok : ∀ m ∈ ns, ∃ b, ps m = some b ∧ PG.RB_ d ps e b
theorem GIn.mw {H H' : Hp} {h c nm rm : Addr} {d : List Nat} {ns : List (List Nat)} {ps : List Nat → Option (List PG.T)} {e : Nat} (g : GIn H h c nm rm d ns ps e) (m : Mw h c rm H H') : GIn H' h c nm rm d ns ps e :=
  ⟨g.de, g.d0, m.2, m.1 _ _ g.n1 g.n2 g.fnm, g.n1, g.n2, g.nl, g.ok⟩
def sp_gst (K : PySem.W.Frag) (n : Nat) : Sp := fun vs H Q _ => ∃ (h c nm rm : Addr) (d : List Nat) (ns : List (List Nat)) (ps : List Nat → Option (List PG.T)) (e : Nat), vs = [.ref h, .str (S d), .ref nm, .ref rm, .int ((n + 1 : Nat) : Int)] ∧ GIn H h c nm rm d ns ps e ∧
  ∀ u t H', Mw h c rm H H' → PG.Stm K H' u t → Gd d ps ns (e + 1 + n) n t → Q u H'
def sp_gbl (K : PySem.W.Frag) (n : Nat) : Sp := fun vs H Q _ => ∃ (h c nm rm : Addr) (d : List Nat) (ns : List (List Nat)) (ps : List Nat → Option (List PG.T)) (e : Nat), vs = [.ref h, .str (S d), .ref nm, .ref rm, .int ((n + 1 : Nat) : Int)] ∧ GIn H h c nm rm d ns ps e ∧
  ∀ u b H', Mw h c rm H H' → PG.Blk K H' u b → b.length ≤ 3 → (∀ t ∈ b, Gd d ps ns (e + 1 + n) n t) → Q u H'
abbrev F_gs (P : Program) (w : World) (K : PySem.W.Frag) (mg : Str → Option Value) (base : Heap) (A : Ad) (n : Nat) : Prop := FnOk P w K mg base (CX P w) (2 * n + 5) A.a_statement A.d_statement ["_law_hand_here", "_law_deeds_here", "_law_names", "_law_room", "_law_deep"] (sp_gst K n)
abbrev F_gb (P : Program) (w : World) (K : PySem.W.Frag) (mg : Str → Option Value) (base : Heap) (A : Ad) (n : Nat) : Prop := FnOk P w K mg base (CX P w) (2 * n + 6) A.a_block A.d_block ["_law_hand_here", "_law_deeds_here", "_law_names", "_law_room", "_law_deep"] (sp_gbl K n)
theorem gb_of (T : Txt K mg A) (n : Nat) (ih_statement : F_gs P w K mg base A n) : F_gb P w K mg base A n := by
  refine T.F_block.okX sc_block (fun vs H Q E h => ?_) (fun cdv Ar outer s H vs Q E hr h => ?_)
  · obtain ⟨_, _, _, _, _, _, _, _, rfl, _⟩ := h
    rfl
  · obtain ⟨h, c, nm, rm, d, ns, ps, e, rfl, gi, fin⟩ := h
    refine ⟨_, (pss_cons (ps_set (i := 5) sc_block.nd rfl (Or.inl rfl) (pe_tup pa_nil))
      (pss_cons (ps_for (passes_of rfl) rfl (pi_range1 (by rfl) T.m_range (pa_cons (pe_call (ok_draw (K := K) T) (hr.mono (by omega)) (by rfl) T.g_draw T.F_draw.kp T.b_draw .nil passF (pa_cons (pv 0) (pa_cons pe_int pa_nil))) pa_nil)) (pg_name (i := 6) sc_block.nd rfl (Or.inl rfl)) (pss_one (ps_if (pt_cmpR op_gt (pe_ix (ixL (K := K) rfl) (pv 3) pe_int (fun _ _ => rfl)) pe_int (nomark _)) (pss_one (ps_set (i := 5) sc_block.nd rfl (Or.inl rfl) (pe_op (op_catOwn (K := K) rfl) (pv 5) (pe_tup (pa_cons (pe_call ih_statement (hr.mono (by omega)) (by rfl) T.g_statement T.F_statement.kp T.b_statement .nil passF (pa_cons (pv 0) (pa_cons (pv 1) (pa_cons (pv 2) (pa_cons (pv 3) (pa_cons (pv 4) pa_nil)))))) pa_nil))))) pss_nil)))
      (pss_one (ps_ret (pv 5))))), ?_⟩
    walk_at "g"
    refine ⟨by walk_at "sz", fun p hp => ?_⟩
    have m1 := gi.frm.same (Same.new (o := .tup []) hp)
    have e1 : upd H p (.tup []) p = some (.tup []) := upd_same
    have pne := gi.frm.1.ne hp
    generalize upd H p (.tup []) = H1 at m1 e1
    walk_at "g"
    refine ⟨h, c, 4, rfl, m1.2.1, by omega, by omega, fun m0 H2 m00 m01 g2 => ?_⟩
    obtain ⟨m, rfl⟩ : ∃ m : Nat, m0 = m := ⟨m0.toNat, by omega⟩
    have m2 := m1.2.go g2
    walk_at "g"
    refine GO.itR m (by omega) (by omega) (by omega) ?_
    refine GO.forI (walk_range (lo := 0) (n := m)) (fun i σ' G => ∃ y6 u b, σ' = [some (V.ref h), some (V.str (S d)), some (V.ref nm), some (V.ref rm), some (V.int ((n + 1 : Nat) : Int)), some u, y6] ∧ Mw h c rm H G ∧ PG.Blk K G u b ∧ b.length ≤ i ∧ ∀ t ∈ b, Gd d ps ns (e + 1 + n) n t)
      ⟨none, .ref p, [], rfl, m1.trans m2, .tup (SqT.of (g2.1 _ _ pne.1 e1)) .nil, Nat.le_refl _, fun t z => nomatch z⟩ (fun _ _ _ _ _ => trivial) ?_ ?_
    · rintro i x σ' G G' hi ⟨y6, u, b, rfl, mg, bu, bl, bg⟩ ⟨rfl, rfl⟩
      obtain ⟨hh, ⟨r, er⟩, n1, n2⟩ := id mg.2
      walk_at "g"
      refine iteD (fun pos => ?_) (fun neg => ?_)
      · walk_at "g"
        refine ⟨h, c, nm, rm, d, ns, ps, e, rfl, gi.mw mg, fun u2 t G2 m3 st gd => ?_⟩
        walk_at "g"
        refine ⟨by walk_at "sz", fun p2 hp2 => ?_⟩
        obtain ⟨a, xs, rfl, hx, xl, da⟩ := (mg.2.blk m3 bu).open_
        have s4 : Same G2 (upd G2 p2 (.tup [u2])) := Same.new hp2
        refine GO.catA (PG.sqT_same s4 hx) (SqT.of upd_same) (by rw [xl]; simp only [List.length_singleton]; omega) fun p3 G3 s5 hp3 => ?_
        walk_at "g"
        have s6 := s4.trans s5
        refine ⟨_, .ref p3, b ++ [t], rfl, (mg.trans m3).trans (m3.2.same s6), ?_, by rw [List.length_append]; simp only [List.length_singleton]; omega, fun t' ht' => ?_⟩
        · refine .tup hp3 ?_
          rw [PG.dL_map, List.map_append, ← PG.dL_map]
          exact PG.dpAll_snoc (PG.dpAll_same s6 _ _ da) (PG.dp_same s6 _ _ st)
        · rcases List.mem_append.mp ht' with z | z
          · exact bg t' z
          · rw [List.mem_singleton.mp z]; exact gd
      · walk_at "g"
        exact ⟨_, u, b, rfl, mg, bu, by omega, bg⟩
    · rintro σ' G ⟨y6, u, b, rfl, mg, bu, bl, bg⟩
      walk_at "g"
      exact fin u b G mg bu (by omega) bg

theorem over_of {d l : List Nat} (hd : Deeds d) (h : ∀ c ∈ l, c ∈ d ∨ ∃ b ∈ d, c = up1 b) : OverD d l := fun c hc => by
  rcases h c hc with z | ⟨b, hb, rfl⟩
  · rw [lo1_low (hd.low c z).1]; exact z
  · have := hd.low b hb
    have e1 : up1 b = b - 32 := by unfold up1; rw [if_pos (by omega)]
    have e2 : lo1 (b - 32) = b := by unfold lo1; rw [if_pos (by omega)]; omega
    rw [e1, e2]; exact hb
theorem Mw.off {h c rm D : Addr} {H G : Hp} {u : HO} (m : Mw h c rm H G) (hD : H D = none) (n : D ≠ h ∧ D ≠ c) (n2 : D ≠ rm) : Mw h c rm H (upd G D u) := by
  obtain ⟨m1, hh, ⟨r, er⟩, q1, q2⟩ := m
  exact ⟨fun x o a b ex => upd_oth (m1 x o a b ex) (ne_of_none ex hD), hh.put n, ⟨r, upd_oth er n2.symm⟩, q1, q2⟩
theorem Gd.dot {d : List Nat} {ps : List Nat → Option (List PG.T)} {ns : List (List Nat)} {k n : Nat} {r : List Nat} (h1 : Ls r) (h2 : OverD d r) (h3 : r.length ≤ 12) : Gd d ps ns k n (.dot r) :=
  ⟨.dot h1 h2 h3, by simp only [PG.depS]; exact Nat.zero_le _, by simp only [PG.nmS]; exact Nat.zero_le _, fun x hx => by simp [PG.nmS] at hx⟩
theorem Gd.part {d : List Nat} {ps : List Nat → Option (List PG.T)} {ns : List (List Nat)} {e n : Nat} {m : List Nat} {b : List PG.T} (h1 : m ∈ ns) (h2 : ps m = some b) (h3 : PG.RB_ d ps e b) : Gd d ps ns (e + 1 + n) n (.part m b) :=
  ⟨(PG.R.part h2 h3.1 h3.2).le (Nat.le_add_right _ _), by simp only [PG.depS]; exact Nat.zero_le _, by simp only [PG.nmS]; exact Nat.pow_pos (by decide : 0 < 9), fun x hx => by
    simp only [PG.nmS, List.mem_singleton] at hx
    rw [hx]; exact h1⟩
theorem few3 {b : List PG.T} {d : List Nat} {ps : List Nat → Option (List PG.T)} {ns : List (List Nat)} {k n : Nat} (h : ∀ t ∈ b, Gd d ps ns k n t) (l : b.length ≤ 3) : (PG.nmL b).length ≤ 3 * 9 ^ n :=
  Nat.le_trans (PG.nmL_few fun s hs => (h s hs).few) (Nat.mul_le_mul_right _ l)
theorem Gd.loop {d : List Nat} {ps : List Nat → Option (List PG.T)} {ns : List (List Nat)} {k n : Nat} {b : List PG.T} (l : b.length ≤ 3) (h : ∀ t ∈ b, Gd d ps ns k n t) : Gd d ps ns (k + 1) (n + 1) (.loop b) :=
  ⟨.loop (by omega) fun s hs => (h s hs).r, by
    have := PG.depL_le.mpr fun s hs => (h s hs).dep
    simp only [PG.depS]; omega, by
    have := few3 h l
    simp only [PG.nmS, Nat.pow_succ]; omega, fun x hx => by
    obtain ⟨s, h1, h2⟩ := PG.nmL_mem (by simpa only [PG.nmS] using hx)
    exact (h s h1).nam x h2⟩
theorem Gd.undo {d : List Nat} {ps : List Nat → Option (List PG.T)} {ns : List (List Nat)} {k n : Nat} {b : List PG.T} (l : b.length ≤ 3) (h : ∀ t ∈ b, Gd d ps ns k n t) : Gd d ps ns (k + 1) (n + 1) (.undo b) :=
  ⟨.undo (by omega) fun s hs => (h s hs).r, by
    have := PG.depL_le.mpr fun s hs => (h s hs).dep
    simp only [PG.depS]; omega, by
    have := few3 h l
    simp only [PG.nmS, Nat.pow_succ]; omega, fun x hx => by
    obtain ⟨s, h1, h2⟩ := PG.nmL_mem (by simpa only [PG.nmS] using hx)
    exact (h s h1).nam x h2⟩
theorem Gd.alt {d : List Nat} {ps : List Nat → Option (List PG.T)} {ns : List (List Nat)} {k n : Nat} {o : Bool} {bs : List (List PG.T)} (l1 : 1 ≤ bs.length) (l3 : bs.length ≤ 3) (h : ∀ b ∈ bs, b.length ≤ 3 ∧ ∀ t ∈ b, Gd d ps ns k n t) : Gd d ps ns (k + 1) (n + 1) (.alt o bs) :=
  ⟨.alt l1 (by omega) (fun b hb => by have := (h b hb).1; omega) fun b hb s hs => ((h b hb).2 s hs).r, by
    have := PG.depBs_le.mpr fun b hb => PG.depL_le.mpr fun s hs => ((h b hb).2 s hs).dep
    simp only [PG.depS]; omega, by
    have h1 := PG.nmBs_few fun b hb => few3 (h b hb).2 (h b hb).1
    have h2 := Nat.mul_le_mul_right (3 * 9 ^ n) l3
    simp only [PG.nmS, Nat.pow_succ]; omega, fun x hx => by
    obtain ⟨b, h1, h2⟩ := PG.nmBs_mem (by simpa only [PG.nmS] using hx)
    obtain ⟨s, h3, h4⟩ := PG.nmL_mem h2
    exact ((h b h1).2 s h3).nam x h4⟩
theorem gs_of (T : Txt K mg A) (n : Nat) (hn : n ≤ 10) (spb : Sp) (ih_block : FnOk P w K mg base (CX P w) (2 * n + 4) A.a_block A.d_block ["_law_hand_here", "_law_deeds_here", "_law_names", "_law_room", "_law_deep"] spb)
    (hb : ∀ m, n = m + 1 → ∀ vs H Q E, sp_gbl K m vs H Q E → spb vs H Q E) : F_gs P w K mg base A n := by
  refine T.F_statement.okX sc_statement (fun vs H Q E h => ?_) (fun cdv Ar outer s H vs Q E hr h => ?_)
  · obtain ⟨_, _, _, _, _, _, _, _, rfl, _⟩ := h
    rfl
  · obtain ⟨h, c, nm, rm, d, ns, ps, e, rfl, gi, fin⟩ := h
    refine ⟨_, (pss_cons (ps_asg (pe_op op_sub (pe_ix (ixL (K := K) rfl) (pv 3) pe_int (fun _ _ => rfl)) pe_int) (pg_sub (pv 3) pe_int set_list))
      (pss_cons (ps_set (i := 5) sc_statement.nd rfl (Or.inl rfl) (pe_call (ok_draw (K := K) T) (hr.mono (by omega)) (by rfl) T.g_draw T.F_draw.kp T.b_draw .nil passF (pa_cons (pv 0) (pa_cons pe_int pa_nil))))
      (pss_cons (ps_if (pt_mid (PW.pt (pw_and (pt_cmpR op_eq (pv 5) pe_int (nomark _)) (pw_and1 (pt_cmpR op_gt (pe_callB (clen (K := K) rfl) (by rfl) T.m_len bt_len (pa_cons (pv 2) pa_nil)) pe_int (nomark _)))))) (pss_one (ps_ret (pe_tup (pa_cons pe_str (pa_cons (pe_ix (ixL (K := K) rfl) (pv 2) (pe_call (ok_draw (K := K) T) (hr.mono (by omega)) (by rfl) T.g_draw T.F_draw.kp T.b_draw .nil passF (pa_cons (pv 0) (pa_cons (pe_callB (clen (K := K) rfl) (by rfl) T.m_len bt_len (pa_cons (pv 2) pa_nil)) pa_nil))) (fun _ _ => rfl)) pa_nil))))) pss_nil)
      (pss_cons (ps_if (pt_mid (PW.pt (pw_and (pt_cmpR op_gt (pv 4) pe_int (nomark _)) (pw_and1 (pt_cmpR op_lt (pv 5) pe_int (nomark _)))))) (pss_one (ps_ret (pe_tup (pa_cons pe_str (pa_cons (pe_call ih_block (hr.mono (by omega)) (by rfl) T.g_block T.F_block.kp T.b_block .nil passF (pa_cons (pv 0) (pa_cons (pv 1) (pa_cons (pv 2) (pa_cons (pv 3) (pa_cons (pe_op op_sub (pv 4) pe_int) pa_nil)))))) pa_nil))))) pss_nil)
      (pss_cons (ps_if (pt_mid (PW.pt (pw_and (pt_cmpR op_gt (pv 4) pe_int (nomark _)) (pw_and1 (pt_cmpR op_eq (pv 5) pe_int (nomark _)))))) (pss_one (ps_ret (pe_tup (pa_cons pe_str (pa_cons (pe_call ih_block (hr.mono (by omega)) (by rfl) T.g_block T.F_block.kp T.b_block .nil passF (pa_cons (pv 0) (pa_cons (pv 1) (pa_cons (pv 2) (pa_cons (pv 3) (pa_cons (pe_op op_sub (pv 4) pe_int) pa_nil)))))) pa_nil))))) pss_nil)
      (pss_cons (ps_if (pt_mid (PW.pt (pw_and (pt_cmpR op_gt (pv 4) pe_int (nomark _)) (pw_and1 (pt_cmpR op_lt (pv 5) pe_int (nomark _)))))) (pss_cons (ps_set (i := 6) sc_statement.nd rfl (Or.inl rfl) (pe_op op_add pe_int (pe_call (ok_draw (K := K) T) (hr.mono (by omega)) (by rfl) T.g_draw T.F_draw.kp T.b_draw .nil passF (pa_cons (pv 0) (pa_cons pe_int pa_nil)))))
      (pss_cons (ps_set (i := 7) sc_statement.nd rfl (Or.inl rfl) (pe_callTy (ctupF (K := K) rfl) (by rfl) T.m_tuple bt_tuple (pa_cons (pe_lc (own := [("_law_turn", 8)]) (tt := tYes) rfl sc_statement.nd (pi_range1 (by rfl) T.m_range (pa_cons (pv 6) pa_nil)) (blkOk_by (N := ["_law_hand_here", "_law_deeds_here", "_law_names", "_law_room", "_law_deep", "_law_kind", "_law_many", "_law_blocks", "_law_turn"]) (sc := defScope s_statement) (by decide +kernel)) (fun _ _ _ _ _ => (pg_name (i := 8) sc_statement.nd rfl (Or.inl rfl))) (fun _ _ _ _ _ => pts_nil) (fun _ _ _ _ _ => (pe_call ih_block (hr.mono (by omega)) (by rfl) T.g_block T.F_block.kp T.b_block .nil passF (pa_cons (pv 0) (pa_cons (pv 1) (pa_cons (pv 2) (pa_cons (pv 3) (pa_cons (pe_op op_sub (pv 4) pe_int) pa_nil)))))))) pa_nil)))
      (pss_one (ps_ret (pe_tup (pa_cons (pe_ix (ixL (K := K) rfl) (pe_lst (pa_cons pe_str (pa_cons pe_str (pa_cons pe_str pa_nil)))) (pe_op op_sub (pv 5) pe_int) (fun _ _ => rfl)) (pa_cons (pv 7) pa_nil))))))) pss_nil)
      (pss_one (ps_ret (pe_tup (pa_cons pe_str (pa_cons (pe_call (ok_row (K := K) T) (hr.mono (by omega)) (by rfl) T.g_row T.F_row.kp T.b_row .nil passF (pa_cons (pv 0) (pa_cons (pv 1) (pa_cons (pe_ix (ixL (K := K) rfl) (pe_lst (pa_cons pe_int (pa_cons pe_int (pa_cons pe_int (pa_cons pe_int (pa_cons pe_int (pa_cons pe_int (pa_cons pe_int pa_nil)))))))) (pe_call (ok_draw (K := K) T) (hr.mono (by omega)) (by rfl) T.g_draw T.F_draw.kp T.b_draw .nil passF (pa_cons (pv 0) (pa_cons pe_int pa_nil))) (fun _ _ => rfl)) pa_nil)))) pa_nil))))))))))), ?_⟩
    obtain ⟨hh, ⟨r, er⟩, q1, q2⟩ := id gi.frm
    walk_at "g"
    walk_at "set"
    have m1 := gi.frm.set (i := r - 1)
    show tSeq _ _ _ _ (upd H rm (.lst [.int (r - 1)]))
    generalize upd H rm (.lst [.int (r - 1)]) = H1 at m1
    walk_at "g"
    refine ⟨h, c, 12, rfl, m1.2.1, by omega, by omega, fun m0 H2 m00 m01 g2 => ?_⟩
    obtain ⟨k, rfl⟩ : ∃ k : Nat, m0 = k := ⟨m0.toNat, by omega⟩
    have m2 := m1.trans (m1.2.go g2)
    have gi2 := gi.mw m2
    have nl4 := gi.nl
    have hnm := gi2.fnm
    have hn1 : (nmV ns).length = ns.length := List.length_map _
    walk_at "g"
    by_cases c1 : k = 6 ∧ 0 < ns.length
    · refine GO.midT ?_ ?_
      · walk_at "g"
        exact ⟨decide_eq_true (by omega), rfl⟩
      · walk_at "g"
        refine ⟨h, c, ns.length, by rw [hn1]; rfl, m2.2.1, by omega, by omega, fun j0 H3 j00 j01 g3 => ?_⟩
        obtain ⟨j, rfl⟩ : ∃ j : Nat, j0 = j := ⟨j0.toNat, by omega⟩
        have m3 := m2.trans (m2.2.go g3)
        have hj : j < ns.length := by omega
        have hnm3 := (gi.mw m3).fnm
        refine GO.ixl (SqL.of hnm3) (atI_int rfl (show (nmV ns)[j]? = some (V.str (S ns[j])) by unfold nmV; rw [List.getElem?_map, List.getElem?_eq_getElem hj]; rfl)) ?_
        walk_at "g"
        refine ⟨by walk_at "sz", fun p hp => ?_⟩
        obtain ⟨b, pb, rb⟩ := gi.ok _ (List.getElem_mem hj)
        exact fin _ _ _ (m3.trans (m3.2.same (Same.new hp))) (GO.stm_mk (t := .part ns[j] b) (SqT.of upd_same) (.str _)) (Gd.part (List.getElem_mem hj) pb rb)
    refine GO.midF ?_ ?_
    · by_cases k6 : k = 6
      · walk_at "g"
        exact ⟨decide_eq_false (by omega), rfl⟩
      · walk_at "g"
        walk_at "dn"
    walk_at "g"
    by_cases c2 : 1 ≤ n ∧ k < 2
    · obtain ⟨m, rfl⟩ : ∃ m, n = m + 1 := ⟨n - 1, by omega⟩
      have e1 : ((m + 1 + 1 : Nat) : Int) - 1 = ((m + 1 : Nat) : Int) := by omega
      refine GO.midT ?_ ?_
      · walk_at "g"
        exact ⟨decide_eq_true (by omega), rfl⟩
      · walk_at "g"
        refine hb m rfl _ _ _ _ ⟨h, c, nm, rm, d, ns, ps, e, by rw [e1]; rfl, gi2, fun u b H3 m3 bu bl bg => ?_⟩
        walk_at "g"
        refine ⟨by walk_at "sz", fun p hp => ?_⟩
        exact fin _ _ _ ((m2.trans m3).trans (m3.2.same (Same.new hp))) (GO.stm_mk (t := .loop b) (SqT.of upd_same) (bu.same (Same.new hp))) (Gd.loop bl bg)
    refine GO.midF ?_ ?_
    · by_cases n1 : 1 ≤ n
      · walk_at "g"
        exact ⟨decide_eq_false (by omega), rfl⟩
      · walk_at "g"
        walk_at "dn"
    walk_at "g"
    by_cases c3 : 1 ≤ n ∧ k = 5
    · obtain ⟨m, rfl⟩ : ∃ m, n = m + 1 := ⟨n - 1, by omega⟩
      have e1 : ((m + 1 + 1 : Nat) : Int) - 1 = ((m + 1 : Nat) : Int) := by omega
      refine GO.midT ?_ ?_
      · walk_at "g"
        exact ⟨decide_eq_true (by omega), rfl⟩
      · walk_at "g"
        refine hb m rfl _ _ _ _ ⟨h, c, nm, rm, d, ns, ps, e, by rw [e1]; rfl, gi2, fun u b H3 m3 bu bl bg => ?_⟩
        walk_at "g"
        refine ⟨by walk_at "sz", fun p hp => ?_⟩
        exact fin _ _ _ ((m2.trans m3).trans (m3.2.same (Same.new hp))) (GO.stm_mk (t := .undo b) (SqT.of upd_same) (bu.same (Same.new hp))) (Gd.undo bl bg)
    refine GO.midF ?_ ?_
    · by_cases n1 : 1 ≤ n
      · walk_at "g"
        exact ⟨decide_eq_false (by omega), rfl⟩
      · walk_at "g"
        walk_at "dn"
    walk_at "g"
    by_cases c4 : 1 ≤ n ∧ k < 5
    · obtain ⟨m, rfl⟩ : ∃ m, n = m + 1 := ⟨n - 1, by omega⟩
      have e1 : ((m + 1 + 1 : Nat) : Int) - 1 = ((m + 1 : Nat) : Int) := by omega
      refine GO.midT ?_ ?_
      · walk_at "g"
        exact ⟨decide_eq_true (by omega), rfl⟩
      · walk_at "g"
        refine ⟨h, c, 3, rfl, m2.2.1, by omega, by omega, fun j0 H3 j00 j01 g3 => ?_⟩
        obtain ⟨j, rfl⟩ : ∃ j : Nat, j0 = j := ⟨j0.toNat, by omega⟩
        have m3 := m2.trans (m2.2.go g3)
        walk_at "g"
        refine GO.itR (1 + j) (by omega) (by omega) (by omega) ?_
        walk_at "g"
        intro D hD
        have hDn := m3.2.1.ne hD
        have Drm : D ≠ rm := by
          obtain ⟨_, ⟨_, er⟩, _⟩ := m3.2
          exact (ne_of_none er hD).symm
        refine lc_range (Pv := fun i H' => ∃ (bs : List (List PG.T)) (acc : List V), bs.length = i ∧ Mw h c rm H3 H' ∧ H' D = some (.lst acc) ∧ DpAll K H' acc (PG.dBs bs) ∧ ∀ b ∈ bs, b.length ≤ 3 ∧ ∀ t ∈ b, Gd d ps ns (e + 1 + m) m t)
          ⟨[], [], rfl, m3.2.same (Same.new hD), upd_same, .nil, fun b z => nomatch z⟩ ?_ ?_
        · rintro i G hi ⟨bs, acc, rfl, mg, eD, da, bg⟩
          walk_at "g"
          refine hb m rfl _ _ _ _ ⟨h, c, nm, rm, d, ns, ps, e, by rw [e1]; rfl, gi.mw (m3.trans mg), fun u b H4 m4 bu bl bg4 => ?_⟩
          have al := PG.dpAll_len da
          rw [PG.dBs_map, List.length_map] at al
          have eD4 := m4.1 _ _ hDn.1 Drm eD
          have da4 := PG.dpAll_mono (mg.2.sqT m4) _ _ (PG.noL_Bs bs) da
          have st := GO.sqT_off (K := K) (y := acc ++ [u]) eD4
          refine ⟨acc, eD4, Nat.lt_of_le_of_lt (by omega : _ ≤ 100) (by decide), bs ++ [b], acc ++ [u], by rw [List.length_append]; rfl, ?_, upd_same, ?_, fun b' hb' => ?_⟩
          · exact (mg.trans m4).off hD hDn Drm
          · have e9 : PG.dBs (bs ++ [b]) = PG.dBs bs ++ [.tuple (PG.dL b)] := by rw [PG.dBs_map, PG.dBs_map, List.map_append]; rfl
            rw [e9]
            exact PG.dpAll_snoc (PG.dpAll_mono st _ _ (PG.noL_Bs bs) da4) (PG.dp_mono st _ _ (by simpa [PG.noL] using PG.noL_L b) bu)
          · rcases List.mem_append.mp hb' with z | z
            · exact bg b' z
            · rw [List.mem_singleton.mp z]; exact ⟨bl, bg4⟩
        · rintro G ⟨bs, acc, el, mg, eD, da, bg⟩
          walk_at "g"
          refine GO.tupF (SqL.of eD) fun l G2 s2 hl => ?_
          walk_at "g"
          refine ⟨by walk_at "sz", fun p hp => ?_⟩
          walk_at "g"
          have ko : ∃ o, atI [V.str "either", V.str "either", V.str "other"] ((k : Int) - 2) = some (.str (PG.wAlt o)) := by
            rcases (show k = 2 ∨ k = 3 ∨ k = 4 by omega) with rfl | rfl | rfl
            · exact ⟨false, rfl⟩
            · exact ⟨false, rfl⟩
            · exact ⟨true, rfl⟩
          obtain ⟨o, ko⟩ := ko
          refine GO.ixl (SqL.of upd_same) ko ?_
          walk_at "g"
          refine ⟨by walk_at "sz", fun p2 hp2 => ?_⟩
          have s3 := (s2.trans (Same.new (o := .lst [.str "either", .str "either", .str "other"]) hp)).trans (Same.new (o := .tup [.str (PG.wAlt o), .ref l]) hp2)
          have s4 := (Same.new (o := .lst [.str "either", .str "either", .str "other"]) hp).trans (Same.new (o := .tup [.str (PG.wAlt o), .ref l]) hp2)
          exact fin _ _ _ ((m3.trans mg).trans (mg.2.same s3)) (GO.stm_mk (t := .alt o bs) (SqT.of upd_same) (.tup (PG.sqT_same s4 hl) (PG.dpAll_same s3 _ _ da))) (Gd.alt (by omega) (by omega) bg)
    refine GO.midF ?_ ?_
    · by_cases n1 : 1 ≤ n
      · walk_at "g"
        exact ⟨decide_eq_false (by omega), rfl⟩
      · walk_at "g"
        walk_at "dn"
    walk_at "g"
    refine ⟨by walk_at "sz", fun p hp => ?_⟩
    have pm := m2.2.1.ne hp
    have m3 := m2.trans (m2.2.same (Same.new (o := .lst [.int 1, .int 1, .int 1, .int 2, .int 2, .int 3, .int 0]) hp))
    have ep : upd H2 p (.lst [.int 1, .int 1, .int 1, .int 2, .int 2, .int 3, .int 0]) p = some (.lst [.int 1, .int 1, .int 1, .int 2, .int 2, .int 3, .int 0]) := upd_same
    generalize upd H2 p (.lst [.int 1, .int 1, .int 1, .int 2, .int 2, .int 3, .int 0]) = H3 at m3 ep
    walk_at "g"
    refine ⟨h, c, 7, rfl, m3.2.1, by omega, by omega, fun j0 H4 j00 j01 g4 => ?_⟩
    obtain ⟨j, rfl⟩ : ∃ j : Nat, j0 = j := ⟨j0.toNat, by omega⟩
    have m4 := m3.trans (m3.2.go g4)
    have kj : ∃ z : Nat, z ≤ 3 ∧ atI [V.int 1, V.int 1, V.int 1, V.int 2, V.int 2, V.int 3, V.int 0] (j : Int) = some (.int z) := by
      rcases (show j = 0 ∨ j = 1 ∨ j = 2 ∨ j = 3 ∨ j = 4 ∨ j = 5 ∨ j = 6 by omega) with rfl | rfl | rfl | rfl | rfl | rfl | rfl
      · exact ⟨1, by decide, rfl⟩
      · exact ⟨1, by decide, rfl⟩
      · exact ⟨1, by decide, rfl⟩
      · exact ⟨2, by decide, rfl⟩
      · exact ⟨2, by decide, rfl⟩
      · exact ⟨3, by decide, rfl⟩
      · exact ⟨0, by decide, rfl⟩
    obtain ⟨z, z3, kj⟩ := kj
    refine GO.ixl (SqL.of (g4.1 _ _ pm.1 ep)) kj ?_
    walk_at "g"
    refine ⟨h, c, d, z, rfl, m4.2.1, gi.de.L, gi.d0, Nat.le_trans gi.de.len (by decide), by omega, fun l H5 el hl hd g5 => ?_⟩
    walk_at "g"
    refine ⟨by walk_at "sz", fun p2 hp2 => ?_⟩
    have m5 := m4.trans (m4.2.go g5)
    exact fin _ _ _ (m5.trans (m5.2.same (Same.new hp2))) (GO.stm_mk (t := .dot l) (SqT.of upd_same) (.str _)) (Gd.dot hl (over_of gi.de hd) (by omega))
theorem rec_gs (T : Txt K mg A) : ∀ n, n ≤ 10 → F_gs P w K mg base A n ∧ F_gb P w K mg base A n
  | 0, h => by
    have h1 : F_gs P w K mg base A 0 := gs_of T 0 h (fun _ _ _ _ => False) (GO.never _ _ _ _) (fun m e => absurd e (Nat.succ_ne_zero m).symm)
    exact ⟨h1, gb_of T 0 h1⟩
  | n + 1, h => by
    obtain ⟨_, b1⟩ := rec_gs T n (by omega)
    have h1 : F_gs P w K mg base A (n + 1) := gs_of T (n + 1) h _ b1 (fun m e vs H Q E h => by cases e; exact h)
    exact ⟨h1, gb_of T (n + 1) h1⟩

theorem ok_statement (T : Txt K mg A) : F_gs P w K mg base A 3 := (rec_gs T 3 (by decide)).1
theorem ok_block (T : Txt K mg A) : F_gb P w K mg base A 1 := (rec_gs T 1 (by decide)).2
def sp_lsz (K : PySem.W.Frag) (n : Nat) : Sp := fun vs H Q _ => ∃ (q : Addr) (v : V) (d : List Nat) (kvs : List (L2.Key × V)) (ps : List (List Nat × List PG.T)) (b : List PG.T), vs = [v, .ref q] ∧ Rd H q (.dK kvs) ∧ PG.Prt K H kvs ps ∧ PG.Blk K H v b ∧ PG.RB_ d (PG.look ps) n b ∧
  ∀ u H', Same H H' → Dp K H' u (GO.szD (PG.szB b)) → Q u H'
abbrev F_lz (P : Program) (w : World) (K : PySem.W.Frag) (mg : Str → Option Value) (base : Heap) (A : Ad) (n : Nat) : Prop := FnOk P w K mg base (CX P w) (n + 1) A.a_sizes A.d_sizes ["_law_block_here", "_law_parts"] (sp_lsz K n)
theorem lz_of (T : Txt K mg A) (n : Nat) (spb : Sp) (ih_sizes : FnOk P w K mg base (CX P w) n A.a_sizes A.d_sizes ["_law_block_here", "_law_parts"] spb)
    (hb : ∀ m, n = m + 1 → ∀ vs H Q E, sp_lsz K m vs H Q E → spb vs H Q E) : F_lz P w K mg base A n := by
  refine T.F_sizes.okX sc_sizes (fun vs H Q E h => ?_) (fun cdv Ar outer s H vs Q E hr h => ?_)
  · obtain ⟨_, _, _, _, _, _, rfl, _⟩ := h
    rfl
  · obtain ⟨q, v, d, kvs, ps, b, rfl, hq, hp, hb', rb, fin⟩ := h
    obtain ⟨a, xs, rfl, hx, xl, da⟩ := hb'.open_
    refine ⟨_, (pss_cons (ps_if (pt_cmpR op_eq (pe_callB (clen (K := K) rfl) (by rfl) T.m_len bt_len (pa_cons (pv 0) pa_nil)) pe_int (nomark _)) (pss_one (ps_ret (pe_tup (pa_cons pe_int (pa_cons pe_int pa_nil))))) pss_nil)
      (pss_cons (ps_set (i := 2) sc_sizes.nd rfl (Or.inl rfl) (pe_op op_sub (pe_callB (clen (K := K) rfl) (by rfl) T.m_len bt_len (pa_cons (pv 0) pa_nil)) pe_int))
      (pss_cons (ps_set (i := 3) sc_sizes.nd rfl (Or.inl rfl) pe_int)
      (pss_cons (ps_for (passes_of rfl) rfl (piT (K := K) rfl (pv 0)) (pgT (K := K) (n := 2) rfl rfl (pgs_cons (pg_name (i := 4) sc_sizes.nd rfl (Or.inl rfl)) (pgs_cons (pg_name (i := 5) sc_sizes.nd rfl (Or.inl rfl)) pgs_nil))) (pss_one (ps_if (pt_cmpR op_eq (pv 4) pe_str (nomark _)) (pss_cons (ps_set (i := 2) sc_sizes.nd rfl (Or.inl rfl) (pe_op op_add (pv 2) (pe_callB (call_max2 rfl) (by rfl) T.m_max bt_max (pa_cons pe_int (pa_cons (pe_op op_sub (pe_callB clenS (by rfl) T.m_len bt_len (pa_cons (pv 5) pa_nil)) pe_int) pa_nil)))))
      (pss_one (ps_set (i := 3) sc_sizes.nd rfl (Or.inl rfl) (pe_op op_add (pv 3) (pe_callB (call_max2 rfl) (by rfl) T.m_max bt_max (pa_cons pe_int (pa_cons (pe_callB clenS (by rfl) T.m_len bt_len (pa_cons (pv 5) pa_nil)) pa_nil))))))) (pss_cons (ps_set (i := 6) sc_sizes.nd rfl (Or.inl rfl) (pv 5))
      (C8.pss_cut (ps_if (pt_cmpR op_eq (pv 4) pe_str (nomark _)) (pss_one (ps_set (i := 6) sc_sizes.nd rfl (Or.inl rfl) (pe_tup (pa_cons (pe_dget (hu_of hr) (pv 1) (pv 5) (fun _ _ => rfl)) pa_nil)))) (pss_one (ps_if (pt_cmpR (inQ (K := K) rfl) (pv 4) (pe_lst (pa_cons pe_str (pa_cons pe_str pa_nil))) rfl) (pss_one (ps_set (i := 6) sc_sizes.nd rfl (Or.inl rfl) (pe_tup (pa_cons (pv 5) pa_nil)))) pss_nil)))
      (pss_cons (ps_setLc (i := 7) (own := [("_law_each", 9)]) (tt := tYes) rfl sc_sizes.nd rfl rfl (sw_true rfl rfl rfl (by decide +kernel)) (piT (K := K) rfl (pv 6)) (blkOk_by (N := ["_law_block_here", "_law_parts", "_law_places", "_law_arrows", "_law_word", "_law_inner", "_law_blocks", "_law_pairs", "_law_more", "_law_each", "_law_pair"]) (sc := defScope s_sizes) (by decide +kernel)) (fun _ _ _ _ _ => (pg_name (i := 9) sc_sizes.nd rfl (Or.inl rfl))) (fun _ _ _ _ _ => pts_nil) (fun _ _ _ _ _ => (pe_call ih_sizes (hr.mono (by omega)) (by rfl) T.g_sizes T.F_sizes.kp T.b_sizes .nil passF (pa_cons (pv 9) (pa_cons (pv 1) pa_nil)))))
      (pss_cons (ps_set (i := 8) sc_sizes.nd rfl (Or.inl rfl) (pe_ix (ixL (K := K) rfl) (pe_lst (pa_cons pe_int (pa_cons pe_int (pa_cons (pe_op op_add pe_int (pe_callB (clen (K := K) rfl) (by rfl) T.m_len bt_len (pa_cons (pv 6) pa_nil))) pa_nil)))) (pe_op op_add (pe_callTy call_int1 (by rfl) T.m_int bt_int (pa_cons (pe_cmpR op_eq (pv 4) pe_str (nomark _)) pa_nil)) (pe_op op_mul pe_int (pe_callTy call_int1 (by rfl) T.m_int bt_int (pa_cons (pe_cmpR op_eq (pv 4) pe_str (nomark _)) pa_nil)))) (fun _ _ => rfl)))
      (pss_cons (ps_set (i := 2) sc_sizes.nd rfl (Or.inl rfl) (pe_op op_add (pe_op op_add (pv 2) (pe_callB (csum (K := K) rfl rfl) (by rfl) T.m_sum bt_sum (pa_cons (pe_lc (own := [("_law_pair", 10)]) (tt := tYes) rfl sc_sizes.nd (piL (K := K) rfl (pv 7)) (blkOk_by (N := ["_law_block_here", "_law_parts", "_law_places", "_law_arrows", "_law_word", "_law_inner", "_law_blocks", "_law_pairs", "_law_more", "_law_each", "_law_pair"]) (sc := defScope s_sizes) (by decide +kernel)) (fun _ _ _ _ _ => (pg_name (i := 10) sc_sizes.nd rfl (Or.inl rfl))) (fun _ _ _ _ _ => pts_nil) (fun _ _ _ _ _ => (pe_ix (ixT (K := K) rfl) (pv 10) pe_int (fun _ _ => rfl)))) pa_nil))) (pv 8)))
      (pss_one (ps_set (i := 3) sc_sizes.nd rfl (Or.inl rfl) (pe_op op_add (pe_op op_add (pe_op op_add (pv 3) (pe_callB (csum (K := K) rfl rfl) (by rfl) T.m_sum bt_sum (pa_cons (pe_lc (own := [("_law_pair", 10)]) (tt := tYes) rfl sc_sizes.nd (piL (K := K) rfl (pv 7)) (blkOk_by (N := ["_law_block_here", "_law_parts", "_law_places", "_law_arrows", "_law_word", "_law_inner", "_law_blocks", "_law_pairs", "_law_more", "_law_each", "_law_pair"]) (sc := defScope s_sizes) (by decide +kernel)) (fun _ _ _ _ _ => (pg_name (i := 10) sc_sizes.nd rfl (Or.inl rfl))) (fun _ _ _ _ _ => pts_nil) (fun _ _ _ _ _ => (pe_ix (ixT (K := K) rfl) (pv 10) pe_int (fun _ _ => rfl)))) pa_nil))) (pv 8)) (pe_callTy call_int1 (by rfl) T.m_int bt_int (pa_cons (pe_cmpR op_eq (pv 4) pe_str (nomark _)) pa_nil)))))))))))))
      (pss_one (ps_ret (pe_tup (pa_cons (pv 2) (pa_cons (pv 3) pa_nil))))))))), ?_⟩
    walk_at "g"
    by_cases e0 : b = []
    · subst e0
      have x0 : xs.length = 0 := xl
      refine GO.yesD (by omega) ?_
      walk_at "g"
      refine ⟨by walk_at "sz", fun p hp2 => ?_⟩
      exact fin _ _ (Same.new hp2) (.tup (SqT.of upd_same) (.cons (.int 0) (.cons (.int 1) .nil)))
    have b1 : 1 ≤ b.length := List.length_pos_iff.mpr e0
    have b8 := rb.1
    have sz1 : (PG.szB b).1 = (PG.szL b).1 + (b.length - 1) := rfl
    have sz2 : (PG.szB b).2 = (PG.szL b).2 := by simp only [PG.szB, if_neg e0]
    refine GO.noD (by omega) ?_
    walk_at "g"
    rw [show (xs.length : Int) - 1 = ((b.length - 1 : Nat) : Int) by omega]
    refine GO.forI (walk_tup (xs := xs)) (fun i σ' G => ∃ (Pn An : Nat) (y4 y5 y6 y7 y8 : Option V), σ' = [some (V.ref a), some (V.ref q), some (V.int Pn), some (V.int An), y4, y5, y6, y7, y8, none, none] ∧ Same H G ∧ Pn + (PG.szL (b.drop i)).1 = (PG.szB b).1 ∧ An + (PG.szL (b.drop i)).2 = (PG.szB b).2)
      ⟨b.length - 1, 0, none, none, none, none, none, rfl, Same.refl _, by rw [List.drop_zero]; omega, by rw [List.drop_zero]; omega⟩ (fun i σ' G _ z => by obtain ⟨_, _, _, _, _, _, _, _, s, _⟩ := z; exact PG.sqT_same s hx) ?_ ?_
    · rintro i x σ' G G' hi ⟨Pn, An, y4, y5, y6, y7, y8, rfl, sG, f1, f2⟩ ⟨rfl, hxi⟩
      obtain ⟨t, ht, stt⟩ := PG.dL_at da hxi
      have rt := rb.2 t (List.mem_of_getElem? ht)
      rw [xl] at hi
      have dr : b.drop i = t :: b.drop (i + 1) := by
        rw [List.drop_eq_getElem_cons hi]
        have ec : b[i] = t := by rw [List.getElem?_eq_getElem hi] at ht; exact Option.some.inj ht
        rw [ec]
      rw [dr] at f1 f2
      have s1 : (PG.szL (t :: b.drop (i + 1))).1 = (PG.szS t).1 + (PG.szL (b.drop (i + 1))).1 := by simp only [PG.szL]
      have s2 : (PG.szL (t :: b.drop (i + 1))).2 = (PG.szS t).2 + (PG.szL (b.drop (i + 1))).2 := by simp only [PG.szL]
      obtain ⟨ta, ti, rfl, hta, di⟩ := (stt.same sG).open_
      have hqG := PG.rd_same sG hq
      have hpG := hp.same sG
      by_cases td : ∃ r, t = .dot r
      · obtain ⟨r, rfl⟩ := td
        obtain rfl := PG.dp_str di
        cases rt with
        | dot L o z =>
        have hw : SqT K G' ta [.str "do", .str (S r)] := hta
        walk_at "g"
        refine ⟨_, _, rfl, ?_⟩
        walk_at "g"
        refine ⟨_, _, rfl, ?_⟩
        walk_at "g"
        have e1 : (PG.szS (.dot r)).1 = r.length - 1 := by simp only [PG.szS]
        have e2 : (PG.szS (.dot r)).2 = max r.length 1 := by simp only [PG.szS]
        refine ⟨Pn + (r.length - 1), An + max r.length 1, some (.str "do"), some (.str (S r)), y6, y7, y8, ?_, sG, by omega, by omega⟩
        have k1 : (Pn : Int) + (if (r.length : Int) - 1 > 0 then (r.length : Int) - 1 else 0) = ((Pn + (r.length - 1) : Nat) : Int) := by split <;> omega
        have k2 : (An : Int) + (if (r.length : Int) > 1 then (r.length : Int) else 1) = ((An + max r.length 1 : Nat) : Int) := by split <;> omega
        rw [← k1, ← k2]
      · have nd : ∀ r, t ≠ .dot r := fun r e => td ⟨r, e⟩
        have wd : (PG.wS t : Str) ≠ "do" := by
          cases t with
          | dot r => exact absurd rfl (nd r)
          | alt o bs => cases o with
            | false => show ("either" : Str) ≠ "do"; decide +kernel
            | true => show ("other" : Str) ≠ "do"; decide +kernel
          | loop b => show ("loop" : Str) ≠ "do"; decide +kernel
          | undo b => show ("undo" : Str) ≠ "do"; decide +kernel
          | part n b => show ("part" : Str) ≠ "do"; decide +kernel
        obtain ⟨b4, bR⟩ := rt.blks
        have szt := PG.szS_of nd
        walk_at "g"
        refine GO.cutM (fun σ2 G2 => ∃ (bt : Addr) (ys : List V), σ2 = [some (V.ref a), some (V.ref q), some (V.int Pn), some (V.int An), some (V.str (PG.wS t)), some ti, some (V.ref bt), y7, y8, none, none] ∧ Same G' G2 ∧ SqT K G2 bt ys ∧ DpAll K G2 ys (PG.dBs (PG.blkOf t))) ?_ ?_
        · cases t with
          | dot r => exact absurd rfl (nd r)
          | alt o bs =>
            obtain ⟨bt, ys, rfl, hy, dy⟩ := PG.dp_tup di
            cases o
            · rw [show PG.wS (.alt false bs) = "either" from rfl]
              walk_at "g"
              refine ⟨by walk_at "sz", fun p hp2 => ?_⟩
              refine GO.inL (SqL.of upd_same) rfl rfl (b := false) (by decide +kernel) ?_
              walk_at "g"
              exact ⟨bt, ys, rfl, Same.new hp2, PG.sqT_same (Same.new hp2) hy, PG.dpAll_same (Same.new hp2) _ _ dy⟩
            · rw [show PG.wS (.alt true bs) = "other" from rfl]
              walk_at "g"
              refine ⟨by walk_at "sz", fun p hp2 => ?_⟩
              refine GO.inL (SqL.of upd_same) rfl rfl (b := false) (by decide +kernel) ?_
              walk_at "g"
              exact ⟨bt, ys, rfl, Same.new hp2, PG.sqT_same (Same.new hp2) hy, PG.dpAll_same (Same.new hp2) _ _ dy⟩
          | loop b' =>
            rw [show PG.wS (.loop b') = "loop" from rfl]
            walk_at "g"
            refine ⟨by walk_at "sz", fun p hp2 => ?_⟩
            refine GO.inL (SqL.of upd_same) rfl rfl (b := true) (by decide +kernel) ?_
            walk_at "g"
            refine ⟨by walk_at "sz", fun p3 hp3 => ?_⟩
            have s3 : Same G' (upd (upd G' p (.lst [.str "loop", .str "undo"])) p3 (.tup [ti])) := (Same.new hp2).trans (Same.new hp3)
            exact ⟨p3, [ti], rfl, s3, SqT.of upd_same, by rw [PG.dBs_map]; exact .cons (PG.dp_same s3 _ _ di) .nil⟩
          | undo b' =>
            rw [show PG.wS (.undo b') = "undo" from rfl]
            walk_at "g"
            refine ⟨by walk_at "sz", fun p hp2 => ?_⟩
            refine GO.inL (SqL.of upd_same) rfl rfl (b := true) (by decide +kernel) ?_
            walk_at "g"
            refine ⟨by walk_at "sz", fun p3 hp3 => ?_⟩
            have s3 : Same G' (upd (upd G' p (.lst [.str "loop", .str "undo"])) p3 (.tup [ti])) := (Same.new hp2).trans (Same.new hp3)
            exact ⟨p3, [ti], rfl, s3, SqT.of upd_same, by rw [PG.dBs_map]; exact .cons (PG.dp_same s3 _ _ di) .nil⟩
          | part m b' =>
            rw [show PG.wS (.part m b') = "part" from rfl]
            obtain rfl := PG.dp_str di
            cases rt with
            | part e b8' h' =>
            obtain ⟨pv_, ev, bv⟩ := hpG.get e
            walk_at "g"
            refine GO.dgetR (hqG) ev ?_
            walk_at "g"
            refine ⟨by walk_at "sz", fun p3 hp3 => ?_⟩
            exact ⟨p3, [pv_], rfl, Same.new hp3, SqT.of upd_same, by rw [PG.dBs_map]; exact .cons (PG.dp_same (Same.new hp3) _ _ bv) .nil⟩
        · rintro σ2 G2 ⟨bt, ys, rfl, s12, hbt, dbs⟩
          have yl : ys.length = (PG.blkOf t).length := by rw [PG.dpAll_len dbs, PG.dBs_map, List.length_map]
          have nl : PG.noLs ((PG.blkOf t).map fun b => GO.szD (PG.szB b)) = true := by
            induction PG.blkOf t with
            | nil => rfl
            | cons z r ih => simp only [List.map_cons, PG.noLs, GO.noL_szD, ih, Bool.and_self]
          walk_at "g"
          intro D hD
          refine GO.lcS (walk_tup (xs := ys)) (GO.FB K ((PG.blkOf t).map fun b => GO.szD (PG.szB b))) hD .nil (fun i acc G _ s _ => PG.sqT_same s hbt) ?_ ?_
          · rintro j z acc G3 G4 hj s e f ⟨rfl, hzj⟩
            obtain ⟨b', hb2, bz⟩ := PG.dBs_at dbs hzj
            obtain ⟨m, rfl, rb'⟩ := bR b' (List.mem_of_getElem? hb2)
            have sA := (sG.trans s12).trans s
            walk_at "g"
            refine hb m rfl _ _ _ _ ⟨q, z, d, kvs, ps, b', rfl, PG.rd_same sA hq, hp.same sA, bz.same s, rb', fun u G5 s5 du => ?_⟩
            exact GO.lnB nl (by rw [List.getElem?_map, hb2]; rfl) hD (by rw [List.length_map]; omega) s e f s5 du
          · intro acc G3 s e f
            have df := GO.fb_end f (by rw [yl, List.length_map]; exact Nat.le_refl _)
            walk_at "g"
            refine ⟨by walk_at "sz", fun p hp2 => ?_⟩
            have s4 : Same G3 (upd G3 p (.lst [.int 0, .int 1, .int (1 + (ys.length : Int))])) := Same.new hp2
            have ep : upd G3 p (.lst [.int 0, .int 1, .int (1 + (ys.length : Int))]) p = some (.lst [.int 0, .int 1, .int (1 + (ys.length : Int))]) := upd_same
            generalize upd G3 p (.lst [.int 0, .int 1, .int (1 + (ys.length : Int))]) = G4 at s4 ep
            walk_at "g"
            refine .inr ⟨_, rfl, ?_⟩
            walk_at "g"
            refine .inr ⟨_, rfl, ?_⟩
            walk_at "g"
            have km : atI [V.int 0, V.int 1, V.int (1 + (ys.length : Int))] ((if decide ((PG.wS t : Str) = "loop") = true then (1 : Int) else 0) + 2 * (if decide ((PG.wS t : Str) = "other") = true then (1 : Int) else 0)) = some (.int (PG.moOf t)) := by
              rw [yl]
              cases t with
              | dot r => exact absurd rfl (nd r)
              | alt o bs => cases o with
                | false =>
                  rw [show decide ((PG.wS (.alt false bs) : Str) = "loop") = false from rfl, show decide ((PG.wS (.alt false bs) : Str) = "other") = false from rfl]; rfl
                | true =>
                  rw [show decide ((PG.wS (.alt true bs) : Str) = "loop") = false from rfl, show decide ((PG.wS (.alt true bs) : Str) = "other") = true from rfl]
                  refine (rfl : _ = some (V.int (1 + (bs.length : Int)))).trans ?_
                  rw [show PG.moOf (.alt true bs) = 1 + bs.length from rfl, show ((1 + bs.length : Nat) : Int) = 1 + (bs.length : Int) by omega]
              | loop b => rw [show decide ((PG.wS (.loop b) : Str) = "loop") = true from rfl, show decide ((PG.wS (.loop b) : Str) = "other") = false from rfl]; rfl
              | undo b => rw [show decide ((PG.wS (.undo b) : Str) = "loop") = false from rfl, show decide ((PG.wS (.undo b) : Str) = "other") = false from rfl]; rfl
              | part m b => rw [show decide ((PG.wS (.part m b) : Str) = "loop") = false from rfl, show decide ((PG.wS (.part m b) : Str) = "other") = false from rfl]; rfl
            refine GO.ixl (SqL.of ep) km ?_
            have eD4 := s4 _ _ e
            have df4 := PG.dpAll_same s4 _ _ df
            have al : acc.length = (PG.blkOf t).length := by rw [PG.dpAll_len df, List.length_map]
            have item : ∀ {i : Nat} {x : V}, acc[i]? = some x → ∃ z tt, ((PG.blkOf t).map PG.szB)[i]? = some z ∧ x = .ref tt ∧ SqT K G4 tt [.int z.1, .int z.2] := fun {i x} e => by
              obtain ⟨d, e2, r⟩ := PG.dpAll_at df4 e
              rw [List.getElem?_map] at e2
              obtain ⟨b', hb', rfl⟩ := Option.map_eq_some_iff.mp e2
              obtain ⟨tt, p, q, rfl, s, r1, r2⟩ := PG.two r
              rw [PG.dp_int r1, PG.dp_int r2] at s
              exact ⟨PG.szB b', tt, by rw [List.getElem?_map, hb']; rfl, rfl, s⟩
            have zl : ((PG.blkOf t).map PG.szB).length = acc.length := by rw [List.length_map, al]
            have sz1' : (((PG.blkOf t).map PG.szB).map Prod.fst).sum = (PG.szBs (PG.blkOf t)).1 := by rw [PG.szBs_sum]
            have sz2' : (((PG.blkOf t).map PG.szB).map Prod.snd).sum = (PG.szBs (PG.blkOf t)).2 := by rw [PG.szBs_sum]
            walk_at "g"
            intro D2 hD2
            refine GO.lcS (walk_list (xs := acc)) (GO.FT ((PG.blkOf t).map PG.szB) fun z => V.int z.1) hD2 rfl (fun i acc G _ s _ => SqL.of (s _ _ eD4)) ?_ ?_
            · rintro j x acc2 G5 G6 hj s e f ⟨rfl, hx⟩
              obtain ⟨z, tt, hz, rfl, htt⟩ := item hx
              walk_at "g"
              exact GO.lnT hz rfl hD2 (by omega) s e f (Same.refl _)
            · intro acc2 G5 s5 e5 f5
              obtain rfl := GO.ft_end f5 (by omega)
              have e' : G5 D2 = some (.lst ((((PG.blkOf t).map PG.szB).map Prod.fst).map fun n : Nat => V.int n)) := by rw [e5]; simp only [List.map_map]; rfl
              walk_at "g"
              refine GO.sumQ e' ?_
              walk_at "g"
              have eD5 := s5 _ _ eD4
              intro D3 hD3
              refine GO.lcS (walk_list (xs := acc)) (GO.FT ((PG.blkOf t).map PG.szB) fun z => V.int z.2) hD3 rfl (fun i acc G _ s _ => SqL.of (s _ _ eD5)) ?_ ?_
              · rintro j x acc2 G6 G7 hj s e f ⟨rfl, hx⟩
                obtain ⟨z, tt, hz, rfl, htt⟩ := item hx
                have s56 := s5.trans s
                walk_at "g"
                exact GO.lnT hz rfl hD3 (by omega) s e f (Same.refl _)
              · intro acc2 G6 s6 e6 f6
                obtain rfl := GO.ft_end f6 (by omega)
                have e'' : G6 D3 = some (.lst ((((PG.blkOf t).map PG.szB).map Prod.snd).map fun n : Nat => V.int n)) := by rw [e6]; simp only [List.map_map]; rfl
                walk_at "g"
                refine GO.sumQ e'' ?_
                walk_at "g"
                refine .inr ⟨_, rfl, ?_⟩
                walk_at "g"
                have sAll := (((((sG.trans s12).trans s).trans s4).trans s5).trans s6)
                have lp : (if decide ((PG.wS t : Str) = "loop") = true then (1 : Int) else 0) = (PG.lpOf t : Nat) := by
                  cases t with
                  | dot r => exact absurd rfl (nd r)
                  | alt o bs => cases o <;> rfl
                  | loop b => rfl
                  | undo b => rfl
                  | part m b => rfl
                rw [szt] at s1 s2
                dsimp only at s1 s2
                refine ⟨Pn + ((PG.szBs (PG.blkOf t)).1 + PG.moOf t), An + ((PG.szBs (PG.blkOf t)).2 + PG.moOf t + PG.lpOf t), some (.str (PG.wS t)), some ti, some (.ref bt), some (.ref D), some (.int (PG.moOf t)), ?_, sAll, by omega, by omega⟩
                rw [lp, sz1', sz2']
                have k1 : (Pn : Int) + ((PG.szBs (PG.blkOf t)).1 : Nat) + (PG.moOf t : Nat) = ((Pn + ((PG.szBs (PG.blkOf t)).1 + PG.moOf t) : Nat) : Int) := by omega
                have k2 : (An : Int) + ((PG.szBs (PG.blkOf t)).2 : Nat) + (PG.moOf t : Nat) + (PG.lpOf t : Nat) = ((An + ((PG.szBs (PG.blkOf t)).2 + PG.moOf t + PG.lpOf t) : Nat) : Int) := by omega
                rw [← k1, ← k2]
    · rintro σ' G ⟨Pn, An, y4, y5, y6, y7, y8, rfl, sG, f1, f2⟩
      rw [xl, List.drop_length] at f1 f2
      have k1 : Pn = (PG.szB b).1 := f1
      have k2 : An = (PG.szB b).2 := f2
      subst k1 k2
      walk_at "g"
      refine ⟨by walk_at "sz", fun p hp2 => ?_⟩
      exact fin _ _ (sG.trans (Same.new hp2)) (.tup (SqT.of upd_same) (.cons (.int _) (.cons (.int _) .nil)))
theorem rec_lz (T : Txt K mg A) : ∀ n, F_lz P w K mg base A n
  | 0 => lz_of T 0 (fun _ _ _ _ => False) (GO.never _ _ _ _) (fun m e => absurd e (Nat.succ_ne_zero m).symm)
  | n + 1 => lz_of T (n + 1) _ (rec_lz T n) (fun m e vs H Q E h => by cases e; exact h)
theorem ok_sizes (T : Txt K mg A) : F_lz P w K mg base A 20 := rec_lz T 20

theorem paired_snoc {α β : Type} {R : α → β → Prop} : ∀ {xs : List α} {ys : List β} {x : α} {y : β}, Paired R xs ys → R x y → Paired R (xs ++ [x]) (ys ++ [y])
  | _, _, _, _, .nil, r => .cons r .nil
  | _, _, _, _, .cons a t, r => .cons a (paired_snoc t r)
theorem R_ext {d : List Nat} {ps ps' : List Nat → Option (List PG.T)} {n : Nat} {t : PG.T} (k : ∀ m b, ps m = some b → ps' m = some b) (h : PG.R d ps n t) : PG.R d ps' n t := by
  induction h with
  | dot a b c => exact .dot a b c
  | alt a b c _ ih => exact .alt a b c ih
  | loop a _ ih => exact .loop a ih
  | undo a _ ih => exact .undo a ih
  | part a b _ ih => exact .part (k _ _ a) b ih
theorem look_app {ps : List (List Nat × List PG.T)} {x : List Nat × List PG.T} {m : List Nat} {b : List PG.T} (h : PG.look ps m = some b) : PG.look (ps ++ [x]) m = some b := by
  unfold PG.look at h ⊢
  induction ps with
  | nil => simp at h
  | cons y r ih =>
    rw [List.cons_append]
    rw [List.lookup_cons] at h ⊢
    cases e : m == y.1 with
    | true => rw [e] at h; exact h
    | false => rw [e] at h; exact ih h
theorem look_new {ps : List (List Nat × List PG.T)} {m : List Nat} {b : List PG.T} (h : ∀ p ∈ ps, p.1 ≠ m) : PG.look (ps ++ [(m, b)]) m = some b := by
  unfold PG.look
  induction ps with
  | nil => simp
  | cons y r ih =>
    rw [List.cons_append, List.lookup_cons]
    have e : (m == y.1) = false := by simpa using (h y List.mem_cons_self).symm
    rw [e]
    exact ih fun p hp => h p (List.mem_cons_of_mem _ hp)
theorem putK_new {kvs : List (L2.Key × V)} {k : L2.Key} {v : V} (h : ∀ kv ∈ kvs, kv.1 ≠ k) : putK kvs k v = kvs ++ [(k, v)] := by
  unfold putK
  rw [if_neg]
  intro e
  obtain ⟨kv, h1, h2⟩ := List.any_eq_true.mp e
  exact h kv h1 (of_decide_eq_true h2)
theorem Gd.ext {d : List Nat} {ps ps' : List Nat → Option (List PG.T)} {ns : List (List Nat)} {k n : Nat} {t : PG.T} (e : ∀ m b, ps m = some b → ps' m = some b) (h : Gd d ps ns k n t) : Gd d ps' ns k n t := ⟨R_ext e h.r, h.dep, h.few, h.nam⟩
def ends : List (List Nat) := [[], [97], [122, 122], [108, 111, 111, 112], [117, 110, 100, 111, 105, 110, 103]]
/-- the parts after i turns -/
structure PSt (d : List Nat) (i : Nat) (ps : List (List Nat × List PG.T)) : Prop where
  len : ps.length = i
  nam : ∀ (j : Nat) (p : List Nat × List PG.T), ps[j]? = some p → ∃ en ∈ ends, p.1 = (112 + j) :: en
  blk : ∀ (j : Nat) (p : List Nat × List PG.T), ps[j]? = some p → p.2.length ≤ 3 ∧ ∀ t ∈ p.2, Gd d (PG.look ps) ((ps.take j).map Prod.fst) (2 * j + 2) 1 t
theorem ends_ok : ∀ en ∈ ends, en.length ≤ 7 ∧ ∀ c ∈ en, 97 ≤ c ∧ c ≤ 122 := by decide
theorem PSt.fst_ne {d : List Nat} {i : Nat} {ps : List (List Nat × List PG.T)} (h : PSt d i ps) (en : List Nat) : ∀ p ∈ ps, p.1 ≠ (112 + i) :: en := fun p hp e => by
  obtain ⟨j, hj, ej⟩ := List.getElem_of_mem hp
  obtain ⟨en', _, e2⟩ := h.nam j p (by rw [List.getElem?_eq_getElem hj, ej])
  rw [e2] at e
  have := (List.cons.inj e).1
  have := h.len
  omega
theorem PSt.next {d : List Nat} {i : Nat} {ps : List (List Nat × List PG.T)} (h : PSt d i ps) {en : List Nat} {b : List PG.T} (he : en ∈ ends) (b3 : b.length ≤ 3) (hb : ∀ t ∈ b, Gd d (PG.look ps) (ps.map Prod.fst) (2 * i + 2) 1 t) : PSt d (i + 1) (ps ++ [((112 + i) :: en, b)]) := by
  have ex : ∀ m b', PG.look ps m = some b' → PG.look (ps ++ [((112 + i) :: en, b)]) m = some b' := fun m b' e => look_app e
  have l := h.len
  refine ⟨by rw [List.length_append, l]; rfl, fun j p hj => ?_, fun j p hj => ?_⟩
  · rcases Nat.lt_or_ge j ps.length with q | q
    · rw [List.getElem?_append_left q] at hj
      exact h.nam j p hj
    · rw [List.getElem?_append_right q] at hj
      have e0 : j - ps.length = 0 := by
        rcases Nat.eq_zero_or_pos (j - ps.length) with z | z
        · exact z
        · rw [List.getElem?_eq_none (by rw [List.length_singleton]; omega)] at hj; cases hj
      rw [e0] at hj
      cases hj
      exact ⟨en, he, by rw [show j = i by omega]⟩
  · rcases Nat.lt_or_ge j ps.length with q | q
    · rw [List.getElem?_append_left q] at hj
      rw [List.take_append_of_le_length (Nat.le_of_lt q)]
      exact ⟨(h.blk j p hj).1, fun t ht => ((h.blk j p hj).2 t ht).ext ex⟩
    · rw [List.getElem?_append_right q] at hj
      have e0 : j - ps.length = 0 := by
        rcases Nat.eq_zero_or_pos (j - ps.length) with z | z
        · exact z
        · rw [List.getElem?_eq_none (by rw [List.length_singleton]; omega)] at hj; cases hj
      rw [e0] at hj
      cases hj
      have ji : j = ps.length := by omega
      subst ji
      rw [List.take_left']
      · rw [l]; exact ⟨b3, fun t ht => (hb t ht).ext ex⟩
      · rfl
theorem PSt.nd {d : List Nat} {i : Nat} {ps : List (List Nat × List PG.T)} (h : PSt d i ps) : (ps.map Prod.fst).Nodup := by
  rw [List.Nodup, List.pairwise_iff_getElem]
  intro j k hj hk jk e3
  rw [List.length_map] at hj hk
  rw [List.getElem_map, List.getElem_map] at e3
  obtain ⟨en, _, e1⟩ := h.nam j ps[j] (List.getElem?_eq_getElem hj)
  obtain ⟨en', _, e2⟩ := h.nam k ps[k] (List.getElem?_eq_getElem hk)
  rw [e1, e2] at e3
  have := (List.cons.inj e3).1
  omega
theorem PSt.rb {d : List Nat} {i : Nat} {ps : List (List Nat × List PG.T)} (h : PSt d i ps) (m : List Nat) (hm : m ∈ ps.map Prod.fst) : ∃ b, PG.look ps m = some b ∧ PG.RB_ d (PG.look ps) (2 * i) b := by
  obtain ⟨p, hp, rfl⟩ := List.mem_map.mp hm
  obtain ⟨j, hj, ej⟩ := List.getElem_of_mem hp
  have e1 : ps[j]? = some p := by rw [List.getElem?_eq_getElem hj, ej]
  have l := h.len
  refine ⟨p.2, GO.look_at h.nd (i := j) (by rw [e1]), ?_⟩
  obtain ⟨b3, hb⟩ := h.blk j p e1
  exact ⟨by omega, fun t ht => (hb t ht).r.le (by omega)⟩
/-- the parts that are drawn -/
structure PDr (d : List Nat) (ps : List (List Nat × List PG.T)) : Prop where
  ok : GO.PsOk d ps
  rb : ∀ p ∈ ps, PG.RB_ d (PG.look ps) 8 p.2
  dep : ∀ p ∈ ps, PG.depL p.2 ≤ 1
  few : ps.length ≤ 3
  fst : ∀ p ∈ ps, ∃ x en, p.1 = x :: en ∧ 112 ≤ x ∧ x ≤ 114
def sp_pdr (K : PySem.W.Frag) : Sp := fun vs H Q _ => ∃ (h c : Addr) (d : List Nat), vs = [.ref h, .str (S d)] ∧ Hand H h c ∧ Deeds d ∧ d ≠ [] ∧
  ∀ q kvs ps H', Go h c H H' → H q = none → H' q = some (.dK kvs) → PG.Prt K H' kvs ps → PDr d ps → Q (.ref q) H'
theorem ok_parts_drawn (T : Txt K mg A) : FnOk P w K mg base (CX P w) 9 A.a_parts_drawn A.d_parts_drawn ["_law_hand_here", "_law_deeds_here"] (sp_pdr K) := by
  refine T.F_parts_drawn.okX sc_parts_drawn (fun vs H Q E h => ?_) (fun cdv Ar outer s H vs Q E hr h => ?_)
  · obtain ⟨_, _, _, rfl, _⟩ := h
    rfl
  · obtain ⟨h, c, d, rfl, hH, hd, d0, fin⟩ := h
    refine ⟨_, (pss_cons (ps_set (i := 2) sc_parts_drawn.nd rfl (Or.inl rfl) (pe_lst pa_nil))
      (pss_cons (ps_set (i := 3) sc_parts_drawn.nd rfl (Or.inl rfl) pe_dnewK)
      (pss_cons (ps_for (passes_of rfl) rfl (pi_range1 (by rfl) T.m_range (pa_cons (pe_ix (ixL (K := K) rfl) (pe_lst (pa_cons pe_int (pa_cons pe_int (pa_cons pe_int (pa_cons pe_int (pa_cons pe_int (pa_cons pe_int pa_nil))))))) (pe_call (ok_draw (K := K) T) (hr.mono (by decide)) (by rfl) T.g_draw T.F_draw.kp T.b_draw .nil passF (pa_cons (pv 0) (pa_cons pe_int pa_nil))) (fun _ _ => rfl)) pa_nil)) (pg_name (i := 4) sc_parts_drawn.nd rfl (Or.inl rfl)) (pss_cons (ps_set (i := 5) sc_parts_drawn.nd rfl (Or.inl rfl) (pe_op op_add_str (pe_ix ix_str pe_str (pv 4) (fun _ _ => rfl)) (pe_ix (ixL (K := K) rfl) (pe_lst (pa_cons pe_str (pa_cons pe_str (pa_cons pe_str (pa_cons pe_str (pa_cons pe_str pa_nil)))))) (pe_call (ok_draw (K := K) T) (hr.mono (by decide)) (by rfl) T.g_draw T.F_draw.kp T.b_draw .nil passF (pa_cons (pv 0) (pa_cons pe_int pa_nil))) (fun _ _ => rfl))))
      (pss_cons (ps_dput (hu_of hr) (pv 3) (pv 5) (pe_call (ok_block (K := K) T) hr (by rfl) T.g_block T.F_block.kp T.b_block .nil passF (pa_cons (pv 0) (pa_cons (pv 1) (pa_cons (pv 2) (pa_cons (pe_lst (pa_cons pe_int pa_nil)) (pa_cons pe_int pa_nil)))))) rfl)
      (pss_one (ps_expr (pbm (K := K) rfl PySem.F.plainAttrs_list PySem.F.slot_list_append PySem.F.type_list_append mt_append (pv 2) (pa_cons (pv 5) pa_nil)))))))
      (pss_one (ps_ret (pv 3)))))), ?_⟩
    walk_at "g"
    refine ⟨by walk_at "sz", fun nm hnm => ?_⟩
    walk_at "g"
    refine GO.dnew fun dp hdp => ?_
    walk_at "g"
    refine ⟨by walk_at "sz", fun lp hlp => ?_⟩
    have dpH := GO.none_upd hdp
    have lpH := GO.none_upd (GO.none_upd hlp)
    have enm : upd (upd (upd H nm (.lst [])) dp (.dK [])) lp (.lst [.int 0, .int 0, .int 1, .int 1, .int 2, .int 3]) nm = some (.lst (nmV [])) := upd_old (upd_old upd_same hdp) hlp
    have edp : upd (upd (upd H nm (.lst [])) dp (.dK [])) lp (.lst [.int 0, .int 0, .int 1, .int 1, .int 2, .int 3]) dp = some (.dK []) := upd_old upd_same hlp
    have elp : upd (upd (upd H nm (.lst [])) dp (.dK [])) lp (.lst [.int 0, .int 0, .int 1, .int 1, .int 2, .int 3]) lp = some (.lst [.int 0, .int 0, .int 1, .int 1, .int 2, .int 3]) := upd_same
    have g3 : Go h c H (upd (upd (upd H nm (.lst [])) dp (.dK [])) lp (.lst [.int 0, .int 0, .int 1, .int 1, .int 2, .int 3])) := ((Go.new hH hnm).same (Same.new hdp)).same (Same.new hlp)
    generalize upd (upd (upd H nm (.lst [])) dp (.dK [])) lp (.lst [.int 0, .int 0, .int 1, .int 1, .int 2, .int 3]) = H3 at enm edp elp g3
    clear hdp hlp
    have nd : nm ≠ dp := ne_of enm edp fun z => nomatch z
    have nmh := hH.ne hnm
    have dph := hH.ne dpH
    have lph := hH.ne lpH
    walk_at "g"
    refine ⟨h, c, 6, rfl, g3.2, by omega, by omega, fun j0 H4 j00 j01 g4 => ?_⟩
    obtain ⟨j, rfl⟩ : ∃ j : Nat, j0 = j := ⟨j0.toNat, by omega⟩
    have kj : ∃ z : Nat, z ≤ 3 ∧ atI [V.int 0, V.int 0, V.int 1, V.int 1, V.int 2, V.int 3] (j : Int) = some (.int z) := by
      rcases (show j = 0 ∨ j = 1 ∨ j = 2 ∨ j = 3 ∨ j = 4 ∨ j = 5 by omega) with rfl | rfl | rfl | rfl | rfl | rfl
      · exact ⟨0, by decide, rfl⟩
      · exact ⟨0, by decide, rfl⟩
      · exact ⟨1, by decide, rfl⟩
      · exact ⟨1, by decide, rfl⟩
      · exact ⟨2, by decide, rfl⟩
      · exact ⟨3, by decide, rfl⟩
    obtain ⟨z, z3, kj⟩ := kj
    refine GO.ixl (SqL.of (g4.1 _ _ lph.1 elp)) kj ?_
    walk_at "g"
    refine GO.itR z (by omega) (by omega) (by omega) ?_
    refine GO.forI (walk_range (lo := 0) (n := z)) (fun i σ' G => ∃ (y4 y5 : Option V) (kvs : List (L2.Key × V)) (ps : List (List Nat × List PG.T)), σ' = [some (V.ref h), some (V.str (S d)), some (V.ref nm), some (V.ref dp), y4, y5] ∧ Go h c H G ∧ G nm = some (.lst (nmV (ps.map Prod.fst))) ∧ G dp = some (.dK kvs) ∧ PG.Prt K G kvs ps ∧ PSt d i ps)
      ⟨none, none, [], [], rfl, g3.trans g4, g4.1 _ _ nmh.1 enm, g4.1 _ _ dph.1 edp, .nil, rfl, fun j p hj => by simp at hj, fun j p hj => by simp at hj⟩ (fun _ _ _ _ _ => trivial) ?_ ?_
    · rintro i x σ' G G' hi ⟨y4, y5, kvs, ps, rfl, g, en, ed, hp, st⟩ ⟨rfl, rfl⟩
      walk_at "g"
      have kc : ((Str.ofString "pqrs").cps.toList)[i]? = some (112 + i) := by
        rcases (show i = 0 ∨ i = 1 ∨ i = 2 by omega) with rfl | rfl | rfl <;> decide +kernel
      refine ⟨_, _, 112 + i, rfl, rfl, Nat.le_trans (by decide +kernel : _ ≤ 100) (by decide), atI_int (by omega) kc, ?_⟩
      rw [show ({ cps := #[112 + i] } : Str) = S [112 + i] from rfl]
      walk_at "g"
      refine ⟨by walk_at "sz", fun lp2 hlp2 => ?_⟩
      have nm2 := g.2.ne hlp2
      have g5 := g.same (Same.new (o := .lst [.str "", .str "a", .str "zz", .str "loop", .str "undoing"]) hlp2)
      have s5 : Same G' (upd G' lp2 (.lst [.str "", .str "a", .str "zz", .str "loop", .str "undoing"])) := Same.new hlp2
      have el5 : upd G' lp2 (.lst [.str "", .str "a", .str "zz", .str "loop", .str "undoing"]) lp2 = some (.lst [.str "", .str "a", .str "zz", .str "loop", .str "undoing"]) := upd_same
      generalize upd G' lp2 (.lst [.str "", .str "a", .str "zz", .str "loop", .str "undoing"]) = G5 at g5 s5 el5
      walk_at "g"
      refine ⟨h, c, 5, rfl, g5.2, by omega, by omega, fun k0 G6 k00 k01 g6 => ?_⟩
      obtain ⟨k, rfl⟩ : ∃ k : Nat, k0 = k := ⟨k0.toNat, by omega⟩
      have ke : ∃ en ∈ ends, atI [V.str "", V.str "a", V.str "zz", V.str "loop", V.str "undoing"] (k : Int) = some (.str (S en)) := by
        rcases (show k = 0 ∨ k = 1 ∨ k = 2 ∨ k = 3 ∨ k = 4 by omega) with rfl | rfl | rfl | rfl | rfl
        · exact ⟨[], by decide, rfl⟩
        · exact ⟨[97], by decide, rfl⟩
        · exact ⟨[122, 122], by decide, rfl⟩
        · exact ⟨[108, 111, 111, 112], by decide, rfl⟩
        · exact ⟨[117, 110, 100, 111, 105, 110, 103], by decide, rfl⟩
      obtain ⟨e, he, ke⟩ := ke
      have e7 := (ends_ok e he).1
      refine GO.ixl (SqL.of (g6.1 _ _ nm2.1 el5)) ke ?_
      refine ⟨_, _, rfl, rfl, by rw [S_len, S_len]; exact Nat.le_trans (by rw [List.length_singleton]; omega : _ ≤ 100) (by decide), ?_⟩
      rw [S_app]
      have g7 := g5.trans g6
      have en7 := g6.1 _ _ nmh.1 (s5 _ _ en)
      have ed7 := g6.1 _ _ dph.1 (s5 _ _ ed)
      have hp7 : PG.Prt K G6 kvs ps := by
        obtain ⟨cells, i', held, st', k', h1, _⟩ := (g.2.same s5)
        refine Paired.mapP (hp.same s5) fun _ _ z => ⟨z.1, PG.dp_mono (sqT_butL h1 g6.1) _ _ (by simpa [PG.noL] using PG.noL_L _) z.2⟩
      walk_at "g"
      refine ⟨by walk_at "sz", fun rm hrm => ?_⟩
      have rm2 := g7.2.ne hrm
      have rmH : H rm = none := g7.free rm2.1 hrm
      have nmr : nm ≠ rm := ne_of_none en7 hrm
      have dpr : dp ≠ rm := ne_of_none ed7 hrm
      have fr : Rm h c rm (upd G6 rm (.lst [.int 3])) := ⟨g7.2.put rm2, ⟨3, upd_same⟩, rm2.1, rm2.2⟩
      have s7 : Same G6 (upd G6 rm (.lst [.int 3])) := Same.new hrm
      generalize upd G6 rm (.lst [.int 3]) = G7 at fr s7
      walk_at "g"
      have pl := st.len
      have kl := hp.len
      refine ⟨h, c, nm, rm, d, ps.map Prod.fst, PG.look ps, 2 * i, rfl, ⟨hd, d0, fr, s7 _ _ en7, nmh.1, nmr, by rw [List.length_map]; omega, st.rb⟩, fun u b G8 m8 bu b3 bg => ?_⟩
      have en8 := m8.1 _ _ nmh.1 nmr (s7 _ _ en7)
      have ed8 := m8.1 _ _ dph.1 dpr (s7 _ _ ed7)
      have g8 : Go h c H G8 := ⟨fun b o nb hb => m8.1 _ _ nb (ne_of_none hb rmH) (s7 _ _ (g7.1 _ _ nb hb)), m8.2.1⟩
      have hp8 : PG.Prt K G8 kvs ps := Paired.mapP (hp7.same s7) fun _ _ z => ⟨z.1, fr.blk m8 z.2⟩
      have kn : ∀ kv ∈ kvs, kv.1 ≠ Sum.inr (S ((112 + i) :: e)) := fun kv hkv e1 => by
        obtain ⟨j, hj, ej⟩ := List.getElem_of_mem hkv
        obtain ⟨n, b', h1, h2, _⟩ := GO.prt_get hp (i := j) (k := kv.1) (v := kv.2) (by rw [List.getElem?_eq_getElem hj, ej])
        rw [h2] at e1
        exact st.fst_ne e _ (List.mem_of_getElem? h1) (S_inj (Sum.inr.inj e1))
      walk_at "g"
      refine GO.dputR ed8 (by omega) ?_
      rw [putK_new kn]
      have en9 : upd G8 dp (.dK (kvs ++ [(Sum.inr (S ((112 + i) :: e)), u)])) nm = some (.lst (nmV (ps.map Prod.fst))) := upd_oth en8 nd
      walk_at "g"
      refine GO.app en9 (by unfold nmV; rw [List.length_map, List.length_map]; omega) ?_
      have st9 := GO.sqT_at (K := K) (u := .dK (kvs ++ [(Sum.inr (S ((112 + i) :: e)), u)])) ed8
      have st10 := GO.sqT_off (K := K) (y := nmV (ps.map Prod.fst) ++ [.str (S ((112 + i) :: e))]) en9
      refine ⟨_, _, kvs ++ [(Sum.inr (S ((112 + i) :: e)), u)], ps ++ [((112 + i) :: e, b)], rfl, (g8.put hH dpH).put hH hnm, ?_, upd_oth upd_same nd.symm, ?_, st.next he b3 bg⟩
      · rw [upd_same, List.map_append]; unfold nmV; rw [List.map_append]; rfl
      · refine paired_snoc (Paired.mapP hp8 fun _ _ z => ⟨z.1, PG.dp_mono (fun a zs x => st10 a zs (st9 a zs x)) _ _ (by simpa [PG.noL] using PG.noL_L _) z.2⟩) ⟨rfl, PG.dp_mono (fun a zs x => st10 a zs (st9 a zs x)) _ _ (by simpa [PG.noL] using PG.noL_L _) bu⟩
    · rintro σ' G ⟨y4, y5, kvs, ps, rfl, g, en, ed, hp, st⟩
      walk_at "g"
      refine fin dp kvs ps G g dpH ed hp ⟨⟨by have := st.len; omega, st.nd, fun p hp => ?_, fun p hp => ?_, fun m => m.headD 0, fun p hp x hx => ?_⟩, fun p hp => ?_, fun p hp => ?_, by have := st.len; omega, fun p hp => ?_⟩
      · obtain ⟨j, hj, ej⟩ := List.getElem_of_mem hp
        obtain ⟨en, h1, h2⟩ := st.nam j p (by rw [List.getElem?_eq_getElem hj, ej])
        obtain ⟨h3, h4⟩ := ends_ok en h1
        have := st.len
        rw [h2]
        refine ⟨(fun z => nomatch z), (by rw [List.length_cons]; omega), fun c hc => ?_⟩
        rcases List.mem_cons.mp hc with q | q
        · omega
        · exact h4 c q
      · obtain ⟨j, hj, ej⟩ := List.getElem_of_mem hp
        obtain ⟨b3, hb⟩ := st.blk j p (by rw [List.getElem?_eq_getElem hj, ej])
        have := st.len
        refine ⟨⟨by omega, fun t ht => (hb t ht).r.le (by omega)⟩, ?_, ?_⟩
        · exact Nat.le_trans (PG.depL_le.mpr fun t ht => (hb t ht).dep) (by decide)
        · exact Nat.le_trans (few3 hb b3) (by decide)
      · obtain ⟨j, hj, ej⟩ := List.getElem_of_mem hp
        obtain ⟨b3, hb⟩ := st.blk j p (by rw [List.getElem?_eq_getElem hj, ej])
        obtain ⟨t, ht, hxt⟩ := PG.nmL_mem hx
        have mem := (hb t ht).nam x hxt
        obtain ⟨p', hp', rfl⟩ := List.mem_map.mp mem
        obtain ⟨b', e1, _⟩ := st.rb p'.1 (List.mem_map.mpr ⟨p', List.mem_of_mem_take hp', rfl⟩)
        refine ⟨?_, by rw [e1]; rfl⟩
        obtain ⟨k, hk, ek⟩ := List.getElem_of_mem hp'
        rw [List.length_take] at hk
        rw [List.getElem_take] at ek
        obtain ⟨en, _, h2⟩ := st.nam j p (by rw [List.getElem?_eq_getElem hj, ej])
        obtain ⟨en', _, h2'⟩ := st.nam k p' (by rw [List.getElem?_eq_getElem (by omega), ek])
        rw [h2, h2']
        show 112 + k < 112 + j
        omega
      · obtain ⟨j, hj, ej⟩ := List.getElem_of_mem hp
        obtain ⟨b3, hb⟩ := st.blk j p (by rw [List.getElem?_eq_getElem hj, ej])
        have := st.len
        exact ⟨by omega, fun t ht => (hb t ht).r.le (by omega)⟩
      · obtain ⟨j, hj, ej⟩ := List.getElem_of_mem hp
        obtain ⟨b3, hb⟩ := st.blk j p (by rw [List.getElem?_eq_getElem hj, ej])
        exact PG.depL_le.mpr fun t ht => (hb t ht).dep
      · obtain ⟨j, hj, ej⟩ := List.getElem_of_mem hp
        obtain ⟨en, _, h2⟩ := st.nam j p (by rw [List.getElem?_eq_getElem hj, ej])
        have := st.len
        exact ⟨112 + j, en, h2, by omega, by omega⟩

theorem keys_nm {K : PySem.W.Frag} {H : Hp} : ∀ {kvs : List (L2.Key × V)} {ps : List (List Nat × List PG.T)}, PG.Prt K H kvs ps → (kvs.map fun kv => match kv.1 with | Sum.inl i => V.int i | Sum.inr x => V.str x) = nmV (ps.map Prod.fst)
  | _, _, .nil => rfl
  | kv :: kvs, p :: ps, .cons r t => by
    obtain ⟨k, v⟩ := kv
    obtain ⟨r1, _⟩ := r
    dsimp only at r1
    subst r1
    have := keys_nm t
    unfold nmV at this ⊢
    rw [List.map_cons, List.map_cons, List.map_cons, this]
/-- a body that is drawn -/
structure Body (d : List Nat) (ps : List (List Nat × List PG.T)) (b : List PG.T) : Prop where
  l : b.length ≤ 4
  r : ∀ t ∈ b, PG.R d (PG.look ps) 12 t ∧ PG.depS t ≤ 3
  z1 : (PG.szB b).1 ≤ 38
  z2 : (PG.szB b).2 ≤ 120
def sp_drawn (K : PySem.W.Frag) : Sp := fun vs H Q _ => ∃ (h c : Addr) (n r : Nat), vs = [.ref h, .int n, .int r] ∧ Hand H h c ∧ 1 ≤ n ∧ n ≤ 26 ∧
  ∀ (w dp : Addr) (d : List Nat) (kvs : List (L2.Key × V)) (ps : List (List Nat × List PG.T)) (b : List PG.T) (v : V) (H' : Hp), Go h c H H' → H dp = none → H' w = some (.tup [.str (S d), .ref dp, v]) → H' dp = some (.dK kvs) → PG.Prt K H' kvs ps → Deeds d → d ≠ [] → d.length ≤ n → PDr d ps → PG.Blk K H' v b → Body d ps b → Q (.ref w) H'
theorem ok_drawn (T : Txt K mg A) : FnOk P w K mg base (CX P w) 22 A.a_drawn A.d_drawn ["_law_hand_here", "_law_most", "_law_many"] (sp_drawn K) := by
  refine T.F_drawn.okX sc_drawn (fun vs H Q E h => ?_) (fun cdv Ar outer s H vs Q E hr h => ?_)
  · obtain ⟨_, _, _, _, rfl, _⟩ := h
    rfl
  · obtain ⟨h, c, n, r, rfl, hH, n1, n26, fin⟩ := h
    refine ⟨_, (pss_cons (ps_set (i := 3) sc_drawn.nd rfl (Or.inl rfl) (pe_call (ok_deeds (K := K) T) (hr.mono (by decide)) (by rfl) T.g_deeds T.F_deeds.kp T.b_deeds .nil passF (pa_cons (pv 0) (pa_cons (pv 1) pa_nil))))
      (pss_cons (ps_set (i := 4) sc_drawn.nd rfl (Or.inl rfl) (pe_call (ok_parts_drawn (K := K) T) (hr.mono (by decide)) (by rfl) T.g_parts_drawn T.F_parts_drawn.kp T.b_parts_drawn .nil passF (pa_cons (pv 0) (pa_cons (pv 3) pa_nil))))
      (pss_cons (ps_set (i := 5) sc_drawn.nd rfl (Or.inl rfl) (pe_tup pa_nil))
      (pss_cons (ps_set (i := 6) sc_drawn.nd rfl (Or.inl rfl) (pe_lst (pa_cons (pv 2) pa_nil)))
      (pss_cons (ps_for (passes_of rfl) rfl (pi_range1 (by rfl) T.m_range (pa_cons (pe_op op_add pe_int (pe_call (ok_draw (K := K) T) (hr.mono (by decide)) (by rfl) T.g_draw T.F_draw.kp T.b_draw .nil passF (pa_cons (pv 0) (pa_cons pe_int pa_nil)))) pa_nil)) (pg_name (i := 7) sc_drawn.nd rfl (Or.inl rfl)) (pss_one (ps_if (pt_cmpR op_gt (pe_ix (ixL (K := K) rfl) (pv 6) pe_int (fun _ _ => rfl)) pe_int (nomark _)) (pss_one (ps_set (i := 5) sc_drawn.nd rfl (Or.inl rfl) (pe_op (op_catOwn (K := K) rfl) (pv 5) (pe_tup (pa_cons (pe_call (ok_statement (K := K) T) (hr.mono (by decide)) (by rfl) T.g_statement T.F_statement.kp T.b_statement .nil passF (pa_cons (pv 0) (pa_cons (pv 3) (pa_cons (pe_callTy (call_listD rfl) (by rfl) T.m_list bt_list (pa_cons (pv 4) pa_nil)) (pa_cons (pv 6) (pa_cons pe_int pa_nil)))))) pa_nil))))) pss_nil)))
      (pss_cons (ps_set (i := 8) sc_drawn.nd rfl (Or.inl rfl) (pe_call (ok_sizes (K := K) T) hr (by rfl) T.g_sizes T.F_sizes.kp T.b_sizes .nil passF (pa_cons (pv 5) (pa_cons (pv 4) pa_nil))))
      (C8.pss_cut (ps_if (pt_mid (PW.pt (pw_or (pt_cmpR op_gt (pe_ix (ixT (K := K) rfl) (pv 8) pe_int (fun _ _ => rfl)) pe_int (nomark _)) (pw_or1 (pt_cmpR op_gt (pe_ix (ixT (K := K) rfl) (pv 8) pe_int (fun _ _ => rfl)) pe_int (nomark _)))))) (pss_cons (ps_set (i := 5) sc_drawn.nd rfl (Or.inl rfl) (pe_slice (slTA (K := K) rfl) (pv 5) po_none (po_some pe_int)))
      (pss_one (ps_set (i := 8) sc_drawn.nd rfl (Or.inl rfl) (pe_call (ok_sizes (K := K) T) hr (by rfl) T.g_sizes T.F_sizes.kp T.b_sizes .nil passF (pa_cons (pv 5) (pa_cons (pv 4) pa_nil)))))) pss_nil)
      (C8.pss_cut (ps_if (pt_mid (PW.pt (pw_or (pt_cmpR op_gt (pe_ix (ixT (K := K) rfl) (pv 8) pe_int (fun _ _ => rfl)) pe_int (nomark _)) (pw_or1 (pt_cmpR op_gt (pe_ix (ixT (K := K) rfl) (pv 8) pe_int (fun _ _ => rfl)) pe_int (nomark _)))))) (pss_one (ps_set (i := 5) sc_drawn.nd rfl (Or.inl rfl) (pe_tup (pa_cons (pe_tup (pa_cons pe_str (pa_cons (pe_call (ok_row (K := K) T) (hr.mono (by decide)) (by rfl) T.g_row T.F_row.kp T.b_row .nil passF (pa_cons (pv 0) (pa_cons (pv 3) (pa_cons pe_int pa_nil)))) pa_nil))) pa_nil)))) pss_nil)
      (pss_one (ps_ret (pe_tup (pa_cons (pv 3) (pa_cons (pv 4) (pa_cons (pv 5) pa_nil)))))))))))))), ?_⟩
    walk_at "g"
    refine ⟨h, c, n, rfl, hH, n1, n26, fun d H1 hd d0 dn g1 => ?_⟩
    walk_at "g"
    refine ⟨h, c, d, rfl, g1.2, hd, d0, fun dp kvs ps H2 g2 hdp ed hp pdr => ?_⟩
    have dph := g1.2.ne hdp
    have dpH := g1.free dph.1 hdp
    walk_at "g"
    refine ⟨by walk_at "sz", fun p0 hp0 => ?_⟩
    have p0n := g2.2.ne hp0
    have s3 := Same.new (o := .tup []) hp0
    have e3 : upd H2 p0 (.tup []) p0 = some (.tup []) := upd_same
    generalize upd H2 p0 (.tup []) = H3 at s3 e3
    walk_at "g"
    refine ⟨by walk_at "sz", fun rm hrm => ?_⟩
    have g3 : Go h c H H3 := (g1.trans g2).same s3
    have rm2 := g3.2.ne hrm
    have rmH := g3.free rm2.1 hrm
    have fr : Rm h c rm (upd H3 rm (.lst [.int r])) := ⟨g3.2.put rm2, ⟨r, upd_same⟩, rm2.1, rm2.2⟩
    have s4 : Same H3 (upd H3 rm (.lst [.int r])) := Same.new hrm
    have dpr : dp ≠ rm := ne_of_none (s3 _ _ ed) hrm
    generalize upd H3 rm (.lst [.int r]) = H4 at fr s4
    walk_at "g"
    refine ⟨h, c, 4, rfl, fr.1, by omega, by omega, fun k0 H5 k00 k01 g5 => ?_⟩
    obtain ⟨k, rfl⟩ : ∃ k : Nat, k0 = k := ⟨k0.toNat, by omega⟩
    have m5 := fr.go g5
    walk_at "g"
    refine GO.itR (1 + k) (by omega) (by omega) (by omega) ?_
    have pok : ∀ m ∈ ps.map Prod.fst, ∃ b, PG.look ps m = some b ∧ PG.RB_ d (PG.look ps) 8 b := fun m hm => by
      obtain ⟨p, hp', rfl⟩ := List.mem_map.mp hm
      obtain ⟨j, hj, ej⟩ := List.getElem_of_mem hp'
      exact ⟨p.2, GO.look_at pdr.ok.nd (i := j) (by rw [List.getElem?_eq_getElem hj, ej]), pdr.rb p hp'⟩
    have p4 := pdr.ok.len
    refine GO.forI (walk_range (lo := 0) (n := 1 + k)) (fun i σ' G => ∃ (y7 : Option V) (u : V) (b : List PG.T), σ' = [some (V.ref h), some (V.int n), some (V.int r), some (V.str (S d)), some (V.ref dp), some u, some (V.ref rm), y7, none] ∧ Mw h c rm H4 G ∧ PG.Blk K G u b ∧ b.length ≤ i ∧ ∀ t ∈ b, PG.R d (PG.look ps) 12 t ∧ PG.depS t ≤ 3)
      ⟨none, .ref p0, [], rfl, m5, .tup (SqT.of (m5.1 _ _ p0n.1 (ne_of_none e3 hrm) (s4 _ _ e3))) .nil, Nat.le_refl _, fun t z => nomatch z⟩ (fun _ _ _ _ _ => trivial) ?_ ?_
    · rintro i x σ' G G' hi ⟨y7, u, b, rfl, mg, bu, bl, bg⟩ ⟨rfl, rfl⟩
      obtain ⟨hh, ⟨rr, er⟩, q1, q2⟩ := id mg.2
      walk_at "g"
      have edG := mg.1 _ _ dph.1 dpr (s4 _ _ (s3 _ _ ed))
      refine iteD (fun pos => ?_) (fun neg => ?_)
      · walk_at "g"
        refine ⟨dp, kvs, rfl, .inl edG, fun nm hnm => ?_⟩
        have nmn := mg.2.1.ne hnm
        have nmr : nm ≠ rm := (ne_of_none er hnm).symm
        have ek := keys_nm hp
        generalize hl : List.map _ kvs = ks
        have hks : ks = nmV (ps.map Prod.fst) := by rw [← hl]; exact ek
        subst hks
        clear hl
        have enm : upd G' nm (.lst (nmV (ps.map Prod.fst))) nm = some (.lst (nmV (ps.map Prod.fst))) := upd_same
        have mN := mg.2.same (Same.new (o := .lst (nmV (ps.map Prod.fst))) hnm)
        generalize upd G' nm (.lst (nmV (ps.map Prod.fst))) = G1 at enm mN
        walk_at "g"
        refine ⟨h, c, nm, rm, d, ps.map Prod.fst, PG.look ps, 8, rfl, ⟨hd, d0, mN.2, enm, nmn.1, nmr, by rw [List.length_map]; exact p4, pok⟩, fun u2 t G2 m3 st gd => ?_⟩
        walk_at "g"
        refine ⟨by walk_at "sz", fun p2 hp2 => ?_⟩
        obtain ⟨a, xs, rfl, hx, xl, da⟩ := (mN.2.blk m3 (mg.2.blk mN bu)).open_
        have s5 : Same G2 (upd G2 p2 (.tup [u2])) := Same.new hp2
        refine GO.catA (PG.sqT_same s5 hx) (SqT.of upd_same) (by rw [xl]; simp only [List.length_singleton]; omega) fun p3 G3 s6 hp3 => ?_
        walk_at "g"
        have s56 := s5.trans s6
        refine ⟨_, .ref p3, b ++ [t], rfl, ((mg.trans mN).trans m3).trans (m3.2.same s56), ?_, by rw [List.length_append]; simp only [List.length_singleton]; omega, fun t' ht' => ?_⟩
        · refine .tup hp3 ?_
          rw [PG.dL_map, List.map_append, ← PG.dL_map]
          exact PG.dpAll_snoc (PG.dpAll_same s56 _ _ da) (PG.dp_same s56 _ _ st)
        · rcases List.mem_append.mp ht' with z | z
          · exact bg t' z
          · rw [List.mem_singleton.mp z]; exact ⟨gd.r, gd.dep⟩
      · walk_at "g"
        exact ⟨_, u, b, rfl, mg, bu, by omega, bg⟩
    · rintro σ' G ⟨y7, u, b, rfl, mg, bu, bl, bg⟩
      walk_at "g"
      have edG := mg.1 _ _ dph.1 dpr (s4 _ _ (s3 _ _ ed))
      have hpG : PG.Prt K G kvs ps := Paired.mapP ((hp.same s3).same s4) fun _ _ z => ⟨z.1, fr.blk mg z.2⟩
      have gG : Go h c H G := ⟨fun x o nx hx => mg.1 _ _ nx (ne_of_none hx rmH) (s4 _ _ (g3.1 _ _ nx hx)), mg.2.1⟩
      have right : ∀ b' : List PG.T, b'.length ≤ 4 → (∀ t ∈ b', PG.R d (PG.look ps) 12 t ∧ PG.depS t ≤ 3) → PG.RB_ d (PG.look ps) 20 b' := fun b' l r => ⟨by omega, fun t ht => (r t ht).1.le (by decide)⟩
      refine ⟨dp, u, d, kvs, ps, b, rfl, .inl edG, hpG, bu, right b (by omega) bg, fun z1 G1 s1 dz => ?_⟩
      obtain ⟨zt, za, zb, rfl, hzt, dz1, dz2⟩ := PG.two dz
      rw [PG.dp_int dz1, PG.dp_int dz2] at hzt
      walk_at "g"
      refine GO.cutM (fun σ2 G2 => ∃ (u' : V) (b' : List PG.T) (zt' : Addr), σ2 = [some (V.ref h), some (V.int n), some (V.int r), some (V.str (S d)), some (V.ref dp), some u', some (V.ref rm), y7, some (V.ref zt')] ∧ Same G G2 ∧ PG.Blk K G2 u' b' ∧ b'.length ≤ 4 ∧ (∀ t ∈ b', PG.R d (PG.look ps) 12 t ∧ PG.depS t ≤ 3) ∧ SqT K G2 zt' [.int (PG.szB b').1, .int (PG.szB b').2]) ?_ ?_
      · refine ⟨fun c' G' => c' = decide (¬ ((PG.szB b).1 ≤ 38 ∧ (PG.szB b).2 ≤ 120)) ∧ G' = G1, ?_, ?_⟩
        · by_cases big : 38 < (PG.szB b).1
          · walk_at "g"
            exact ⟨by rw [decide_eq_true (by omega)], rfl⟩
          · walk_at "g"
            refine ⟨?_, rfl⟩
            by_cases b2 : 120 < (PG.szB b).2
            · rw [decide_eq_true (by omega), decide_eq_true (by omega)]
            · rw [decide_eq_false (by omega), decide_eq_false (by omega)]
        rintro c' G' ⟨rfl, rfl⟩
        by_cases fits : (PG.szB b).1 ≤ 38 ∧ (PG.szB b).2 ≤ 120
        · rw [decide_eq_false (fun z => z fits)]
          walk_at "g"
          exact ⟨u, b, zt, rfl, s1, bu.same s1, by omega, bg, hzt⟩
        · rw [decide_eq_true fits]
          obtain ⟨a, xs, rfl, hx, xl, da⟩ := (bu.same s1).open_
          walk_at "g"
          refine GO.cutN 1 rfl hx fun p2 G2 s2 h2 => ?_
          walk_at "g"
          have bt : PG.Blk K G2 (.ref p2) (b.take 1) := .tup h2 (by
            rw [PG.dL_map, List.map_take, ← PG.dL_map]
            exact PG.dpAll_take 1 (PG.dpAll_same s2 _ _ da))
          have r1 : ∀ t ∈ b.take 1, PG.R d (PG.look ps) 12 t ∧ PG.depS t ≤ 3 := fun t ht => bg t (List.mem_of_mem_take ht)
          have l1 : (b.take 1).length ≤ 4 := by rw [List.length_take]; omega
          have s12 := s1.trans s2
          refine ⟨dp, .ref p2, d, kvs, ps, b.take 1, rfl, .inl (s12 _ _ edG), hpG.same s12, bt, right _ l1 r1, fun z2 G3 s3' dz' => ?_⟩
          obtain ⟨zt2, zc, zd, rfl, hzt2, dz3, dz4⟩ := PG.two dz'
          rw [PG.dp_int dz3, PG.dp_int dz4] at hzt2
          walk_at "g"
          exact ⟨.ref p2, b.take 1, zt2, rfl, s12.trans s3', bt.same s3', l1, r1, hzt2⟩
      · rintro σ2 G2 ⟨u', b', zt', rfl, s2, bu', bl', br', hz'⟩
        have g2' := gG.same s2
        have ed2 := s2 _ _ edG
        have hp2 := hpG.same s2
        refine GO.cutM (fun σ3 G3 => ∃ (u3 : V) (b3 : List PG.T), σ3 = [some (V.ref h), some (V.int n), some (V.int r), some (V.str (S d)), some (V.ref dp), some u3, some (V.ref rm), y7, some (V.ref zt')] ∧ Go h c H G3 ∧ G3 dp = some (.dK kvs) ∧ PG.Prt K G3 kvs ps ∧ PG.Blk K G3 u3 b3 ∧ Body d ps b3) ?_ ?_
        · refine ⟨fun c' G' => c' = decide (¬ ((PG.szB b').1 ≤ 38 ∧ (PG.szB b').2 ≤ 120)) ∧ G' = G2, ?_, ?_⟩
          · by_cases big : 38 < (PG.szB b').1
            · walk_at "g"
              exact ⟨by rw [decide_eq_true (by omega)], rfl⟩
            · walk_at "g"
              refine ⟨?_, rfl⟩
              by_cases b2 : 120 < (PG.szB b').2
              · rw [decide_eq_true (by omega), decide_eq_true (by omega)]
              · rw [decide_eq_false (by omega), decide_eq_false (by omega)]
          rintro c' G' ⟨rfl, rfl⟩
          by_cases fits : (PG.szB b').1 ≤ 38 ∧ (PG.szB b').2 ≤ 120
          · rw [decide_eq_false (fun z => z fits)]
            walk_at "g"
            exact ⟨u', b', rfl, g2', ed2, hp2, bu', ⟨bl', br', fits.1, fits.2⟩⟩
          · rw [decide_eq_true fits]
            walk_at "g"
            refine ⟨h, c, d, 3, rfl, g2'.2, hd.L, d0, Nat.le_trans hd.len (by decide), by decide, fun l G3 el hl hod g3' => ?_⟩
            walk_at "g"
            refine ⟨by walk_at "sz", fun p1 hp1 => ?_⟩
            walk_at "g"
            refine ⟨by walk_at "sz", fun p2 hpp2 => ?_⟩
            walk_at "g"
            have s4' : Same G3 (upd (upd G3 p1 (.tup [.str "do", .str (S l)])) p2 (.tup [.ref p1])) := (Same.new hp1).trans (Same.new hpp2)
            have gall := (g2'.trans g3').same s4'
            have sm : PG.Stm K (upd (upd G3 p1 (.tup [.str "do", .str (S l)])) p2 (.tup [.ref p1])) (.ref p1) (.dot l) := GO.stm_mk (SqT.of (upd_old upd_same hpp2)) (.str _)
            have ds : PG.szB [.dot l] = (2, 3) := by simp [PG.szB, PG.szL, PG.szS, el]
            refine ⟨.ref p2, [.dot l], rfl, gall, s4' _ _ (g3'.1 _ _ dph.1 ed2), ?_, .tup (SqT.of upd_same) (by rw [PG.dL_map]; exact .cons sm .nil), ⟨by simp, fun t ht => ?_, by rw [ds]; decide, by rw [ds]; decide⟩⟩
            · obtain ⟨cells, i', held, st', k', h1, _⟩ := g2'.2
              exact Paired.mapP hp2 fun _ _ z => ⟨z.1, PG.Blk.same s4' (PG.dp_mono (sqT_butL h1 g3'.1) _ _ (by simpa [PG.noL] using PG.noL_L _) z.2)⟩
            · rw [List.mem_singleton.mp ht]
              exact ⟨.dot hl (over_of hd hod) (by omega), by simp only [PG.depS]; exact Nat.zero_le _⟩
        · rintro σ3 G3 ⟨u3, b3, rfl, g3', ed3, hp3, bu3, bd3⟩
          walk_at "g"
          refine ⟨by walk_at "sz", fun w hw => ?_⟩
          exact fin w dp d kvs ps b3 u3 _ (g3'.same (Same.new hw)) dpH upd_same (upd_old ed3 hw) (hp3.same (Same.new hw)) hd d0 dn pdr (bu3.same (Same.new hw)) bd3

def rowsV (rs : List (List Nat)) : List V := rs.map fun r => V.str (S r)
theorem rowsV_at {rs : List (List Nat)} {i : Nat} {x : V} (h : (rowsV rs)[i]? = some x) : ∃ r, rs[i]? = some r ∧ x = .str (S r) := by
  unfold rowsV at h
  rw [List.getElem?_map] at h
  obtain ⟨r, h1, h2⟩ := Option.map_eq_some_iff.mp h
  exact ⟨r, h1, h2.symm⟩
theorem rowsV_len (rs : List (List Nat)) : (rowsV rs).length = rs.length := by unfold rowsV; rw [List.length_map]
def sp_prods (K : PySem.W.Frag) : Sp := fun vs H Q _ => ∃ (a b : Addr) (rs xs : List (List Nat)) (m : Nat), vs = [.ref a, .ref b, .int m] ∧ SqL K H a (rowsV rs) ∧ SqL K H b (rowsV xs) ∧ rs.length ≤ 200 ∧ xs.length ≤ 200 ∧ (∀ r ∈ rs, r.length ≤ 100) ∧ (∀ r ∈ xs, r.length ≤ 100) ∧
  ∀ p H', Same H H' → H' p = some (.lst (rowsV (PG.prods rs xs m))) → Q (.ref p) H'
theorem ok_products (T : Txt K mg A) : FnOk P w K mg base (CX P w) 1 A.a_products A.d_products ["_law_ones", "_law_others", "_law_most"] (sp_prods K) := by
  refine T.F_products.okX sc_products (fun vs H Q E h => ?_) (fun cdv Ar outer s H vs Q E hr h => ?_)
  · obtain ⟨_, _, _, _, _, rfl, _⟩ := h
    rfl
  · obtain ⟨a, b, rs, xs, m, rfl, ha, hb, l1, l2, k1, k2, fin⟩ := h
    refine ⟨_, (pss_cons (ps_set (i := 3) sc_products.nd rfl (Or.inl rfl) pe_dnewK)
      (pss_cons (ps_for (passes_of rfl) rfl (piL (K := K) rfl (pv 0)) (pg_name (i := 4) sc_products.nd rfl (Or.inl rfl)) (pss_one (ps_for (passes_of rfl) rfl (piL (K := K) rfl (pv 1)) (pg_name (i := 5) sc_products.nd rfl (Or.inl rfl)) (pss_one (ps_if (pt_cmpR op_le (pe_op op_add (pe_callB clenS (by rfl) T.m_len bt_len (pa_cons (pv 4) pa_nil)) (pe_callB clenS (by rfl) T.m_len bt_len (pa_cons (pv 5) pa_nil))) (pv 2) (nomark _)) (pss_one (ps_dput (hu_of hr) (pv 3) (pe_op op_add_str (pv 4) (pv 5)) pe_bl rfl)) pss_nil)))))
      (pss_one (ps_ret (pe_callTy (call_listD rfl) (by rfl) T.m_list bt_list (pa_cons (pv 3) pa_nil)))))), ?_⟩
    walk_at "g"
    refine GO.dnew fun q hq => ?_
    have s1 := Same.new (o := .dK []) hq
    have e1 : upd H q (.dK []) q = some (.dK (PG.DK [])) := upd_same
    generalize upd H q (.dK []) = H1 at s1 e1
    have ha1 := PG.sqL_same s1 ha
    have hb1 := PG.sqL_same s1 hb
    walk_at "g"
    refine GO.forI (walk_list (xs := rowsV rs)) (fun i σ' G => ∃ (y4 y5 : Option V) (ks : List (List Nat)), σ' = [some (.ref a), some (.ref b), some (.int m), some (.ref q), y4, y5] ∧ Same H G ∧ G q = some (.dK (PG.DK ks)) ∧ ks.length ≤ 200 * i ∧ ks = (rs.take i).foldl (fun ks u => xs.foldl (PG.addR m u) ks) [])
      ⟨none, none, [], rfl, s1, e1, Nat.zero_le _, rfl⟩ (fun i σ' G _ z => by obtain ⟨_, _, _, _, s, _⟩ := z; exact PG.sqL_same s ha) ?_ ?_
    · rintro i x σ' G0 G hi ⟨y4, y5, ks, rfl, sG, eG, kl, ek⟩ ⟨e0, hx⟩
      subst e0
      obtain ⟨u, hu, rfl⟩ := rowsV_at hx
      rw [rowsV_len] at hi
      have hbG := PG.sqL_same sG hb
      have u1 := k1 u (List.mem_of_getElem? hu)
      walk_at "g"
      refine GO.forI (walk_list (xs := rowsV xs)) (fun j σ' G => ∃ (y5 : Option V) (ls : List (List Nat)), σ' = [some (.ref a), some (.ref b), some (.int m), some (.ref q), some (.str (S u)), y5] ∧ Same H G ∧ G q = some (.dK (PG.DK ls)) ∧ ls.length ≤ 200 * i + j ∧ ls = (xs.take j).foldl (PG.addR m u) ks)
        ⟨y5, ks, rfl, sG, eG, kl, rfl⟩ (fun i σ' G _ z => by obtain ⟨_, _, _, s, _⟩ := z; exact PG.sqL_same s hb) ?_ ?_
      · rintro j x σ' G0 G hj ⟨y5, ls, rfl, sG, eG, ll, el⟩ ⟨e0, hx⟩
        subst e0
        obtain ⟨v, hv, rfl⟩ := rowsV_at hx
        rw [rowsV_len] at hj
        have v1 := k2 v (List.mem_of_getElem? hv)
        have su : (S u).length = u.length := S_len u
        have sv : (S v).length = v.length := S_len v
        have le : ls.length ≤ 1000000 := by omega
        have nx : (PG.addR m u ls v) = (xs.take (j + 1)).foldl (PG.addR m u) ks := by rw [take_one hv, List.foldl_append, ← el]; rfl
        walk_at "g"
        by_cases c : u.length + v.length ≤ m
        · walk_at "g"
          refine ⟨_, _, rfl, rfl, by rw [S_len, S_len]; exact Nat.le_trans (by omega : _ ≤ 1000) (by decide), ?_⟩
          rw [S_app]
          refine GO.dputR eG (by rw [PG.DK_len]; exact le) ?_
          rw [PG.put_DK]
          refine ⟨_, PG.addR m u ls v, rfl, Same.mut hq sG, ?_, ?_, nx⟩
          · unfold PG.addR; rw [if_pos c]; exact upd_same
          · unfold PG.addR PG.ins; rw [if_pos c]; split
            · omega
            · rw [List.length_append, List.length_singleton]; omega
        · walk_at "g"
          refine ⟨_, PG.addR m u ls v, rfl, sG, ?_, ?_, nx⟩
          · unfold PG.addR; rw [if_neg c]; exact eG
          · unfold PG.addR; rw [if_neg c]; omega
      · rintro σ' G ⟨y5, ls, rfl, sG, eG, ll, el⟩
        rw [rowsV_len] at el ll
        rw [List.take_length] at el
        refine ⟨_, _, _, rfl, sG, eG, by omega, ?_⟩
        rw [take_one hu, List.foldl_append, ← ek, el]; rfl
    · rintro σ' G ⟨y4, y5, ks, rfl, sG, eG, kl, ek⟩
      rw [rowsV_len] at ek kl
      rw [List.take_length] at ek
      walk_at "g"
      refine ⟨q, _, rfl, .inl eG, fun p hp => ?_⟩
      have ev : (PG.DK ks).map (fun kv => match kv.1 with | Sum.inl i => V.int i | Sum.inr x => V.str x) = rowsV (PG.prods rs xs m) := by
        unfold PG.DK rowsV
        rw [List.map_map, ek]; rfl
      have fin2 := fin p (upd G p (.lst (rowsV (PG.prods rs xs m)))) (sG.trans (Same.new hp)) upd_same
      rw [← ev] at fin2
      exact fin2

/-- the rows that are told: each once, those of P of m letters at most -/
def RowsAt (H : Hp) (p : Addr) (rs : List (List Nat)) (P : List Nat → Prop) (m : Nat) : Prop := H p = some (.lst (rowsV rs)) ∧ rs.Nodup ∧ ∀ w, w ∈ rs ↔ P w ∧ w.length ≤ m
theorem RowsAt.same {H H' : Hp} {p : Addr} {rs : List (List Nat)} {P : List Nat → Prop} {m : Nat} (x : RowsAt H p rs P m) (s : Same H H') : RowsAt H' p rs P m := ⟨s _ _ x.1, x.2⟩
/-- how many letters a row may have, that rows be few -/
def Few (d : List Nat) (m : Nat) : Prop := m ≤ 6 ∧ PG.manyW (2 * d.length) m ≤ 200
def sp_lrb (K : PySem.W.Frag) (n : Nat) : Sp := fun vs H Q _ => ∃ (q : Addr) (v : V) (d : List Nat) (kvs : List (L2.Key × V)) (ps : List (List Nat × List PG.T)) (b : List PG.T) (m : Nat), vs = [v, .ref q, .int m] ∧ Rd H q (.dK kvs) ∧ PG.Prt K H kvs ps ∧ PG.Blk K H v b ∧ PG.RB_ d (PG.look ps) n b ∧ Few d m ∧
  ∀ p rs H', Same H H' → RowsAt H' p rs (PG.LgL b) m → Q (.ref p) H'
def sp_lrs (K : PySem.W.Frag) (n : Nat) : Sp := fun vs H Q _ => ∃ (q : Addr) (v : V) (d : List Nat) (kvs : List (L2.Key × V)) (ps : List (List Nat × List PG.T)) (t : PG.T) (m : Nat), vs = [v, .ref q, .int m] ∧ Rd H q (.dK kvs) ∧ PG.Prt K H kvs ps ∧ PG.Stm K H v t ∧ PG.R d (PG.look ps) n t ∧ Few d m ∧
  ∀ p rs H', Same H H' → RowsAt H' p rs (PG.LgS t) m → Q (.ref p) H'
abbrev F_rb (P : Program) (w : World) (K : PySem.W.Frag) (mg : Str → Option Value) (base : Heap) (A : Ad) (n : Nat) : Prop := FnOk P w K mg base (CX P w) (2 * n + 27) A.a_rows A.d_rows ["_law_block_here", "_law_parts", "_law_most"] (sp_lrb K n)
abbrev F_rs (P : Program) (w : World) (K : PySem.W.Frag) (mg : Str → Option Value) (base : Heap) (A : Ad) (n : Nat) : Prop := FnOk P w K mg base (CX P w) (2 * n + 26) A.a_statement_rows A.d_statement_rows ["_law_statement_here", "_law_parts", "_law_most"] (sp_lrs K n)
theorem rows_few {d : List Nat} {ps : List (List Nat × List PG.T)} {n m : Nat} {b : List PG.T} {rs : List (List Nat)} (r : ∀ s ∈ b, PG.R d (PG.look ps) n s) (f : Few d m) (nd : rs.Nodup) (h : ∀ w ∈ rs, PG.LgL b w ∧ w.length ≤ m) : rs.length ≤ 200 :=
  Nat.le_trans (PG.gw_few nd fun w hw => ⟨(h w hw).2, PG.gw_L (fun s hs => PG.gw_S (r s hs)) (h w hw).1⟩) f.2
theorem rb_of (T : Txt K mg A) (n : Nat) (ih_statement_rows : F_rs P w K mg base A n) : F_rb P w K mg base A n := by
  refine T.F_rows.okX sc_rows (fun vs H Q E h => ?_) (fun cdv Ar outer s0 H vs Q E hr h => ?_)
  · obtain ⟨_, _, _, _, _, _, _, rfl, _⟩ := h
    rfl
  · obtain ⟨q, v, d, kvs, ps, b, m, rfl, hq, hp, hb, rb, fw, fin⟩ := h
    obtain ⟨a, xs, rfl, hx, xl, da⟩ := hb.open_
    refine ⟨_, (pss_cons (ps_set (i := 3) sc_rows.nd rfl (Or.inl rfl) (pe_lst (pa_cons pe_str pa_nil)))
      (pss_cons (ps_for (passes_of rfl) rfl (piT (K := K) rfl (pv 0)) (pg_name (i := 4) sc_rows.nd rfl (Or.inl rfl)) (pss_one (ps_set (i := 3) sc_rows.nd rfl (Or.inl rfl) (pe_call (ok_products (K := K) T) (hr.mono (by omega)) (by rfl) T.g_products T.F_products.kp T.b_products .nil passF (pa_cons (pv 3) (pa_cons (pe_call ih_statement_rows (hr.mono (by omega)) (by rfl) T.g_statement_rows T.F_statement_rows.kp T.b_statement_rows .nil passF (pa_cons (pv 4) (pa_cons (pv 1) (pa_cons (pv 2) pa_nil)))) (pa_cons (pv 2) pa_nil)))))))
      (pss_one (ps_ret (pv 3))))), ?_⟩
    walk_at "g"
    refine ⟨by walk_at "sz", fun p hpn => ?_⟩
    have s1 := Same.new (o := .lst [.str ""]) hpn
    have e1 : RowsAt (upd H p (.lst [.str ""])) p [[]] (PG.LgL []) m := ⟨upd_same, by simp, fun w => by simp only [PG.LgL, List.mem_singleton]; exact ⟨fun e => ⟨e, by rw [e]; exact Nat.zero_le _⟩, fun e => e.1⟩⟩
    generalize upd H p (.lst [.str ""]) = H1 at s1 e1
    have hx1 := PG.sqT_same s1 hx
    walk_at "g"
    refine GO.forI (walk_tup (xs := xs)) (fun i σ' G => ∃ (y4 : Option V) (p : Addr) (rs : List (List Nat)), σ' = [some (.ref a), some (.ref q), some (.int m), some (.ref p), y4] ∧ Same H G ∧ RowsAt G p rs (PG.LgL (b.take i)) m)
      ⟨none, p, _, rfl, s1, by rw [List.take_zero]; exact e1⟩ (fun i σ' G _ z => by obtain ⟨_, _, _, _, s, _⟩ := z; exact PG.sqT_same s hx) ?_ ?_
    · rintro i x σ' G0 G hi ⟨y4, p, rs, rfl, sG, ra⟩ ⟨e0, hxi⟩
      subst e0
      obtain ⟨t, ht, stt⟩ := PG.dL_at (PG.dpAll_same sG _ _ da) hxi
      have rt := rb.2 t (List.mem_of_getElem? ht)
      walk_at "g"
      refine ⟨q, x, d, kvs, ps, t, m, rfl, PG.rd_same sG hq, hp.same sG, stt, rt, fw, fun p2 ts G2 s2 ra2 => ?_⟩
      have ra1 := ra.same s2
      have rlen : ∀ {rs : List (List Nat)} {P : List Nat → Prop} {p : Addr}, RowsAt G2 p rs P m → ∀ r ∈ rs, r.length ≤ 100 := fun k r hr => by have := ((k.2.2 r).mp hr).2; have := fw.1; omega
      have f1 : rs.length ≤ 200 := rows_few (b := b.take i) (fun s hs => rb.2 s (List.mem_of_mem_take hs)) fw ra.2.1 fun w hw => (ra.2.2 w).mp hw
      have f2 : ts.length ≤ 200 := rows_few (b := [t]) (fun s hs => by rw [List.mem_singleton.mp hs]; exact rt) fw ra2.2.1 fun w hw => ⟨PG.LgL_one.mpr ((ra2.2.2 w).mp hw).1, ((ra2.2.2 w).mp hw).2⟩
      walk_at "g"
      refine ⟨p, p2, rs, ts, m, rfl, SqL.of ra1.1, SqL.of ra2.1, f1, f2, rlen ra1, rlen ra2, fun p3 G3 s3 e3 => ?_⟩
      walk_at "g"
      refine ⟨_, p3, _, rfl, sG.trans (s2.trans s3), e3, PG.prods_nodup, fun w => ?_⟩
      rw [PG.prods_mem, take_one ht, PG.LgL_app]
      constructor
      · rintro ⟨u, hu, y, hy, rfl, le⟩
        exact ⟨⟨u, y, rfl, ((ra.2.2 u).mp hu).1, PG.LgL_one.mpr ((ra2.2.2 y).mp hy).1⟩, by rw [List.length_append]; exact le⟩
      · rintro ⟨⟨u, y, rfl, h1, h2⟩, le⟩
        rw [List.length_append] at le
        exact ⟨u, (ra.2.2 u).mpr ⟨h1, by omega⟩, y, (ra2.2.2 y).mpr ⟨PG.LgL_one.mp h2, by omega⟩, rfl, le⟩
    · rintro σ' G ⟨y4, p, rs, rfl, sG, ra⟩
      rw [xl, List.take_length] at ra
      walk_at "g"
      exact fin p rs G sG ra

def FF (zs : List (List Nat)) (p : List Nat → Bool) : Nat → List V → Hp → Prop := fun i acc _ => acc = rowsV ((zs.take i).filter p)
theorem offF {D : Addr} {zs : List (List Nat)} {p : List Nat → Bool} : GO.Off D (FF zs p) := fun _ _ _ _ _ _ h => by unfold FF at h ⊢; exact h
theorem ff_len {zs : List (List Nat)} {p : List Nat → Bool} {i : Nat} {acc : List V} {G : Hp} (h : FF zs p i acc G) : acc.length ≤ zs.length := by
  rw [show acc = _ from h, rowsV_len]
  exact Nat.le_trans (List.length_filter_le _ _) (by rw [List.length_take]; exact Nat.min_le_right _ _)
theorem ff_yes {zs : List (List Nat)} {p : List Nat → Bool} {i : Nat} {acc : List V} {G H4 : Hp} {r : List Nat} (h : FF zs p i acc G) (hz : zs[i]? = some r) (e : p r = true) : FF zs p (i + 1) (acc ++ [.str (S r)]) H4 := by
  have h : acc = _ := h
  show _ = _
  rw [take_one hz, List.filter_append, h]
  unfold rowsV
  rw [List.map_append]
  simp [e]
theorem ff_no {zs : List (List Nat)} {p : List Nat → Bool} {i : Nat} {acc : List V} {G H4 : Hp} {r : List Nat} (h : FF zs p i acc G) (hz : zs[i]? = some r) (e : p r = false) : FF zs p (i + 1) acc H4 := by
  have h : acc = _ := h
  show _ = _
  rw [take_one hz, List.filter_append, h]
  simp [e]
theorem ff_end {zs : List (List Nat)} {p : List Nat → Bool} {n : Nat} {acc : List V} {G : Hp} (h : FF zs p n acc G) (e : zs.length ≤ n) : acc = rowsV (zs.filter p) := by
  have h : acc = _ := h
  rw [h, List.take_of_length_le e]
theorem rs_of (T : Txt K mg A) (n : Nat) (spb : Sp) (ih_rows : FnOk P w K mg base (CX P w) (2 * n + 25) A.a_rows A.d_rows ["_law_block_here", "_law_parts", "_law_most"] spb)
    (hb : ∀ m, n = m + 1 → ∀ vs H Q E, sp_lrb K m vs H Q E → spb vs H Q E) : F_rs P w K mg base A n := by
  refine T.F_statement_rows.okX sc_statement_rows (fun vs H Q E h => ?_) (fun cdv Ar outer s0 H vs Q E hr h => ?_)
  · obtain ⟨_, _, _, _, _, _, _, rfl, _⟩ := h
    rfl
  · obtain ⟨q, v, d, kvs, ps, t, m, rfl, hq, hp, hst, rt, fw, fin⟩ := h
    refine ⟨_, (pss_cons (ps_asg (pv 0) (pgT (K := K) (n := 2) rfl rfl (pgs_cons (pg_name (i := 3) sc_statement_rows.nd rfl (Or.inl rfl)) (pgs_cons (pg_name (i := 4) sc_statement_rows.nd rfl (Or.inl rfl)) pgs_nil))))
      (pss_cons (ps_if (pt_cmpR op_eq (pv 3) pe_str (nomark _)) (pss_one (ps_ret (pe_lc (own := [("_law_row_here", 9)]) rfl sc_statement_rows.nd (piL (K := K) rfl (pe_lst (pa_cons (pv 4) pa_nil))) (blkOk_by (N := ["_law_statement_here", "_law_parts", "_law_most", "_law_word", "_law_inner", "_law_rounds", "_law_found", "_law_fresh", "_law_turn", "_law_row_here", "_law_block_here"]) (sc := defScope s_statement_rows) (by decide +kernel)) (fun _ _ _ _ _ => (pg_name (i := 9) sc_statement_rows.nd rfl (Or.inl rfl))) (fun _ _ _ _ _ => (pts_one (pt_cmpR op_le (pe_callB clenS (by rfl) T.m_len bt_len (pa_cons (pv 9) pa_nil)) (pv 2) (nomark _)))) (fun _ _ _ _ _ => (pv 9))))) pss_nil)
      (pss_cons (ps_if (pt_cmpR op_eq (pv 3) pe_str (nomark _)) (pss_one (ps_ret (pe_call ih_rows (hr.mono (by omega)) (by rfl) T.g_rows T.F_rows.kp T.b_rows .nil passF (pa_cons (pe_dget (hu_of hr) (pv 1) (pv 4) (fun _ _ => rfl)) (pa_cons (pv 1) (pa_cons (pv 2) pa_nil)))))) pss_nil)
      (pss_cons (ps_if (pt_cmpR op_eq (pv 3) pe_str (nomark _)) (pss_one (ps_ret (pe_lc (own := [("_law_row_here", 9)]) (tt := tYes) rfl sc_statement_rows.nd (piL (K := K) rfl (pe_call ih_rows (hr.mono (by omega)) (by rfl) T.g_rows T.F_rows.kp T.b_rows .nil passF (pa_cons (pv 4) (pa_cons (pv 1) (pa_cons (pv 2) pa_nil))))) (blkOk_by (N := ["_law_statement_here", "_law_parts", "_law_most", "_law_word", "_law_inner", "_law_rounds", "_law_found", "_law_fresh", "_law_turn", "_law_row_here", "_law_block_here"]) (sc := defScope s_statement_rows) (by decide +kernel)) (fun _ _ _ _ _ => (pg_name (i := 9) sc_statement_rows.nd rfl (Or.inl rfl))) (fun _ _ _ _ _ => pts_nil) (fun _ _ _ _ _ => (pe_call (ok_back (K := K) T) (hr.mono (by omega)) (by rfl) T.g_back T.F_back.kp T.b_back .nil passF (pa_cons (pv 9) pa_nil)))))) pss_nil)
      (pss_cons (ps_if (pt_cmpR op_eq (pv 3) pe_str (nomark _)) (pss_cons (ps_set (i := 5) sc_statement_rows.nd rfl (Or.inl rfl) (pe_call ih_rows (hr.mono (by omega)) (by rfl) T.g_rows T.F_rows.kp T.b_rows .nil passF (pa_cons (pv 4) (pa_cons (pv 1) (pa_cons (pv 2) pa_nil)))))
      (pss_cons (ps_set (i := 6) sc_statement_rows.nd rfl (Or.inr rfl) (pe_disp (pps_cons pe_str pe_bl pps_nil) rfl rfl (by intro z; cases z) (by decide)))
      (pss_cons (ps_set (i := 7) sc_statement_rows.nd rfl (Or.inl rfl) (pe_lst (pa_cons pe_str pa_nil)))
      (pss_cons (ps_for (passes_of rfl) rfl (pi_range1 (by rfl) T.m_range (pa_cons (pe_op op_add (pv 2) pe_int) pa_nil)) (pg_name (i := 8) sc_statement_rows.nd rfl (Or.inl rfl)) (pss_cons (ps_setLc (i := 7) (own := [("_law_row_here", 9)]) rfl sc_statement_rows.nd rfl rfl (sw_true rfl rfl rfl (by decide +kernel)) (piL (K := K) rfl (pe_call (ok_products (K := K) T) (hr.mono (by omega)) (by rfl) T.g_products T.F_products.kp T.b_products .nil passF (pa_cons (pv 7) (pa_cons (pv 5) (pa_cons (pv 2) pa_nil))))) (blkOk_by (N := ["_law_statement_here", "_law_parts", "_law_most", "_law_word", "_law_inner", "_law_rounds", "_law_found", "_law_fresh", "_law_turn", "_law_row_here", "_law_block_here"]) (sc := defScope s_statement_rows) (by decide +kernel)) (fun _ _ _ _ _ => (pg_name (i := 9) sc_statement_rows.nd rfl (Or.inl rfl))) (fun _ _ _ _ _ => (pts_one (pt_cmp (pc_dnotin (hu_of hr) (pv 9) (pv 6))))) (fun _ _ _ _ _ => (pv 9)))
      (pss_one (ps_for (passes_of rfl) rfl (piL (K := K) rfl (pv 7)) (pg_name (i := 9) sc_statement_rows.nd rfl (Or.inl rfl)) (pss_one (ps_dput (hu_of hr) (pv 6) (pv 9) pe_bl rfl))))))
      (pss_one (ps_ret (pe_callTy (call_listD rfl) (by rfl) T.m_list bt_list (pa_cons (pv 6) pa_nil)))))))) pss_nil)
      (pss_cons (ps_set (i := 6) sc_statement_rows.nd rfl (Or.inr rfl) pe_dnewK)
      (pss_cons (ps_for (passes_of rfl) rfl (piT (K := K) rfl (pv 4)) (pg_name (i := 10) sc_statement_rows.nd rfl (Or.inl rfl)) (pss_one (ps_for (passes_of rfl) rfl (piL (K := K) rfl (pe_call ih_rows (hr.mono (by omega)) (by rfl) T.g_rows T.F_rows.kp T.b_rows .nil passF (pa_cons (pv 10) (pa_cons (pv 1) (pa_cons (pv 2) pa_nil))))) (pg_name (i := 9) sc_statement_rows.nd rfl (Or.inl rfl)) (pss_one (ps_dput (hu_of hr) (pv 6) (pv 9) pe_bl rfl)))))
      (pss_one (ps_ret (pe_callTy (call_listD rfl) (by rfl) T.m_list bt_list (pa_cons (pv 6) pa_nil))))))))))), ?_⟩
    obtain ⟨ta, ti, rfl, hta, di⟩ := PG.Stm.open_ hst
    have m6 := fw.1
    cases rt with
    | @dot n r L o z =>
      obtain rfl := PG.dp_str di
      have hw : SqT K H ta [.str "do", .str (S r)] := hta
      walk_at "g"
      refine ⟨by walk_at "sz", fun p hpn => ?_⟩
      have s1 := Same.new (o := .lst [.str (S r)]) hpn
      have e1 : upd H p (.lst [.str (S r)]) p = some (.lst (rowsV [r])) := upd_same
      generalize upd H p (.lst [.str (S r)]) = H1 at s1 e1
      walk_at "g"
      intro D hD
      refine GO.lcS (walk_list (xs := rowsV [r])) (FF [r] fun r => decide (r.length ≤ m)) hD rfl (fun i acc G _ s _ => SqL.of (s _ _ e1)) ?_ ?_
      · rintro i x acc G0 G hi s e f ⟨e0, hxi⟩
        subst e0
        obtain ⟨u, hu, rfl⟩ := rowsV_at hxi
        obtain rfl : u = r := List.mem_singleton.mp (List.mem_of_getElem? hu)
        have su : (S u).length = u.length := S_len u
        have al := ff_len f
        walk_at "g"
        by_cases c : u.length ≤ m
        · walk_at "g"
          exact GO.ln hD offF (Nat.le_trans al (by simp)) s e (Same.refl _) (ff_yes f hu (decide_eq_true c))
        · walk_at "g"
          exact ⟨acc, s, e, ff_no f hu (decide_eq_false c)⟩
      · intro acc G s e f
        obtain rfl := ff_end f (Nat.le_refl _)
        refine fin D _ G (s1.trans s) ⟨e, List.Pairwise.filter _ (by simp), fun w => ?_⟩
        rw [List.mem_filter, List.mem_singleton, decide_eq_true_iff]
        simp only [PG.LgS]
    | @loop n b' b8' h =>
      have hw : SqT K H ta [.str "loop", ti] := hta
      walk_at "g"
      refine hb n rfl _ _ _ _ ⟨q, ti, d, kvs, ps, b', m, rfl, hq, hp, di, ⟨b8', h⟩, fw, fun p5 rr H1 s1 ra => ?_⟩
      have fr1 : rr.length ≤ 200 := rows_few (b := b') h fw ra.2.1 fun w hw => (ra.2.2 w).mp hw
      have rl1 : ∀ r ∈ rr, r.length ≤ 100 := fun r hr => by have := ((ra.2.2 r).mp hr).2; omega
      have e5 := ra.1
      have few : ∀ {rs : List (List Nat)}, rs.Nodup → (∀ w ∈ rs, PG.Star (PG.LgL b') w ∧ w.length ≤ m) → rs.length ≤ 200 := fun nd k =>
        rows_few (b := [.loop b']) (n := n + 1) (fun s hs => by rw [List.mem_singleton.mp hs]; exact .loop b8' h) fw nd fun w hw => ⟨PG.LgL_one.mpr (by simp only [PG.LgS]; exact (k w hw).1), (k w hw).2⟩
      walk_at "g"
      intro p6 hp6
      have s2 := Same.new (o := .dK []) hp6
      have e6 : upd H1 p6 (.dK []) p6 = some (.dK []) := upd_same
      simp only [tPairs]
      walk_at "g"
      refine ⟨e6, [(Sum.inr "", .bl true)], rfl, by simp, ?_⟩
      rw [show mergeK [] [((Sum.inr "" : L2.Key), V.bl true)] = PG.DK [[]] from rfl]
      have s3 : Same H1 (upd (upd H1 p6 (.dK [])) p6 (.dK (PG.DK [[]]))) := Same.mut hp6 s2
      have e6' : upd (upd H1 p6 (.dK [])) p6 (.dK (PG.DK [[]])) p6 = some (.dK (PG.DK [[]])) := upd_same
      generalize upd (upd H1 p6 (.dK [])) p6 (.dK (PG.DK [[]])) = H2 at s3 e6'
      clear s2 e6
      walk_at "g"
      refine ⟨by walk_at "sz", fun p7 hp7 => ?_⟩
      have s4 := Same.new (o := .lst [.str ""]) hp7
      have e7 : upd H2 p7 (.lst [.str ""]) p7 = some (.lst (rowsV [[]])) := upd_same
      generalize upd H2 p7 (.lst [.str ""]) = H3 at s4 e7
      have e63 := s4 _ _ e6'
      have s13 := s3.trans s4
      walk_at "g"
      refine GO.itR (m + 1) (by omega) (by omega) (by omega) ?_
      refine GO.forI (walk_range (lo := 0) (n := m + 1)) (fun i σ' G => ∃ (p7 : Addr) (y8 y9 : Option V) (fo fr : List (List Nat)), σ' = [some (.ref ta), some (.ref q), some (.int m), some (.str "loop"), some ti, some (.ref p5), some (.ref p6), some (.ref p7), y8, y9, none] ∧ Same H1 G ∧ G p6 = some (.dK (PG.DK fo)) ∧ G p7 = some (.lst (rowsV fr)) ∧ PG.Rnd (PG.LgL b') m i fo fr)
        ⟨p7, none, none, _, _, rfl, s13, e63, e7, .zero _ _⟩ (fun _ _ _ _ _ => trivial) ?_ ?_
      · rintro i x σ' G0 G hi ⟨p7, y8, y9, fo, fr, rfl, sG, eG, gG, rn⟩ ⟨e0, rfl⟩
        subst e0
        have f2 : fr.length ≤ 200 := few rn.ndr fun w hw => rn.ok w (rn.sub w hw)
        have f3 : fo.length ≤ 200 := few rn.nd rn.ok
        have rl2 : ∀ r ∈ fr, r.length ≤ 100 := fun r hr => by have := (rn.ok r (rn.sub r hr)).2; omega
        walk_at "g"
        refine ⟨p7, p5, fr, rr, m, rfl, SqL.of gG, SqL.of (sG _ _ e5), f2, fr1, rl2, rl1, fun pp G2 s5 e8 => ?_⟩
        have eG2 := s5 _ _ eG
        walk_at "g"
        intro D hD
        refine GO.lcS (walk_list (xs := rowsV (PG.prods fr rr m))) (FF (PG.prods fr rr m) fun w => decide (w ∉ fo)) hD rfl (fun i acc G _ s _ => SqL.of (s _ _ e8)) ?_ ?_
        · rintro j x acc G0 G3 hj s e f ⟨e0, hxi⟩
          subst e0
          obtain ⟨u, hu, rfl⟩ := rowsV_at hxi
          walk_at "g"
          refine GO.dinR (.inl (s _ _ eG2)) ?_
          rw [PG.has_DK]
          have al : acc.length ≤ 40000 := by
            have h0 := ff_len f
            have h1 : (PG.prods fr rr m).length ≤ 200 := few PG.prods_nodup fun w hw => by
              obtain ⟨a, ha, c, hc, rfl, le⟩ := PG.prods_mem.mp hw
              have k1 := (rn.ok a (rn.sub a ha)).1
              have k2 : PG.Star (PG.LgL b') (c ++ []) := .app ((ra.2.2 c).mp hc).1 .nil
              rw [List.append_nil] at k2
              exact ⟨k1.cat k2, by rw [List.length_append]; exact le⟩
            omega
          by_cases c : u ∈ fo
          · rw [decide_eq_true c]
            walk_at "g"
            exact ⟨acc, s, e, ff_no f hu (decide_eq_false fun z => z c)⟩
          · rw [decide_eq_false c]
            walk_at "g"
            exact GO.ln hD offF (by omega) s e (Same.refl _) (ff_yes f hu (decide_eq_true c))
        · intro acc G3 s e f
          obtain rfl := ff_end f (by rw [rowsV_len]; exact Nat.le_refl _)
          have nx := rn.next (rr := rr) (fun w => ra.2.2 w)
          generalize (PG.prods fr rr m).filter (fun w => decide (w ∉ fo)) = zs at e nx
          have f4 : zs.length ≤ 200 := few nx.ndr fun w hw => nx.ok w (nx.sub w hw)
          have sG3 := sG.trans (s5.trans s)
          have eG3 := s _ _ eG2
          have Dp6 : D ≠ p6 := (ne_of_none eG2 hD).symm
          walk_at "g"
          refine GO.forI (walk_list (xs := rowsV zs)) (fun j σ' G => ∃ (y9 : Option V) (ks : List (List Nat)), σ' = [some (.ref ta), some (.ref q), some (.int m), some (.str "loop"), some ti, some (.ref p5), some (.ref p6), some (.ref D), some (.int (0 + (i : Int))), y9, none] ∧ Same H1 G ∧ G p6 = some (.dK (PG.DK ks)) ∧ G D = some (.lst (rowsV zs)) ∧ ks = (zs.take j).foldl PG.ins fo ∧ ks.length ≤ 200 + j)
            ⟨_, fo, rfl, sG3, eG3, e, rfl, f3⟩ (fun i σ' G _ z => by obtain ⟨_, _, _, _, _, z, _⟩ := z; exact SqL.of z) ?_ ?_
          · rintro j x σ' G0 G4 hj ⟨y9, ks, rfl, sG4, eG4, zG4, ek, kl⟩ ⟨e0, hxi⟩
            subst e0
            obtain ⟨u, hu, rfl⟩ := rowsV_at hxi
            rw [rowsV_len] at hj
            walk_at "g"
            refine GO.dputR eG4 (by rw [PG.DK_len]; omega) ?_
            rw [PG.put_DK]
            refine ⟨_, PG.ins ks u, rfl, Same.mut hp6 sG4, upd_same, upd_oth zG4 Dp6, ?_, ?_⟩
            · rw [take_one hu, List.foldl_append, ← ek]; rfl
            · unfold PG.ins; split
              · omega
              · rw [List.length_append, List.length_singleton]; omega
          · rintro σ' G4 ⟨y9, ks, rfl, sG4, eG4, zG4, ek, kl⟩
            rw [rowsV_len, List.take_length] at ek
            subst ek
            exact ⟨D, _, _, _, zs, rfl, sG4, eG4, zG4, nx⟩
      · rintro σ' G ⟨p7, y8, y9, fo, fr, rfl, sG, eG, gG, rn⟩
        walk_at "g"
        refine ⟨p6, _, rfl, .inl eG, fun p hpn => ?_⟩
        refine fin p fo _ (s1.trans (sG.trans (Same.new hpn))) ⟨?_, rn.nd, fun w => ?_⟩
        · unfold PG.DK rowsV
          rw [List.map_map]; exact upd_same
        · simp only [PG.LgS]
          exact rn.end_ (by omega) w
    | @part n pn b' e b8' h =>
      obtain rfl := PG.dp_str di
      have hw : SqT K H ta [.str "part", .str (S pn)] := hta
      obtain ⟨pv_, ev, bv⟩ := hp.get e
      walk_at "g"
      refine GO.dgetR hq ev ?_
      walk_at "g"
      refine hb n rfl _ _ _ _ ⟨q, pv_, d, kvs, ps, b', m, rfl, hq, hp, bv, ⟨b8', h⟩, fw, fun p rs H' s ra => ?_⟩
      exact fin p rs H' s (by simpa only [PG.LgS] using ra)
    | @undo n b' b8' h =>
      have hw : SqT K H ta [.str "undo", ti] := hta
      walk_at "g"
      refine hb n rfl _ _ _ _ ⟨q, ti, d, kvs, ps, b', m, rfl, hq, hp, di, ⟨b8', h⟩, fw, fun p rs H1 s1 ra => ?_⟩
      have gw : ∀ r ∈ rs, PG.GW d r ∧ r.length ≤ m := fun r hr => ⟨PG.gw_L (fun s hs => PG.gw_S (h s hs)) ((ra.2.2 r).mp hr).1, ((ra.2.2 r).mp hr).2⟩
      have f1 : rs.length ≤ 200 := rows_few (b := b') h fw ra.2.1 fun w hw => (ra.2.2 w).mp hw
      have e1 := ra.1
      walk_at "g"
      intro D hD
      refine GO.lcS (walk_list (xs := rowsV rs)) (GO.FT rs fun r => V.str (S (inv r))) hD rfl (fun i acc G _ s _ => SqL.of (s _ _ e1)) ?_ ?_
      · rintro i x acc G0 G hi s e f ⟨e0, hxi⟩
        subst e0
        obtain ⟨u, hu, rfl⟩ := rowsV_at hxi
        obtain ⟨gu, ul⟩ := gw u (List.mem_of_getElem? hu)
        walk_at "g"
        refine ⟨u, rfl, gu.1, by omega, fun G5 s5 => ?_⟩
        exact GO.lnT hu rfl hD (by omega) s e f s5
      · intro acc G s e f
        obtain rfl := GO.ft_end f (by rw [rowsV_len]; exact Nat.le_refl _)
        refine fin D (rs.map inv) G (s1.trans s) ⟨?_, ?_, fun w => ?_⟩
        · rw [e]; unfold rowsV; rw [List.map_map]; rfl
        · exact List.Pairwise.map inv (fun a b ne z => ne (by rw [← PG.inv_inv' a, z, PG.inv_inv'])) ra.2.1
        · rw [List.mem_map]
          simp only [PG.LgS]
          constructor
          · rintro ⟨u, hu, rfl⟩
            rw [PG.inv_inv', inv_len]
            exact (ra.2.2 u).mp hu
          · rintro ⟨h1, h2⟩
            exact ⟨inv w, (ra.2.2 _).mpr ⟨h1, by rw [inv_len]; exact h2⟩, PG.inv_inv' w⟩
    | @alt n o bs l1 l4 b8' h =>
      obtain ⟨ya, ys, rfl, hy, db⟩ := PG.dp_tup di
      have yl : ys.length = bs.length := by rw [PG.dpAll_len db, PG.dBs_map, List.length_map]
      have hw : SqT K H ta [.str (PG.wAlt o), .ref ya] := hta
      have w1 : (PG.wAlt o : Str) ≠ "do" := by cases o <;> decide +kernel
      have w2 : (PG.wAlt o : Str) ≠ "loop" := by cases o <;> decide +kernel
      have w3 : (PG.wAlt o : Str) ≠ "part" := by cases o <;> decide +kernel
      have w4 : (PG.wAlt o : Str) ≠ "undo" := by cases o <;> decide +kernel
      walk_at "g"
      refine GO.dnew fun p6 hp6 => ?_
      have s1 := Same.new (o := .dK []) hp6
      have e6 : upd H p6 (.dK []) p6 = some (.dK (PG.DK [])) := upd_same
      generalize upd H p6 (.dK []) = H1 at s1 e6
      have hy1 := PG.sqT_same s1 hy
      walk_at "g"
      have few : ∀ {rs : List (List Nat)}, rs.Nodup → (∀ w ∈ rs, PG.LgBs bs w ∧ w.length ≤ m) → rs.length ≤ 200 := fun nd k =>
        rows_few (b := [.alt o bs]) (n := n + 1) (fun s hs => by rw [List.mem_singleton.mp hs]; exact .alt l1 l4 b8' h) fw nd fun w hw => ⟨PG.LgL_one.mpr (by simp only [PG.LgS]; exact (k w hw).1), (k w hw).2⟩
      refine GO.forI (walk_tup (xs := ys)) (fun i σ' G => ∃ (y9 y10 : Option V) (ks : List (List Nat)), σ' = [some (.ref ta), some (.ref q), some (.int m), some (.str (PG.wAlt o)), some (.ref ya), none, some (.ref p6), none, none, y9, y10] ∧ Same H G ∧ G p6 = some (.dK (PG.DK ks)) ∧ ks.Nodup ∧ ∀ w, w ∈ ks ↔ (∃ b ∈ bs.take i, PG.LgL b w) ∧ w.length ≤ m)
        ⟨none, none, [], rfl, s1, e6, .nil, fun w => by simp⟩ (fun i σ' G _ z => by obtain ⟨_, _, _, _, s, _⟩ := z; exact PG.sqT_same s hy) ?_ ?_
      · rintro i x σ' G0 G hi ⟨y9, y10, ks, rfl, sG, eG, nd, mem⟩ ⟨e0, hxi⟩
        subst e0
        obtain ⟨b2, hb2, bz⟩ := PG.dBs_at (PG.dpAll_same sG _ _ db) hxi
        have bm := List.mem_of_getElem? hb2
        walk_at "g"
        refine hb n rfl _ _ _ _ ⟨q, x, d, kvs, ps, b2, m, rfl, PG.rd_same sG hq, hp.same sG, bz, ⟨b8' b2 bm, h b2 bm⟩, fw, fun p5 rr G2 s2 ra => ?_⟩
        have f1 : rr.length ≤ 200 := rows_few (b := b2) (h b2 bm) fw ra.2.1 fun w hw => (ra.2.2 w).mp hw
        have f2 : ks.length ≤ 200 := few nd fun w hw => by
          obtain ⟨⟨b, hb, k⟩, le⟩ := (mem w).mp hw
          exact ⟨PG.LgBs_mem.mpr ⟨b, List.mem_of_mem_take hb, k⟩, le⟩
        have e5 := ra.1
        have eG2 := s2 _ _ eG
        have sG2 := sG.trans s2
        have p56 : p5 ≠ p6 := fun z => by rw [z] at e5; rw [e5] at eG2; cases eG2
        walk_at "g"
        refine GO.forI (walk_list (xs := rowsV rr)) (fun j σ' G => ∃ (y9 : Option V) (ls : List (List Nat)), σ' = [some (.ref ta), some (.ref q), some (.int m), some (.str (PG.wAlt o)), some (.ref ya), none, some (.ref p6), none, none, y9, some x] ∧ Same H G ∧ G p6 = some (.dK (PG.DK ls)) ∧ G p5 = some (.lst (rowsV rr)) ∧ ls = (rr.take j).foldl PG.ins ks ∧ ls.length ≤ 200 + j)
          ⟨_, ks, rfl, sG2, eG2, e5, rfl, f2⟩ (fun i σ' G _ z => by obtain ⟨_, _, _, _, _, z, _⟩ := z; exact SqL.of z) ?_ ?_
        · rintro j x σ' G0 G4 hj ⟨y9, ls, rfl, sG4, eG4, zG4, ek, kl⟩ ⟨e0, hxi⟩
          subst e0
          obtain ⟨u, hu, rfl⟩ := rowsV_at hxi
          rw [rowsV_len] at hj
          walk_at "g"
          refine GO.dputR eG4 (by rw [PG.DK_len]; omega) ?_
          rw [PG.put_DK]
          refine ⟨_, PG.ins ls u, rfl, Same.mut hp6 sG4, upd_same, upd_oth zG4 p56, ?_, ?_⟩
          · rw [take_one hu, List.foldl_append, ← ek]; rfl
          · unfold PG.ins; split
            · omega
            · rw [List.length_append, List.length_singleton]; omega
        · rintro σ' G4 ⟨y9, ls, rfl, sG4, eG4, zG4, ek, kl⟩
          rw [rowsV_len, List.take_length] at ek
          subst ek
          refine ⟨_, _, _, rfl, sG4, eG4, PG.insAll_nodup nd, fun w => ?_⟩
          rw [PG.insAll_mem, mem, ra.2.2, take_one hb2]
          constructor
          · rintro (⟨⟨b, hb, k⟩, le⟩ | ⟨k, le⟩)
            · exact ⟨⟨b, List.mem_append_left _ hb, k⟩, le⟩
            · exact ⟨⟨b2, List.mem_append_right _ (List.mem_singleton.mpr rfl), k⟩, le⟩
          · rintro ⟨⟨b, hb, k⟩, le⟩
            rcases List.mem_append.mp hb with z | z
            · exact .inl ⟨⟨b, z, k⟩, le⟩
            · rw [List.mem_singleton.mp z] at k; exact .inr ⟨k, le⟩
      · rintro σ' G ⟨y9, y10, ks, rfl, sG, eG, nd, mem⟩
        walk_at "g"
        refine ⟨p6, _, rfl, .inl eG, fun p hpn => ?_⟩
        refine fin p ks _ (sG.trans (Same.new hpn)) ⟨?_, nd, fun w => ?_⟩
        · unfold PG.DK rowsV
          rw [List.map_map]; exact upd_same
        · rw [mem, yl, List.take_length]
          simp only [PG.LgS]
          rw [PG.LgBs_mem]
theorem rec_lr (T : Txt K mg A) : ∀ n, F_rs P w K mg base A n ∧ F_rb P w K mg base A n
  | 0 => by
    have h1 : F_rs P w K mg base A 0 := rs_of T 0 (fun _ _ _ _ => False) (GO.never _ _ _ _) (fun m e => absurd e (Nat.succ_ne_zero m).symm)
    exact ⟨h1, rb_of T 0 h1⟩
  | n + 1 => by
    obtain ⟨_, b1⟩ := rec_lr T n
    have h1 : F_rs P w K mg base A (n + 1) := rs_of T (n + 1) _ b1 (fun m e vs H Q E h => by cases e; exact h)
    exact ⟨h1, rb_of T (n + 1) h1⟩
theorem ok_rows (T : Txt K mg A) : F_rb P w K mg base A 20 := (rec_lr T 20).2
theorem ok_statement_rows (T : Txt K mg A) : F_rs P w K mg base A 20 := (rec_lr T 20).1

/-- what is told of a flow: places, arrows of a letter at most -/
structure FlAt (d : List Nat) (st : PG.LS) : Prop where
  many : 2 ≤ st.many ∧ st.many ≤ 62
  few : st.arr.length ≤ 1000
  ar : ∀ a l b, (a, l, b) ∈ st.arr → a < st.many ∧ b < st.many ∧ PG.GW d l ∧ l.length ≤ 12
/-- lists of their own, empty -/
def FE (H1 : Hp) (D : Addr) : Nat → List V → Hp → Prop := fun i acc G => ∃ ls : List Addr, acc = ls.map V.ref ∧ ls.length = i ∧ ls.Nodup ∧ (∀ l ∈ ls, G l = some (.lst [])) ∧ (∀ l ∈ ls, H1 l = none) ∧ D ∉ ls
theorem offE {H1 : Hp} {D : Addr} : GO.Off D (FE H1 D) := by
  rintro i acc y xs G e ⟨ls, h1, h2, h3, h4, h5, h6⟩
  exact ⟨ls, h1, h2, h3, fun l hl => upd_oth (h4 l hl) fun z => h6 (z ▸ hl), h5, h6⟩
/-- the arrows, by the place that they lead from -/
def Gv (ls : List Addr) (P : List (Nat × List Nat × Nat)) (G : Hp) : Prop := ∀ (i : Nat) (l : Addr), ls[i]? = some l → ∃ ts : List Addr, G l = some (.lst (ts.map V.ref)) ∧ Paired (fun (ar : Nat × List Nat × Nat) tp => G tp = some (.tup [.str (S ar.2.1), .int ar.2.2])) (P.filter fun ar => decide (ar.1 = i)) ts
theorem Gv.same {ls : List Addr} {P : List (Nat × List Nat × Nat)} {G G' : Hp} (g : Gv ls P G) (s : Same G G') : Gv ls P G' := fun i l h => by
  obtain ⟨ts, h1, h2⟩ := g i l h
  exact ⟨ts, s _ _ h1, Paired.mapP h2 fun _ _ z => s _ _ z⟩
theorem Gv.put {ls : List Addr} {P : List (Nat × List Nat × Nat)} {G : Hp} (g : Gv ls P G) (nd : ls.Nodup) {a b : Nat} {r : List Nat} {l tp : Addr} {ts : List Addr} (h : ls[a]? = some l) (e : G l = some (.lst (ts.map V.ref))) (k : Paired (fun (ar : Nat × List Nat × Nat) tp => G tp = some (.tup [.str (S ar.2.1), .int ar.2.2])) (P.filter fun ar => decide (ar.1 = a)) ts)
    (et : G tp = some (.tup [.str (S r), .int b])) : Gv ls (P ++ [(a, r, b)]) (upd G l (.lst (ts.map V.ref ++ [.ref tp]))) := fun i l' h' => by
  have tl : ∀ {x : Addr} {o : List V}, G x = some (.tup o) → upd G l (.lst (ts.map V.ref ++ [.ref tp])) x = some (.tup o) := fun {x o} ex => upd_oth ex fun z => by rw [z, e] at ex; cases ex
  by_cases c : i = a
  · subst c
    rw [h] at h'
    cases h'
    refine ⟨ts ++ [tp], by rw [List.map_append]; exact upd_same, ?_⟩
    rw [List.filter_append]
    have one : [((i, r, b) : Nat × List Nat × Nat)].filter (fun ar => decide (ar.1 = i)) = [(i, r, b)] := by simp
    rw [one]
    exact paired_snoc (Paired.mapP k fun _ _ z => tl z) (tl et)
  · obtain ⟨us, h1, h2⟩ := g i l' h'
    have ne : l' ≠ l := fun z => by
      subst z
      obtain ⟨hi, ei⟩ := List.getElem?_eq_some_iff.mp h'
      obtain ⟨ha, ea⟩ := List.getElem?_eq_some_iff.mp h
      exact c ((List.getElem_inj nd).mp (ei.trans ea.symm))
    refine ⟨us, upd_oth h1 ne, ?_⟩
    rw [List.filter_append]
    have one : [((a, r, b) : Nat × List Nat × Nat)].filter (fun ar => decide (ar.1 = i)) = [] := by simp; exact fun z => c z.symm
    rw [one, List.append_nil]
    exact Paired.mapP h2 fun _ _ z => tl z
theorem Gv.start {ls : List Addr} {G : Hp} (h : ∀ l ∈ ls, G l = some (.lst [])) : Gv ls [] G := fun i l e => ⟨[], h l (List.mem_of_getElem? e), .nil⟩
theorem Gv.oth {ls : List Addr} {P : List (Nat × List Nat × Nat)} {G : Hp} {q : Addr} {o : HO} (g : Gv ls P G) (nl : q ∉ ls) (nt : ∀ xs, G q ≠ some (.tup xs)) : Gv ls P (upd G q o) := fun i l h => by
  obtain ⟨ts, h1, h2⟩ := g i l h
  exact ⟨ts, upd_oth h1 fun z => nl (z ▸ List.mem_of_getElem? h), Paired.mapP h2 fun _ _ z => upd_oth z fun e => nt _ (e ▸ z)⟩
/-- pairs of a place and a row, as tuples -/
def PrsAt (G : Hp) (wa : List PG.PR) (ws : List Addr) : Prop := Paired (fun (x : PG.PR) p => G p = some (.tup [.int x.1, .str (S x.2)])) wa ws
/-- while it is worked off -/
structure Lp (H G : Hp) (ls : List Addr) (arr : List (Nat × List Nat × Nat)) (D q W : Addr) (fo wa : List PG.PR) : Prop where
  s : Same H G
  goes : G D = some (.lst (ls.map V.ref))
  gv : Gv ls arr G
  dic : G q = some (.dT (PG.DT' fo))
  wai : ∃ ws : List Addr, G W = some (.lst (ws.map V.ref)) ∧ PrsAt G wa ws
  ne : H q = none ∧ H W = none ∧ q ∉ ls ∧ W ∉ ls ∧ D ≠ q ∧ D ≠ W ∧ q ≠ W
theorem Lp.same {H G G' : Hp} {ls : List Addr} {arr : List (Nat × List Nat × Nat)} {D q W : Addr} {fo wa : List PG.PR} (x : Lp H G ls arr D q W fo wa) (s : Same G G') : Lp H G' ls arr D q W fo wa := by
  obtain ⟨h1, h2, h3, h4, ⟨ws, h5, h6⟩, h7⟩ := x
  exact ⟨h1.trans s, s _ _ h2, h3.same s, s _ _ h4, ⟨ws, s _ _ h5, Paired.mapP h6 fun _ _ z => s _ _ z⟩, h7⟩
theorem Lp.wait {H G : Hp} {ls : List Addr} {arr : List (Nat × List Nat × Nat)} {D q W : Addr} {fo wa : List PG.PR} (x : Lp H G ls arr D q W fo wa) {wa' : List PG.PR} {ws' : List Addr} (h : PrsAt G wa' ws') : Lp H (upd G W (.lst (ws'.map V.ref))) ls arr D q W fo wa' := by
  obtain ⟨h1, h2, h3, h4, ⟨ws, h5, h6⟩, n1, n2, n3, n4, n5, n6, n7⟩ := x
  exact ⟨Same.mut n2 h1, upd_oth h2 n6, h3.oth n4 (fun _ z => by rw [h5] at z; cases z), upd_oth h4 n7, ⟨ws', upd_same, Paired.mapP h fun _ _ z => upd_oth z fun e => by rw [e, h5] at z; cases z⟩, n1, n2, n3, n4, n5, n6, n7⟩
theorem Lp.found {H G : Hp} {ls : List Addr} {arr : List (Nat × List Nat × Nat)} {D q W : Addr} {fo wa : List PG.PR} (x : Lp H G ls arr D q W fo wa) {fo' : List PG.PR} : Lp H (upd G q (.dT (PG.DT' fo'))) ls arr D q W fo' wa := by
  obtain ⟨h1, h2, h3, h4, ⟨ws, h5, h6⟩, n1, n2, n3, n4, n5, n6, n7⟩ := x
  exact ⟨Same.mut n1 h1, upd_oth h2 n5, h3.oth n3 (fun _ z => by rw [h4] at z; cases z), upd_same, ⟨ws, upd_oth h5 n7.symm, Paired.mapP h6 fun _ _ z => upd_oth z fun e => by rw [e, h4] at z; cases z⟩, n1, n2, n3, n4, n5, n6, n7⟩
/-- the arrows of one place -/
def Ax (G : Hp) (l : Addr) (P : List (Nat × List Nat × Nat)) (ts : List Addr) : Prop := G l = some (.lst (ts.map V.ref)) ∧ Paired (fun (ar : Nat × List Nat × Nat) tp => G tp = some (.tup [.str (S ar.2.1), .int ar.2.2])) P ts
theorem Ax.same {G G' : Hp} {l : Addr} {P : List (Nat × List Nat × Nat)} {ts : List Addr} (x : Ax G l P ts) (s : Same G G') : Ax G' l P ts := ⟨s _ _ x.1, Paired.mapP x.2 fun _ _ z => s _ _ z⟩
theorem Ax.oth {G : Hp} {l q : Addr} {o : HO} {P : List (Nat × List Nat × Nat)} {ts : List Addr} (x : Ax G l P ts) (n : l ≠ q) (nt : ∀ xs, G q ≠ some (.tup xs)) : Ax (upd G q o) l P ts := ⟨upd_oth x.1 n, Paired.mapP x.2 fun _ _ z => upd_oth z fun e => nt _ (e ▸ z)⟩
theorem rch_ok {d : List Nat} {st : PG.LS} (fl : FlAt d st) {a : Nat} {w : List Nat} (h : PG.Rch st.arr a w) : a < st.many ∧ PG.GW d w := by
  induction h with
  | nil => exact ⟨by have := fl.many.1; omega, PG.GW.nil d⟩
  | snoc _ ha ih =>
    obtain ⟨_, k2, k3, _⟩ := fl.ar _ _ _ ha
    exact ⟨k2, ih.2.app k3⟩
theorem found_few {d : List Nat} {st : PG.LS} {m : Nat} {fo : List PG.PR} (fl : FlAt d st) (fw : Few d m) (nd : fo.Nodup) (ok : ∀ x ∈ fo, PG.Rch st.arr x.1 x.2 ∧ x.2.length ≤ m) : fo.length ≤ 12400 := by
  have := PG.Wk_few (d := d) (m := m) (n := st.many) nd fun x hx => ⟨(rch_ok fl (ok x hx).1).1, (ok x hx).2, (rch_ok fl (ok x hx).1).2⟩
  exact Nat.le_trans this (Nat.mul_le_mul fl.many.2 fw.2)
theorem dnoT {H : Hp} {q b : Addr} {fo : List PG.PR} {x : PG.PR} {R : Option V → Prop} (h : H q = some (.dT (PG.DT' fo))) (hb : H b = some (.tup [.int x.1, .str (S x.2)])) (k : R (valV (PG.DT' fo) (PG.keyP x))) : GO.DI (.ref q) (.ref b) H R := ⟨q, _, rfl, .inr ⟨PG.DT' fo, PG.keyP x, b, .inl h, rfl, hb, rfl⟩, k⟩
theorem dputT {H : Hp} {q b : Addr} {fo : List PG.PR} {x : PG.PR} {R : Hp → Prop} (h : H q = some (.dT (PG.DT' fo))) (hb : H b = some (.tup [.int x.1, .str (S x.2)])) (l : fo.length ≤ 1000000) (n : x ∉ fo) (k : R (upd H q (.dT (PG.DT' (fo ++ [x]))))) : GO.DP (.ref q) (.ref b) (.bl true) H R :=
  ⟨q, _, rfl, .inr ⟨PG.DT' fo, PG.keyP x, b, h, rfl, hb, by unfold PG.DT'; rw [List.length_map]; exact Nat.lt_of_le_of_lt l (by decide), rfl⟩, by rw [PG.put_DT n]; exact k⟩
theorem prs_last {G : Hp} {wa : List PG.PR} {x : PG.PR} {ws : List Addr} (h : PrsAt G (wa ++ [x]) ws) : ∃ ws' px, ws = ws' ++ [px] ∧ PrsAt G wa ws' ∧ G px = some (.tup [.int x.1, .str (S x.2)]) := by
  induction wa generalizing ws with
  | nil =>
    cases h with
    | @cons _ b _ bs r t => cases t; exact ⟨[], b, rfl, .nil, r⟩
  | cons a wa ih =>
    cases h with
    | @cons _ b _ bs r t =>
      obtain ⟨ws', px, rfl, h1, h2⟩ := ih t
      exact ⟨b :: ws', px, rfl, .cons r h1, h2⟩
theorem paired_at2 {α β : Type} {R : α → β → Prop} {xs : List α} {ys : List β} (h : Paired R xs ys) {i : Nat} {y : β} (e : ys[i]? = some y) : ∃ x, xs[i]? = some x ∧ R x y := by
  induction h generalizing i with
  | nil => cases e
  | @cons a b as bs r t ih =>
    cases i with
    | zero => cases e; exact ⟨a, rfl, r⟩
    | succ i => exact ih (i := i) e
def FG (fo : List PG.PR) : Nat → List V → Hp → Prop := fun i acc _ => acc = rowsV (((fo.take i).filter fun x => decide (x.1 = 1)).map fun x => x.2)
theorem fg_yes {fo : List PG.PR} {i : Nat} {acc : List V} {G H4 : Hp} {z : PG.PR} (h : FG fo i acc G) (hz : fo[i]? = some z) (e : z.1 = 1) : FG fo (i + 1) (acc ++ [.str (S z.2)]) H4 := by
  have h : acc = _ := h
  show _ = _
  rw [take_one hz, List.filter_append, h]
  unfold rowsV
  simp [e]
theorem fg_no {fo : List PG.PR} {i : Nat} {acc : List V} {G H4 : Hp} {z : PG.PR} (h : FG fo i acc G) (hz : fo[i]? = some z) (e : z.1 ≠ 1) : FG fo (i + 1) acc H4 := by
  have h : acc = _ := h
  show _ = _
  rw [take_one hz, List.filter_append, h]
  simp [e]
theorem offG {D : Addr} {fo : List PG.PR} : GO.Off D (FG fo) := fun _ _ _ _ _ _ h => by unfold FG at h ⊢; exact h
def sp_along (K : PySem.W.Frag) : Sp := fun vs H Q _ => ∃ (v : V) (d : List Nat) (st : PG.LS) (m : Nat), vs = [v, .int m] ∧ Dp K H v (GO.flD st) ∧ FlAt d st ∧ Few d m ∧
  ∀ p ys H', Same H H' → H' p = some (.lst (rowsV ys)) → GO.AscS ys → ys.Nodup → (∀ w, w ∈ ys ↔ PG.Rch st.arr 1 w ∧ w.length ≤ m) → Q (.ref p) H'
theorem ok_along (T : Txt K mg A) : FnOk P w K mg base (CX P w) 1 A.a_along A.d_along ["_law_told", "_law_most"] (sp_along K) := by
  refine T.F_along.okX sc_along (fun vs H Q E h => ?_) (fun cdv Ar outer s H vs Q E hr h => ?_)
  · obtain ⟨_, _, _, _, rfl, _⟩ := h
    rfl
  · obtain ⟨v, d, st, m, rfl, hv, fl, fw, fin⟩ := h
    refine ⟨_, (pss_cons (ps_setLc (i := 2) (own := [("_law_place", 8)]) (tt := tYes) rfl sc_along.nd rfl rfl (sw_true rfl rfl rfl (by decide +kernel)) (pi_range1 (by rfl) T.m_range (pa_cons (pe_ix (ixT (K := K) rfl) (pv 0) pe_int (fun _ _ => rfl)) pa_nil)) (blkOk_by (N := ["_law_told", "_law_most", "_law_goes", "_law_first", "_law_letter", "_law_last", "_law_found", "_law_waiting", "_law_place", "_law_row_here", "_law_more", "_law_state"]) (sc := defScope s_along) (by decide +kernel)) (fun _ _ _ _ _ => (pg_name (i := 8) sc_along.nd rfl (Or.inl rfl))) (fun _ _ _ _ _ => pts_nil) (fun _ _ _ _ _ => (pe_lst pa_nil)))
      (pss_cons (ps_for (passes_of rfl) rfl (piL (K := K) rfl (pe_ix (ixT (K := K) rfl) (pv 0) pe_int (fun _ _ => rfl))) (pgT (K := K) (n := 3) rfl rfl (pgs_cons (pg_name (i := 3) sc_along.nd rfl (Or.inl rfl)) (pgs_cons (pg_name (i := 4) sc_along.nd rfl (Or.inl rfl)) (pgs_cons (pg_name (i := 5) sc_along.nd rfl (Or.inl rfl)) pgs_nil)))) (pss_one (ps_expr (pbm (K := K) rfl PySem.F.plainAttrs_list PySem.F.slot_list_append PySem.F.type_list_append mt_append (pe_ix (ixL (K := K) rfl) (pv 2) (pv 3) (fun _ _ => rfl)) (pa_cons (pe_tup (pa_cons (pv 4) (pa_cons (pv 5) pa_nil))) pa_nil)))))
      (pss_cons (ps_set (i := 6) sc_along.nd rfl (Or.inl rfl) (GO.pe_dispT (hu_of hr) (pps_cons (pe_tup (pa_cons pe_int (pa_cons pe_str pa_nil))) pe_bl pps_nil)))
      (pss_cons (ps_set (i := 7) sc_along.nd rfl (Or.inl rfl) (pe_lst (pa_cons (pe_tup (pa_cons pe_int (pa_cons pe_str pa_nil))) pa_nil)))
      (pss_cons (ps_while (passes_of rfl) (pt_cmpR op_gt (pe_callB (clen (K := K) rfl) (by rfl) T.m_len bt_len (pa_cons (pv 7) pa_nil)) pe_int (nomark _)) (pss_cons (ps_asg (pbm0 (K := K) rfl PySem.F.plainAttrs_list PySem.F.slot_list_pop PySem.F.type_list_pop mt_pop (pv 7)) (pgT (K := K) (n := 2) rfl rfl (pgs_cons (pg_name (i := 8) sc_along.nd rfl (Or.inl rfl)) (pgs_cons (pg_name (i := 9) sc_along.nd rfl (Or.inl rfl)) pgs_nil))))
      (pss_one (ps_for (passes_of rfl) rfl (piL (K := K) rfl (pe_ix (ixL (K := K) rfl) (pv 2) (pv 8) (fun _ _ => rfl))) (pgT (K := K) (n := 2) rfl rfl (pgs_cons (pg_name (i := 4) sc_along.nd rfl (Or.inl rfl)) (pgs_cons (pg_name (i := 5) sc_along.nd rfl (Or.inl rfl)) pgs_nil))) (pss_cons (ps_set (i := 10) sc_along.nd rfl (Or.inl rfl) (pe_tup (pa_cons (pv 5) (pa_cons (pe_op op_add_str (pv 9) (pv 4)) pa_nil))))
      (pss_one (ps_if (pt_mid (PW.pt (pw_and (pt_cmpR op_le (pe_callB clenS (by rfl) T.m_len bt_len (pa_cons (pe_ix (ixT (K := K) rfl) (pv 10) pe_int (fun _ _ => rfl)) pa_nil)) (pv 1) (nomark _)) (pw_and1 (pt_cmp (pc_dnotin (hu_of hr) (pv 10) (pv 6))))))) (pss_cons (ps_dput (hu_of hr) (pv 6) (pv 10) pe_bl rfl)
      (pss_one (ps_expr (pbm (K := K) rfl PySem.F.plainAttrs_list PySem.F.slot_list_append PySem.F.type_list_append mt_append (pv 7) (pa_cons (pv 10) pa_nil))))) pss_nil)))))))
      (pss_one (ps_ret (pe_callB (GO.sorted_rows (K := K) rfl) (by rfl) T.m_sorted bt_sorted (pa_cons (pe_lock (pe_lc (own := [("_law_state", 11)]) rfl sc_along.nd (pi_keys (pv 6)) (blkOk_by (N := ["_law_told", "_law_most", "_law_goes", "_law_first", "_law_letter", "_law_last", "_law_found", "_law_waiting", "_law_place", "_law_row_here", "_law_more", "_law_state"]) (sc := defScope s_along) (by decide +kernel)) (fun _ _ _ _ _ => (pg_name (i := 11) sc_along.nd rfl (Or.inl rfl))) (fun _ _ _ _ _ => (pts_one (pt_cmpR op_eq (pe_ix (ixT (K := K) rfl) (pv 11) pe_int (fun _ _ => rfl)) pe_int (nomark _)))) (fun _ _ _ _ _ => (pe_ix (ixT (K := K) rfl) (pv 11) pe_int (fun _ _ => rfl))))) pa_nil))))))))), ?_⟩
    unfold GO.flD at hv
    obtain ⟨t, vn, va, rfl, ht, d1, d2⟩ := PG.two hv
    rw [PG.dp_int d1] at ht
    obtain ⟨la, as, rfl, hla, das⟩ := GO.dp_lst d2
    have n2 := fl.many
    have nf := fl.few
    walk_at "g"
    refine GO.itR st.many (by omega) (by omega) (by omega) ?_
    intro D hD
    refine GO.lcS (walk_range (lo := 0) (n := st.many)) (FE H D) hD ⟨[], rfl, rfl, .nil, fun _ h => (nomatch h), fun _ h => (nomatch h), fun h => nomatch h⟩ (fun _ _ _ _ _ _ => trivial) ?_ ?_
    · rintro i x acc G0 G hi s e f ⟨e0, rfl⟩
      subst e0
      walk_at "g"
      refine ⟨by walk_at "sz", fun p hp => ?_⟩
      obtain ⟨ls, h1, h2, h3, h4, h5, h6⟩ := f
      have s2 := Same.new (o := .lst []) hp
      refine GO.ln hD offE (by rw [h1, List.length_map]; omega) s e s2 ⟨ls ++ [p], by rw [h1, List.map_append]; rfl, by rw [List.length_append, h2]; rfl, List.nodup_append.mpr ⟨h3, by simp, fun a ha b hb z => ?_⟩, fun l hl => ?_, fun l hl => ?_, fun z => ?_⟩
      · rw [List.mem_singleton.mp hb] at z
        exact ne_of_none (h4 a ha) hp z
      · rcases List.mem_append.mp hl with z | z
        · exact s2 _ _ (h4 l z)
        · rw [List.mem_singleton.mp z]; exact upd_same
      · rcases List.mem_append.mp hl with z | z
        · exact h5 l z
        · rw [List.mem_singleton.mp z]
          cases eH : H p with
          | none => rfl
          | some o => exact absurd hp (by rw [s _ _ eH]; exact fun z => nomatch z)
      · rcases List.mem_append.mp z with z | z
        · exact h6 z
        · rw [← List.mem_singleton.mp z] at hp
          exact absurd hp (by rw [e]; exact fun z => nomatch z)
    · intro acc G s e f
      obtain ⟨ls, rfl, h2, h3, h4, h5, h6⟩ := f
      have ht1 := PG.sqT_same s ht
      walk_at "g"
      have sH : Same H G := s
      have la1 := PG.sqL_same s hla
      refine GO.forI (walk_list (xs := as)) (fun j σ' G => ∃ y3 y4 y5 : Option V, σ' = [some (.ref t), some (.int m), some (.ref D), y3, y4, y5, none, none, none, none, none, none] ∧ Same H G ∧ G D = some (.lst (ls.map V.ref)) ∧ Gv ls (st.arr.take j) G)
        ⟨none, none, none, rfl, s, e, .start h4⟩ (fun i σ' G _ z => by obtain ⟨_, _, _, _, s, _⟩ := z; exact PG.sqL_same s hla) ?_ ?_
      · rintro j x σ' G0 G1 hj ⟨y3, y4, y5, rfl, sG, eG, gv⟩ ⟨e0, hxj⟩
        subst e0
        obtain ⟨dx, hdx, dpx⟩ := PG.dpAll_at (PG.dpAll_same sG _ _ das) hxj
        rw [List.getElem?_map] at hdx
        obtain ⟨⟨a, r, b⟩, har, rfl⟩ := Option.map_eq_some_iff.mp hdx
        obtain ⟨k1, k2, k3, k4⟩ := fl.ar a r b (List.mem_of_getElem? har)
        obtain ⟨ta, rfl, hta⟩ : ∃ ta, x = .ref ta ∧ SqT K G1 ta [.int a, .str (S r), .int b] := by
          obtain ⟨p, xs, rfl, hx, d⟩ := PG.dp_tup dpx
          cases d with
          | cons d1 u =>
            cases u with
            | cons d2 u =>
              cases u with
              | cons d3 u =>
                cases u
                rw [PG.dp_int d1, PG.dp_str d2, PG.dp_int d3] at hx
                exact ⟨p, rfl, hx⟩
        have al : a < ls.length := by omega
        have hla' : ls[a]? = some ls[a] := List.getElem?_eq_getElem al
        generalize ls[a] = la2 at hla'
        obtain ⟨ts, g1, g2⟩ := gv a la2 hla'
        walk_at "g"
        refine GO.ixl (SqL.of eG) (atI_int (j := a) rfl (by rw [List.getElem?_map, hla']; rfl)) ?_
        walk_at "g"
        refine ⟨by walk_at "sz", fun p hp => ?_⟩
        have s2 := Same.new (o := .tup [.str (S r), .int b]) hp
        have tl : (ts.map V.ref).length ≤ 1000000 := by
          have k := Paired.length g2
          have k0 := List.length_filter_le (fun ar : Nat × List Nat × Nat => decide (ar.1 = a)) (st.arr.take j)
          rw [List.length_take] at k0
          rw [List.length_map]; omega
        walk_at "g"
        refine GO.app (s2 _ _ g1) tl ?_
        have mH : H la2 = none := h5 la2 (List.mem_of_getElem? hla')
        have nD : D ≠ la2 := fun z => h6 (z ▸ List.mem_of_getElem? hla')
        refine ⟨_, _, _, rfl, Same.mut mH (sG.trans s2), upd_oth (s2 _ _ eG) nD, ?_⟩
        rw [take_one har]
        exact (gv.same s2).put h3 hla' (s2 _ _ g1) (Paired.mapP g2 fun _ _ z => s2 _ _ z) upd_same
      · rintro σ' G1 ⟨y3, y4, y5, rfl, sG, eG, gv⟩
        have aln : as.length = st.arr.length := by rw [PG.dpAll_len das, List.length_map]
        rw [aln, List.take_length] at gv
        clear h4 sH la1 ht1 s e hla das d1 d2
        walk_at "g"
        intro q hq
        have s1 := Same.new (o := .dT []) hq
        have e1 : upd G1 q (.dT []) q = some (.dT []) := upd_same
        generalize upd G1 q (.dT []) = G2 at s1 e1
        simp only [tPairs]
        walk_at "g"
        refine ⟨by walk_at "sz", fun p0 hp0 => ?_⟩
        have s2 := Same.new (o := .tup [.int 0, .str ""]) hp0
        have e2 : upd G2 p0 (.tup [.int 0, .str ""]) p0 = some (.tup [.int 0, .str ""]) := upd_same
        have e1' := s2 _ _ e1
        generalize upd G2 p0 (.tup [.int 0, .str ""]) = G3 at s2 e2 e1'
        walk_at "g"
        refine ⟨_, _, rfl, e1', p0, PG.keyP (0, []), rfl, e2, ?_⟩
        have e3 : upd G3 q (.dT (putK [] (PG.keyP (0, [])) (.bl true))) q = some (.dT (PG.DT' [(0, [])])) := upd_same
        have qH : H q = none := by
          cases eH : H q with
          | none => rfl
          | some o => exact absurd hq (by rw [sG _ _ eH]; exact fun z => nomatch z)
        have notin : ∀ {x : Addr}, G1 x = none → x ∉ ls := fun {x} h z => by
          obtain ⟨i, hi, ei⟩ := List.getElem_of_mem z
          obtain ⟨ts, k, _⟩ := gv i x (by rw [List.getElem?_eq_getElem hi, ei])
          rw [h] at k; cases k
        have qls := notin hq
        have Dq : D ≠ q := ne_of_none eG hq
        have s12 := s1.trans s2
        have G4s : Same H (upd G3 q (.dT (putK [] (PG.keyP (0, [])) (.bl true)))) := Same.mut qH (sG.trans s12)
        have G4D : upd G3 q (.dT (putK [] (PG.keyP (0, [])) (.bl true))) D = some (.lst (ls.map V.ref)) := upd_oth (s12 _ _ eG) Dq
        have G4g : Gv ls st.arr (upd G3 q (.dT (putK [] (PG.keyP (0, [])) (.bl true)))) := (gv.same s12).oth qls fun _ z => by rw [e1'] at z; cases z
        have G4n : ∀ {x : Addr}, upd G3 q (.dT (putK [] (PG.keyP (0, [])) (.bl true))) x = none → x ∉ ls ∧ H x = none := fun {x} h => by
          have h1 : G1 x = none := by
            cases e : G1 x with
            | none => rfl
            | some o =>
              have ne : x ≠ q := ne_of_none e hq
              rw [upd_oth (s12 _ _ e) ne] at h; cases h
          refine ⟨notin h1, ?_⟩
          cases e : H x with
          | none => rfl
          | some o => rw [sG _ _ e] at h1; cases h1
        generalize upd G3 q (.dT (putK [] (PG.keyP (0, [])) (.bl true))) = G4 at e3 G4s G4D G4g G4n
        clear notin s12 e1' s2 e2 s1 e1 gv eG sG
        walk_at "g"
        refine ⟨by walk_at "sz", fun p1 hp1 => ?_⟩
        have s5 := Same.new (o := .tup [.int 0, .str ""]) hp1
        have e5 : upd G4 p1 (.tup [.int 0, .str ""]) p1 = some (.tup [.int 0, .str ""]) := upd_same
        generalize upd G4 p1 (.tup [.int 0, .str ""]) = G5 at s5 e5
        walk_at "g"
        refine ⟨by walk_at "sz", fun W hW => ?_⟩
        have s6 := Same.new (o := .lst [.ref p1]) hW
        have e6 : upd G5 W (.lst [.ref p1]) W = some (.lst [.ref p1]) := upd_same
        have W4 : G4 W = none := by
          cases e : G4 W with
          | none => rfl
          | some o => rw [s5 _ _ e] at hW; cases hW
        have s56 := s5.trans s6
        have lp : Lp H (upd G5 W (.lst [.ref p1])) ls st.arr D q W [(0, [])] [(0, [])] :=
          ⟨G4s.trans s56, s56 _ _ G4D, G4g.same s56, s56 _ _ e3, ⟨[p1], e6, .cons (s6 _ _ e5) .nil⟩, qH, (G4n W4).2, qls, (G4n W4).1, Dq, ne_of_none G4D W4, ne_of_none e3 W4⟩
        generalize upd G5 W (.lst [.ref p1]) = G6 at lp
        clear e6 s6 s56 hW W4 s5 e5 hp1 G4s G4D G4g G4n e3
        walk_at "g"
        refine GO.whl (fun k σ' G => ∃ (y4 y5 y8 y9 y10 : Option V) (fo wa : List PG.PR), σ' = [some (.ref t), some (.int m), some (.ref D), y3, y4, y5, some (.ref q), some (.ref W), y8, y9, y10, none] ∧ Lp H G ls st.arr D q W fo wa ∧ PG.Wk st.arr m fo wa ∧ k = 2 * (12400 - fo.length) + wa.length ∧ k ≤ 30000) _
          ⟨_, _, _, _, _, _, _, rfl, lp, PG.Wk.start _ _, rfl, by decide⟩ ?_
        rintro k σ' G ⟨y4, y5, y8, y9, y10, fo, wa, rfl, lp, wk, ek, kb⟩
        obtain ⟨ws, hws, pws⟩ := lp.wai
        have wl : ws.length = wa.length := (Paired.length pws).symm
        have ff := found_few fl fw wk.nd wk.ok
        walk_at "g"
        by_cases em : wa = []
        · subst em
          have w0 : (ws.map V.ref).length = 0 := by rw [List.length_map, wl]; rfl
          rw [decide_eq_false (by rw [w0]; decide)]
          have eq := lp.dic
          have sH := lp.s
          walk_at "g"
          refine ⟨q, _, eq, trivial, fun od => ?_⟩
          have el : upd G q (.frz od (.dT (PG.DT' fo))) q = some (.frz od (.dT (PG.DT' fo))) := upd_same
          have back : ∀ G', Same (upd G q (.frz od (.dT (PG.DT' fo)))) G' → Same H (upd G' q (.dT (PG.DT' fo))) := fun G' s y o e => by
            have n : y ≠ q := ne_of_none e lp.ne.1
            exact upd_oth (s _ _ (upd_oth (sH _ _ e) n)) n
          generalize upd G q (.frz od (.dT (PG.DT' fo))) = GL at el back
          walk_at "g"
          refine ⟨q, od, rfl, .inr ⟨_, el, ?_⟩⟩
          intro D2 hD2
          refine GO.lcS (walk_keysT (kvs := PG.DT' fo)) (FG fo) hD2 rfl (fun i acc G _ s _ => s _ _ el) ?_ ?_
          · rintro i x acc G0 G2 hi s e f ⟨e0, kk, kv, kp, hk, rfl, hkp⟩
            subst e0
            unfold PG.DT' at hk
            rw [List.getElem?_map] at hk
            obtain ⟨z, hz, ez⟩ := Option.map_eq_some_iff.mp hk
            cases ez
            have hkp' : G2 kp = some (.tup [.int z.1, .str (S z.2)]) := hkp
            have al : acc.length ≤ 12400 := by
              rw [show acc = _ from f, rowsV_len, List.length_map]
              refine Nat.le_trans (List.length_filter_le _ _) ?_
              rw [List.length_take]; omega
            walk_at "g"
            by_cases c : (z.1 : Int) = 1
            · have cn : z.1 = 1 := by omega
              walk_at "g"
              exact GO.ln hD2 offG (by omega) s e (Same.refl _) (fg_yes f hz cn)
            · have cn : z.1 ≠ 1 := by omega
              walk_at "g"
              exact ⟨acc, s, e, fg_no f hz cn⟩
          · intro acc G2 s e f
            have fe : acc = rowsV ((fo.filter fun x => decide (x.1 = 1)).map fun x => x.2) := by
              have f : acc = _ := f
              rw [f, show (PG.DT' fo).length = fo.length by unfold PG.DT'; rw [List.length_map], List.take_length]
            subst fe
            refine ⟨s _ _ el, ?_⟩
            have sb := back G2 s
            have e2 : upd G2 q (.dT (PG.DT' fo)) D2 = some (.lst (rowsV ((fo.filter fun x => decide (x.1 = 1)).map fun x => x.2))) := upd_oth e (ne_of e (s _ _ el) fun z => nomatch z)
            generalize upd G2 q (.dT (PG.DT' fo)) = G3 at sb e2
            have e2' : SqL K G3 D2 (List.map (fun r => V.str (S r)) ((fo.filter fun x => decide (x.1 = 1)).map fun x => x.2)) := SqL.of e2
            walk_at "g"
            refine ⟨D2, (fo.filter fun x => decide (x.1 = 1)).map (fun x => x.2), rfl, e2', fun ys p pm up hp => ?_⟩
            have nd : ((fo.filter fun x => decide (x.1 = 1)).map fun x => x.2).Nodup := by
              refine List.pairwise_map.mpr ?_
              have h1 : (fo.filter fun x => decide (x.1 = 1)).Pairwise (fun a b => a ≠ b) := List.Pairwise.filter _ wk.nd
              have h2 : (fo.filter fun x => decide (x.1 = 1)).Pairwise (fun a b => a ∈ fo.filter (fun x => decide (x.1 = 1)) ∧ b ∈ fo.filter (fun x => decide (x.1 = 1))) := List.pairwise_of_forall_mem_list fun a ha b hb => ⟨ha, hb⟩
              refine (h1.and h2).imp ?_
              rintro a b ⟨n, ha, hb⟩ e
              have a1 : a.1 = 1 := of_decide_eq_true (List.mem_filter.mp ha).2
              have b1 : b.1 = 1 := of_decide_eq_true (List.mem_filter.mp hb).2
              exact n (Prod.ext (a1.trans b1.symm) e)
            refine fin p ys _ (sb.trans (Same.new hp)) upd_same up (pm.symm.nodup nd) fun w => ?_
            rw [pm.mem_iff, ← wk.end_ 1 w]
            constructor
            · intro h
              obtain ⟨x, hx, rfl⟩ := List.mem_map.mp h
              obtain ⟨h1, h2⟩ := List.mem_filter.mp hx
              have a1 : x.1 = 1 := of_decide_eq_true h2
              rw [← a1]; exact h1
            · intro h
              exact List.mem_map.mpr ⟨(1, w), List.mem_filter.mpr ⟨h, by simp⟩, rfl⟩
        · have w0 : (ws.map V.ref).length ≠ 0 := by rw [List.length_map, wl]; exact fun z => em (List.length_eq_zero_iff.mp z)
          rw [decide_eq_true (by omega)]
          obtain ⟨wa', x, rfl⟩ : ∃ wa' x, wa = wa' ++ [x] := ⟨wa.dropLast, wa.getLast em, (List.dropLast_concat_getLast em).symm⟩
          obtain ⟨ws', px, rfl, pws', ex⟩ : ∃ ws' px, ws = ws' ++ [px] ∧ PrsAt G wa' ws' ∧ G px = some (.tup [.int x.1, .str (S x.2)]) := prs_last pws
          refine GO.wb ?_
          rw [List.map_append] at hws
          have lp1 := lp.wait pws'
          have ex1 : upd G W (.lst (ws'.map V.ref)) px = some (.tup [.int x.1, .str (S x.2)]) := upd_oth ex fun z => by rw [z, hws] at ex; cases ex
          have wm := wk.pop
          obtain ⟨xr, xg⟩ := rch_ok fl (wk.ok x wm.here).1
          have xl := (wk.ok x wm.here).2
          rw [List.length_append] at ek
          walk_at "g"
          refine GO.pop hws ?_
          generalize upd G W (.lst (ws'.map V.ref)) = G2 at lp1 ex1
          have hla' : ls[x.1]? = some (ls[x.1]'(by omega)) := List.getElem?_eq_getElem (by omega)
          generalize ls[x.1]'(by omega) = l2 at hla'
          obtain ⟨ts, g1, g2⟩ := lp1.gv x.1 l2 hla'
          have ax : Ax G2 l2 (st.arr.filter fun ar => decide (ar.1 = x.1)) ts := ⟨g1, g2⟩
          have l2q : l2 ≠ q := fun z => lp.ne.2.2.1 (z ▸ List.mem_of_getElem? hla')
          have l2W : l2 ≠ W := fun z => lp.ne.2.2.2.1 (z ▸ List.mem_of_getElem? hla')
          have eD := lp1.goes
          walk_at "g"
          refine GO.ixl (SqL.of eD) (atI_int (j := x.1) rfl (by rw [List.getElem?_map, hla']; rfl)) ?_
          walk_at "g"
          refine GO.forI (walk_list (xs := ts.map V.ref)) (fun j σ' G => ∃ (y4 y5 y10 : Option V) (fo wa : List PG.PR), σ' = [some (.ref t), some (.int m), some (.ref D), y3, y4, y5, some (.ref q), some (.ref W), some (.int x.1), some (.str (S x.2)), y10, none] ∧ Lp H G ls st.arr D q W fo wa ∧ PG.Wm st.arr m fo wa x (((st.arr.filter fun ar => decide (ar.1 = x.1)).take j).map fun ar => ar.2) ∧ Ax G l2 (st.arr.filter fun ar => decide (ar.1 = x.1)) ts ∧ 2 * (12400 - fo.length) + wa.length + 1 ≤ k)
            ⟨_, _, _, _, _, rfl, lp1, wm, ax, by rw [ek]; simp; omega⟩ (fun i σ' G _ z => by obtain ⟨_, _, _, _, _, _, _, _, z, _⟩ := z; exact SqL.of z.1) ?_ ?_
          · rintro j y σ' G0 G3 hj ⟨y4, y5, y10, fo, wa, rfl, lp3, wm3, ax3, ek3⟩ ⟨e0, hyj⟩
            subst e0
            rw [List.getElem?_map] at hyj
            obtain ⟨tp, htp, rfl⟩ := Option.map_eq_some_iff.mp hyj
            obtain ⟨⟨a, r, b⟩, har, etp⟩ := paired_at2 ax3.2 htp
            have fr := List.mem_filter.mp (List.mem_of_getElem? har)
            obtain rfl : a = x.1 := of_decide_eq_true fr.2
            obtain ⟨_, k2, k3, k4⟩ := fl.ar _ _ _ fr.1
            have etp' : G3 tp = some (.tup [.str (S r), .int b]) := etp
            have tk : ((st.arr.filter fun ar => decide (ar.1 = x.1)).take (j + 1)).map (fun ar => ar.2) = ((st.arr.filter fun ar => decide (ar.1 = x.1)).take j).map (fun ar => ar.2) ++ [(r, b)] := by rw [take_one har, List.map_append]; rfl
            have m6 := fw.1
            walk_at "g"
            refine ⟨_, _, rfl, rfl, by rw [S_len, S_len]; exact Nat.le_trans (by omega : _ ≤ 1000) (by decide), ?_⟩
            rw [S_app]
            walk_at "g"
            refine ⟨by walk_at "sz", fun pm hpm => ?_⟩
            have s4 := Same.new (o := .tup [.int b, .str (S (x.2 ++ r))]) hpm
            have e4 : upd G3 pm (.tup [.int b, .str (S (x.2 ++ r))]) pm = some (.tup [.int b, .str (S (x.2 ++ r))]) := upd_same
            have lp4 := lp3.same s4
            have ax4 := ax3.same s4
            generalize upd G3 pm (.tup [.int b, .str (S (x.2 ++ r))]) = G4 at e4 lp4 ax4
            have sr : (S (x.2 ++ r)).length = x.2.length + r.length := by rw [S_len, List.length_append]
            have ff3 := found_few fl fw wm3.nd wm3.ok
            have sl2 : (x.2 ++ r).length = x.2.length + r.length := List.length_append
            have slr : (S (x.2 ++ r)).length ≤ sizeLine := by rw [sr]; exact Nat.le_trans (by omega : _ ≤ 1000) (by decide)
            have skp : ∀ {G5 : Hp}, Same G4 G5 → ¬ (x.2.length + r.length ≤ m ∧ (b, x.2 ++ r) ∉ fo) → ∃ (y4 y5 y10 : Option V) (fo wa : List PG.PR), ([some (.ref t), some (.int m), some (.ref D), y3, some (.str (S r)), some (.int b), some (.ref q), some (.ref W), some (.int x.1), some (.str (S x.2)), some (.ref pm), none] : L2.St) = [some (.ref t), some (.int m), some (.ref D), y3, y4, y5, some (.ref q), some (.ref W), some (.int x.1), some (.str (S x.2)), y10, none] ∧ Lp H G5 ls st.arr D q W fo wa ∧ PG.Wm st.arr m fo wa x (((st.arr.filter fun ar => decide (ar.1 = x.1)).take (j + 1)).map fun ar => ar.2) ∧ Ax G5 l2 (st.arr.filter fun ar => decide (ar.1 = x.1)) ts ∧ 2 * (12400 - fo.length) + wa.length + 1 ≤ k := fun s5 no =>
              ⟨_, _, _, fo, wa, rfl, lp4.same s5, by rw [tk]; exact wm3.skip no, ax4.same s5, ek3⟩
            by_cases le : x.2.length + r.length ≤ m
            · by_cases c : (b, x.2 ++ r) ∈ fo
              · refine GO.midFS ?_ fun G5 s5 => ?_
                · walk_at "g"
                  refine dnoT (x := (b, x.2 ++ r)) lp4.dic e4 ?_
                  rw [PG.has_DT, decide_eq_true c]
                  walk_at "g"
                  exact ⟨rfl, Same.refl _⟩
                · walk_at "g"
                  exact skp s5 fun z => z.2 c
              · refine GO.midTS ?_ fun G5 s5 => ?_
                · walk_at "g"
                  refine dnoT (x := (b, x.2 ++ r)) lp4.dic e4 ?_
                  rw [PG.has_DT, decide_eq_false c]
                  walk_at "g"
                  exact ⟨rfl, Same.refl _⟩
                · have lp5 := lp4.same s5
                  have e5 := s5 _ _ e4
                  have ax5 := ax4.same s5
                  walk_at "g"
                  refine dputT (x := (b, x.2 ++ r)) lp5.dic e5 (by omega) c ?_
                  have lp6 := lp5.found (fo' := fo ++ [(b, x.2 ++ r)])
                  have ax6 := ax5.oth (o := .dT (PG.DT' (fo ++ [(b, x.2 ++ r)]))) l2q fun _ z => by rw [lp5.dic] at z; cases z
                  have e6 : upd G5 q (.dT (PG.DT' (fo ++ [(b, x.2 ++ r)]))) pm = some (.tup [.int b, .str (S (x.2 ++ r))]) := upd_oth e5 fun z => by rw [z, lp5.dic] at e5; cases e5
                  generalize upd G5 q (.dT (PG.DT' (fo ++ [(b, x.2 ++ r)]))) = G6 at lp6 ax6 e6
                  obtain ⟨ws6, hw6, pw6⟩ := lp6.wai
                  have wl6 : (ws6.map V.ref).length = wa.length := by rw [List.length_map]; exact (Paired.length pw6).symm
                  have wm4 := wm3.more fr.1 le c
                  have ff4 := found_few fl fw wm4.nd wm4.ok
                  rw [List.length_append, List.length_singleton] at ff4
                  walk_at "g"
                  refine GO.app hw6 (by omega) ?_
                  have lp7 := lp6.wait (wa' := wa ++ [(b, x.2 ++ r)]) (ws' := ws6 ++ [pm]) (paired_snoc pw6 e6)
                  have e8 : (ws6 ++ [pm]).map V.ref = ws6.map V.ref ++ [.ref pm] := by rw [List.map_append]; rfl
                  rw [e8] at lp7
                  have ax7 := ax6.oth (o := .lst (ws6.map V.ref ++ [.ref pm])) l2W fun _ z => by rw [hw6] at z; cases z
                  exact ⟨_, _, _, _, _, rfl, lp7, by rw [tk]; exact wm4, ax7, by simp only [List.length_append, List.length_singleton]; omega⟩
            · refine GO.midFS ?_ fun G5 s5 => ?_
              · walk_at "g"
                exact ⟨rfl, Same.refl _⟩
              · walk_at "g"
                exact skp s5 fun z => le z.1
          · rintro σ' G3 ⟨y4, y5, y10, fo, wa, rfl, lp3, wm3, ax3, ek3⟩
            refine ⟨2 * (12400 - fo.length) + wa.length, by omega, _, _, _, _, _, _, _, rfl, lp3, wm3.done fun l b ha => ?_, rfl, by omega⟩
            have tl : ts.length = (st.arr.filter fun ar => decide (ar.1 = x.1)).length := (Paired.length g2).symm
            rw [List.length_map, tl, List.take_length]
            exact List.mem_map.mpr ⟨(x.1, l, b), List.mem_filter.mpr ⟨ha, by simp⟩, rfl⟩

theorem lay_rows : ∀ ys : List (List Nat), (∀ r ∈ ys, Ls r) → PyData.canLayAll0 (ys.map fun r => PyData.str (S r)) = true ∧ PyData.depthAll (ys.map fun r => PyData.str (S r)) = 0
  | [], _ => by simp only [List.map_nil, PyData.canLayAll0, PyData.depthAll, and_self]
  | r :: ys, h => by
    obtain ⟨h1, h2⟩ := lay_rows ys fun x hx => h x (List.mem_cons_of_mem _ hx)
    have h3 := ok_S (h r List.mem_cons_self)
    simp only [List.map_cons, PyData.canLayAll0, PyData.canLay0, h1, h3, Bool.and_self, PyData.depth, PyData.depthAll, h2, Nat.max_self, and_self]
theorem sh_rows {ys : List (List Nat)} (h : ∀ r ∈ ys, Ls r) : SeqAt.shaped (.list (ys.map fun r => PyData.str (S r))) = true := by
  obtain ⟨h1, h2⟩ := lay_rows ys h
  simp only [SeqAt.shaped, PyData.canLay0, PyData.depth, h1, h2, Bool.true_and]; decide
theorem dp_rows {K : PySem.W.Frag} {H : Hp} : ∀ ys : List (List Nat), DpAll K H (rowsV ys) (ys.map fun r => PyData.str (S r))
  | [] => .nil
  | r :: ys => .cons (.str _) (dp_rows ys)
theorem rows_ne {K : PySem.W.Frag} {H : Hp} {Q : VK} {x y : Addr} {ys : List (List Nat)} (hx : H x = some (.lst (rowsV ys))) (hy : H y = some (.lst (rowsV ys))) (ls : ∀ r ∈ ys, Ls r) (k : Q (.bl false) H) : rNeD K (.ref x) (.ref y) H Q :=
  GO.ne_same (sh_rows ls) (.lst (SqL.of hx) (dp_rows ys)) (.lst (SqL.of hy) (dp_rows ys)) k
theorem fl_at {d : List Nat} {ps : List Nat → Option (List PG.T)} {n : Nat} {b : List PG.T} (h : PG.RB_ d ps n b) (z1 : (PG.szB b).1 ≤ 58) (z2 : (PG.szB b).2 ≤ 200) : FlAt d (PG.flowOf n b) := by
  obtain ⟨h1, h2⟩ := PG.flow_in h
  obtain ⟨h3, h4⟩ := PG.flow_ub h z1 z2
  exact ⟨⟨h1, by omega⟩, by omega, fun a l c k => ⟨(h2 a l c k).1, (h2 a l c k).2, PG.flow_ag h _ k⟩⟩
theorem ls_of {d : List Nat} {ps : List Nat → Option (List PG.T)} {n m : Nat} {b : List PG.T} {ys : List (List Nat)} (h : ∀ s ∈ b, PG.R d ps n s) (k : ∀ w, w ∈ ys ↔ PG.LgL b w ∧ w.length ≤ m) : ∀ r ∈ ys, Ls r := fun r hr => (PG.gw_L (fun s hs => PG.gw_S (h s hs)) ((k r).mp hr).1).1
def sp_law (K : PySem.W.Frag) : Sp := fun vs H Q _ => ∃ (a : Addr) (ns : List Int), vs = [.ref a] ∧ SqL K H a (ns.map V.int) ∧ ns.length ≤ 63 ∧ ∀ H', Q (.bl true) H'
theorem hsp (K : PySem.W.Frag) (H : Hp) (a : Addr) (ns : List Int) (hl : ns.length ≤ 63) (_ : Only H) (hS : SqL K H a (ns.map V.int)) : sp_law K [.ref a] H (fun v _ => v = .bl true) fun _ _ _ => False :=
  ⟨a, ns, rfl, hS, hl, fun _ => rfl⟩
theorem ok_law (T : Txt K mg A) : FnOk P w K mg base (CX P w) 114 A.a_law A.d_law ["_law_script"] (sp_law K) := by
  refine T.F_law.okX sc_law (fun vs H Q E h => ?_) (fun cdv Ar outer s H vs Q E hr h => ?_)
  · obtain ⟨_, _, rfl, _⟩ := h
    rfl
  · obtain ⟨sc, ns, rfl, hS, hlen, fin⟩ := h
    refine ⟨_, (pss_cons (ps_set (i := 1) sc_law.nd rfl (Or.inl rfl) (pe_call (ok_hand (K := K) T) (hr.mono (by decide)) (by rfl) T.g_hand T.F_hand.kp T.b_hand .nil passF (pa_cons (pv 0) pa_nil)))
      (pss_cons (ps_for (passes_of rfl) rfl (pi_range1 (by rfl) T.m_range (pa_cons pe_int pa_nil)) (pg_name (i := 2) sc_law.nd rfl (Or.inl rfl)) (pss_cons (ps_asg (pe_call (ok_drawn (K := K) T) (hr.mono (by decide)) (by rfl) T.g_drawn T.F_drawn.kp T.b_drawn .nil passF (pa_cons (pv 1) (pa_cons pe_int (pa_cons pe_int pa_nil)))) (pgT (K := K) (n := 3) rfl rfl (pgs_cons (pg_name (i := 3) sc_law.nd rfl (Or.inl rfl)) (pgs_cons (pg_name (i := 4) sc_law.nd rfl (Or.inl rfl)) (pgs_cons (pg_name (i := 5) sc_law.nd rfl (Or.inl rfl)) pgs_nil)))))
      (pss_cons (ps_set (i := 6) sc_law.nd rfl (Or.inl rfl) (pe_ix (ixL (K := K) rfl) (pe_lst (pa_cons pe_int (pa_cons pe_int (pa_cons pe_int pa_nil)))) (pe_op op_sub (pe_callB clenS (by rfl) T.m_len bt_len (pa_cons (pv 3) pa_nil)) pe_int) (fun _ _ => rfl)))
      (pss_cons (ps_set (i := 7) sc_law.nd rfl (Or.inl rfl) (pe_call (ok_rows (K := K) T) (hr.mono (by decide)) (by rfl) T.g_rows T.F_rows.kp T.b_rows .nil passF (pa_cons (pv 5) (pa_cons (pv 4) (pa_cons (pv 6) pa_nil)))))
      (pss_cons (ps_if (pt_cmpR (neD (K := K) rfl hr.units) (pe_call (ok_along (K := K) T) (hr.mono (by decide)) (by rfl) T.g_along T.F_along.kp T.b_along .nil passF (pa_cons (pe_call (ok_flow (K := K) T) hr (by rfl) T.g_flow T.F_flow.kp T.b_flow .nil passF (pa_cons (pe_make T.M_Program (ok_Program_init (K := K) T) (hr.mono (by decide)) (by rfl) T.gC_Program T.b_Program_init .nil (passes_call (takes_of rfl rfl rfl rfl) (fun _ _ _ _ h => h)) (pa_cons (pv 3) (pa_cons (pv 4) (pa_cons (pv 5) pa_nil)))) pa_nil)) (pa_cons (pv 6) pa_nil))) (pe_callB (GO.sorted_rows (K := K) rfl) (by rfl) T.m_sorted bt_sorted (pa_cons (pv 7) pa_nil)) (nomark _)) (pss_one (ps_ret pe_bl)) pss_nil)
      (pss_cons (ps_set (i := 8) sc_law.nd rfl (Or.inl rfl) (pe_call (ok_flow (K := K) T) hr (by rfl) T.g_flow T.F_flow.kp T.b_flow .nil passF (pa_cons (pe_make T.M_Program (ok_Program_init (K := K) T) (hr.mono (by decide)) (by rfl) T.gC_Program T.b_Program_init .nil (passes_call (takes_of rfl rfl rfl rfl) (fun _ _ _ _ h => h)) (pa_cons (pv 3) (pa_cons (pv 4) (pa_cons (pe_tup (pa_cons (pe_tup (pa_cons pe_str (pa_cons (pv 5) pa_nil))) pa_nil)) pa_nil)))) pa_nil)))
      (pss_cons (ps_if (pt_cmpR (neD (K := K) rfl hr.units) (pe_call (ok_along (K := K) T) (hr.mono (by decide)) (by rfl) T.g_along T.F_along.kp T.b_along .nil passF (pa_cons (pv 8) (pa_cons (pv 6) pa_nil))) (pe_callB (GO.sorted_rows (K := K) rfl) (by rfl) T.m_sorted bt_sorted (pa_cons (pe_lc (own := [("_law_row_here", 10)]) (tt := tYes) rfl sc_law.nd (piL (K := K) rfl (pv 7)) (blkOk_by (N := ["_law_script", "_law_hand_here", "_law_turn", "_law_deeds_here", "_law_parts", "_law_body", "_law_most", "_law_rows_here", "_law_undone", "_law_rounds", "_law_row_here"]) (sc := defScope s_law) (by decide +kernel)) (fun _ _ _ _ _ => (pg_name (i := 10) sc_law.nd rfl (Or.inl rfl))) (fun _ _ _ _ _ => pts_nil) (fun _ _ _ _ _ => (pe_call (ok_back (K := K) T) (hr.mono (by decide)) (by rfl) T.g_back T.F_back.kp T.b_back .nil passF (pa_cons (pv 10) pa_nil)))) pa_nil)) (nomark _)) (pss_one (ps_ret pe_bl)) pss_nil)
      (pss_cons (ps_set (i := 9) sc_law.nd rfl (Or.inl rfl) (pe_call (ok_flow (K := K) T) hr (by rfl) T.g_flow T.F_flow.kp T.b_flow .nil passF (pa_cons (pe_make T.M_Program (ok_Program_init (K := K) T) (hr.mono (by decide)) (by rfl) T.gC_Program T.b_Program_init .nil (passes_call (takes_of rfl rfl rfl rfl) (fun _ _ _ _ h => h)) (pa_cons (pv 3) (pa_cons (pv 4) (pa_cons (pe_tup (pa_cons (pe_tup (pa_cons pe_str (pa_cons (pv 5) pa_nil))) pa_nil)) pa_nil)))) pa_nil)))
      (pss_one (ps_if (pt_cmpR (neD (K := K) rfl hr.units) (pe_call (ok_along (K := K) T) (hr.mono (by decide)) (by rfl) T.g_along T.F_along.kp T.b_along .nil passF (pa_cons (pv 9) (pa_cons (pv 6) pa_nil))) (pe_callB (GO.sorted_rows (K := K) rfl) (by rfl) T.m_sorted bt_sorted (pa_cons (pe_call (ok_statement_rows (K := K) T) (hr.mono (by decide)) (by rfl) T.g_statement_rows T.F_statement_rows.kp T.b_statement_rows .nil passF (pa_cons (pe_tup (pa_cons pe_str (pa_cons (pv 5) pa_nil))) (pa_cons (pv 4) (pa_cons (pv 6) pa_nil)))) pa_nil)) (nomark _)) (pss_one (ps_ret pe_bl)) pss_nil))))))))))
      (pss_one (ps_ret pe_bl)))), ?_⟩
    walk_at "g"
    refine ⟨sc, ns, rfl, hS, hlen, fun h c H0 _ s0 hH => ?_⟩
    walk_at "g"
    refine GO.itR 2 (by decide) (by decide) (by decide) ?_
    refine GO.forI (walk_range (lo := 0) (n := 2)) (fun i σ' G => ∃ y2 y3 y4 y5 y6 y7 y8 y9 y10 : Option V, σ' = [some (.ref sc), some (.ref h), y2, y3, y4, y5, y6, y7, y8, y9, y10] ∧ Hand G h c)
      ⟨none, none, none, none, none, none, none, none, none, rfl, hH⟩ (fun _ _ _ _ _ => trivial) ?_ ?_
    · rintro i x σ' G G' hi ⟨y2, y3, y4, y5, y6, y7, y8, y9, y10, rfl, gG⟩ ⟨rfl, rfl⟩
      walk_at "g"
      refine ⟨h, c, 3, 7, rfl, gG, by decide, by decide, fun w dp d kvs ps b v H1 g1 hdp hw ed hp hd d0 d4 pdr hb bd => ?_⟩
      walk_at "g"
      refine ⟨by walk_at "sz", fun p1 hp1 => ?_⟩
      have s1 := Same.new (o := .lst [.int 6, .int 3, .int 2]) hp1
      have e1 : upd H1 p1 (.lst [.int 6, .int 3, .int 2]) p1 = some (.lst [.int 6, .int 3, .int 2]) := upd_same
      generalize upd H1 p1 (.lst [.int 6, .int 3, .int 2]) = H2 at s1 e1
      have rb : PG.RB_ d (PG.look ps) 12 b := ⟨by have := bd.l; omega, fun t ht => (bd.r t ht).1⟩
      have db : PG.depL b ≤ 3 := PG.depL_le.mpr fun t ht => (bd.r t ht).2
      have z1 := bd.z1
      have z2 := bd.z2
      have g2 := g1.same s1
      have ed2 := s1 _ _ ed
      have hp2 := hp.same s1
      have hb2 := hb.same s1
      have dd : Dds d := ⟨hd, d0, by omega⟩
      obtain ⟨m, hm, fw⟩ : ∃ m : Nat, ([.int 6, .int 3, .int 2] : List V)[d.length - 1]? = some (.int m) ∧ Few d m := by
        have l0 : d.length ≠ 0 := fun z => d0 (List.length_eq_zero_iff.mp z)
        have l3 : d.length = 1 ∨ d.length = 2 ∨ d.length = 3 := by omega
        unfold Few
        rcases l3 with e | e | e <;> rw [e]
        · exact ⟨6, rfl, by decide, by decide⟩
        · exact ⟨3, rfl, by decide, by decide⟩
        · exact ⟨2, rfl, by decide, by decide⟩
      have dl : (S d).length = d.length := S_len d
      have l0 : d.length ≠ 0 := fun z => d0 (List.length_eq_zero_iff.mp z)
      clear hw ed hp hb hdp g1 s1
      walk_at "g"
      refine GO.ixl (SqL.of e1) (atI_int (j := d.length - 1) (by omega) hm) ?_
      walk_at "g"
      refine ⟨dp, v, d, kvs, ps, b, m, rfl, .inl ed2, hp2, hb2, rb.le (by decide), fw, fun p7 rs H3 s3 ra => ?_⟩
      have g3 := g2.same s3
      have ed3 := s3 _ _ ed2
      have hp3 := hp2.same s3
      have hb3 := hb2.same s3
      clear g2 ed2 hp2 hb2 s3 e1
      walk_at "g"
      intro xa dxa hx hdx nx
      have sn : Same H3 (upd (upd H3 dxa (.own xa)) xa (.ins A.c_Program dxa [])) := fun a o e => upd_oth (upd_oth e (ne_of_none e hdx)) (ne_of_none e hx)
      refine ⟨xa, dxa, dp, v, d, kvs, ps, b, rfl, upd_same, dd, .inl (sn _ _ ed3), hp3.same sn, pdr.ok, hb3.same sn, (rb.le (by decide) : PG.RB_ d (PG.look ps) 20 b), (by omega), fun _ H4 bt pa => ⟨rfl, ?_⟩, fun no => absurd ⟨(by omega : (PG.szB b).1 ≤ 58), (by omega : (PG.szB b).2 ≤ 200)⟩ no⟩
      have sa1 : Same H3 H4 := fun a o e => bt _ _ (ne_of_none e hx) (sn _ _ e)
      clear bt sn hx hdx nx
      walk_at "g"
      refine ⟨xa, d, ps, b, rfl, pa, (rb.le (by decide) : PG.RB_ d (PG.look ps) 20 b), (by omega : (PG.szB b).1 ≤ 58), (by omega : (PG.szB b).2 ≤ 200), fun ua H4' sa2 dua => ?_⟩
      walk_at "g"
      refine ⟨ua, d, _, m, rfl, dua, fl_at (ps := PG.look ps) (rb.le (by decide) : PG.RB_ d (PG.look ps) 20 b) (by omega : (PG.szB b).1 ≤ 58) (by omega : (PG.szB b).2 ≤ 200), fw, fun paa ysa Ka sa3 eya upa nda mema => ?_⟩
      have sAa := sa1.trans (sa2.trans sa3)
      have mya : ∀ w, w ∈ ysa ↔ PG.LgL b w ∧ w.length ≤ m := fun w => by rw [mema, PG.flow_rch (d := d) (ps := PG.look ps) ((rb.le (by decide) : PG.RB_ d (PG.look ps) 20 b)).2]
      have raA := ra.same sAa
      walk_at "g"
      refine ⟨p7, rs, rfl, SqL.of raA.1, fun zs p8 pm up2 hp8 => ?_⟩
      obtain rfl : ysa = zs := GO.sorted_one (.refl ysa) pm upa up2 nda ra.2.1 fun w => by rw [mya, ra.2.2]
      have s8 := Same.new (o := .lst (List.map (fun r => V.str (S r)) ysa)) hp8
      refine rows_ne (ys := ysa) (s8 _ _ eya) (show upd Ka p8 (.lst (List.map (fun r => V.str (S r)) ysa)) p8 = some (.lst (rowsV ysa)) from upd_same) (ls_of rb.2 mya) ?_
      have g5 := g3.same (sAa.trans s8)
      have ed5 := s8 _ _ (sAa _ _ ed3)
      have hp5 := hp3.same (sAa.trans s8)
      have hb5 := hb3.same (sAa.trans s8)
      have ra5 := raA.same s8
      generalize upd Ka p8 (.lst (List.map (fun r => V.str (S r)) ysa)) = H5 at g5 ed5 hp5 hb5 ra5
      walk_at "g"
      refine ⟨by walk_at "sz", fun q1 hq1 => ?_⟩
      obtain ⟨t1, m1⟩ := PG.mk_undo hb5 hq1
      generalize upd H5 q1 _ = A5 at t1 m1
      walk_at "g"
      refine ⟨by walk_at "sz", fun q2 hq2 => ?_⟩
      obtain ⟨t2, m2⟩ := PG.blk_new m1 hq2
      generalize upd A5 q2 _ = B5 at t2 m2
      have tA := t1.trans t2
      have ed5' := tA _ _ ed5
      have hp5' := hp5.same tA
      have rbn : PG.RB_ d (PG.look ps) 20 [.undo b] := PG.RB_.le (n := 13) ⟨by simp, fun t ht => by rw [List.mem_singleton.mp ht]; exact .undo rb.1 rb.2⟩ (by decide)
      have z1n : (PG.szB [.undo b]).1 ≤ 58 := by unfold PG.szB at z1 z2 ⊢; simp only [PG.szL, PG.szS, List.length_singleton, Nat.add_zero, if_neg (List.cons_ne_nil _ _)]; (first | omega | (split at z2 <;> simp_all <;> omega))
      have z2n : (PG.szB [.undo b]).2 ≤ 200 := by unfold PG.szB at z1 z2 ⊢; simp only [PG.szL, PG.szS, List.length_singleton, Nat.add_zero, if_neg (List.cons_ne_nil _ _)]; (first | omega | (split at z2 <;> simp_all <;> omega))
      have dpn : PG.depL [.undo b] ≤ 5 := by simp only [PG.depL, PG.depS]; omega
      walk_at "g"
      intro xb dxb hx hdx nx
      have sn : Same B5 (upd (upd B5 dxb (.own xb)) xb (.ins A.c_Program dxb [])) := fun a o e => upd_oth (upd_oth e (ne_of_none e hdx)) (ne_of_none e hx)
      refine ⟨xb, dxb, dp, .ref q2, d, kvs, ps, [.undo b], rfl, upd_same, dd, .inl (sn _ _ ed5'), hp5'.same sn, pdr.ok, m2.same sn, rbn, dpn, fun _ H6 bt pa => ⟨rfl, ?_⟩, fun no => absurd ⟨z1n, z2n⟩ no⟩
      have sb1 : Same B5 H6 := fun a o e => bt _ _ (ne_of_none e hx) (sn _ _ e)
      clear bt sn hx hdx nx
      walk_at "g"
      refine ⟨xb, d, ps, [.undo b], rfl, pa, rbn, z1n, z2n, fun ub H6' sb2 dub => ?_⟩
      walk_at "g"
      refine ⟨ub, d, _, m, rfl, dub, fl_at (ps := PG.look ps) rbn z1n z2n, fw, fun pab ysb Kb sb3 eyb upb ndb memb => ?_⟩
      have sAb := sb1.trans (sb2.trans sb3)
      have myb : ∀ w, w ∈ ysb ↔ PG.LgL [.undo b] w ∧ w.length ≤ m := fun w => by rw [memb, PG.flow_rch (d := d) (ps := PG.look ps) (rbn).2]
      have raB := (ra5.same tA).same sAb
      have e7 := raB.1
      walk_at "g"
      intro D hD
      have f1 : rs.length ≤ 200 := rows_few rb.2 fw ra.2.1 fun w hw => (ra.2.2 w).mp hw
      refine GO.lcS (walk_list (xs := rowsV rs)) (GO.FT rs fun r => V.str (S (inv r))) hD rfl (fun i acc G _ s _ => SqL.of (s _ _ e7)) ?_ ?_
      · rintro i' x acc G0 G7 hi' s e f ⟨e0, hxi⟩
        subst e0
        obtain ⟨r, hu, rfl⟩ := rowsV_at hxi
        have rk := (ra.2.2 r).mp (List.mem_of_getElem? hu)
        have m6 := fw.1
        walk_at "g"
        refine ⟨r, rfl, ls_of rb.2 ra.2.2 r (List.mem_of_getElem? hu), by omega, fun G5 s5 => ?_⟩
        exact GO.lnT hu rfl hD (by omega) s e f s5
      intro acc G7 s7 e9 f7
      obtain rfl := GO.ft_end f7 (by rw [rowsV_len]; exact Nat.le_refl _)
      have e9' : G7 D = some (.lst (rowsV (rs.map inv))) := by rw [e9]; unfold rowsV; rw [List.map_map]; rfl
      walk_at "g"
      refine ⟨D, rs.map inv, rfl, SqL.of e9', fun zs p9 pm up2 hp9 => ?_⟩
      obtain rfl : ysb = zs := GO.sorted_one (.refl ysb) pm upb up2 ndb (List.Pairwise.map inv (fun a b ne z => ne (by rw [← PG.inv_inv' a, z, PG.inv_inv'])) ra.2.1) fun w => by
        rw [myb, List.mem_map, PG.LgL_one]
        simp only [PG.LgS]
        constructor
        · rintro ⟨h1, h2⟩
          exact ⟨inv w, (ra.2.2 _).mpr ⟨h1, by rw [inv_len]; exact h2⟩, PG.inv_inv' w⟩
        · rintro ⟨u, hu, rfl⟩
          rw [PG.inv_inv', inv_len]
          exact (ra.2.2 u).mp hu
      have s8 := Same.new (o := .lst (List.map (fun r => V.str (S r)) ysb)) hp9
      refine rows_ne (ys := ysb) (s8 _ _ (s7 _ _ eyb)) (show upd G7 p9 (.lst (List.map (fun r => V.str (S r)) ysb)) p9 = some (.lst (rowsV ysb)) from upd_same) (ls_of rbn.2 myb) ?_
      have sT := tA.trans (sAb.trans (s7.trans s8))
      have g7 := g5.same sT
      have ed7 := sT _ _ ed5
      have hp7 := hp5.same sT
      have hb7 := hb5.same sT
      generalize upd G7 p9 (.lst (List.map (fun r => V.str (S r)) ysb)) = H7 at g7 ed7 hp7 hb7
      clear sT s8 hp9 e9' e9 f7 s7 hD e7 raB sAb tA m2 ed5' hp5' rbn z1n z2n dpn m1 t1 t2 hq1 hq2
      walk_at "g"
      refine ⟨by walk_at "sz", fun q1 hq1 => ?_⟩
      obtain ⟨t1, m1⟩ := PG.mk_loop hb7 hq1
      generalize upd H7 q1 _ = A7 at t1 m1
      walk_at "g"
      refine ⟨by walk_at "sz", fun q2 hq2 => ?_⟩
      obtain ⟨t2, m2⟩ := PG.blk_new m1 hq2
      generalize upd A7 q2 _ = B7 at t2 m2
      have tA := t1.trans t2
      have ed7' := tA _ _ ed7
      have hp7' := hp7.same tA
      have rbn : PG.RB_ d (PG.look ps) 20 [.loop b] := PG.RB_.le (n := 13) ⟨by simp, fun t ht => by rw [List.mem_singleton.mp ht]; exact .loop rb.1 rb.2⟩ (by decide)
      have z1n : (PG.szB [.loop b]).1 ≤ 58 := by unfold PG.szB at z1 z2 ⊢; simp only [PG.szL, PG.szS, List.length_singleton, Nat.add_zero, if_neg (List.cons_ne_nil _ _)]; (first | omega | (split at z2 <;> simp_all <;> omega))
      have z2n : (PG.szB [.loop b]).2 ≤ 200 := by unfold PG.szB at z1 z2 ⊢; simp only [PG.szL, PG.szS, List.length_singleton, Nat.add_zero, if_neg (List.cons_ne_nil _ _)]; (first | omega | (split at z2 <;> simp_all <;> omega))
      have dpn : PG.depL [.loop b] ≤ 5 := by simp only [PG.depL, PG.depS]; omega
      walk_at "g"
      intro xc dxc hx hdx nx
      have sn : Same B7 (upd (upd B7 dxc (.own xc)) xc (.ins A.c_Program dxc [])) := fun a o e => upd_oth (upd_oth e (ne_of_none e hdx)) (ne_of_none e hx)
      refine ⟨xc, dxc, dp, .ref q2, d, kvs, ps, [.loop b], rfl, upd_same, dd, .inl (sn _ _ ed7'), hp7'.same sn, pdr.ok, m2.same sn, rbn, dpn, fun _ H8 bt pa => ⟨rfl, ?_⟩, fun no => absurd ⟨z1n, z2n⟩ no⟩
      have sc1 : Same B7 H8 := fun a o e => bt _ _ (ne_of_none e hx) (sn _ _ e)
      clear bt sn hx hdx nx
      walk_at "g"
      refine ⟨xc, d, ps, [.loop b], rfl, pa, rbn, z1n, z2n, fun uc H8' sc2 duc => ?_⟩
      walk_at "g"
      refine ⟨uc, d, _, m, rfl, duc, fl_at (ps := PG.look ps) rbn z1n z2n, fw, fun pac ysc Kc sc3 eyc upc ndc memc => ?_⟩
      have sAc := sc1.trans (sc2.trans sc3)
      have myc : ∀ w, w ∈ ysc ↔ PG.LgL [.loop b] w ∧ w.length ≤ m := fun w => by rw [memc, PG.flow_rch (d := d) (ps := PG.look ps) (rbn).2]
      have g8 := g7.same (tA.trans sAc)
      have ed8 := sAc _ _ ed7'
      have hp8' := hp7'.same sAc
      have hb8 := hb7.same (tA.trans sAc)
      walk_at "g"
      refine ⟨by walk_at "sz", fun q3 hq3 => ?_⟩
      obtain ⟨t3, m3⟩ := PG.mk_loop hb8 hq3
      generalize upd Kc q3 _ = H9 at t3 m3
      walk_at "g"
      refine ⟨dp, .ref q3, d, kvs, ps, .loop b, m, rfl, .inl (t3 _ _ ed8), hp8'.same t3, m3, rbn.2 _ (List.mem_singleton.mpr rfl), fw, fun p10 rs2 H10 s10 ra2 => ?_⟩
      walk_at "g"
      refine ⟨p10, rs2, rfl, SqL.of ra2.1, fun zs p11 pm up2 hp11 => ?_⟩
      obtain rfl : ysc = zs := GO.sorted_one (.refl ysc) pm upc up2 ndc ra2.2.1 fun w => by rw [myc, ra2.2.2, PG.LgL_one]
      have s11 := Same.new (o := .lst (List.map (fun r => V.str (S r)) ysc)) hp11
      refine rows_ne (ys := ysc) (s11 _ _ (s10 _ _ (t3 _ _ eyc))) (show upd H10 p11 (.lst (List.map (fun r => V.str (S r)) ysc)) p11 = some (.lst (rowsV ysc)) from upd_same) (ls_of rbn.2 myc) ?_
      have g12 := g8.same (t3.trans (s10.trans s11))
      walk_at "g"
      exact ⟨_, _, _, _, _, _, _, _, _, rfl, g12.2⟩
    · rintro σ' G ⟨y2, y3, y4, y5, y6, y7, y8, y9, y10, rfl, gG⟩
      walk_at "g"
      exact fin _
end
theorem all_mk {l : PySem.W.OpenLaw} {w : World} {K : PySem.W.Frag} {h : Heap} {mg : Str → Option Value} {fa : Addr} (X : K.In h) (G : h.Ns mainGlobals mg) (hfa : mg "law" = some (.ref fa))
    {f_is_small_word f_is_deeds f_is_row f_is_row_over f_undoings f_is_block f_is_statement f_are_blocks f_names_in f_undone_block f_undone_statement f_flow f_laid f_Laying_init f_Laying_place f_Laying_stops f_Laying_lay_block f_Laying_lay f_Laying_lay_row f_Laying_lay_other f_Laying_lay_loop f_BadProgram_init f_flow_size f_block_size f_statement_size f_sum_of_sizes f_Program_init f_Program_parts f_Program__eq_ f_are_parts f_is_within f_hand f_draw f_undoing f_back f_deeds f_row f_statement f_block f_sizes f_parts_drawn f_drawn f_products f_rows f_statement_rows f_along f_law C_Laying C_RunsError C_BadProgram C_Program P_Program_parts : Addr}
    {od_is_small_word an_is_small_word od_is_deeds an_is_deeds od_is_row an_is_row od_is_row_over an_is_row_over od_undoings an_undoings od_is_block an_is_block od_is_statement an_is_statement od_are_blocks an_are_blocks od_names_in an_names_in od_undone_block an_undone_block od_undone_statement an_undone_statement od_flow an_flow od_laid an_laid od_Laying_init an_Laying_init od_Laying_place an_Laying_place od_Laying_stops an_Laying_stops od_Laying_lay_block an_Laying_lay_block od_Laying_lay an_Laying_lay od_Laying_lay_row an_Laying_lay_row od_Laying_lay_other an_Laying_lay_other od_Laying_lay_loop an_Laying_lay_loop od_BadProgram_init an_BadProgram_init od_flow_size an_flow_size od_block_size an_block_size od_statement_size an_statement_size od_sum_of_sizes an_sum_of_sizes od_Program_init an_Program_init od_Program_parts an_Program_parts od_Program__eq_ an_Program__eq_ od_are_parts an_are_parts od_is_within an_is_within od_hand an_hand od_draw an_draw od_undoing an_undoing od_back an_back od_deeds an_deeds od_row an_row od_statement an_statement od_block an_block od_sizes an_sizes od_parts_drawn an_parts_drawn od_drawn an_drawn od_products an_products od_rows an_rows od_statement_rows an_statement_rows od_along an_along od_law an_law : Option Addr}
    {sl_is_small_word sl_is_deeds sl_is_row sl_is_row_over sl_undoings sl_is_block sl_is_statement sl_are_blocks sl_names_in sl_undone_block sl_undone_statement sl_flow sl_laid sl_Laying_init sl_Laying_place sl_Laying_stops sl_Laying_lay_block sl_Laying_lay sl_Laying_lay_row sl_Laying_lay_other sl_Laying_lay_loop sl_BadProgram_init sl_flow_size sl_block_size sl_statement_size sl_sum_of_sizes sl_Program_init sl_Program_parts sl_Program__eq_ sl_are_parts sl_is_within sl_hand sl_draw sl_undoing sl_back sl_deeds sl_row sl_statement sl_block sl_sizes sl_parts_drawn sl_drawn sl_products sl_rows sl_statement_rows sl_along sl_law : Array (Option Value)}
    {oc_is_small_word kV_is_small_word dc_is_small_word pm_is_small_word cd_is_small_word ct_is_small_word oc_is_deeds kV_is_deeds dc_is_deeds pm_is_deeds cd_is_deeds ct_is_deeds oc_is_row kV_is_row dc_is_row pm_is_row cd_is_row ct_is_row oc_is_row_over kV_is_row_over dc_is_row_over pm_is_row_over cd_is_row_over ct_is_row_over oc_undoings kV_undoings dc_undoings pm_undoings cd_undoings ct_undoings oc_is_block kV_is_block dc_is_block pm_is_block cd_is_block ct_is_block oc_is_statement kV_is_statement dc_is_statement pm_is_statement cd_is_statement ct_is_statement oc_are_blocks kV_are_blocks dc_are_blocks pm_are_blocks cd_are_blocks ct_are_blocks oc_names_in kV_names_in dc_names_in pm_names_in cd_names_in ct_names_in oc_undone_block kV_undone_block dc_undone_block pm_undone_block cd_undone_block ct_undone_block oc_undone_statement kV_undone_statement dc_undone_statement pm_undone_statement cd_undone_statement ct_undone_statement oc_flow kV_flow dc_flow pm_flow cd_flow ct_flow oc_laid kV_laid dc_laid pm_laid cd_laid ct_laid oc_Laying_init kV_Laying_init dc_Laying_init pm_Laying_init cd_Laying_init ct_Laying_init oc_Laying_place kV_Laying_place dc_Laying_place pm_Laying_place cd_Laying_place ct_Laying_place oc_Laying_stops kV_Laying_stops dc_Laying_stops pm_Laying_stops cd_Laying_stops ct_Laying_stops oc_Laying_lay_block kV_Laying_lay_block dc_Laying_lay_block pm_Laying_lay_block cd_Laying_lay_block ct_Laying_lay_block oc_Laying_lay kV_Laying_lay dc_Laying_lay pm_Laying_lay cd_Laying_lay ct_Laying_lay oc_Laying_lay_row kV_Laying_lay_row dc_Laying_lay_row pm_Laying_lay_row cd_Laying_lay_row ct_Laying_lay_row oc_Laying_lay_other kV_Laying_lay_other dc_Laying_lay_other pm_Laying_lay_other cd_Laying_lay_other ct_Laying_lay_other oc_Laying_lay_loop kV_Laying_lay_loop dc_Laying_lay_loop pm_Laying_lay_loop cd_Laying_lay_loop ct_Laying_lay_loop oc_BadProgram_init kV_BadProgram_init dc_BadProgram_init pm_BadProgram_init cd_BadProgram_init ct_BadProgram_init oc_flow_size kV_flow_size dc_flow_size pm_flow_size cd_flow_size ct_flow_size oc_block_size kV_block_size dc_block_size pm_block_size cd_block_size ct_block_size oc_statement_size kV_statement_size dc_statement_size pm_statement_size cd_statement_size ct_statement_size oc_sum_of_sizes kV_sum_of_sizes dc_sum_of_sizes pm_sum_of_sizes cd_sum_of_sizes ct_sum_of_sizes oc_Program_init kV_Program_init dc_Program_init pm_Program_init cd_Program_init ct_Program_init oc_Program_parts kV_Program_parts dc_Program_parts pm_Program_parts cd_Program_parts ct_Program_parts oc_Program__eq_ kV_Program__eq_ dc_Program__eq_ pm_Program__eq_ cd_Program__eq_ ct_Program__eq_ oc_are_parts kV_are_parts dc_are_parts pm_are_parts cd_are_parts ct_are_parts oc_is_within kV_is_within dc_is_within pm_is_within cd_is_within ct_is_within oc_hand kV_hand dc_hand pm_hand cd_hand ct_hand oc_draw kV_draw dc_draw pm_draw cd_draw ct_draw oc_undoing kV_undoing dc_undoing pm_undoing cd_undoing ct_undoing oc_back kV_back dc_back pm_back cd_back ct_back oc_deeds kV_deeds dc_deeds pm_deeds cd_deeds ct_deeds oc_row kV_row dc_row pm_row cd_row ct_row oc_statement kV_statement dc_statement pm_statement cd_statement ct_statement oc_block kV_block dc_block pm_block cd_block ct_block oc_sizes kV_sizes dc_sizes pm_sizes cd_sizes ct_sizes oc_parts_drawn kV_parts_drawn dc_parts_drawn pm_parts_drawn cd_parts_drawn ct_parts_drawn oc_drawn kV_drawn dc_drawn pm_drawn cd_drawn ct_drawn oc_products kV_products dc_products pm_products cd_products ct_products oc_rows kV_rows dc_rows pm_rows cd_rows ct_rows oc_statement_rows kV_statement_rows dc_statement_rows pm_statement_rows cd_statement_rows ct_statement_rows oc_along kV_along dc_along pm_along cd_along ct_along oc_law kV_law dc_law pm_law cd_law ct_law : Value}
    (a_is_small_word : PySem.W.nsIn K mainGlobals "is_small_word" = some (some (.ref f_is_small_word)))
    (a_is_deeds : PySem.W.nsIn K mainGlobals "is_deeds" = some (some (.ref f_is_deeds)))
    (a_is_row : PySem.W.nsIn K mainGlobals "is_row" = some (some (.ref f_is_row)))
    (a_is_row_over : PySem.W.nsIn K mainGlobals "is_row_over" = some (some (.ref f_is_row_over)))
    (a_undoings : PySem.W.nsIn K mainGlobals "undoings" = some (some (.ref f_undoings)))
    (a_is_block : PySem.W.nsIn K mainGlobals "is_block" = some (some (.ref f_is_block)))
    (a_is_statement : PySem.W.nsIn K mainGlobals "is_statement" = some (some (.ref f_is_statement)))
    (a_are_blocks : PySem.W.nsIn K mainGlobals "are_blocks" = some (some (.ref f_are_blocks)))
    (a_names_in : PySem.W.nsIn K mainGlobals "names_in" = some (some (.ref f_names_in)))
    (a_undone_block : PySem.W.nsIn K mainGlobals "undone_block" = some (some (.ref f_undone_block)))
    (a_undone_statement : PySem.W.nsIn K mainGlobals "undone_statement" = some (some (.ref f_undone_statement)))
    (a_flow : PySem.W.nsIn K mainGlobals "flow" = some (some (.ref f_flow)))
    (a_laid : PySem.W.nsIn K mainGlobals "laid" = some (some (.ref f_laid)))
    (a_flow_size : PySem.W.nsIn K mainGlobals "flow_size" = some (some (.ref f_flow_size)))
    (a_block_size : PySem.W.nsIn K mainGlobals "block_size" = some (some (.ref f_block_size)))
    (a_statement_size : PySem.W.nsIn K mainGlobals "statement_size" = some (some (.ref f_statement_size)))
    (a_sum_of_sizes : PySem.W.nsIn K mainGlobals "sum_of_sizes" = some (some (.ref f_sum_of_sizes)))
    (a_are_parts : PySem.W.nsIn K mainGlobals "are_parts" = some (some (.ref f_are_parts)))
    (a_is_within : PySem.W.nsIn K mainGlobals "is_within" = some (some (.ref f_is_within)))
    (a_hand : PySem.W.nsIn K mainGlobals "_law_hand" = some (some (.ref f_hand)))
    (a_draw : PySem.W.nsIn K mainGlobals "_law_draw" = some (some (.ref f_draw)))
    (a_undoing : PySem.W.nsIn K mainGlobals "_law_undoing" = some (some (.ref f_undoing)))
    (a_back : PySem.W.nsIn K mainGlobals "_law_back" = some (some (.ref f_back)))
    (a_deeds : PySem.W.nsIn K mainGlobals "_law_deeds" = some (some (.ref f_deeds)))
    (a_row : PySem.W.nsIn K mainGlobals "_law_row" = some (some (.ref f_row)))
    (a_statement : PySem.W.nsIn K mainGlobals "_law_statement" = some (some (.ref f_statement)))
    (a_block : PySem.W.nsIn K mainGlobals "_law_block" = some (some (.ref f_block)))
    (a_sizes : PySem.W.nsIn K mainGlobals "_law_sizes" = some (some (.ref f_sizes)))
    (a_parts_drawn : PySem.W.nsIn K mainGlobals "_law_parts_drawn" = some (some (.ref f_parts_drawn)))
    (a_drawn : PySem.W.nsIn K mainGlobals "_law_drawn" = some (some (.ref f_drawn)))
    (a_products : PySem.W.nsIn K mainGlobals "_law_products" = some (some (.ref f_products)))
    (a_rows : PySem.W.nsIn K mainGlobals "_law_rows" = some (some (.ref f_rows)))
    (a_statement_rows : PySem.W.nsIn K mainGlobals "_law_statement_rows" = some (some (.ref f_statement_rows)))
    (a_along : PySem.W.nsIn K mainGlobals "_law_along" = some (some (.ref f_along)))
    (a_law : PySem.W.nsIn K mainGlobals "law" = some (some (.ref f_law)))
    (aC_Laying : PySem.W.nsIn K mainGlobals "Laying" = some (some (.ref C_Laying)))
    (aC_RunsError : PySem.W.nsIn K mainGlobals "RunsError" = some (some (.ref C_RunsError)))
    (aC_BadProgram : PySem.W.nsIn K mainGlobals "BadProgram" = some (some (.ref C_BadProgram)))
    (aC_Program : PySem.W.nsIn K mainGlobals "Program" = some (some (.ref C_Program)))
    (i_BadProgram : PySem.W.findIn K (.ref C_BadProgram) "__init__" = some (some (.ref f_BadProgram_init)))
    (l_is_small_word : K.lookup f_is_small_word = some ⟨oc_is_small_word, od_is_small_word, .func (PySem.W.fnOf "is_small_word" "is_small_word" (defArgs s_is_small_word) (defBody s_is_small_word) (defScope s_is_small_word) .none kV_is_small_word dc_is_small_word pm_is_small_word an_is_small_word cd_is_small_word ct_is_small_word), sl_is_small_word⟩)
    (c_is_small_word : PySem.W.codeIn K cd_is_small_word "is_small_word" = true)
    (k_is_small_word : PySem.W.keepIn K (.ref f_is_small_word) = true)
    (l_is_deeds : K.lookup f_is_deeds = some ⟨oc_is_deeds, od_is_deeds, .func (PySem.W.fnOf "is_deeds" "is_deeds" (defArgs s_is_deeds) (defBody s_is_deeds) (defScope s_is_deeds) .none kV_is_deeds dc_is_deeds pm_is_deeds an_is_deeds cd_is_deeds ct_is_deeds), sl_is_deeds⟩)
    (c_is_deeds : PySem.W.codeIn K cd_is_deeds "is_deeds" = true)
    (k_is_deeds : PySem.W.keepIn K (.ref f_is_deeds) = true)
    (l_is_row : K.lookup f_is_row = some ⟨oc_is_row, od_is_row, .func (PySem.W.fnOf "is_row" "is_row" (defArgs s_is_row) (defBody s_is_row) (defScope s_is_row) .none kV_is_row dc_is_row pm_is_row an_is_row cd_is_row ct_is_row), sl_is_row⟩)
    (c_is_row : PySem.W.codeIn K cd_is_row "is_row" = true)
    (k_is_row : PySem.W.keepIn K (.ref f_is_row) = true)
    (l_is_row_over : K.lookup f_is_row_over = some ⟨oc_is_row_over, od_is_row_over, .func (PySem.W.fnOf "is_row_over" "is_row_over" (defArgs s_is_row_over) (defBody s_is_row_over) (defScope s_is_row_over) .none kV_is_row_over dc_is_row_over pm_is_row_over an_is_row_over cd_is_row_over ct_is_row_over), sl_is_row_over⟩)
    (c_is_row_over : PySem.W.codeIn K cd_is_row_over "is_row_over" = true)
    (k_is_row_over : PySem.W.keepIn K (.ref f_is_row_over) = true)
    (l_undoings : K.lookup f_undoings = some ⟨oc_undoings, od_undoings, .func (PySem.W.fnOf "undoings" "undoings" (defArgs s_undoings) (defBody s_undoings) (defScope s_undoings) .none kV_undoings dc_undoings pm_undoings an_undoings cd_undoings ct_undoings), sl_undoings⟩)
    (c_undoings : PySem.W.codeIn K cd_undoings "undoings" = true)
    (k_undoings : PySem.W.keepIn K (.ref f_undoings) = true)
    (l_is_block : K.lookup f_is_block = some ⟨oc_is_block, od_is_block, .func (PySem.W.fnOf "is_block" "is_block" (defArgs s_is_block) (defBody s_is_block) (defScope s_is_block) .none kV_is_block dc_is_block pm_is_block an_is_block cd_is_block ct_is_block), sl_is_block⟩)
    (c_is_block : PySem.W.codeIn K cd_is_block "is_block" = true)
    (k_is_block : PySem.W.keepIn K (.ref f_is_block) = true)
    (l_is_statement : K.lookup f_is_statement = some ⟨oc_is_statement, od_is_statement, .func (PySem.W.fnOf "is_statement" "is_statement" (defArgs s_is_statement) (defBody s_is_statement) (defScope s_is_statement) .none kV_is_statement dc_is_statement pm_is_statement an_is_statement cd_is_statement ct_is_statement), sl_is_statement⟩)
    (c_is_statement : PySem.W.codeIn K cd_is_statement "is_statement" = true)
    (k_is_statement : PySem.W.keepIn K (.ref f_is_statement) = true)
    (l_are_blocks : K.lookup f_are_blocks = some ⟨oc_are_blocks, od_are_blocks, .func (PySem.W.fnOf "are_blocks" "are_blocks" (defArgs s_are_blocks) (defBody s_are_blocks) (defScope s_are_blocks) .none kV_are_blocks dc_are_blocks pm_are_blocks an_are_blocks cd_are_blocks ct_are_blocks), sl_are_blocks⟩)
    (c_are_blocks : PySem.W.codeIn K cd_are_blocks "are_blocks" = true)
    (k_are_blocks : PySem.W.keepIn K (.ref f_are_blocks) = true)
    (l_names_in : K.lookup f_names_in = some ⟨oc_names_in, od_names_in, .func (PySem.W.fnOf "names_in" "names_in" (defArgs s_names_in) (defBody s_names_in) (defScope s_names_in) .none kV_names_in dc_names_in pm_names_in an_names_in cd_names_in ct_names_in), sl_names_in⟩)
    (c_names_in : PySem.W.codeIn K cd_names_in "names_in" = true)
    (k_names_in : PySem.W.keepIn K (.ref f_names_in) = true)
    (l_undone_block : K.lookup f_undone_block = some ⟨oc_undone_block, od_undone_block, .func (PySem.W.fnOf "undone_block" "undone_block" (defArgs s_undone_block) (defBody s_undone_block) (defScope s_undone_block) .none kV_undone_block dc_undone_block pm_undone_block an_undone_block cd_undone_block ct_undone_block), sl_undone_block⟩)
    (c_undone_block : PySem.W.codeIn K cd_undone_block "undone_block" = true)
    (k_undone_block : PySem.W.keepIn K (.ref f_undone_block) = true)
    (l_undone_statement : K.lookup f_undone_statement = some ⟨oc_undone_statement, od_undone_statement, .func (PySem.W.fnOf "undone_statement" "undone_statement" (defArgs s_undone_statement) (defBody s_undone_statement) (defScope s_undone_statement) .none kV_undone_statement dc_undone_statement pm_undone_statement an_undone_statement cd_undone_statement ct_undone_statement), sl_undone_statement⟩)
    (c_undone_statement : PySem.W.codeIn K cd_undone_statement "undone_statement" = true)
    (k_undone_statement : PySem.W.keepIn K (.ref f_undone_statement) = true)
    (l_flow : K.lookup f_flow = some ⟨oc_flow, od_flow, .func (PySem.W.fnOf "flow" "flow" (defArgs s_flow) (defBody s_flow) (defScope s_flow) .none kV_flow dc_flow pm_flow an_flow cd_flow ct_flow), sl_flow⟩)
    (c_flow : PySem.W.codeIn K cd_flow "flow" = true)
    (k_flow : PySem.W.keepIn K (.ref f_flow) = true)
    (l_laid : K.lookup f_laid = some ⟨oc_laid, od_laid, .func (PySem.W.fnOf "laid" "laid" (defArgs s_laid) (defBody s_laid) (defScope s_laid) .none kV_laid dc_laid pm_laid an_laid cd_laid ct_laid), sl_laid⟩)
    (c_laid : PySem.W.codeIn K cd_laid "laid" = true)
    (k_laid : PySem.W.keepIn K (.ref f_laid) = true)
    (l_Laying_init : K.lookup f_Laying_init = some ⟨oc_Laying_init, od_Laying_init, .func (PySem.W.fnOf "__init__" "Laying.__init__" (defArgs s_Laying_init) (defBody s_Laying_init) (defScope s_Laying_init) .none kV_Laying_init dc_Laying_init pm_Laying_init an_Laying_init cd_Laying_init ct_Laying_init), sl_Laying_init⟩)
    (c_Laying_init : PySem.W.codeIn K cd_Laying_init "Laying.__init__" = true)
    (k_Laying_init : PySem.W.keepIn K (.ref f_Laying_init) = true)
    (l_Laying_place : K.lookup f_Laying_place = some ⟨oc_Laying_place, od_Laying_place, .func (PySem.W.fnOf "place" "Laying.place" (defArgs s_Laying_place) (defBody s_Laying_place) (defScope s_Laying_place) .none kV_Laying_place dc_Laying_place pm_Laying_place an_Laying_place cd_Laying_place ct_Laying_place), sl_Laying_place⟩)
    (c_Laying_place : PySem.W.codeIn K cd_Laying_place "Laying.place" = true)
    (k_Laying_place : PySem.W.keepIn K (.ref f_Laying_place) = true)
    (l_Laying_stops : K.lookup f_Laying_stops = some ⟨oc_Laying_stops, od_Laying_stops, .func (PySem.W.fnOf "stops" "Laying.stops" (defArgs s_Laying_stops) (defBody s_Laying_stops) (defScope s_Laying_stops) .none kV_Laying_stops dc_Laying_stops pm_Laying_stops an_Laying_stops cd_Laying_stops ct_Laying_stops), sl_Laying_stops⟩)
    (c_Laying_stops : PySem.W.codeIn K cd_Laying_stops "Laying.stops" = true)
    (k_Laying_stops : PySem.W.keepIn K (.ref f_Laying_stops) = true)
    (l_Laying_lay_block : K.lookup f_Laying_lay_block = some ⟨oc_Laying_lay_block, od_Laying_lay_block, .func (PySem.W.fnOf "lay_block" "Laying.lay_block" (defArgs s_Laying_lay_block) (defBody s_Laying_lay_block) (defScope s_Laying_lay_block) .none kV_Laying_lay_block dc_Laying_lay_block pm_Laying_lay_block an_Laying_lay_block cd_Laying_lay_block ct_Laying_lay_block), sl_Laying_lay_block⟩)
    (c_Laying_lay_block : PySem.W.codeIn K cd_Laying_lay_block "Laying.lay_block" = true)
    (k_Laying_lay_block : PySem.W.keepIn K (.ref f_Laying_lay_block) = true)
    (l_Laying_lay : K.lookup f_Laying_lay = some ⟨oc_Laying_lay, od_Laying_lay, .func (PySem.W.fnOf "lay" "Laying.lay" (defArgs s_Laying_lay) (defBody s_Laying_lay) (defScope s_Laying_lay) .none kV_Laying_lay dc_Laying_lay pm_Laying_lay an_Laying_lay cd_Laying_lay ct_Laying_lay), sl_Laying_lay⟩)
    (c_Laying_lay : PySem.W.codeIn K cd_Laying_lay "Laying.lay" = true)
    (k_Laying_lay : PySem.W.keepIn K (.ref f_Laying_lay) = true)
    (l_Laying_lay_row : K.lookup f_Laying_lay_row = some ⟨oc_Laying_lay_row, od_Laying_lay_row, .func (PySem.W.fnOf "lay_row" "Laying.lay_row" (defArgs s_Laying_lay_row) (defBody s_Laying_lay_row) (defScope s_Laying_lay_row) .none kV_Laying_lay_row dc_Laying_lay_row pm_Laying_lay_row an_Laying_lay_row cd_Laying_lay_row ct_Laying_lay_row), sl_Laying_lay_row⟩)
    (c_Laying_lay_row : PySem.W.codeIn K cd_Laying_lay_row "Laying.lay_row" = true)
    (k_Laying_lay_row : PySem.W.keepIn K (.ref f_Laying_lay_row) = true)
    (l_Laying_lay_other : K.lookup f_Laying_lay_other = some ⟨oc_Laying_lay_other, od_Laying_lay_other, .func (PySem.W.fnOf "lay_other" "Laying.lay_other" (defArgs s_Laying_lay_other) (defBody s_Laying_lay_other) (defScope s_Laying_lay_other) .none kV_Laying_lay_other dc_Laying_lay_other pm_Laying_lay_other an_Laying_lay_other cd_Laying_lay_other ct_Laying_lay_other), sl_Laying_lay_other⟩)
    (c_Laying_lay_other : PySem.W.codeIn K cd_Laying_lay_other "Laying.lay_other" = true)
    (k_Laying_lay_other : PySem.W.keepIn K (.ref f_Laying_lay_other) = true)
    (l_Laying_lay_loop : K.lookup f_Laying_lay_loop = some ⟨oc_Laying_lay_loop, od_Laying_lay_loop, .func (PySem.W.fnOf "lay_loop" "Laying.lay_loop" (defArgs s_Laying_lay_loop) (defBody s_Laying_lay_loop) (defScope s_Laying_lay_loop) .none kV_Laying_lay_loop dc_Laying_lay_loop pm_Laying_lay_loop an_Laying_lay_loop cd_Laying_lay_loop ct_Laying_lay_loop), sl_Laying_lay_loop⟩)
    (c_Laying_lay_loop : PySem.W.codeIn K cd_Laying_lay_loop "Laying.lay_loop" = true)
    (k_Laying_lay_loop : PySem.W.keepIn K (.ref f_Laying_lay_loop) = true)
    (l_BadProgram_init : K.lookup f_BadProgram_init = some ⟨oc_BadProgram_init, od_BadProgram_init, .func (PySem.W.fnOf "__init__" "BadProgram.__init__" (defArgs s_BadProgram_init) (defBody s_BadProgram_init) (defScope s_BadProgram_init) .none kV_BadProgram_init dc_BadProgram_init pm_BadProgram_init an_BadProgram_init cd_BadProgram_init ct_BadProgram_init), sl_BadProgram_init⟩)
    (c_BadProgram_init : PySem.W.codeIn K cd_BadProgram_init "BadProgram.__init__" = true)
    (k_BadProgram_init : PySem.W.keepIn K (.ref f_BadProgram_init) = true)
    (l_flow_size : K.lookup f_flow_size = some ⟨oc_flow_size, od_flow_size, .func (PySem.W.fnOf "flow_size" "flow_size" (defArgs s_flow_size) (defBody s_flow_size) (defScope s_flow_size) .none kV_flow_size dc_flow_size pm_flow_size an_flow_size cd_flow_size ct_flow_size), sl_flow_size⟩)
    (c_flow_size : PySem.W.codeIn K cd_flow_size "flow_size" = true)
    (k_flow_size : PySem.W.keepIn K (.ref f_flow_size) = true)
    (l_block_size : K.lookup f_block_size = some ⟨oc_block_size, od_block_size, .func (PySem.W.fnOf "block_size" "block_size" (defArgs s_block_size) (defBody s_block_size) (defScope s_block_size) .none kV_block_size dc_block_size pm_block_size an_block_size cd_block_size ct_block_size), sl_block_size⟩)
    (c_block_size : PySem.W.codeIn K cd_block_size "block_size" = true)
    (k_block_size : PySem.W.keepIn K (.ref f_block_size) = true)
    (l_statement_size : K.lookup f_statement_size = some ⟨oc_statement_size, od_statement_size, .func (PySem.W.fnOf "statement_size" "statement_size" (defArgs s_statement_size) (defBody s_statement_size) (defScope s_statement_size) .none kV_statement_size dc_statement_size pm_statement_size an_statement_size cd_statement_size ct_statement_size), sl_statement_size⟩)
    (c_statement_size : PySem.W.codeIn K cd_statement_size "statement_size" = true)
    (k_statement_size : PySem.W.keepIn K (.ref f_statement_size) = true)
    (l_sum_of_sizes : K.lookup f_sum_of_sizes = some ⟨oc_sum_of_sizes, od_sum_of_sizes, .func (PySem.W.fnOf "sum_of_sizes" "sum_of_sizes" (defArgs s_sum_of_sizes) (defBody s_sum_of_sizes) (defScope s_sum_of_sizes) .none kV_sum_of_sizes dc_sum_of_sizes pm_sum_of_sizes an_sum_of_sizes cd_sum_of_sizes ct_sum_of_sizes), sl_sum_of_sizes⟩)
    (c_sum_of_sizes : PySem.W.codeIn K cd_sum_of_sizes "sum_of_sizes" = true)
    (k_sum_of_sizes : PySem.W.keepIn K (.ref f_sum_of_sizes) = true)
    (l_Program_init : K.lookup f_Program_init = some ⟨oc_Program_init, od_Program_init, .func (PySem.W.fnOf "__init__" "Program.__init__" (defArgs s_Program_init) (defBody s_Program_init) (defScope s_Program_init) .none kV_Program_init dc_Program_init pm_Program_init an_Program_init cd_Program_init ct_Program_init), sl_Program_init⟩)
    (c_Program_init : PySem.W.codeIn K cd_Program_init "Program.__init__" = true)
    (k_Program_init : PySem.W.keepIn K (.ref f_Program_init) = true)
    (l_Program_parts : K.lookup f_Program_parts = some ⟨oc_Program_parts, od_Program_parts, .func (PySem.W.fnOf "parts" "Program.parts" (defArgs s_Program_parts) (defBody s_Program_parts) (defScope s_Program_parts) .none kV_Program_parts dc_Program_parts pm_Program_parts an_Program_parts cd_Program_parts ct_Program_parts), sl_Program_parts⟩)
    (c_Program_parts : PySem.W.codeIn K cd_Program_parts "Program.parts" = true)
    (k_Program_parts : PySem.W.keepIn K (.ref f_Program_parts) = true)
    (l_Program__eq_ : K.lookup f_Program__eq_ = some ⟨oc_Program__eq_, od_Program__eq_, .func (PySem.W.fnOf "__eq__" "Program.__eq__" (defArgs s_Program__eq_) (defBody s_Program__eq_) (defScope s_Program__eq_) .none kV_Program__eq_ dc_Program__eq_ pm_Program__eq_ an_Program__eq_ cd_Program__eq_ ct_Program__eq_), sl_Program__eq_⟩)
    (c_Program__eq_ : PySem.W.codeIn K cd_Program__eq_ "Program.__eq__" = true)
    (k_Program__eq_ : PySem.W.keepIn K (.ref f_Program__eq_) = true)
    (l_are_parts : K.lookup f_are_parts = some ⟨oc_are_parts, od_are_parts, .func (PySem.W.fnOf "are_parts" "are_parts" (defArgs s_are_parts) (defBody s_are_parts) (defScope s_are_parts) .none kV_are_parts dc_are_parts pm_are_parts an_are_parts cd_are_parts ct_are_parts), sl_are_parts⟩)
    (c_are_parts : PySem.W.codeIn K cd_are_parts "are_parts" = true)
    (k_are_parts : PySem.W.keepIn K (.ref f_are_parts) = true)
    (l_is_within : K.lookup f_is_within = some ⟨oc_is_within, od_is_within, .func (PySem.W.fnOf "is_within" "is_within" (defArgs s_is_within) (defBody s_is_within) (defScope s_is_within) .none kV_is_within dc_is_within pm_is_within an_is_within cd_is_within ct_is_within), sl_is_within⟩)
    (c_is_within : PySem.W.codeIn K cd_is_within "is_within" = true)
    (k_is_within : PySem.W.keepIn K (.ref f_is_within) = true)
    (l_hand : K.lookup f_hand = some ⟨oc_hand, od_hand, .func (PySem.W.fnOf "_law_hand" "_law_hand" (defArgs s_hand) (defBody s_hand) (defScope s_hand) .none kV_hand dc_hand pm_hand an_hand cd_hand ct_hand), sl_hand⟩)
    (c_hand : PySem.W.codeIn K cd_hand "_law_hand" = true)
    (k_hand : PySem.W.keepIn K (.ref f_hand) = true)
    (l_draw : K.lookup f_draw = some ⟨oc_draw, od_draw, .func (PySem.W.fnOf "_law_draw" "_law_draw" (defArgs s_draw) (defBody s_draw) (defScope s_draw) .none kV_draw dc_draw pm_draw an_draw cd_draw ct_draw), sl_draw⟩)
    (c_draw : PySem.W.codeIn K cd_draw "_law_draw" = true)
    (k_draw : PySem.W.keepIn K (.ref f_draw) = true)
    (l_undoing : K.lookup f_undoing = some ⟨oc_undoing, od_undoing, .func (PySem.W.fnOf "_law_undoing" "_law_undoing" (defArgs s_undoing) (defBody s_undoing) (defScope s_undoing) .none kV_undoing dc_undoing pm_undoing an_undoing cd_undoing ct_undoing), sl_undoing⟩)
    (c_undoing : PySem.W.codeIn K cd_undoing "_law_undoing" = true)
    (k_undoing : PySem.W.keepIn K (.ref f_undoing) = true)
    (l_back : K.lookup f_back = some ⟨oc_back, od_back, .func (PySem.W.fnOf "_law_back" "_law_back" (defArgs s_back) (defBody s_back) (defScope s_back) .none kV_back dc_back pm_back an_back cd_back ct_back), sl_back⟩)
    (c_back : PySem.W.codeIn K cd_back "_law_back" = true)
    (k_back : PySem.W.keepIn K (.ref f_back) = true)
    (l_deeds : K.lookup f_deeds = some ⟨oc_deeds, od_deeds, .func (PySem.W.fnOf "_law_deeds" "_law_deeds" (defArgs s_deeds) (defBody s_deeds) (defScope s_deeds) .none kV_deeds dc_deeds pm_deeds an_deeds cd_deeds ct_deeds), sl_deeds⟩)
    (c_deeds : PySem.W.codeIn K cd_deeds "_law_deeds" = true)
    (k_deeds : PySem.W.keepIn K (.ref f_deeds) = true)
    (l_row : K.lookup f_row = some ⟨oc_row, od_row, .func (PySem.W.fnOf "_law_row" "_law_row" (defArgs s_row) (defBody s_row) (defScope s_row) .none kV_row dc_row pm_row an_row cd_row ct_row), sl_row⟩)
    (c_row : PySem.W.codeIn K cd_row "_law_row" = true)
    (k_row : PySem.W.keepIn K (.ref f_row) = true)
    (l_statement : K.lookup f_statement = some ⟨oc_statement, od_statement, .func (PySem.W.fnOf "_law_statement" "_law_statement" (defArgs s_statement) (defBody s_statement) (defScope s_statement) .none kV_statement dc_statement pm_statement an_statement cd_statement ct_statement), sl_statement⟩)
    (c_statement : PySem.W.codeIn K cd_statement "_law_statement" = true)
    (k_statement : PySem.W.keepIn K (.ref f_statement) = true)
    (l_block : K.lookup f_block = some ⟨oc_block, od_block, .func (PySem.W.fnOf "_law_block" "_law_block" (defArgs s_block) (defBody s_block) (defScope s_block) .none kV_block dc_block pm_block an_block cd_block ct_block), sl_block⟩)
    (c_block : PySem.W.codeIn K cd_block "_law_block" = true)
    (k_block : PySem.W.keepIn K (.ref f_block) = true)
    (l_sizes : K.lookup f_sizes = some ⟨oc_sizes, od_sizes, .func (PySem.W.fnOf "_law_sizes" "_law_sizes" (defArgs s_sizes) (defBody s_sizes) (defScope s_sizes) .none kV_sizes dc_sizes pm_sizes an_sizes cd_sizes ct_sizes), sl_sizes⟩)
    (c_sizes : PySem.W.codeIn K cd_sizes "_law_sizes" = true)
    (k_sizes : PySem.W.keepIn K (.ref f_sizes) = true)
    (l_parts_drawn : K.lookup f_parts_drawn = some ⟨oc_parts_drawn, od_parts_drawn, .func (PySem.W.fnOf "_law_parts_drawn" "_law_parts_drawn" (defArgs s_parts_drawn) (defBody s_parts_drawn) (defScope s_parts_drawn) .none kV_parts_drawn dc_parts_drawn pm_parts_drawn an_parts_drawn cd_parts_drawn ct_parts_drawn), sl_parts_drawn⟩)
    (c_parts_drawn : PySem.W.codeIn K cd_parts_drawn "_law_parts_drawn" = true)
    (k_parts_drawn : PySem.W.keepIn K (.ref f_parts_drawn) = true)
    (l_drawn : K.lookup f_drawn = some ⟨oc_drawn, od_drawn, .func (PySem.W.fnOf "_law_drawn" "_law_drawn" (defArgs s_drawn) (defBody s_drawn) (defScope s_drawn) .none kV_drawn dc_drawn pm_drawn an_drawn cd_drawn ct_drawn), sl_drawn⟩)
    (c_drawn : PySem.W.codeIn K cd_drawn "_law_drawn" = true)
    (k_drawn : PySem.W.keepIn K (.ref f_drawn) = true)
    (l_products : K.lookup f_products = some ⟨oc_products, od_products, .func (PySem.W.fnOf "_law_products" "_law_products" (defArgs s_products) (defBody s_products) (defScope s_products) .none kV_products dc_products pm_products an_products cd_products ct_products), sl_products⟩)
    (c_products : PySem.W.codeIn K cd_products "_law_products" = true)
    (k_products : PySem.W.keepIn K (.ref f_products) = true)
    (l_rows : K.lookup f_rows = some ⟨oc_rows, od_rows, .func (PySem.W.fnOf "_law_rows" "_law_rows" (defArgs s_rows) (defBody s_rows) (defScope s_rows) .none kV_rows dc_rows pm_rows an_rows cd_rows ct_rows), sl_rows⟩)
    (c_rows : PySem.W.codeIn K cd_rows "_law_rows" = true)
    (k_rows : PySem.W.keepIn K (.ref f_rows) = true)
    (l_statement_rows : K.lookup f_statement_rows = some ⟨oc_statement_rows, od_statement_rows, .func (PySem.W.fnOf "_law_statement_rows" "_law_statement_rows" (defArgs s_statement_rows) (defBody s_statement_rows) (defScope s_statement_rows) .none kV_statement_rows dc_statement_rows pm_statement_rows an_statement_rows cd_statement_rows ct_statement_rows), sl_statement_rows⟩)
    (c_statement_rows : PySem.W.codeIn K cd_statement_rows "_law_statement_rows" = true)
    (k_statement_rows : PySem.W.keepIn K (.ref f_statement_rows) = true)
    (l_along : K.lookup f_along = some ⟨oc_along, od_along, .func (PySem.W.fnOf "_law_along" "_law_along" (defArgs s_along) (defBody s_along) (defScope s_along) .none kV_along dc_along pm_along an_along cd_along ct_along), sl_along⟩)
    (c_along : PySem.W.codeIn K cd_along "_law_along" = true)
    (k_along : PySem.W.keepIn K (.ref f_along) = true)
    (l_law : K.lookup f_law = some ⟨oc_law, od_law, .func (PySem.W.fnOf "law" "law" (defArgs s_law) (defBody s_law) (defScope s_law) .none kV_law dc_law pm_law an_law cd_law ct_law), sl_law⟩)
    (c_law : PySem.W.codeIn K cd_law "law" = true)
    (k_law : PySem.W.keepIn K (.ref f_law) = true)
    (t_BadProgram : PySem.W.typeIn K (.ref f_BadProgram_init) = some (.type "function"))
    (xL_BadProgram : ∃ nm q N bs bm sn sub ab col dd k0 k1 k2 k3 k5, K.lookup C_BadProgram = some (excClassObj nm q C_BadProgram N bs bm true sn sub ab col dd k0 k1 k2 k3 k5 "ValueError.__new__") ∧ PySem.HandSPX.refsVE bm = true)
    (sa_BadProgram : PySem.W.findIn K (.ref C_BadProgram) "__setattr__" = some (some (.builtin "object.__setattr__")))
    (ga_BadProgram : PySem.W.findIn K (.ref C_BadProgram) "__getattribute__" = some (some (.builtin "BaseException.__getattribute__")))
    (gg_BadProgram : PySem.W.findIn K (.ref C_BadProgram) "__getattr__" = some none)
    (kC_BadProgram : PySem.W.keepIn K (.ref C_BadProgram) = true)
    (eC_BadProgram : PySem.W.subIn K (.ref C_BadProgram) (.type "BaseException") = some true)
    (tC_BadProgram : PySem.W.typeIn K (.ref C_BadProgram) = some (.type "type"))
    (hC_BadProgram : PySem.W.hasDictIn K C_BadProgram = true)
    (ha_BadProgram : PySem.W.findIn K (.ref C_BadProgram) "__class__" = some (some (.builtin "object.__class__")))
    (hm_BadProgram : PySem.W.mroIn K C_BadProgram (.type "object") = some true)
    (mk_Laying : PySem.W.makesIn K C_Laying = true)
    (mi_Laying : PySem.W.findIn K (.ref C_Laying) "__init__" = some (some (.ref f_Laying_init)))
    (mf_Laying : PySem.W.isFn K (.ref f_Laying_init) = true)
    (mc_Laying : PySem.W.keepIn K (.ref C_Laying) = true)
    (pg_Laying : PySem.W.plainGet K C_Laying Str.empty = true)
    (hd_Laying : PySem.W.hasDictIn K C_Laying = true)
    (po_Laying : PySem.W.plainOver K C_Laying = true)
    (ps_Laying : PySem.W.findIn K (.ref C_Laying) "__setattr__" = some (some (.builtin "object.__setattr__")))
    (ia_Laying : PySem.W.findIn K (.ref C_Laying) "__class__" = some (some (.builtin "object.__class__")))
    (io_Laying : PySem.W.mroIn K C_Laying (.type "object") = some true)
    (im_Laying : PySem.W.kitOne K (.ref C_Laying) (.ref C_Laying) = some true)
    (nf_Laying_blocks : PySem.W.findIn K (.ref C_Laying) "blocks" = some none)
    (nf_Laying_many : PySem.W.findIn K (.ref C_Laying) "many" = some none)
    (nf_Laying_arrows : PySem.W.findIn K (.ref C_Laying) "arrows" = some none)
    (nf_Laying_others : PySem.W.findIn K (.ref C_Laying) "others" = some none)
    (mk_Program : PySem.W.makesIn K C_Program = true)
    (mi_Program : PySem.W.findIn K (.ref C_Program) "__init__" = some (some (.ref f_Program_init)))
    (mf_Program : PySem.W.isFn K (.ref f_Program_init) = true)
    (mc_Program : PySem.W.keepIn K (.ref C_Program) = true)
    (pg_Program : PySem.W.plainGet K C_Program Str.empty = true)
    (hd_Program : PySem.W.hasDictIn K C_Program = true)
    (po_Program : PySem.W.plainOver K C_Program = true)
    (ps_Program : PySem.W.findIn K (.ref C_Program) "__setattr__" = some (some (.builtin "object.__setattr__")))
    (ia_Program : PySem.W.findIn K (.ref C_Program) "__class__" = some (some (.builtin "object.__class__")))
    (io_Program : PySem.W.mroIn K C_Program (.type "object") = some true)
    (im_Program : PySem.W.kitOne K (.ref C_Program) (.ref C_Program) = some true)
    (nf_Program_deeds : PySem.W.findIn K (.ref C_Program) "deeds" = some none)
    (nf_Program_body : PySem.W.findIn K (.ref C_Program) "body" = some none)
    (nf_Program__parts : PySem.W.findIn K (.ref C_Program) "_parts" = some none)
    (es_Program : PySem.W.findIn K (.ref C_Program) "__eq__" = some (some (.ref f_Program__eq_)))
    (ef_Program : PySem.W.isFn K (.ref f_Program__eq_) = true)
    (en_Program : PySem.W.findIn K (.ref C_Program) "__ne__" = some (some (.builtin "object.__ne__")))
    (ya_Laying_place : PySem.W.findIn K (.ref C_Laying) "place" = some (some (.ref f_Laying_place)))
    (yf_Laying_place : PySem.W.isFn K (.ref f_Laying_place) = true)
    (ya_Laying_stops : PySem.W.findIn K (.ref C_Laying) "stops" = some (some (.ref f_Laying_stops)))
    (yf_Laying_stops : PySem.W.isFn K (.ref f_Laying_stops) = true)
    (ya_Laying_lay_block : PySem.W.findIn K (.ref C_Laying) "lay_block" = some (some (.ref f_Laying_lay_block)))
    (yf_Laying_lay_block : PySem.W.isFn K (.ref f_Laying_lay_block) = true)
    (ya_Laying_lay : PySem.W.findIn K (.ref C_Laying) "lay" = some (some (.ref f_Laying_lay)))
    (yf_Laying_lay : PySem.W.isFn K (.ref f_Laying_lay) = true)
    (ya_Laying_lay_row : PySem.W.findIn K (.ref C_Laying) "lay_row" = some (some (.ref f_Laying_lay_row)))
    (yf_Laying_lay_row : PySem.W.isFn K (.ref f_Laying_lay_row) = true)
    (ya_Laying_lay_other : PySem.W.findIn K (.ref C_Laying) "lay_other" = some (some (.ref f_Laying_lay_other)))
    (yf_Laying_lay_other : PySem.W.isFn K (.ref f_Laying_lay_other) = true)
    (ya_Laying_lay_loop : PySem.W.findIn K (.ref C_Laying) "lay_loop" = some (some (.ref f_Laying_lay_loop)))
    (yf_Laying_lay_loop : PySem.W.isFn K (.ref f_Laying_lay_loop) = true)
    (qa_Program_parts : PySem.W.findIn K (.ref C_Program) "parts" = some (some (.ref P_Program_parts)))
    (qg_Program_parts : PySem.W.specialIn K (.ref P_Program_parts) "__get__" = some (some (.builtin "property.__get__")))
    (qt_Program_parts : PySem.W.takesIn K (.ref P_Program_parts) = some true)
    (qR_Program_parts : ∃ rest, PySem.W.recIn K P_Program_parts "property" = some (.ref f_Program_parts :: rest))
    (hn_ : PySem.W.specialIn K (.builtin "object.__class__") "__get__" = some (some (.builtin "getset_descriptor.__get__")))
    (ht_ : PySem.W.takesIn K (.builtin "object.__class__") = some true)
    (z_xn_BadProgram_part : PySem.W.findIn K (.ref C_BadProgram) "part" = some none)
    {tk_MOST_PLACES : Tok}
    (v_MOST_PLACES : PySem.W.nsIn K mainGlobals "MOST_PLACES" = some (some (.int (60) tk_MOST_PLACES)))
    {tk_MOST_ARROWS : Tok}
    (v_MOST_ARROWS : PySem.W.nsIn K mainGlobals "MOST_ARROWS" = some (some (.int (200) tk_MOST_ARROWS)))
    (m_ValueError : PySem.W.nsIn K mainGlobals "ValueError" = some none)
    (m_abs : PySem.W.nsIn K mainGlobals "abs" = some none)
    (m_all : PySem.W.nsIn K mainGlobals "all" = some none)
    (m_any : PySem.W.nsIn K mainGlobals "any" = some none)
    (m_dict : PySem.W.nsIn K mainGlobals "dict" = some none)
    (m_enumerate : PySem.W.nsIn K mainGlobals "enumerate" = some none)
    (m_int : PySem.W.nsIn K mainGlobals "int" = some none)
    (m_isinstance : PySem.W.nsIn K mainGlobals "isinstance" = some none)
    (m_len : PySem.W.nsIn K mainGlobals "len" = some none)
    (m_list : PySem.W.nsIn K mainGlobals "list" = some none)
    (m_max : PySem.W.nsIn K mainGlobals "max" = some none)
    (m_range : PySem.W.nsIn K mainGlobals "range" = some none)
    (m_sorted : PySem.W.nsIn K mainGlobals "sorted" = some none)
    (m_str : PySem.W.nsIn K mainGlobals "str" = some none)
    (m_sum : PySem.W.nsIn K mainGlobals "sum" = some none)
    (m_tuple : PySem.W.nsIn K mainGlobals "tuple" = some none)
    (m_zip : PySem.W.nsIn K mainGlobals "zip" = some none)
    : ∃ fd : FuncData, (∀ (s : Shared) (v : Value), BindsTo s fd ⟨[v], []⟩ [("_law_script", v)]) ∧ ∀ base : Heap, K.In base → base.Ns mainGlobals mg → FnOk l.prog w K mg base (CX l.prog w) 114 fa fd ["_law_script"] (sp_law K) := by
  cases hfa.symm.trans (PySem.W.mg_of X G a_law)
  have F_is_small_word := fun_mk (st := s_is_small_word) l_is_small_word c_is_small_word k_is_small_word
  have F_is_deeds := fun_mk (st := s_is_deeds) l_is_deeds c_is_deeds k_is_deeds
  have F_is_row := fun_mk (st := s_is_row) l_is_row c_is_row k_is_row
  have F_is_row_over := fun_mk (st := s_is_row_over) l_is_row_over c_is_row_over k_is_row_over
  have F_undoings := fun_mk (st := s_undoings) l_undoings c_undoings k_undoings
  have F_is_block := fun_mk (st := s_is_block) l_is_block c_is_block k_is_block
  have F_is_statement := fun_mk (st := s_is_statement) l_is_statement c_is_statement k_is_statement
  have F_are_blocks := fun_mk (st := s_are_blocks) l_are_blocks c_are_blocks k_are_blocks
  have F_names_in := fun_mk (st := s_names_in) l_names_in c_names_in k_names_in
  have F_undone_block := fun_mk (st := s_undone_block) l_undone_block c_undone_block k_undone_block
  have F_undone_statement := fun_mk (st := s_undone_statement) l_undone_statement c_undone_statement k_undone_statement
  have F_flow := fun_mk (st := s_flow) l_flow c_flow k_flow
  have F_laid := fun_mk (st := s_laid) l_laid c_laid k_laid
  have F_Laying_init := fun_mk (st := s_Laying_init) l_Laying_init c_Laying_init k_Laying_init
  have F_Laying_place := fun_mk (st := s_Laying_place) l_Laying_place c_Laying_place k_Laying_place
  have F_Laying_stops := fun_mk (st := s_Laying_stops) l_Laying_stops c_Laying_stops k_Laying_stops
  have F_Laying_lay_block := fun_mk (st := s_Laying_lay_block) l_Laying_lay_block c_Laying_lay_block k_Laying_lay_block
  have F_Laying_lay := fun_mk (st := s_Laying_lay) l_Laying_lay c_Laying_lay k_Laying_lay
  have F_Laying_lay_row := fun_mk (st := s_Laying_lay_row) l_Laying_lay_row c_Laying_lay_row k_Laying_lay_row
  have F_Laying_lay_other := fun_mk (st := s_Laying_lay_other) l_Laying_lay_other c_Laying_lay_other k_Laying_lay_other
  have F_Laying_lay_loop := fun_mk (st := s_Laying_lay_loop) l_Laying_lay_loop c_Laying_lay_loop k_Laying_lay_loop
  have F_BadProgram_init := fun_mk (st := s_BadProgram_init) l_BadProgram_init c_BadProgram_init k_BadProgram_init
  have F_flow_size := fun_mk (st := s_flow_size) l_flow_size c_flow_size k_flow_size
  have F_block_size := fun_mk (st := s_block_size) l_block_size c_block_size k_block_size
  have F_statement_size := fun_mk (st := s_statement_size) l_statement_size c_statement_size k_statement_size
  have F_sum_of_sizes := fun_mk (st := s_sum_of_sizes) l_sum_of_sizes c_sum_of_sizes k_sum_of_sizes
  have F_Program_init := fun_mk (st := s_Program_init) l_Program_init c_Program_init k_Program_init
  have F_Program_parts := fun_mk (st := s_Program_parts) l_Program_parts c_Program_parts k_Program_parts
  have F_Program__eq_ := fun_mk (st := s_Program__eq_) l_Program__eq_ c_Program__eq_ k_Program__eq_
  have F_are_parts := fun_mk (st := s_are_parts) l_are_parts c_are_parts k_are_parts
  have F_is_within := fun_mk (st := s_is_within) l_is_within c_is_within k_is_within
  have F_hand := fun_mk (st := s_hand) l_hand c_hand k_hand
  have F_draw := fun_mk (st := s_draw) l_draw c_draw k_draw
  have F_undoing := fun_mk (st := s_undoing) l_undoing c_undoing k_undoing
  have F_back := fun_mk (st := s_back) l_back c_back k_back
  have F_deeds := fun_mk (st := s_deeds) l_deeds c_deeds k_deeds
  have F_row := fun_mk (st := s_row) l_row c_row k_row
  have F_statement := fun_mk (st := s_statement) l_statement c_statement k_statement
  have F_block := fun_mk (st := s_block) l_block c_block k_block
  have F_sizes := fun_mk (st := s_sizes) l_sizes c_sizes k_sizes
  have F_parts_drawn := fun_mk (st := s_parts_drawn) l_parts_drawn c_parts_drawn k_parts_drawn
  have F_drawn := fun_mk (st := s_drawn) l_drawn c_drawn k_drawn
  have F_products := fun_mk (st := s_products) l_products c_products k_products
  have F_rows := fun_mk (st := s_rows) l_rows c_rows k_rows
  have F_statement_rows := fun_mk (st := s_statement_rows) l_statement_rows c_statement_rows k_statement_rows
  have F_along := fun_mk (st := s_along) l_along c_along k_along
  have F_law := fun_mk (st := s_law) l_law c_law k_law
  have T : Txt K mg ⟨f_is_small_word, _, f_is_deeds, _, f_is_row, _, f_is_row_over, _, f_undoings, _, f_is_block, _, f_is_statement, _, f_are_blocks, _, f_names_in, _, f_undone_block, _, f_undone_statement, _, f_flow, _, f_laid, _, f_Laying_init, _, f_Laying_place, _, f_Laying_stops, _, f_Laying_lay_block, _, f_Laying_lay, _, f_Laying_lay_row, _, f_Laying_lay_other, _, f_Laying_lay_loop, _, f_BadProgram_init, _, f_flow_size, _, f_block_size, _, f_statement_size, _, f_sum_of_sizes, _, f_Program_init, _, f_Program_parts, _, f_Program__eq_, _, f_are_parts, _, f_is_within, _, f_hand, _, f_draw, _, f_undoing, _, f_back, _, f_deeds, _, f_row, _, f_statement, _, f_block, _, f_sizes, _, f_parts_drawn, _, f_drawn, _, f_products, _, f_rows, _, f_statement_rows, _, f_along, _, fa, _, C_Laying, C_RunsError, C_BadProgram, C_Program, P_Program_parts, _, _⟩ := {
    F_is_small_word := F_is_small_word
    g_is_small_word := PySem.W.mg_of X G a_is_small_word
    b_is_small_word := F_is_small_word.binds (ps := ["thing"]) fun _ _ _ _ _ _ us hl => match us, hl with | [_], _ => rfl
    F_is_deeds := F_is_deeds
    g_is_deeds := PySem.W.mg_of X G a_is_deeds
    b_is_deeds := F_is_deeds.binds (ps := ["thing"]) fun _ _ _ _ _ _ us hl => match us, hl with | [_], _ => rfl
    F_is_row := F_is_row
    g_is_row := PySem.W.mg_of X G a_is_row
    b_is_row := F_is_row.binds (ps := ["thing"]) fun _ _ _ _ _ _ us hl => match us, hl with | [_], _ => rfl
    F_is_row_over := F_is_row_over
    g_is_row_over := PySem.W.mg_of X G a_is_row_over
    b_is_row_over := F_is_row_over.binds (ps := ["deeds", "thing"]) fun _ _ _ _ _ _ us hl => match us, hl with | [_, _], _ => rfl
    F_undoings := F_undoings
    g_undoings := PySem.W.mg_of X G a_undoings
    b_undoings := F_undoings.binds (ps := ["row"]) fun _ _ _ _ _ _ us hl => match us, hl with | [_], _ => rfl
    F_is_block := F_is_block
    g_is_block := PySem.W.mg_of X G a_is_block
    b_is_block := F_is_block.binds (ps := ["deeds", "names", "thing", "depth"]) fun _ _ _ _ _ _ us hl => match us, hl with | [_, _, _, _], _ => rfl
    F_is_statement := F_is_statement
    g_is_statement := PySem.W.mg_of X G a_is_statement
    b_is_statement := F_is_statement.binds (ps := ["deeds", "names", "thing", "depth"]) fun _ _ _ _ _ _ us hl => match us, hl with | [_, _, _, _], _ => rfl
    F_are_blocks := F_are_blocks
    g_are_blocks := PySem.W.mg_of X G a_are_blocks
    b_are_blocks := F_are_blocks.binds (ps := ["deeds", "names", "thing", "depth"]) fun _ _ _ _ _ _ us hl => match us, hl with | [_, _, _, _], _ => rfl
    F_names_in := F_names_in
    g_names_in := PySem.W.mg_of X G a_names_in
    b_names_in := F_names_in.binds (ps := ["block"]) fun _ _ _ _ _ _ us hl => match us, hl with | [_], _ => rfl
    F_undone_block := F_undone_block
    g_undone_block := PySem.W.mg_of X G a_undone_block
    b_undone_block := F_undone_block.binds (ps := ["parts", "block"]) fun _ _ _ _ _ _ us hl => match us, hl with | [_, _], _ => rfl
    F_undone_statement := F_undone_statement
    g_undone_statement := PySem.W.mg_of X G a_undone_statement
    b_undone_statement := F_undone_statement.binds (ps := ["parts", "statement"]) fun _ _ _ _ _ _ us hl => match us, hl with | [_, _], _ => rfl
    F_flow := F_flow
    g_flow := PySem.W.mg_of X G a_flow
    b_flow := F_flow.binds (ps := ["program"]) fun _ _ _ _ _ _ us hl => match us, hl with | [_], _ => rfl
    F_laid := F_laid
    g_laid := PySem.W.mg_of X G a_laid
    b_laid := F_laid.binds (ps := ["program"]) fun _ _ _ _ _ _ us hl => match us, hl with | [_], _ => rfl
    F_Laying_init := F_Laying_init
    b_Laying_init := F_Laying_init.binds (ps := ["self", "blocks"]) fun _ _ _ _ _ _ us hl => match us, hl with | [_, _], _ => rfl
    F_Laying_place := F_Laying_place
    b_Laying_place := F_Laying_place.binds (ps := ["self"]) fun _ _ _ _ _ _ us hl => match us, hl with | [_], _ => rfl
    F_Laying_stops := F_Laying_stops
    b_Laying_stops := F_Laying_stops.binds (ps := ["self", "start", "goal", "ways"]) fun _ _ _ _ _ _ us hl => match us, hl with | [_, _, _, _], _ => rfl
    F_Laying_lay_block := F_Laying_lay_block
    b_Laying_lay_block := F_Laying_lay_block.binds (ps := ["self", "block", "start", "goal"]) fun _ _ _ _ _ _ us hl => match us, hl with | [_, _, _, _], _ => rfl
    F_Laying_lay := F_Laying_lay
    b_Laying_lay := F_Laying_lay.binds (ps := ["self", "statement", "start", "goal"]) fun _ _ _ _ _ _ us hl => match us, hl with | [_, _, _, _], _ => rfl
    F_Laying_lay_row := F_Laying_lay_row
    b_Laying_lay_row := F_Laying_lay_row.binds (ps := ["self", "row", "start", "goal"]) fun _ _ _ _ _ _ us hl => match us, hl with | [_, _, _, _], _ => rfl
    F_Laying_lay_other := F_Laying_lay_other
    b_Laying_lay_other := F_Laying_lay_other.binds (ps := ["self", "blocks", "start", "goal"]) fun _ _ _ _ _ _ us hl => match us, hl with | [_, _, _, _], _ => rfl
    F_Laying_lay_loop := F_Laying_lay_loop
    b_Laying_lay_loop := F_Laying_lay_loop.binds (ps := ["self", "block", "start", "goal"]) fun _ _ _ _ _ _ us hl => match us, hl with | [_, _, _, _], _ => rfl
    F_BadProgram_init := F_BadProgram_init
    b_BadProgram_init := F_BadProgram_init.binds (ps := ["self", "part"]) fun _ _ _ _ _ _ us hl => match us, hl with | [_, _], _ => rfl
    F_flow_size := F_flow_size
    g_flow_size := PySem.W.mg_of X G a_flow_size
    b_flow_size := F_flow_size.binds (ps := ["parts", "body"]) fun _ _ _ _ _ _ us hl => match us, hl with | [_, _], _ => rfl
    F_block_size := F_block_size
    g_block_size := PySem.W.mg_of X G a_block_size
    b_block_size := F_block_size.binds (ps := ["parts", "known", "block"]) fun _ _ _ _ _ _ us hl => match us, hl with | [_, _, _], _ => rfl
    F_statement_size := F_statement_size
    g_statement_size := PySem.W.mg_of X G a_statement_size
    b_statement_size := F_statement_size.binds (ps := ["parts", "known", "statement"]) fun _ _ _ _ _ _ us hl => match us, hl with | [_, _, _], _ => rfl
    F_sum_of_sizes := F_sum_of_sizes
    g_sum_of_sizes := PySem.W.mg_of X G a_sum_of_sizes
    b_sum_of_sizes := F_sum_of_sizes.binds (ps := ["sizes"]) fun _ _ _ _ _ _ us hl => match us, hl with | [_], _ => rfl
    F_Program_init := F_Program_init
    b_Program_init := F_Program_init.binds (ps := ["self", "deeds", "parts", "body"]) fun _ _ _ _ _ _ us hl => match us, hl with | [_, _, _, _], _ => rfl
    F_Program_parts := F_Program_parts
    b_Program_parts := F_Program_parts.binds (ps := ["self"]) fun _ _ _ _ _ _ us hl => match us, hl with | [_], _ => rfl
    F_Program__eq_ := F_Program__eq_
    b_Program__eq_ := F_Program__eq_.binds (ps := ["self", "other"]) fun _ _ _ _ _ _ us hl => match us, hl with | [_, _], _ => rfl
    F_are_parts := F_are_parts
    g_are_parts := PySem.W.mg_of X G a_are_parts
    b_are_parts := F_are_parts.binds (ps := ["deeds", "thing"]) fun _ _ _ _ _ _ us hl => match us, hl with | [_, _], _ => rfl
    F_is_within := F_is_within
    g_is_within := PySem.W.mg_of X G a_is_within
    b_is_within := F_is_within.binds (ps := ["named", "part"]) fun _ _ _ _ _ _ us hl => match us, hl with | [_, _], _ => rfl
    F_hand := F_hand
    g_hand := PySem.W.mg_of X G a_hand
    b_hand := F_hand.binds (ps := ["_law_script"]) fun _ _ _ _ _ _ us hl => match us, hl with | [_], _ => rfl
    F_draw := F_draw
    g_draw := PySem.W.mg_of X G a_draw
    b_draw := F_draw.binds (ps := ["_law_hand_here", "_law_many"]) fun _ _ _ _ _ _ us hl => match us, hl with | [_, _], _ => rfl
    F_undoing := F_undoing
    g_undoing := PySem.W.mg_of X G a_undoing
    b_undoing := F_undoing.binds (ps := ["_law_letter"]) fun _ _ _ _ _ _ us hl => match us, hl with | [_], _ => rfl
    F_back := F_back
    g_back := PySem.W.mg_of X G a_back
    b_back := F_back.binds (ps := ["_law_row_here"]) fun _ _ _ _ _ _ us hl => match us, hl with | [_], _ => rfl
    F_deeds := F_deeds
    g_deeds := PySem.W.mg_of X G a_deeds
    b_deeds := F_deeds.binds (ps := ["_law_hand_here", "_law_most"]) fun _ _ _ _ _ _ us hl => match us, hl with | [_, _], _ => rfl
    F_row := F_row
    g_row := PySem.W.mg_of X G a_row
    b_row := F_row.binds (ps := ["_law_hand_here", "_law_deeds_here", "_law_many"]) fun _ _ _ _ _ _ us hl => match us, hl with | [_, _, _], _ => rfl
    F_statement := F_statement
    g_statement := PySem.W.mg_of X G a_statement
    b_statement := F_statement.binds (ps := ["_law_hand_here", "_law_deeds_here", "_law_names", "_law_room", "_law_deep"]) fun _ _ _ _ _ _ us hl => match us, hl with | [_, _, _, _, _], _ => rfl
    F_block := F_block
    g_block := PySem.W.mg_of X G a_block
    b_block := F_block.binds (ps := ["_law_hand_here", "_law_deeds_here", "_law_names", "_law_room", "_law_deep"]) fun _ _ _ _ _ _ us hl => match us, hl with | [_, _, _, _, _], _ => rfl
    F_sizes := F_sizes
    g_sizes := PySem.W.mg_of X G a_sizes
    b_sizes := F_sizes.binds (ps := ["_law_block_here", "_law_parts"]) fun _ _ _ _ _ _ us hl => match us, hl with | [_, _], _ => rfl
    F_parts_drawn := F_parts_drawn
    g_parts_drawn := PySem.W.mg_of X G a_parts_drawn
    b_parts_drawn := F_parts_drawn.binds (ps := ["_law_hand_here", "_law_deeds_here"]) fun _ _ _ _ _ _ us hl => match us, hl with | [_, _], _ => rfl
    F_drawn := F_drawn
    g_drawn := PySem.W.mg_of X G a_drawn
    b_drawn := F_drawn.binds (ps := ["_law_hand_here", "_law_most", "_law_many"]) fun _ _ _ _ _ _ us hl => match us, hl with | [_, _, _], _ => rfl
    F_products := F_products
    g_products := PySem.W.mg_of X G a_products
    b_products := F_products.binds (ps := ["_law_ones", "_law_others", "_law_most"]) fun _ _ _ _ _ _ us hl => match us, hl with | [_, _, _], _ => rfl
    F_rows := F_rows
    g_rows := PySem.W.mg_of X G a_rows
    b_rows := F_rows.binds (ps := ["_law_block_here", "_law_parts", "_law_most"]) fun _ _ _ _ _ _ us hl => match us, hl with | [_, _, _], _ => rfl
    F_statement_rows := F_statement_rows
    g_statement_rows := PySem.W.mg_of X G a_statement_rows
    b_statement_rows := F_statement_rows.binds (ps := ["_law_statement_here", "_law_parts", "_law_most"]) fun _ _ _ _ _ _ us hl => match us, hl with | [_, _, _], _ => rfl
    F_along := F_along
    g_along := PySem.W.mg_of X G a_along
    b_along := F_along.binds (ps := ["_law_told", "_law_most"]) fun _ _ _ _ _ _ us hl => match us, hl with | [_, _], _ => rfl
    F_law := F_law
    g_law := PySem.W.mg_of X G a_law
    b_law := F_law.binds (ps := ["_law_script"]) fun _ _ _ _ _ _ us hl => match us, hl with | [_], _ => rfl
    gC_Laying := PySem.W.mg_of X G aC_Laying
    gC_RunsError := PySem.W.mg_of X G aC_RunsError
    gC_BadProgram := PySem.W.mg_of X G aC_BadProgram
    o_BadProgram := ⟨xL_BadProgram, sa_BadProgram, eC_BadProgram, tC_BadProgram, kC_BadProgram⟩
    i_BadProgram := i_BadProgram
    t_BadProgram := t_BadProgram
    x_BadProgram := ⟨ga_BadProgram, gg_BadProgram, eC_BadProgram, hC_BadProgram, ha_BadProgram, hn_, ht_, hm_BadProgram⟩
    gC_Program := PySem.W.mg_of X G aC_Program
    M_Laying := ⟨mk_Laying, mi_Laying, mf_Laying, mc_Laying⟩
    cl_Laying := ⟨pg_Laying, hd_Laying, po_Laying, ps_Laying⟩
    in_Laying := ⟨⟨pg_Laying, hd_Laying, po_Laying, ps_Laying⟩, ia_Laying, hn_, ht_, io_Laying, im_Laying⟩
    nF_Laying_blocks := nf_Laying_blocks
    nF_Laying_many := nf_Laying_many
    nF_Laying_arrows := nf_Laying_arrows
    nF_Laying_others := nf_Laying_others
    M_Program := ⟨mk_Program, mi_Program, mf_Program, mc_Program⟩
    cl_Program := ⟨pg_Program, hd_Program, po_Program, ps_Program⟩
    in_Program := ⟨⟨pg_Program, hd_Program, po_Program, ps_Program⟩, ia_Program, hn_, ht_, io_Program, im_Program⟩
    nF_Program_deeds := nf_Program_deeds
    nF_Program_body := nf_Program_body
    nF_Program__parts := nf_Program__parts
    eqs_Program := es_Program
    eqf_Program := ef_Program
    eqn_Program := en_Program
    me_Laying_place := ⟨ya_Laying_place, yf_Laying_place, k_Laying_place⟩
    me_Laying_stops := ⟨ya_Laying_stops, yf_Laying_stops, k_Laying_stops⟩
    me_Laying_lay_block := ⟨ya_Laying_lay_block, yf_Laying_lay_block, k_Laying_lay_block⟩
    me_Laying_lay := ⟨ya_Laying_lay, yf_Laying_lay, k_Laying_lay⟩
    me_Laying_lay_row := ⟨ya_Laying_lay_row, yf_Laying_lay_row, k_Laying_lay_row⟩
    me_Laying_lay_other := ⟨ya_Laying_lay_other, yf_Laying_lay_other, k_Laying_lay_other⟩
    me_Laying_lay_loop := ⟨ya_Laying_lay_loop, yf_Laying_lay_loop, k_Laying_lay_loop⟩
    pr_Program_parts := ⟨qa_Program_parts, qg_Program_parts, qt_Program_parts, qR_Program_parts⟩
    m_ValueError := PySem.W.mg_none_of X G m_ValueError
    m_abs := PySem.W.mg_none_of X G m_abs
    m_all := PySem.W.mg_none_of X G m_all
    m_any := PySem.W.mg_none_of X G m_any
    m_dict := PySem.W.mg_none_of X G m_dict
    m_enumerate := PySem.W.mg_none_of X G m_enumerate
    m_int := PySem.W.mg_none_of X G m_int
    m_isinstance := PySem.W.mg_none_of X G m_isinstance
    m_len := PySem.W.mg_none_of X G m_len
    m_list := PySem.W.mg_none_of X G m_list
    m_max := PySem.W.mg_none_of X G m_max
    m_range := PySem.W.mg_none_of X G m_range
    m_sorted := PySem.W.mg_none_of X G m_sorted
    m_str := PySem.W.mg_none_of X G m_str
    m_sum := PySem.W.mg_none_of X G m_sum
    m_tuple := PySem.W.mg_none_of X G m_tuple
    m_zip := PySem.W.mg_none_of X G m_zip
    c_MOST_PLACES := PySem.W.mg_of X G v_MOST_PLACES
    r_MOST_PLACES := ⟨_, rfl⟩
    c_MOST_ARROWS := PySem.W.mg_of X G v_MOST_ARROWS
    r_MOST_ARROWS := ⟨_, rfl⟩
    xn_BadProgram_part := z_xn_BadProgram_part
  }
  exact ⟨PySem.W.fnOf "law" "law" (defArgs s_law) (defBody s_law) (defScope s_law) .none kV_law dc_law pm_law an_law cd_law ct_law, fun s v => .of_eq rfl, fun base _ _ => ok_law (P := l.prog) (w := w) (base := base) T⟩
end K07
open PySem PySem.W PyProof.Rows
set_option maxRecDepth 100000 in
set_option maxHeartbeats 0 in
theorem PySem.Challenge.cw_runsback_k07_whole_rows_along_flows_holds : PySem.Challenge.rw_runsback_k07_whole_rows_along_flows.Holds := by
  w_on; o_law; k_head; (case hw => w_witness2)
  k_fill
  refine L2.walk_of (l := PySem.Challenge.rw_runsback_k07_whole_rows_along_flows) (n := 63) (k := 114) (x := "_law_script") (CX := fun w => L2.CX PySem.Challenge.pw_runsback_k07_whole_rows_along_flows w) (sp := fun w => K07.sp_law _) rfl (by decide) rfl ⟨rfl, by decide, by decide⟩ (fun w h Y => PySem.W.kIn_of Y) ?F (fun _ H a ns hl hO hS => K07.hsp _ H a ns hl hO hS) (fun _ _ _ _ _ h => by obtain ⟨_, _, _, _, _, _, _, _, _, _, _, _, z⟩ := h; exact z)
  case F =>
    intro w mg fa h KX G hmg
    refine' K07.all_mk KX G hmg ?a_is_small_word ?a_is_deeds ?a_is_row ?a_is_row_over ?a_undoings ?a_is_block ?a_is_statement ?a_are_blocks ?a_names_in ?a_undone_block ?a_undone_statement ?a_flow ?a_laid ?a_flow_size ?a_block_size ?a_statement_size ?a_sum_of_sizes ?a_are_parts ?a_is_within ?a_hand ?a_draw ?a_undoing ?a_back ?a_deeds ?a_row ?a_statement ?a_block ?a_sizes ?a_parts_drawn ?a_drawn ?a_products ?a_rows ?a_statement_rows ?a_along ?a_law ?aC_Laying ?aC_RunsError ?aC_BadProgram ?aC_Program ?i_BadProgram ?l_is_small_word ?c_is_small_word ?k_is_small_word ?l_is_deeds ?c_is_deeds ?k_is_deeds ?l_is_row ?c_is_row ?k_is_row ?l_is_row_over ?c_is_row_over ?k_is_row_over ?l_undoings ?c_undoings ?k_undoings ?l_is_block ?c_is_block ?k_is_block ?l_is_statement ?c_is_statement ?k_is_statement ?l_are_blocks ?c_are_blocks ?k_are_blocks ?l_names_in ?c_names_in ?k_names_in ?l_undone_block ?c_undone_block ?k_undone_block ?l_undone_statement ?c_undone_statement ?k_undone_statement ?l_flow ?c_flow ?k_flow ?l_laid ?c_laid ?k_laid ?l_Laying_init ?c_Laying_init ?k_Laying_init ?l_Laying_place ?c_Laying_place ?k_Laying_place ?l_Laying_stops ?c_Laying_stops ?k_Laying_stops ?l_Laying_lay_block ?c_Laying_lay_block ?k_Laying_lay_block ?l_Laying_lay ?c_Laying_lay ?k_Laying_lay ?l_Laying_lay_row ?c_Laying_lay_row ?k_Laying_lay_row ?l_Laying_lay_other ?c_Laying_lay_other ?k_Laying_lay_other ?l_Laying_lay_loop ?c_Laying_lay_loop ?k_Laying_lay_loop ?l_BadProgram_init ?c_BadProgram_init ?k_BadProgram_init ?l_flow_size ?c_flow_size ?k_flow_size ?l_block_size ?c_block_size ?k_block_size ?l_statement_size ?c_statement_size ?k_statement_size ?l_sum_of_sizes ?c_sum_of_sizes ?k_sum_of_sizes ?l_Program_init ?c_Program_init ?k_Program_init ?l_Program_parts ?c_Program_parts ?k_Program_parts ?l_Program__eq_ ?c_Program__eq_ ?k_Program__eq_ ?l_are_parts ?c_are_parts ?k_are_parts ?l_is_within ?c_is_within ?k_is_within ?l_hand ?c_hand ?k_hand ?l_draw ?c_draw ?k_draw ?l_undoing ?c_undoing ?k_undoing ?l_back ?c_back ?k_back ?l_deeds ?c_deeds ?k_deeds ?l_row ?c_row ?k_row ?l_statement ?c_statement ?k_statement ?l_block ?c_block ?k_block ?l_sizes ?c_sizes ?k_sizes ?l_parts_drawn ?c_parts_drawn ?k_parts_drawn ?l_drawn ?c_drawn ?k_drawn ?l_products ?c_products ?k_products ?l_rows ?c_rows ?k_rows ?l_statement_rows ?c_statement_rows ?k_statement_rows ?l_along ?c_along ?k_along ?l_law ?c_law ?k_law ?t_BadProgram ?xL_BadProgram ?sa_BadProgram ?ga_BadProgram ?gg_BadProgram ?kC_BadProgram ?eC_BadProgram ?tC_BadProgram ?hC_BadProgram ?ha_BadProgram ?hm_BadProgram ?mk_Laying ?mi_Laying ?mf_Laying ?mc_Laying ?pg_Laying ?hd_Laying ?po_Laying ?ps_Laying ?ia_Laying ?io_Laying ?im_Laying ?nf_Laying_blocks ?nf_Laying_many ?nf_Laying_arrows ?nf_Laying_others ?mk_Program ?mi_Program ?mf_Program ?mc_Program ?pg_Program ?hd_Program ?po_Program ?ps_Program ?ia_Program ?io_Program ?im_Program ?nf_Program_deeds ?nf_Program_body ?nf_Program__parts ?es_Program ?ef_Program ?en_Program ?ya_Laying_place ?yf_Laying_place ?ya_Laying_stops ?yf_Laying_stops ?ya_Laying_lay_block ?yf_Laying_lay_block ?ya_Laying_lay ?yf_Laying_lay ?ya_Laying_lay_row ?yf_Laying_lay_row ?ya_Laying_lay_other ?yf_Laying_lay_other ?ya_Laying_lay_loop ?yf_Laying_lay_loop ?qa_Program_parts ?qg_Program_parts ?qt_Program_parts ?qR_Program_parts ?hn_ ?ht_ ?z_xn_BadProgram_part ?v_MOST_PLACES ?v_MOST_ARROWS ?m_ValueError ?m_abs ?m_all ?m_any ?m_dict ?m_enumerate ?m_int ?m_isinstance ?m_len ?m_list ?m_max ?m_range ?m_sorted ?m_str ?m_sum ?m_tuple ?m_zip
    (case a_is_small_word => k_is)
    (case a_is_deeds => k_is)
    (case a_is_row => k_is)
    (case a_is_row_over => k_is)
    (case a_undoings => k_is)
    (case a_is_block => k_is)
    (case a_is_statement => k_is)
    (case a_are_blocks => k_is)
    (case a_names_in => k_is)
    (case a_undone_block => k_is)
    (case a_undone_statement => k_is)
    (case a_flow => k_is)
    (case a_laid => k_is)
    (case a_flow_size => k_is)
    (case a_block_size => k_is)
    (case a_statement_size => k_is)
    (case a_sum_of_sizes => k_is)
    (case a_are_parts => k_is)
    (case a_is_within => k_is)
    (case a_hand => k_is)
    (case a_draw => k_is)
    (case a_undoing => k_is)
    (case a_back => k_is)
    (case a_deeds => k_is)
    (case a_row => k_is)
    (case a_statement => k_is)
    (case a_block => k_is)
    (case a_sizes => k_is)
    (case a_parts_drawn => k_is)
    (case a_drawn => k_is)
    (case a_products => k_is)
    (case a_rows => k_is)
    (case a_statement_rows => k_is)
    (case a_along => k_is)
    (case a_law => k_is)
    (case aC_Laying => k_is)
    (case aC_RunsError => k_is)
    (case aC_BadProgram => k_is)
    (case aC_Program => k_is)
    (case i_BadProgram => k_is)
    (case mk_Laying => k_is)
    (case mi_Laying => k_is)
    (case mf_Laying => k_is)
    (case mc_Laying => k_is)
    (case pg_Laying => k_is)
    (case hd_Laying => k_is)
    (case po_Laying => k_is)
    (case ps_Laying => k_is)
    (case ia_Laying => k_is)
    (case io_Laying => k_is)
    (case im_Laying => exact if_pos (beq_self_eq_true _))
    (case nf_Laying_blocks => k_is)
    (case nf_Laying_many => k_is)
    (case nf_Laying_arrows => k_is)
    (case nf_Laying_others => k_is)
    (case mk_Program => k_is)
    (case mi_Program => k_is)
    (case mf_Program => k_is)
    (case mc_Program => k_is)
    (case pg_Program => k_is)
    (case hd_Program => k_is)
    (case po_Program => k_is)
    (case ps_Program => k_is)
    (case ia_Program => k_is)
    (case io_Program => k_is)
    (case im_Program => exact if_pos (beq_self_eq_true _))
    (case nf_Program_deeds => k_is)
    (case nf_Program_body => k_is)
    (case nf_Program__parts => k_is)
    (case es_Program => k_is)
    (case ef_Program => k_is)
    (case en_Program => k_is)
    (case ya_Laying_place => k_is)
    (case yf_Laying_place => k_is)
    (case ya_Laying_stops => k_is)
    (case yf_Laying_stops => k_is)
    (case ya_Laying_lay_block => k_is)
    (case yf_Laying_lay_block => k_is)
    (case ya_Laying_lay => k_is)
    (case yf_Laying_lay => k_is)
    (case ya_Laying_lay_row => k_is)
    (case yf_Laying_lay_row => k_is)
    (case ya_Laying_lay_other => k_is)
    (case yf_Laying_lay_other => k_is)
    (case ya_Laying_lay_loop => k_is)
    (case yf_Laying_lay_loop => k_is)
    (case qa_Program_parts => k_is)
    (case qg_Program_parts => k_is)
    (case qt_Program_parts => k_is)
    (case qR_Program_parts => exact ⟨_, by k_is⟩)
    (case l_is_small_word => k_is)
    (case c_is_small_word => k_is)
    (case k_is_small_word => k_is)
    (case l_is_deeds => k_is)
    (case c_is_deeds => k_is)
    (case k_is_deeds => k_is)
    (case l_is_row => k_is)
    (case c_is_row => k_is)
    (case k_is_row => k_is)
    (case l_is_row_over => k_is)
    (case c_is_row_over => k_is)
    (case k_is_row_over => k_is)
    (case l_undoings => k_is)
    (case c_undoings => k_is)
    (case k_undoings => k_is)
    (case l_is_block => k_is)
    (case c_is_block => k_is)
    (case k_is_block => k_is)
    (case l_is_statement => k_is)
    (case c_is_statement => k_is)
    (case k_is_statement => k_is)
    (case l_are_blocks => k_is)
    (case c_are_blocks => k_is)
    (case k_are_blocks => k_is)
    (case l_names_in => k_is)
    (case c_names_in => k_is)
    (case k_names_in => k_is)
    (case l_undone_block => k_is)
    (case c_undone_block => k_is)
    (case k_undone_block => k_is)
    (case l_undone_statement => k_is)
    (case c_undone_statement => k_is)
    (case k_undone_statement => k_is)
    (case l_flow => k_is)
    (case c_flow => k_is)
    (case k_flow => k_is)
    (case l_laid => k_is)
    (case c_laid => k_is)
    (case k_laid => k_is)
    (case l_Laying_init => k_is)
    (case c_Laying_init => k_is)
    (case k_Laying_init => k_is)
    (case l_Laying_place => k_is)
    (case c_Laying_place => k_is)
    (case k_Laying_place => k_is)
    (case l_Laying_stops => k_is)
    (case c_Laying_stops => k_is)
    (case k_Laying_stops => k_is)
    (case l_Laying_lay_block => k_is)
    (case c_Laying_lay_block => k_is)
    (case k_Laying_lay_block => k_is)
    (case l_Laying_lay => k_is)
    (case c_Laying_lay => k_is)
    (case k_Laying_lay => k_is)
    (case l_Laying_lay_row => k_is)
    (case c_Laying_lay_row => k_is)
    (case k_Laying_lay_row => k_is)
    (case l_Laying_lay_other => k_is)
    (case c_Laying_lay_other => k_is)
    (case k_Laying_lay_other => k_is)
    (case l_Laying_lay_loop => k_is)
    (case c_Laying_lay_loop => k_is)
    (case k_Laying_lay_loop => k_is)
    (case l_BadProgram_init => k_is)
    (case c_BadProgram_init => k_is)
    (case k_BadProgram_init => k_is)
    (case l_flow_size => k_is)
    (case c_flow_size => k_is)
    (case k_flow_size => k_is)
    (case l_block_size => k_is)
    (case c_block_size => k_is)
    (case k_block_size => k_is)
    (case l_statement_size => k_is)
    (case c_statement_size => k_is)
    (case k_statement_size => k_is)
    (case l_sum_of_sizes => k_is)
    (case c_sum_of_sizes => k_is)
    (case k_sum_of_sizes => k_is)
    (case l_Program_init => k_is)
    (case c_Program_init => k_is)
    (case k_Program_init => k_is)
    (case l_Program_parts => k_is)
    (case c_Program_parts => k_is)
    (case k_Program_parts => k_is)
    (case l_Program__eq_ => k_is)
    (case c_Program__eq_ => k_is)
    (case k_Program__eq_ => k_is)
    (case l_are_parts => k_is)
    (case c_are_parts => k_is)
    (case k_are_parts => k_is)
    (case l_is_within => k_is)
    (case c_is_within => k_is)
    (case k_is_within => k_is)
    (case l_hand => k_is)
    (case c_hand => k_is)
    (case k_hand => k_is)
    (case l_draw => k_is)
    (case c_draw => k_is)
    (case k_draw => k_is)
    (case l_undoing => k_is)
    (case c_undoing => k_is)
    (case k_undoing => k_is)
    (case l_back => k_is)
    (case c_back => k_is)
    (case k_back => k_is)
    (case l_deeds => k_is)
    (case c_deeds => k_is)
    (case k_deeds => k_is)
    (case l_row => k_is)
    (case c_row => k_is)
    (case k_row => k_is)
    (case l_statement => k_is)
    (case c_statement => k_is)
    (case k_statement => k_is)
    (case l_block => k_is)
    (case c_block => k_is)
    (case k_block => k_is)
    (case l_sizes => k_is)
    (case c_sizes => k_is)
    (case k_sizes => k_is)
    (case l_parts_drawn => k_is)
    (case c_parts_drawn => k_is)
    (case k_parts_drawn => k_is)
    (case l_drawn => k_is)
    (case c_drawn => k_is)
    (case k_drawn => k_is)
    (case l_products => k_is)
    (case c_products => k_is)
    (case k_products => k_is)
    (case l_rows => k_is)
    (case c_rows => k_is)
    (case k_rows => k_is)
    (case l_statement_rows => k_is)
    (case c_statement_rows => k_is)
    (case k_statement_rows => k_is)
    (case l_along => k_is)
    (case c_along => k_is)
    (case k_along => k_is)
    (case l_law => k_is)
    (case c_law => k_is)
    (case k_law => k_is)
    (case t_BadProgram => k_is)
    (case xL_BadProgram => exact ⟨_, _, _, _, [.ref _, .type "ValueError", .type "Exception", .type "BaseException", .type "object"], _, _, _, _, _, _, _, _, _, _, by k_is, by decide +kernel⟩)
    (case sa_BadProgram => k_is)
    (case ga_BadProgram => k_is)
    (case gg_BadProgram => k_is)
    (case kC_BadProgram => k_is)
    (case eC_BadProgram => k_is)
    (case tC_BadProgram => k_is)
    (case hC_BadProgram => k_is)
    (case ha_BadProgram => k_is)
    (case hm_BadProgram => k_is)
    (case hn_ => k_is)
    (case ht_ => k_is)
    (case z_xn_BadProgram_part => first | rfl | k_is)
    (case v_MOST_PLACES => k_is)
    (case v_MOST_ARROWS => k_is)
    (case m_ValueError => k_is)
    (case m_abs => k_is)
    (case m_all => k_is)
    (case m_any => k_is)
    (case m_dict => k_is)
    (case m_enumerate => k_is)
    (case m_int => k_is)
    (case m_isinstance => k_is)
    (case m_len => k_is)
    (case m_list => k_is)
    (case m_max => k_is)
    (case m_range => k_is)
    (case m_sorted => k_is)
    (case m_str => k_is)
    (case m_sum => k_is)
    (case m_tuple => k_is)
    (case m_zip => k_is)
#print axioms PySem.Challenge.cw_runsback_k07_whole_rows_along_flows_holds
