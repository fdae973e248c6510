import PyProof.Rows.All
import Wide.All
import OpenK.AllK
import Wide.FinOn
import PyProof.EqAt
import PyProof.EqKinds
import PyProof.TupleCall
import KE.BitLaws
import PyProof.IsiH_set
import KE.KDflt
import KE.KNestM
import KE.KSuper
import PyProof.InstStoreFacts
import KE.KDictSum
import KE.KSortTupG
import PyProof.ListRange
import PyProof.ListStr
import PySem.Challenge.RW_worldbridge_k17_written_and_read
set_option Elab.async false
set_option linter.all false
set_option maxRecDepth 100000
namespace L2
open PySem PySem.Spec PyProof.Rows

/-- its arguments, its dict -/
abbrev AD := Value × Option Addr
/-- the exception at e: its class, its arguments, its context, its newest entry (none yet: tb = none) -/
structure Ex (h : Heap) (e : Addr) (cls : Value) (a0 : AD) (cx tb : Value) : Prop where
  obj : ∃ oe vs, h.get? e = some oe ∧ oe.cls = cls ∧ oe.data = .fields vs ∧ (vs[0]? = some a0.1 ∧ oe.dict = a0.2) ∧ vs[1]? = some tb ∧ vs[2]? = some cx
/-- an entry, off the base, with its mark -/
structure Ent (h B : Heap) (e T : Addr) (fl : Value) : Prop where
  off : B.get? T = none
  ne : T ≠ e
  obj : ∃ oT ts, h.get? T = some oT ∧ oT.data = .fields ts ∧ ts[3]? = some fl
/-- over the base and the frames l: the exception without an entry, or with one whose mark is fl -/
structure Air (B : Heap) (l : List Env) (e : Addr) (cls : Value) (a0 : AD) (cx fl : Value) (h : Heap) : Prop where
  stay : B.StaysIn h
  off : B.get? e = none
  fun_ : h.FunFrames B l
  ex : Ex h e cls a0 cx .none ∨ ∃ T, Ex h e cls a0 cx (.ref T) ∧ Ent h B e T fl
/-- .. with an entry -/
structure Lain (B : Heap) (l : List Env) (e : Addr) (cls : Value) (a0 : AD) (cx fl : Value) (h : Heap) : Prop where
  stay : B.StaysIn h
  off : B.get? e = none
  fun_ : h.FunFrames B l
  ex : ∃ T, Ex h e cls a0 cx (.ref T) ∧ Ent h B e T fl
section
variable {M : Model} {A : Around} {E : Value → Shared → Prop} {s : Shared}

/-- a new entry is laid on the exception -/
theorem ent_new {B : Heap} {env : Env} {outer : List Env} {L e : Addr} {cls : Value} {a0 : AD} {cx head tb : Value} {b : Bool} {Q : Unit → Shared → Prop}
    (fr : A.frames = some (env :: outer)) (ff : s.heap.FunFrames B (env :: outer)) (fL : env.frame = some L) (kb : B.StaysIn s.heap) (off : B.get? e = none) (x : Ex s.heap e cls a0 cx tb)
    (q : ∀ h', Lain B (env :: outer) e cls a0 cx (rawInt L) h' → s.heap.UpToSlots h' → Q () { s with heap := h' }) :
    wpAny M A (do let fa ← frameOf env; let pl ← entryPlaceOf L b; let y ← EntryCells.newEntry head fa .none (rawInt L) .none pl; setField (.ref e) 1 y) Q E s := by
  obtain ⟨oe, vs, ge, gc, gd, g0, g1, g2⟩ := x.obj
  have nf : e ∉ (env :: outer).filterMap (·.frame) := fun hm => by
    obtain ⟨_, o, ho, hnf⟩ := ff.mem hm
    rw [ge] at ho; cases ho; exact hnf vs gd
  have lt1 : 1 < vs.size := (Array.getElem?_eq_some_iff.mp g1).1
  refine wpAny_bind (wpAny_frameOf_fun fr ff fL fun k sk => ?_); refine wpAny_bind (wpAny_entryPlaceOf fun pl ipl => ?_)
  unfold EntryCells.newEntry newFields; refine wpAny_bind (wpAny_newObj_type ?_ (ipl.sizeOk5 _ _ _ _ _))
  have ke : k.get? e = some oe := (sk.2.1 e nf).trans ge
  have kk : B.StaysIn k := fun c o z => (sk.2.1 c fun hm => by rw [(ff.mem hm).1] at z; cases z).trans (kb c o z)
  generalize hN : ({ cls := .type "traceback", dict := none, data := .fields ([head, .ref L, .none, rawInt L, .none] ++ (if pl.isEmpty then List.replicate 6 Value.none else pl)).toArray } : Obj) = N
  have hNf : ∃ ts, N.data = .fields ts ∧ ts[3]? = some (rawInt L) := by subst hN; exact ⟨_, rfl, by simp⟩
  obtain ⟨ts, nd, n3⟩ := hNf
  have pe := Heap.get?_push_of_some (h := k) N ke
  have ne : k.objs.size ≠ e := Nat.ne_of_gt (Heap.lt_size ke)
  have dd := Obj.data_mapFields gd (·.setIfInBounds 1 (Value.ref k.objs.size))
  have ue := Heap.get?_update_self (Obj.mapFields (·.setIfInBounds 1 (Value.ref k.objs.size))) pe (Obj.isFreed_of_fields dd)
  have uT : ((k.push N).update e (Obj.mapFields (·.setIfInBounds 1 (Value.ref k.objs.size)))).get? k.objs.size = some N :=
    (Heap.get?_update_other (k.push N) _ (Ne.symm ne)).trans (Heap.get?_push_size k (Obj.isFreed_of_fields nd))
  have oth : ∀ c o, c ≠ e → k.get? c = some o → ((k.push N).update e (Obj.mapFields (·.setIfInBounds 1 (Value.ref k.objs.size)))).get? c = some o := fun c o nc z => by
    rw [Heap.get?_update_other _ _ (Ne.symm nc)]; exact Heap.get?_push_of_some _ z
  have nr : ∀ c o, s.heap.get? c = some o → (∀ ws, o.data ≠ .fields ws) → c ≠ e := fun c o z nz y => by
    subst y; rw [ge] at z; cases z; exact nz vs gd
  refine wpAny_setField pe gd lt1 (q _ ⟨fun c o z => oth c o (fun y => by rw [y, off] at z; cases z) (kk c o z), off, ff.of_keeps fun c o z nz => ?_, k.objs.size, ⟨_, _, ue, ?_, dd, ?_, ?_, ?_⟩, kk.fresh, ne, _, _, uT, nd, n3⟩ fun c o z nz => ?_)
  · obtain ⟨sl, y⟩ := sk.2.2 c o z
    exact ⟨_, oth c _ (nr c o z nz) y, rfl⟩
  · rw [Obj.cls_mapFields]; exact gc
  · exact ⟨by rw [Array.getElem?_setIfInBounds_ne (by decide)]; exact g0.1, by rw [show (oe.mapFields (·.setIfInBounds 1 (Value.ref k.objs.size))).dict = oe.dict from by obtain ⟨_, _, dt, _⟩ := oe; cases dt <;> rfl]; exact g0.2⟩
  · simp [lt1]
  · rw [Array.getElem?_setIfInBounds_ne (by decide)]; exact g2
  · obtain ⟨sl, y⟩ := sk.2.2 c o z
    exact ⟨sl, oth c _ (nr c o z nz) y⟩

/-- the frame is noted on an exception that has not been here yet -/
theorem air_note {B : Heap} {env : Env} {outer : List Env} {L e : Addr} {cls : Value} {a0 : AD} {cx : Value} {Q : Unit → Shared → Prop} (fr : A.frames = some (env :: outer)) (fL : env.frame = some L)
    (x : Air B (env :: outer) e cls a0 cx .none s.heap) (q : ∀ h', Lain B (env :: outer) e cls a0 cx (rawInt L) h' → s.heap.UpToSlots h' → Q () { s with heap := h' }) :
    wpAny M A (noteFrame (.ref e) env) Q E s := by
  obtain ⟨kb, off, ff, x⟩ := x
  unfold noteFrame
  simp only [fL]
  rcases x with x | ⟨T, x, y⟩
  · obtain ⟨oe, vs, ge, gc, gd, g0, g1, g2⟩ := id x.obj
    refine wpAny_bind (wpAny_field ge gd g1 ?_); rw [if_neg (by decide)]
    exact ent_new fr ff fL kb off x q
  · obtain ⟨oe, vs, ge, gc, gd, g0, g1, g2⟩ := id x.obj
    obtain ⟨offT, neT, oT, ts, gT, dT, t3⟩ := y
    refine wpAny_bind (wpAny_field ge gd g1 ?_); rw [if_pos (show (Value.ref T != Value.none) = true from by simp)]
    refine wpAny_bind (wpAny_field gT dT t3 ?_); rw [if_neg (show ¬ ((Value.none == rawInt L) = true) from by simp [rawInt])]
    refine wpAny_bind (wpAny_setField gT dT (Array.getElem?_eq_some_iff.mp t3).1 ?_)
    have oth : ∀ c, c ≠ T → (s.heap.update T (Obj.mapFields (·.setIfInBounds 3 Value.none))).get? c = s.heap.get? c := fun c nc => Heap.get?_update_other _ _ (Ne.symm nc)
    have nr : ∀ c o, s.heap.get? c = some o → (∀ ws, o.data ≠ .fields ws) → c ≠ T := fun c o z nz y => by
      subst y; rw [gT] at z; cases z; exact nz ts dT
    refine ent_new (s := { s with heap := _ }) fr (ff.of_keeps fun c o z nz => ⟨o, (oth c (nr c o z nz)).trans z, rfl⟩) fL (fun c o z => (oth c fun y => by rw [y, offT] at z; cases z).trans (kb c o z)) off
      ⟨oe, vs, (oth e (Ne.symm neT)).trans ge, gc, gd, g0, g1, g2⟩ fun h' l u => q h' l fun c o z nz => u c o ((oth c (nr c o z nz)).trans z) nz

/-- a mark is set, or goes -/
theorem lain_set {B : Heap} {l : List Env} {e : Addr} {cls : Value} {a0 : AD} {cx fl : Value} {fo : Option Addr} {Q : Unit → Shared → Prop} (x : Lain B l e cls a0 cx fl s.heap)
    (q : ∀ h', Lain B l e cls a0 cx (fo.elim .none fun f => rawInt f) h' → s.heap.UpToSlots h' → Q () { s with heap := h' }) : wpAny M A (setFlight (.ref e) fo) Q E s := by
  obtain ⟨kb, off, ff, T, x, offT, neT, oT, ts, gT, dT, t3⟩ := x
  obtain ⟨oe, vs, ge, gc, gd, g0, g1, g2⟩ := id x.obj
  have lt3 : 3 < ts.size := (Array.getElem?_eq_some_iff.mp t3).1
  have oth : ∀ c, c ≠ T → (s.heap.update T (Obj.mapFields (·.setIfInBounds 3 (fo.elim Value.none fun f => rawInt f)))).get? c = s.heap.get? c := fun c nc => Heap.get?_update_other _ _ (Ne.symm nc)
  have nr : ∀ c o, s.heap.get? c = some o → (∀ ws, o.data ≠ .fields ws) → c ≠ T := fun c o z nz y => by
    subst y; rw [gT] at z; cases z; exact nz ts dT
  have dd := Obj.data_mapFields dT (·.setIfInBounds 3 (fo.elim Value.none fun f => rawInt f))
  unfold setFlight
  refine wpAny_bind (wpAny_field ge gd g1 ?_); rw [if_pos (show (Value.ref T != Value.none) = true from by simp)]
  refine wpAny_setField gT dT lt3 (q _ ⟨fun c o z => (oth c fun y => by rw [y, offT] at z; cases z).trans (kb c o z), off, ff.of_keeps fun c o z nz => ⟨o, (oth c (nr c o z nz)).trans z, rfl⟩, T, ⟨oe, vs, (oth e (Ne.symm neT)).trans ge, gc, gd, g0, g1, g2⟩, offT, neT, _, _,
    Heap.get?_update_self _ gT (Obj.isFreed_of_fields dd), dd, by simp [lt3]⟩ fun c o z nz => ⟨o.slots, (oth c (nr c o z nz)).trans z⟩)
theorem lain_land {B : Heap} {l : List Env} {e : Addr} {cls : Value} {a0 : AD} {cx fl : Value} {Q : Unit → Shared → Prop} (x : Lain B l e cls a0 cx fl s.heap)
    (q : ∀ h', Lain B l e cls a0 cx .none h' → s.heap.UpToSlots h' → Q () { s with heap := h' }) : wpAny M A (setFlight (.ref e) none) Q E s := lain_set (fo := none) x q
/-- the frame is noted already -/
theorem lain_again {B : Heap} {l : List Env} {env : Env} {L e : Addr} {cls : Value} {a0 : AD} {cx : Value} {Q : Unit → Shared → Prop} (fL : env.frame = some L) (x : Lain B l e cls a0 cx (rawInt L) s.heap) (q : Q () s) : wpAny M A (noteFrame (.ref e) env) Q E s := by
  obtain ⟨kb, off, ff, T, x, offT, neT, oT, ts, gT, dT, t3⟩ := x
  obtain ⟨oe, vs, ge, gc, gd, g0, g1, g2⟩ := id x.obj
  unfold noteFrame
  simp only [fL]
  refine wpAny_bind (wpAny_field ge gd g1 ?_); rw [if_pos (show (Value.ref T != Value.none) = true from by simp)]
  refine wpAny_bind (wpAny_field gT dT t3 ?_); rw [if_pos (show (rawInt L == rawInt L) = true from by simp)]; exact wpAny_pure q

end
end L2

set_option Elab.async false
set_option linter.all false
set_option maxRecDepth 100000
namespace L2
open PySem PySem.Spec PyProof.Rows

/-! ### exceptions that are being handled: a chain of contexts -/
def nxt (ch : List Addr) (i : Nat) : Value := match ch[i + 1]? with | some y => .ref y | none => .none
/-- the exceptions at ch, each the context of the one ahead of it -/
structure Chain (h : Heap) (ch : List Addr) : Prop where
  nd : ch.Nodup
  lk : ∀ i x, ch[i]? = some x → ∃ o vs, h.get? x = some o ∧ o.data = .fields vs ∧ vs[2]? = some (nxt ch i)
def headV : List Addr → Option Value
  | [] => none
  | x :: _ => some (.ref x)
/-- what is being handled is a chain, and none of it is at av -/
def HQ (av : List Addr) (A : Around) (h : Heap) : Prop := ∃ ch, Chain h ch ∧ A.handled = headV ch ∧ ∀ b ∈ av, b ∉ ch
theorem HQ.none {av : List Addr} {A : Around} {h : Heap} (e : A.handled = none) : HQ av A h := ⟨[], ⟨List.nodup_nil, fun i x z => by simp at z⟩, e, fun _ _ => by simp⟩
theorem Chain.keeps {h h' : Heap} {ch : List Addr} (c : Chain h ch) (k : ∀ x ∈ ch, ∀ o, h.get? x = some o → h'.get? x = some o) : Chain h' ch :=
  ⟨c.nd, fun i x z => let ⟨o, vs, a, b⟩ := c.lk i x z; ⟨o, vs, k x (List.mem_of_getElem? z) o a, b⟩⟩
theorem Chain.there {h : Heap} {ch : List Addr} (c : Chain h ch) {x : Addr} (m : x ∈ ch) : ∃ o vs, h.get? x = some o ∧ o.data = .fields vs := by
  obtain ⟨i, hi, e⟩ := List.mem_iff_getElem.mp m
  obtain ⟨o, vs, a, b, _⟩ := c.lk i x (by rw [List.getElem?_eq_getElem hi, e])
  exact ⟨o, vs, a, b⟩
theorem HQ.but {it : Addr} {A : Around} {h h' : Heap} (x : HQ [it] A h) (k : ∀ b o, b ≠ it → h.get? b = some o → h'.get? b = some o) : HQ [it] A h' :=
  let ⟨ch, c, e, av⟩ := x; ⟨ch, c.keeps fun y m o z => k y o (fun q => av it (by simp) (q ▸ m)) z, e, av⟩
theorem HQ.kept {av : List Addr} {A : Around} {h h' : Heap} (x : HQ av A h) (k : ∀ b o, h.get? b = some o → h'.get? b = some o) : HQ av A h' :=
  let ⟨ch, c, e, av⟩ := x; ⟨ch, c.keeps fun y m o z => k y o z, e, av⟩
/-- what is new is none of it -/
theorem HQ.new {av : List Addr} {A : Around} {h : Heap} {e : Addr} (x : HQ av A h) (n : h.get? e = Option.none) : HQ (e :: av) A h :=
  let ⟨ch, c, q, a⟩ := x
  ⟨ch, c, q, fun b m => by
    rcases List.mem_cons.mp m with rfl | m
    · intro z; obtain ⟨o, _, y, _⟩ := c.there z; rw [n] at y; cases y
    · exact a b m⟩
theorem HQ.mono {av av' : List Addr} {A : Around} {h : Heap} (x : HQ av A h) (s : ∀ b ∈ av', b ∈ av) : HQ av' A h := let ⟨ch, c, q, a⟩ := x; ⟨ch, c, q, fun b m => a b (s b m)⟩
/-- one more ahead -/
theorem Chain.cons {h : Heap} {ch : List Addr} {e : Addr} (c : Chain h ch) (ne : e ∉ ch) (x : ∃ o vs, h.get? e = some o ∧ o.data = .fields vs ∧ vs[2]? = some ((headV ch).getD .none)) : Chain h (e :: ch) := by
  refine ⟨List.nodup_cons.mpr ⟨ne, c.nd⟩, fun i y z => ?_⟩
  cases i with
  | zero =>
    simp at z; subst z
    have : nxt (e :: ch) 0 = (headV ch).getD .none := by cases ch <;> rfl
    rw [this]; exact x
  | succ i =>
    have : nxt (e :: ch) (i + 1) = nxt ch i := by unfold nxt; rw [List.getElem?_cons_succ]
    rw [this]; exact c.lk i y (by simpa using z)

theorem entry_unchain : entryFor table "proto.unchain" = some Builtin.«proto.unchain» := entryFor_of_tree (by kernel_rfl)
section
variable {prog : Program} {w : World} {A : Around} {R : Result → Shared → Prop} {s : Shared} {E : Value → Shared → Prop}
theorem unchain_ok {ch : List Addr} (c : Chain s.heap ch) {e : Addr} (ne : e ∉ ch) : ∀ (n i j : Nat) (x y : Addr) (t : Bool), ch.length - i ≤ n → ch[i]? = some x → ch[j]? = some y → j ≤ i → R (.ok (.ret .none)) s →
    codeAny (model prog w) A (.builtin "proto.unchain" ⟨[.ref e, .ref x, .ref y, .bool t], []⟩) R s := by
  intro n
  induction n with
  | zero =>
    intro i j x y t hn hi hj hij hR
    have := (List.getElem?_eq_some_iff.mp hi).1
    omega
  | succ n ih =>
    intro i j x y t hn hi hj hij hR
    obtain ⟨o, vs, ho, hd, h2⟩ := c.lk i x hi
    refine codeAny_builtin entry_unchain ?_
    unfold Builtin.«proto.unchain»
    dsimp only
    refine wpAny_bind (wpAny_field ho hd h2 ?_)
    unfold nxt
    cases hz : ch[i + 1]? with
    | none =>
      simp only [beq_self_eq_true, if_true]
      exact wpAny_pure hR
    | some z =>
      have zne : z ≠ e := fun q => ne (q ▸ List.mem_of_getElem? hz)
      have zny : z ≠ y := fun q => by
        have l1 := (List.getElem?_eq_some_iff.mp hz)
        have l2 := (List.getElem?_eq_some_iff.mp hj)
        obtain ⟨l1, q1⟩ := l1
        obtain ⟨l2, q2⟩ := l2
        have := (List.getElem_inj c.nd).mp ((q1.trans q).trans q2.symm)
        omega
      have b1 : (Value.ref z == Value.none) = false := rfl
      have b2 : (Value.ref z == Value.ref e) = false := by simpa using zne
      have b3 : (Value.ref z == Value.ref y) = false := by simpa using zny
      simp only [b1, b2, b3, Bool.false_eq_true, if_false]
      obtain ⟨oy, ws, gy, dy, y2⟩ := c.lk j y hj
      have lz := (List.getElem?_eq_some_iff.mp hz).1
      cases t with
      | false =>
        simp only [Bool.false_eq_true, if_false]
        refine wpAny_bind (wpAny_pure (wpAny_pure ⟨Code.quiet_builtin _ (by decide +kernel), ?_⟩))
        exact ih (i + 1) j z y true (by omega) hz hj (by omega) hR
      | true =>
        simp only [if_true]
        refine wpAny_bind (wpAny_field gy dy y2 (wpAny_pure ⟨Code.quiet_builtin _ (by decide +kernel), ?_⟩))
        obtain ⟨y', hy'⟩ : ∃ y', ch[j + 1]? = some y' := ⟨ch[j + 1]'(by omega), List.getElem?_eq_getElem (by omega)⟩
        unfold nxt
        rw [hy']
        exact ih (i + 1) (j + 1) z y' false (by omega) hz hy' (by omega) hR
/-- an exception is thrown anew: its context is what is being handled -/
theorem raise_c {α : Type} {e : Addr} {o : Obj} {vs : Array Value} {ch : List Addr} {Q : α → Shared → Prop} (c : Chain s.heap ch) (eh : A.handled = headV ch) (ne : e ∉ ch) (ge : s.heap.get? e = some o) (gd : o.data = .fields vs) (l2 : 2 < vs.size) (g2 : vs[2]? = some .none)
    (h : ∀ h' vs', Heap.SameBut e s.heap h' → h'.get? e = some { o with data := .fields vs' } → vs'[0]? = vs[0]? → vs'[1]? = vs[1]? → vs'[2]? = some ((headV ch).getD .none) → E (.ref e) { s with heap := h' }) :
    wpAny (model prog w) A (raiseNew (.ref e) : Sem α) Q E s := by
  unfold raiseNew
  refine wpAny_bind (wpAny_handled ?_)
  rw [eh]
  cases ch with
  | nil =>
    have k := h s.heap vs (.refl ..) (by rw [ge]; obtain ⟨_, _, _, _⟩ := o; cases gd; rfl) rfl rfl g2
    first | exact wpAny_throw k | exact wpAny_bind (wpAny_pure (wpAny_throw k))
  | cons x r =>
    simp only [headV]
    have xne : x ≠ e := fun q => ne (q ▸ List.mem_cons_self)
    rw [if_pos (show (Value.ref x != Value.ref e) = true from by simpa using xne)]
    refine wpAny_bind (wpAny_holding (wpAny_runValue (unchain_ok c ne _ 0 0 x x false (Nat.le_refl _) rfl rfl (Nat.le_refl _) ?_)))
    refine wpAny_bind (wpAny_setField (x := .ref x) ge gd l2 (wpAny_throw ?_))
    have dd := Obj.data_mapFields gd (·.setIfInBounds 2 (Value.ref x))
    refine h _ (vs.setIfInBounds 2 (.ref x)) (.update ..) ?_ ?_ ?_ ?_
    · rw [Heap.get?_update_self _ ge (Obj.isFreed_of_fields dd)]
      obtain ⟨_, _, _, _⟩ := o; cases gd; rfl
    · rw [Array.getElem?_setIfInBounds_ne (by decide)]
    · rw [Array.getElem?_setIfInBounds_ne (by decide)]
    · simp [l2, headV]
theorem raise_q {α : Type} {e : Addr} {o : Obj} {vs : Array Value} {Q : α → Shared → Prop} (hq : HQ [e] A s.heap) (ge : s.heap.get? e = some o) (gd : o.data = .fields vs) (l2 : 2 < vs.size) (g2 : vs[2]? = some .none)
    (h : ∀ h' vs', Heap.SameBut e s.heap h' → h'.get? e = some { o with data := .fields vs' } → E (.ref e) { s with heap := h' }) :
    wpAny (model prog w) A (raiseNew (.ref e) : Sem α) Q E s :=
  let ⟨_, c, eh, av⟩ := hq; raise_c c eh (av e (by simp)) ge gd l2 g2 fun h' vs' sb ge' _ _ _ => h h' vs' sb ge'
end
end L2

set_option Elab.async false
set_option linter.all false
set_option maxRecDepth 100000
namespace L2
open PySem PySem.Spec PyProof.Rows

/-! ### walks that end while something is being handled -/
section
variable {prog : Program} {w : World} {A : Around} {E : Value → Shared → Prop} {s : Shared}
/-- StopIteration, thrown -/
theorem stop_q {α : Type} {Q : α → Shared → Prop} {it : Addr} (hq : HQ [it] A s.heap)
    (h : ∀ h' e oe, (∀ b o, s.heap.get? b = some o → h'.get? b = some o) → h'.get? e = some oe → oe.cls = .type "StopIteration" → E (.ref e) { s with heap := h' }) :
    wpAny (model prog w) A (newExc (.type "StopIteration") [] >>= fun e => (raiseNew e : Sem α)) Q E s := by
  refine wpAny_bind ?_; simp only [newExc, newTuple]
  refine wpAny_bind (wpAny_newObj_type ?_ (by show (0 : Nat) ≤ sizeLine; exact Nat.zero_le _))
  refine wpAny_bind (m := firstArgMember _ _) (wpAny_of_eq (a := Value.none) (by first | (simp only [firstArgMember]; rfl) | rfl) (wpAny_newObj_type ?_ (by size_fits)))
  generalize hN : ({ cls := .type "tuple", dict := none, data := .seq #[] } : Obj) = N
  have keep : ∀ (N' : Obj) b o, s.heap.get? b = some o → ((s.heap.push N).push N').get? b = some o := fun N' b o z => Heap.get?_push_of_some _ (Heap.get?_push_of_some _ z)
  have new : (s.heap.push N).get? (s.heap.push N).objs.size = none := Heap.get?_none_of_le (Nat.le_refl _)
  have q1 : HQ [it] A (s.heap.push N) := hq.kept fun b o z => Heap.get?_push_of_some _ z
  have q2 := ((q1.new new).mono (av' := [(s.heap.push N).objs.size]) (fun b m => by simp at m; simp [m]))
  refine raise_q (s := { s with heap := _ }) (q2.kept fun b o z => Heap.get?_push_of_some _ z) (Heap.get?_push_size _ rfl) rfl (by simp; omega) (by first | rfl | simp) fun h' vs' sb ge => ?_
  exact h h' _ _ (fun b o z => (sb.2 b (fun q => by have l := Heap.lt_size z; rw [q, Heap.size_push] at l; exact absurd l (Nat.not_lt.mpr (Nat.le_succ _)))).trans (keep _ b o z)) ge rfl

variable {it l : Addr} {i : Nat} {items : Array Value} {Q : Option Value → Shared → Prop}
/-- a list's walk is over -/
theorem list_end_q (hq : HQ [it] A s.heap) (hit : s.heap.IsListIter it l i) (hl : s.heap.IsList l items) (hx : items[i]? = none) (q : ∀ h', Heap.ExtBut it s.heap h' → Q none { s with heap := h' }) :
    wpAny (model prog w) A (pyNext (.ref it)) Q E s := by
  obtain ⟨o, go, gc, gd⟩ := id hit
  obtain ⟨ol, gl, _, nl, dl⟩ := hl
  unfold pyNext
  refine wpAny_bind (wpAny_attempt (wpAny_callSpecial?_slot (name := Str.ofString "__next__") hit.typeIs slot_listiter_next (wpAny_call_entry slot_listiter_next hit.typeIs entry_listiter_next ?_ (args_listiter_next _))))
  show wpAny _ _ (field (.ref it) 0 >>= _) _ _ s; refine wpAny_bind (wpAny_field go gd (x := .ref l) rfl ?_)
  show wpAny _ _ (if (Value.ref l == Value.none) = true then _ else _) _ _ s; rw [if_neg (show ¬ ((Value.ref l == Value.none) = true) from Bool.false_ne_true)]
  show wpAny _ _ (field (.ref it) 1 >>= _) _ _ s; refine wpAny_bind (wpAny_field go gd (x := .int i 0) rfl ?_)
  show wpAny _ _ (seqItems? (.ref l) >>= _) _ _ s; refine wpAny_bind (wpAny_seqItems gl dl ?_); simp only [Int.toNat_natCast, hx]
  refine wpAny_bind (wpAny_rule (wpAny_bind (wpAny_setField go gd (by simp) ?_))); have sb := Heap.SameBut.update s.heap it (Obj.mapFields (·.setIfInBounds 0 Value.none))
  refine stop_q (s := { s with heap := _ }) (A := A.in1) (it := it) (hq.but fun b o nb z => (sb.2 b nb).trans z) fun h' e oe k ge ce => ?_
  refine wpAny_bind (wpAny_isInstance (T := "StopIteration") (b := true) ⟨_, ge, ce⟩ isSubtype_stop (wpAny_pure (q _ fun b o nb z => k b o ((sb.2 b nb).trans z))))
theorem tupit_end_q (hq : HQ [it] A s.heap) (hit : IsTupIter s.heap it l i) (hl : IsTup s.heap l items) (hx : items[i]? = none) (q : ∀ h', Heap.ExtBut it s.heap h' → Q none { s with heap := h' }) :
    wpAny (model prog w) A (pyNext (.ref it)) Q E s := by
  obtain ⟨o, go, gc, gd⟩ := id hit
  obtain ⟨ol, gl, _, nl, dl⟩ := hl
  unfold pyNext
  refine wpAny_bind (wpAny_attempt (wpAny_callSpecial?_slot (name := Str.ofString "__next__") hit.typeIs slot_tupleiter_next (wpAny_call_entry slot_tupleiter_next hit.typeIs entry_tupleiter_next ?_ (args_tupleiter_next _))))
  show wpAny _ _ (field (.ref it) 0 >>= _) _ _ s; refine wpAny_bind (wpAny_field go gd (x := .ref l) rfl ?_)
  show wpAny _ _ (if (Value.ref l == Value.none) = true then _ else _) _ _ s; rw [if_neg (show ¬ ((Value.ref l == Value.none) = true) from Bool.false_ne_true)]
  show wpAny _ _ (field (.ref it) 1 >>= _) _ _ s; refine wpAny_bind (wpAny_field go gd (x := .int i 0) rfl ?_)
  show wpAny _ _ (seqItems? (.ref l) >>= _) _ _ s; refine wpAny_bind (wpAny_seqItems gl dl ?_); simp only [Int.toNat_natCast, hx]
  refine wpAny_bind (wpAny_rule (wpAny_bind (wpAny_setField go gd (by simp) ?_))); have sb := Heap.SameBut.update s.heap it (Obj.mapFields (·.setIfInBounds 0 Value.none))
  refine stop_q (s := { s with heap := _ }) (A := A.in1) (it := it) (hq.but fun b o nb z => (sb.2 b nb).trans z) fun h' e oe k ge ce => ?_
  refine wpAny_bind (wpAny_isInstance (T := "StopIteration") (b := true) ⟨_, ge, ce⟩ isSubtype_stop (wpAny_pure (q _ fun b o nb z => k b o ((sb.2 b nb).trans z))))
theorem range_end_q {x left step : Int} (hq : HQ [it] A s.heap) (hit : IsRangeIter s.heap it x left step) (hleft : left ≤ 0) (q : ∀ h', Heap.ExtBut it s.heap h' → Q none { s with heap := h' }) :
    wpAny (model prog w) A (pyNext (.ref it)) Q E s := by
  have ty : s.TypeIs (.ref it) "range_iterator" := ⟨_, hit, rfl⟩
  unfold pyNext
  refine wpAny_bind (wpAny_attempt (wpAny_callSpecial?_slot (name := Str.ofString "__next__") ty F.slot_range_iterator_next (wpAny_call_entry F.slot_range_iterator_next ty F.entry_range_iterator_next ?_ (F.args_range_iterator_next_1 _))))
  show wpAny _ _ (field (.ref it) 0 >>= _) _ _ s; refine wpAny_bind (wpAny_field hit rfl (x := rawInt x) rfl ?_)
  show wpAny _ _ (field (.ref it) 1 >>= _) _ _ s; refine wpAny_bind (wpAny_field hit rfl (x := rawInt left) rfl ?_)
  show wpAny _ _ (field (.ref it) 2 >>= _) _ _ s; refine wpAny_bind (wpAny_field hit rfl (x := rawInt step) rfl ?_)
  show wpAny _ _ (if left ≤ 0 then _ else _) _ _ s; rw [if_pos hleft]; refine wpAny_bind (wpAny_rule ?_)
  refine wpAny_bind ?_; refine stop_q (A := A.in1) (it := it) hq fun h' e oe k ge ce => ?_
  refine wpAny_bind (wpAny_isInstance (T := "StopIteration") (b := true) ⟨_, ge, ce⟩ isSubtype_stop (wpAny_pure (q _ fun b o nb z => k b o z)))
/-- a tuple is laid out -/
theorem unpackIt_q {Q : List Value → Shared → Prop} (hq : HQ [] A s.heap) (ht : IsTup s.heap l items) (q : ∀ h', Heap.ExtBut s.heap.objs.size s.heap h' → Q items.toList { s with heap := h' }) :
    wpAny (model prog w) A (unpackItems (.ref l) items.size none) Q E s := by
  have ne : l ≠ s.heap.objs.size := by obtain ⟨o, ho, _⟩ := ht; exact Nat.ne_of_lt (Heap.lt_size ho)
  unfold unpackItems notIterableAtAll
  refine wpAny_bind ?_; refine wpAny_bind (wpAny_specialOf ht.typeIs slot_tuple_iter.lookup (wpAny_pure ?_))
  simp only [Bool.false_eq_true, if_false]; refine wpAny_bind (wpAny_holding (iter_tuple ht ?_))
  refine wpAny_bind (wpAny_holding (draw_tuple ne items.size 0 _ _ ⟨_, Heap.get?_push_size _ rfl, rfl, rfl⟩ (ht.push _) (by omega) fun k ik sk => ?_))
  rw [show List.take items.size (List.drop 0 items.toList) = items.toList from by rw [List.drop_zero]; exact List.take_of_length_le (by simp), if_neg (by simp)]
  have q0 : HQ [s.heap.objs.size] A s.heap := hq.new (Heap.get?_none_of_le (Nat.le_refl _))
  refine wpAny_bind (wpAny_holding (tupit_end_q (s := { s with heap := k }) (q0.but fun b o nb z => (sk.2 b nb).trans (Heap.get?_push_of_some _ z)) ik ((ht.push _).extBut sk.extBut ne) (by simp) fun k2 e2 => ?_))
  simp only [Option.isSome_none, Bool.false_eq_true, if_false]; exact wpAny_pure (q k2 fun b o nb z => e2 b o nb (sk.extBut b o nb (Heap.get?_push_of_some _ z)))
theorem assignTup_q {env : Env} {elts : List Expr} {x1} {pos : Pos} {Q : Unit → Shared → Prop} (hq : HQ [] A s.heap) (ht : IsTup s.heap l items) (hn : (assignEach elts env).length = items.size) (hs : (assignEach elts env).findIdx? (·.1) = none)
    (q : ∀ h', Heap.ExtBut s.heap.objs.size s.heap h' → wpAny (model prog w) A (assignInOrder ((assignEach elts env).map (·.2)) items.toList) Q E { s with heap := h' }) :
    wpAny (model prog w) A (assign (.Tuple elts x1 pos) env (.ref l)) Q E s := by
  rw [assign_Tuple]; refine wpAny_bind (wpAny_standAt ?_)
  unfold unpack; rw [hn, hs]
  exact wpAny_bind (wpAny_holding (unpackIt_q hq ht fun h1 hx => q h1 hx))
end
/-- the chain lies among the pins -/
def HP (A : Around) (pn : List (Addr × Obj)) : Prop := ∃ ch, ch.Nodup ∧ A.handled = headV ch ∧ ∀ i x, ch[i]? = some x → ∃ o vs, (x, o) ∈ pn ∧ o.data = .fields vs ∧ vs[2]? = some (nxt ch i)
theorem HP.hq {A : Around} {pn : List (Addr × Obj)} {av : List Addr} {h : Heap} (x : HP A pn) (k : ∀ p ∈ pn, h.get? p.1 = some p.2) (ne : ∀ p ∈ pn, p.1 ∉ av) : HQ av A h := by
  obtain ⟨ch, nd, e, l⟩ := x
  refine ⟨ch, ⟨nd, fun i y z => ?_⟩, e, fun b m z => ?_⟩
  · obtain ⟨o, vs, a, b, c⟩ := l i y z
    exact ⟨o, vs, k _ a, b, c⟩
  · obtain ⟨i, hi, q⟩ := List.mem_iff_getElem.mp z
    obtain ⟨o, vs, a, _⟩ := l i b (by rw [List.getElem?_eq_getElem hi, q])
    exact ne _ a m
theorem HP.none {A : Around} {pn : List (Addr × Obj)} (e : A.handled = Option.none) : HP A pn := ⟨[], List.nodup_nil, e, fun i x z => by simp at z⟩
theorem HP.mono {A : Around} {pn pn' : List (Addr × Obj)} (x : HP A pn) (s : ∀ p ∈ pn, p ∈ pn') : HP A pn' := let ⟨ch, nd, e, l⟩ := x; ⟨ch, nd, e, fun i y z => let ⟨o, vs, a, b⟩ := l i y z; ⟨o, vs, s _ a, b⟩⟩
end L2

namespace L2
open PySem PySem.Spec PyProof.Rows
/-- a list's walk, for all(..) and any(..) -/
theorem walk_listQ {prog : Program} {w : World} {A : Around} {ch : List Addr} (hh : A.handled = headV ch) (it ax : Addr) (hne : ax ≠ it) (hit : it ∉ ch) (items : Array Value) :
    Walks prog w A it (it :: ax :: ch) [it] items.size (fun i v => items[i]? = some v) (fun i h => (h.IsListIter it ax i ∧ h.IsList ax items) ∧ Chain h ch) where
  sub := fun b hb => by simp at hb; simp [hb]
  frame := fun _ _ _ st hk => ⟨⟨st.1.1.at fun o e => hk it (by simp) o e, st.1.2.at fun o e => hk ax (by simp) o e⟩, st.2.keeps fun x m o e => hk x (by simp [m]) o e⟩
  item := fun i s Q E hi st hQ => by
    refine wpAny_pyNext_list_item st.1.1 st.1.2 (x := items[i]) (by simp [hi]) fun k ik sk => ?_
    exact hQ _ k s.toks (by simp [hi]) ⟨⟨ik, st.1.2.extBut sk.extBut hne⟩, st.2.keeps fun x m o e => (sk.2 x fun z => hit (z ▸ m)).trans e⟩ fun b o hb e => sk.extBut b o (fun h => hb (by simp [h])) e
  done := fun s Q E st hQ => list_end_q ⟨ch, st.2, hh, fun b m => by simp at m; subst m; exact hit⟩ st.1.1 st.1.2 (by simp) fun k he => hQ k s.toks fun b o hb e => he b o (fun h => hb (by simp [h])) e
  self := fun _ _ _ _ st hQ => wpAny_pyIter_listiter st.1.1 hQ
end L2

set_option Elab.async false
set_option linter.all false
set_option maxRecDepth 100000
namespace L2
open PySem PySem.Spec PyProof.Rows
section
variable {prog : Program} {w : World} {A : Around} {E : Value → Shared → Prop} {s : Shared}
variable {it l : Addr} {i : Nat} {items : Array Value}
/-- a list's walk is over, for whoever draws by it -/
theorem nextOf_list_end_q {Q : Value → Shared → Prop} (hq : HQ [it] A s.heap) (hit : s.heap.IsListIter it l i) (hl : s.heap.IsList l items) (hx : items[i]? = none)
    (hE : ∀ h' e, Heap.ExtBut it s.heap h' → (∃ o, h'.get? e = some o ∧ o.cls = .type "StopIteration") → E (.ref e) { s with heap := h' }) :
    wpAny (model prog w) A (Builtin.SmallTypes.nextOf (.ref it)) Q E s := by
  obtain ⟨o, ho, hc, hd⟩ := id hit
  obtain ⟨ol, hol, _, nl, hdl⟩ := hl
  unfold Builtin.SmallTypes.nextOf
  refine wpAny_bind (wpAny_callSpecial?_slot (name := Str.ofString "__next__") hit.typeIs slot_listiter_next
    (wpAny_call_entry slot_listiter_next hit.typeIs entry_listiter_next ?_ (args_listiter_next _)))
  show wpAny _ _ (field (.ref it) 0 >>= _) _ _ s
  refine wpAny_bind (wpAny_field ho hd (x := .ref l) rfl ?_)
  show wpAny _ _ (if (Value.ref l == Value.none) = true then _ else _) _ _ s
  rw [if_neg (show ¬ ((Value.ref l == Value.none) = true) from Bool.false_ne_true)]
  show wpAny _ _ (field (.ref it) 1 >>= _) _ _ s
  refine wpAny_bind (wpAny_field ho hd (x := .int i 0) rfl ?_)
  show wpAny _ _ (seqItems? (.ref l) >>= _) _ _ s
  refine wpAny_bind (wpAny_seqItems hol hdl ?_)
  simp only [Int.toNat_natCast, hx]
  refine wpAny_bind (wpAny_rule (wpAny_bind (wpAny_setField ho hd (by simp) ?_)))
  have sb := Heap.SameBut.update s.heap it (Obj.mapFields (·.setIfInBounds 0 Value.none))
  refine stop_q (s := { s with heap := _ }) (A := A.in1) (it := it) (hq.but fun b o nb z => (sb.2 b nb).trans z) fun h' e oe k ge ce => ?_
  exact hE _ _ (fun b o nb z => k b o ((sb.2 b nb).trans z)) ⟨_, ge, ce⟩
theorem enum_end_q {e : Addr} {old : Value} {Q : Option Value → Shared → Prop} (hq : HQ [it] A s.heap)
    (he : IsEnum s.heap e it i old) (hit : s.heap.IsListIter it l i) (hl : s.heap.IsList l items) (hx : items[i]? = none)
    (hQ : ∀ h', Heap.ExtBut it s.heap h' → Q none { s with heap := h' }) : wpAny (model prog w) A (pyNext (.ref e)) Q E s := by
  have hT : s.TypeIs (.ref e) "enumerate" := ⟨_, he, rfl⟩
  unfold pyNext
  refine wpAny_bind (wpAny_attempt (wpAny_callSpecial?_slot (name := Str.ofString "__next__") hT F.slot_enumerate_next
    (wpAny_call_entry F.slot_enumerate_next hT F.entry_enumerate_next ?_ (F.args_enumerate_next_1 _))))
  show wpAny _ _ (field (.ref e) 2 >>= _) _ _ _
  refine wpAny_bind (wpAny_field he rfl (x := .ref it) rfl ?_)
  refine wpAny_bind (nextOf_list_end_q (A := A.in1) hq hit hl hx fun h' x he' hx' => ?_)
  obtain ⟨o, ho, hc⟩ := hx'
  refine wpAny_bind (wpAny_isInstance (T := "StopIteration") (b := true) ⟨o, ho, hc⟩ isSubtype_stop ?_)
  exact wpAny_pure (hQ _ he')
end
end L2

-- CHANGE: your row's module here, as the last of these rows
set_option Elab.async false
set_option linter.all false
set_option maxRecDepth 100000
/-! THE HAND LAYER, for ints, bools, texts, own classes, lists, tuples, dicts, comprehensions, walks over dicts, enumerate, zip, reversed, texts, calls, loops. Paste it whole ahead of your own text; what your proof does not reach may be deleted. -/
namespace L2
open PySem PySem.Spec PyProof.Rows

/-- a key: an int or a str -/
abbrev Key := Sum Int Str
def keyIs : Key → Value → Bool
  | .inl k, v => Value.isInt k v
  | .inr x, v => Value.isStrOf x v
def keyH (w : World) : Key → Int
  | .inl k => hashInt k
  | .inr x => hashStr w x
theorem keyIs_shape : ∀ {k : Key} {v : Value}, keyIs k v = true → (∃ i t, k = Sum.inl i ∧ v = Value.int i t) ∨ (∃ x t, k = Sum.inr x ∧ v = Value.str x t)
  | .inl i, v, h => by
    obtain ⟨t, e⟩ := Value.isInt_shape (k := i) (v := v) h
    exact .inl ⟨i, t, rfl, e⟩
  | .inr x, v, h => by
    obtain ⟨t, e⟩ := Value.isStrOf_shape (x := x) (v := v) h
    exact .inr ⟨x, t, rfl, e⟩
theorem keyIs_int (i : Int) (t : Tok) : keyIs (.inl i) (.int i t) = true := by simp [keyIs, Value.isInt]
theorem key_ll (a b : Int) : decide ((Sum.inl a : Key) = Sum.inl b) = (a == b) := by
  by_cases e : a = b
  · subst e; simp
  · have h : ¬ (Sum.inl a : Key) = Sum.inl b := fun q => e (Sum.inl.inj q)
    rw [decide_eq_false h]
    exact (beq_eq_false_iff_ne.mpr e).symm
theorem key_rr (a b : Str) : decide ((Sum.inr a : Key) = Sum.inr b) = decide (a = b) := by
  by_cases e : a = b
  · subst e; simp
  · have h : ¬ (Sum.inr a : Key) = Sum.inr b := fun q => e (Sum.inr.inj q)
    rw [decide_eq_false h, decide_eq_false e]
theorem key_lr (a : Int) (b : Str) : decide ((Sum.inl a : Key) = Sum.inr b) = false := decide_eq_false (fun q => nomatch q)
theorem key_rl (a : Str) (b : Int) : decide ((Sum.inr a : Key) = Sum.inl b) = false := decide_eq_false (fun q => nomatch q)

def mixKind (prog : Program) (w : World) : PySem.KeyKind prog w Key where
  is := keyIs
  hash := keyH w
  inj := fun v a b ha hb => by
    rcases keyIs_shape ha with ⟨i, t, rfl, rfl⟩ | ⟨x, t, rfl, rfl⟩
    · rcases keyIs_shape hb with ⟨j, u, rfl, e⟩ | ⟨y, u, rfl, e⟩
      · injection e with e1 _; rw [e1]
      · exact nomatch e
    · rcases keyIs_shape hb with ⟨j, u, rfl, e⟩ | ⟨y, u, rfl, e⟩
      · exact nomatch e
      · injection e with e1 _; rw [e1]
  byValue := fun k v h => by
    rcases keyIs_shape h with ⟨i, t, rfl, rfl⟩ | ⟨x, t, rfl, rfl⟩ <;> rfl
  pyHash := fun hv h => by
    rcases keyIs_shape hv with ⟨i, t, rfl, rfl⟩ | ⟨x, t, rfl, rfl⟩
    · exact wpAny_pyHash_int h
    · exact wpAny_pyHash_str h
  eqBool := fun hu hv h => by
    rcases keyIs_shape hu with ⟨i, t, rfl, rfl⟩ | ⟨x, t, rfl, rfl⟩
    · rcases keyIs_shape hv with ⟨j, u, rfl, rfl⟩ | ⟨y, u, rfl, rfl⟩
      · rw [key_ll] at h; exact wpAny_eqBool_int h
      · rw [key_lr] at h; exact SeqAt.EqAt.int_str i t y u _ _ _ _ h
    · rcases keyIs_shape hv with ⟨j, u, rfl, rfl⟩ | ⟨y, u, rfl, rfl⟩
      · rw [key_rl] at h; exact SeqAt.EqAt.str_int x t j u _ _ _ _ h
      · rw [key_rr] at h; exact wpAny_eqBool_str h
  «strs» := fun k x t v h => by
    rcases keyIs_shape h with ⟨i, u, rfl, e⟩ | ⟨y, u, rfl, e⟩
    · exact nomatch e
    · injection e with e1 _
      subst e1
      cases v <;> rfl

end L2

namespace L2
open PySem PySem.Spec PyProof.Rows

/-- a value, without the heap -/
inductive V where
  | non | bl (b : Bool) | int (i : Int) | str (x : Str) | byt (b : Array UInt8) | flt (b : UInt64) | ref (a : Addr) | ty (n : String)
  deriving DecidableEq

def RelV : V → Value → Prop
  | .non, u => u = Value.none
  | .bl b, u => u = Value.bool b
  | .int i, u => ∃ t, u = Value.int i t
  | .str x, u => ∃ t, u = Value.str x t
  | .byt b, u => ∃ t, u = Value.bytes b t
  | .flt b, u => ∃ t, u = Value.float b t
  | .ref a, u => u = Value.ref a
  | .ty n, u => u = Value.type n

abbrev Vals : List V → List Value → Prop := Paired RelV
theorem Vals.length {xs : List V} {us : List Value} (r : Vals xs us) : xs.length = us.length := Paired.length r
theorem Vals.get : ∀ {xs : List V} {us : List Value} {i : Nat} {x : V}, Vals xs us → xs[i]? = some x → ∃ u, us[i]? = some u ∧ RelV x u
  | _, _, _, _, .nil, e => by simp at e
  | _, _, 0, _, .cons r _, e => by simp at e; subst e; exact ⟨_, rfl, r⟩
  | _, _, i + 1, x, .cons _ t, e => by
    obtain ⟨u, h1, h2⟩ := Vals.get (i := i) (x := x) t (by simpa using e)
    exact ⟨u, by simpa using h1, h2⟩
theorem Vals.set {x : V} {u : Value} (r : RelV x u) : ∀ {xs : List V} {us : List Value} (i : Nat), Vals xs us → Vals (xs.set i x) (us.set i u)
  | _, _, _, .nil => .nil
  | _, _, 0, .cons _ t => .cons r t
  | _, _, i + 1, .cons q t => .cons q (Vals.set r i t)
theorem Vals.append : ∀ {xs ys : List V} {us ws : List Value}, Vals xs us → Vals ys ws → Vals (xs ++ ys) (us ++ ws)
  | _, _, _, _, .nil, s => s
  | _, _, _, _, .cons r t, s => .cons r (Vals.append t s)
theorem Vals.take : ∀ {xs : List V} {us : List Value} (n : Nat), Vals xs us → Vals (xs.take n) (us.take n)
  | _, _, 0, _ => .nil
  | _, _, _ + 1, .nil => .nil
  | _, _, n + 1, .cons r t => .cons r (Vals.take n t)
theorem Vals.drop : ∀ {xs : List V} {us : List Value} (n : Nat), Vals xs us → Vals (xs.drop n) (us.drop n)
  | _, _, 0, r => r
  | _, _, _ + 1, .nil => .nil
  | _, _, n + 1, .cons _ t => Vals.drop n t
def RelO : Option V → Option Value → Prop
  | some v, some u => RelV v u
  | none, none => True
  | _, _ => False
def KV {κ : Type} : List (κ × V) → List (κ × Value) → Prop := Paired fun (p : κ × V) (q : κ × Value) => p.1 = q.1 ∧ RelV p.2 q.2

/-- a key of a dict (00_mix): an int or a text -/
def kV : Key → V
  | .inl i => .int i
  | .inr x => .str x

/-- what stands at a tracked address -/
inductive HO where
  /-- a list -/
  | lst (xs : List V)
  /-- a tuple (never changes) -/
  | tup (xs : List V)
  /-- a dict whose keys are ints and texts; one whose keys are tuples of ints and texts (the empty one is both) -/
  | dK (kvs : List (Key × V)) | dT (kvs : List (List Key × V))
  /-- a set of ints: its members, its size -/
  | set (S : Int → Bool) (n : Nat)
  /-- an instance of the class at C, its dict at dx, its attributes -/
  | ins (C dx : Addr) (fs : List (Str × V))
  /-- the dict of the instance at x -/
  | own (x : Addr)
  /-- the dict of an exception -/
  | xd (fs : List (Str × V))
  /-- a bound method, f of x -/
  | met (f x : Addr)
  /-- a range object lo, lo + 1, .. below hi -/
  | rng (lo hi : Int)
  /-- a thing that is known to the object (the script; a dict while a loop walks it): read, never written while it is so -/
  | frz (o : Obj) (u : HO)
  /-- a code object's table -/
  | tbl (ps : Array Value)
  /-- any other thing, by what is true of its one object (a def of one's own: SetO a S n := HO.ext fun h => ..) -/
  | ext (φ : Heap → Prop)

abbrev Hp := Addr → Option HO
def upd (H : Hp) (a : Addr) (o : HO) : Hp := fun b => if b = a then some o else H b
theorem upd_same {H : Hp} {a : Addr} {o : HO} : upd H a o a = some o := by unfold upd; rw [if_pos rfl]
theorem upd_ne {H : Hp} {a b : Addr} {o : HO} (h : b ≠ a) : upd H a o b = H b := by unfold upd; rw [if_neg h]
theorem upd_upd {H : Hp} {a : Addr} {o u : HO} : upd (upd H a o) a u = upd H a u := by
  funext b; unfold upd; split <;> rfl
/-- two objects of different content stand apart -/
theorem ne_of {H : Hp} {a b : Addr} {o u : HO} (h : H a = some o) (h' : H b = some u) (d : o ≠ u) : a ≠ b := by
  intro e; subst e; rw [h] at h'; exact d (Option.some.inj h')
theorem ne_of_none {H : Hp} {a b : Addr} {o : HO} (h : H a = some o) (h' : H b = none) : a ≠ b := by
  intro e; subst e; rw [h] at h'; cases h'

section
variable (P : Program) (w : World)
def ObjOk (H : Hp) (h : Heap) (a : Addr) : HO → Prop
  | .lst xs => xs.length ≤ sizeLine ∧ ∃ (its : List Value) (n : Nat), Vals xs its ∧ h.get? a = some { cls := .type "list", data := .seq its.toArray n }
  | .tup xs => xs.length ≤ sizeLine ∧ ∃ its : List Value, Vals xs its ∧ IsTup h a its.toArray
  | .dK kvs => kvs.length ≤ sizeLine ∧ (a == sysModules) = false ∧ ∃ vs, KV kvs vs ∧ h.DictOf (mixKind P w) a vs
  | .dT kvs => kvs.length ≤ sizeLine ∧ (a == sysModules) = false ∧ ∃ xs : List (List Key × Addr × Value),
      Paired (fun (p : List Key × V) (q : List Key × Addr × Value) => p.1 = q.1 ∧ H q.2.1 = some (.tup (p.1.map kV)) ∧ RelV p.2 q.2.2) kvs xs ∧
      ∃ o es ep, h.get? a = some o ∧ o.ExactDict ∧ o.data = .dict es ep ∧ es.toList = xs.map (entryOfKey (tupleKind (mixKind P w))) ∧ (xs.map (·.1)).Nodup
  | .set S n => h.SetOf (intKind P w) a S n
  | .ins C dx fs => H dx = some (.own a) ∧ fs.length ≤ 1000 ∧ dx ≠ a ∧ h.get? a = some (PySem.W.instObj C dx) ∧
      ∃ mA, h.Ns1 dx mA ∧ (∀ f, RelO (fs.lookup f) (mA f)) ∧ PySem.Within mA (fs.map (·.1))
  | .own _ => ∃ o, h.get? a = some o
  | .xd fs => ∃ mA, h.Ns1 a mA ∧ ∀ f, RelO (fs.lookup f) (mA f)
  | .rng lo hi => ∃ t u v, h.get? a = some { cls := .type "range", data := .fields #[.int lo t, .int hi u, .int 1 v] }
  | .frz o u => h.get? a = some o ∧ ObjOk H h a u
  | .tbl ps => h.get? a = some { cls := .none, data := .fields ps }
  | .met f x => h.get? a = some (PySem.W.methodObj (.ref f) (.ref x))
  | .ext φ => φ h ∧ (∃ o, h.get? a = some o) ∧ ∀ h1 h2 : Heap, φ h1 → (∀ o, h1.get? a = some o → h2.get? a = some o) → φ h2
/-- the abstract heap is held -/
def HOk (H : Hp) (h : Heap) : Prop := ∀ a o, H a = some o → ObjOk P w H h a o
end

section
variable {P : Program} {w : World} {H H' : Hp} {h h' : Heap} {a : Addr} {o : HO}
theorem ObjOk.lt (x : ObjOk P w H h a o) : a < h.objs.size := by
  cases o with
  | lst xs => obtain ⟨_, _, _, _, e⟩ := x; exact Heap.lt_size e
  | tup xs => obtain ⟨_, _, _, p⟩ := x; exact p.lt
  | dK kvs => obtain ⟨_, _, _, _, o, _, _, e, _⟩ := x; exact Heap.lt_size e
  | dT kvs => obtain ⟨_, _, _, _, o, _, _, e, _⟩ := x; exact Heap.lt_size e
  | set S n => obtain ⟨o, _, _, _, e, _⟩ := x; exact Heap.lt_size e
  | ins C dx fs => obtain ⟨_, _, _, e, _⟩ := x; exact Heap.lt_size e
  | own y => obtain ⟨_, e⟩ := x; exact Heap.lt_size e
  | xd fs => obtain ⟨_, ⟨_, _, _, e, _⟩, _⟩ := x; exact Heap.lt_size e
  | rng lo hi => obtain ⟨_, _, _, e⟩ := x; exact Heap.lt_size e
  | frz ob u => obtain ⟨e, _⟩ := x; exact Heap.lt_size e
  | tbl ps => exact Heap.lt_size (show h.get? a = some _ from x)
  | met f y => exact Heap.lt_size (show h.get? a = some _ from x)
  | ext φ => obtain ⟨_, ⟨_, e⟩, _⟩ := x; exact Heap.lt_size e
theorem Paired.mapP {α β : Type} {F G : α → β → Prop} : ∀ {l₁ : List α} {l₂ : List β}, Paired F l₁ l₂ → (∀ a b, F a b → G a b) → Paired G l₁ l₂
  | _, _, .nil, _ => .nil
  | _, _, .cons r t, f => .cons (f _ _ r) (Paired.mapP t f)
/-- what an object's description leans on: its own object, its own dict, the tuples -/
theorem ObjOk.stay (x : ObjOk P w H h a o) (k : ∀ b u, (b = a ∨ H b = some (.own a)) → h.get? b = some u → h'.get? b = some u)
    (ho : ∀ b, H b = some (.own a) → H' b = some (.own a)) (ht : ∀ b xs, H b = some (.tup xs) → H' b = some (.tup xs)) : ObjOk P w H' h' a o := by
  induction o with
  | lst xs => obtain ⟨z, its, n, r, e⟩ := x; exact ⟨z, its, n, r, k _ _ (.inl rfl) e⟩
  | tup xs => obtain ⟨z, its, r, ob, e, c⟩ := x; exact ⟨z, its, r, ob, k _ _ (.inl rfl) e, c⟩
  | dK kvs => obtain ⟨z, y, vs, r, ob, es, ep, e, c⟩ := x; exact ⟨z, y, vs, r, ob, es, ep, k _ _ (.inl rfl) e, c⟩
  | dT kvs =>
    obtain ⟨z, y, xs, r, ob, es, ep, e, c⟩ := x
    exact ⟨z, y, xs, Paired.mapP r fun p q z => ⟨z.1, ht _ _ z.2.1, z.2.2⟩, ob, es, ep, k _ _ (.inl rfl) e, c⟩
  | set S n => obtain ⟨ob, es, ep, t, e, c⟩ := x; exact ⟨ob, es, ep, t, k _ _ (.inl rfl) e, c⟩
  | ins C dx fs =>
    obtain ⟨d, z, ne, e, mA, ⟨od, es, ep, e2, c⟩, r⟩ := x
    exact ⟨ho _ d, z, ne, k _ _ (.inl rfl) e, mA, ⟨od, es, ep, k _ _ (.inr d) e2, c⟩, r⟩
  | own y => obtain ⟨ob, e⟩ := x; exact ⟨ob, k _ _ (.inl rfl) e⟩
  | xd fs => obtain ⟨mA, ⟨od, es, ep, e, c⟩, r⟩ := x; exact ⟨mA, ⟨od, es, ep, k _ _ (.inl rfl) e, c⟩, r⟩
  | rng lo hi => obtain ⟨t, u, v, e⟩ := x; exact ⟨t, u, v, k _ _ (.inl rfl) e⟩
  | frz ob u ih => obtain ⟨e, q⟩ := x; exact ⟨k _ _ (.inl rfl) e, ih q⟩
  | tbl ps =>
    have e : h.get? a = some { cls := .none, data := .fields ps } := x
    show h'.get? a = some { cls := .none, data := .fields ps }
    exact k a _ (.inl rfl) e
  | met f y =>
    have e : h.get? a = some (PySem.W.methodObj (.ref f) (.ref y)) := x
    show h'.get? a = some (PySem.W.methodObj (.ref f) (.ref y))
    exact k a _ (.inl rfl) e
  | ext φ => obtain ⟨p, ⟨o, e⟩, st⟩ := x; exact ⟨st _ _ p fun o q => k _ _ (.inl rfl) q, ⟨o, k _ _ (.inl rfl) e⟩, st⟩
theorem HOk.lt (x : HOk P w H h) (e : H a = some o) : a < h.objs.size := (x a o e).lt
theorem HOk.fresh (x : HOk P w H h) (e : h.objs.size ≤ a) : H a = none := by
  cases q : H a with
  | none => rfl
  | some u => exact absurd (Nat.lt_of_lt_of_le (x.lt q) e) (Nat.lt_irrefl _)
/-- every object of the heap is kept -/
theorem HOk.kept (x : HOk P w H h) (k : ∀ b u, h.get? b = some u → h'.get? b = some u) : HOk P w H h' := fun a o e =>
  (x a o e).stay (fun b u _ q => k b u q) (fun _ q => q) fun _ _ q => q
/-- a new object is laid and tracked -/
theorem HOk.laid (x : HOk P w H h) (k : ∀ b u, h.get? b = some u → h'.get? b = some u) (hp : h.objs.size ≤ a) (new : ObjOk P w (upd H a o) h' a o) : HOk P w (upd H a o) h' := fun b u e => by
  have hn := x.fresh hp
  by_cases hb : b = a
  · subst hb; rw [upd_same] at e; cases e; exact new
  · rw [upd_ne hb] at e
    exact (x b u e).stay (fun c v _ q => k c v q) (fun c q => by rw [upd_ne (ne_of_none q hn)]; exact q) fun c xs q => by rw [upd_ne (ne_of_none q hn)]; exact q
end

/-- what may be read as u: it is u, or a known u -/
def Rd (H : Hp) (a : Addr) (u : HO) : Prop := H a = some u ∨ ∃ o, H a = some (.frz o u)
theorem Rd.of {H : Hp} {a : Addr} {u : HO} (h : H a = some u) : Rd H a u := .inl h
theorem Rd.ok {P : Program} {w : World} {H : Hp} {h : Heap} {a : Addr} {u : HO} (r : Rd H a u) (x : HOk P w H h) : ObjOk P w H h a u := by
  rcases r with r | ⟨o, r⟩
  · exact x a u r
  · obtain ⟨_, q⟩ := x a _ r
    exact q
/-- what may be written -/
def Mut : Option HO → Prop
  | some (.lst _) => True
  | some (.dK _) => True
  | some (.dT _) => True
  | some (.set _ _) => True
  | some (.ins _ _ _) => True
  | some (.ext _) => True
  | _ => False
section
variable {P : Program} {w : World} {H : Hp} {h h' : Heap} {x e : Addr} {o' : HO}
/-- the object at e is changed: x itself, or the dict of the instance x -/
theorem HOk.write (ok : HOk P w H h) (mu : Mut (H x)) (he : e = x ∨ H e = some (.own x)) (k : ∀ b u, b ≠ e → h.get? b = some u → h'.get? b = some u) (heo : ∃ u, h'.get? e = some u)
    (new : ObjOk P w (upd H x o') h' x o') : HOk P w (upd H x o') h' := fun b u q => by
  have nown : ∀ c y, H c = some (.own y) → c ≠ x := fun c y r z => by subst z; rw [r] at mu; exact mu
  have ntup : ∀ c xs, H c = some (.tup xs) → c ≠ x := fun c xs r z => by subst z; rw [r] at mu; exact mu
  by_cases hb : b = x
  · subst hb; rw [upd_same] at q; cases q; exact new
  · rw [upd_ne hb] at q
    by_cases hbe : b = e
    · have q' : H b = some (.own x) := by
        rcases he with z | z
        · exact absurd (hbe.trans z) hb
        · rw [hbe]; exact z
      rw [q] at q'; cases q'
      obtain ⟨v, hv⟩ := heo
      exact ⟨v, by rw [hbe]; exact hv⟩
    · refine (ok b u q).stay (fun c v hc r => k c v ?_ r) (fun c r => by rw [upd_ne (nown c b r)]; exact r) fun c xs r => by rw [upd_ne (ntup c xs r)]; exact r
      rcases hc with rfl | hc
      · exact hbe
      · rintro rfl
        rcases he with z | z
        · exact nown c b hc z
        · rw [hc] at z; cases z; exact hb rfl
end

/-! ### kept unless tracked; of the frames at fs (the callers') the slots may change (an exception that passes writes there); of the records at ex (iterators) nothing is said -/
structure Un (fs ex : List Addr) (H H' : Hp) (h h' : Heap) : Prop where
  keep : ∀ b o, h.get? b = some o → H b = none → b ∉ fs → b ∉ ex → h'.get? b = some o
  slot : ∀ b o, h.get? b = some o → H b = none → b ∈ fs → b ∉ ex → ∃ sl, h'.get? b = some { o with slots := sl }
  free : ∀ b o, h.get? b = some o → H b = none → b ∉ ex → H' b = none
  there : ∀ b o, h.get? b = some o → b ∉ ex → ∃ o', h'.get? b = some o'
  tups : ∀ b xs, H b = some (.tup xs) → H' b = some (.tup xs)
  frzs : ∀ b o u, H b = some (.frz o u) → H' b = some (.frz o u)
  tbls : ∀ b ps, H b = some (.tbl ps) → ∃ more, H' b = some (.tbl (ps ++ more))
section
variable {fs fs' ex ex' : List Addr} {H H1 H2 : Hp} {h h1 h2 h' : Heap} {a x e : Addr} {o : HO}
theorem Un.any (u : Un fs ex H H1 h h1) {b : Addr} {ob : Obj} (q : h.get? b = some ob) (n : H b = none) (hx : b ∉ ex) : ∃ sl, h1.get? b = some { ob with slots := sl } := by
  by_cases hb : b ∈ fs
  · exact u.slot b ob q n hb hx
  · exact ⟨ob.slots, u.keep b ob q n hb hx⟩
theorem Un.trans (a : Un fs ex H H1 h h1) (b : Un fs ex H1 H2 h1 h2) : Un fs ex H H2 h h2 where
  keep := fun c ob q n hc hx => b.keep c ob (a.keep c ob q n hc hx) (a.free c ob q n hx) hc hx
  slot := fun c ob q n hc hx => by
    obtain ⟨sl, e1⟩ := a.slot c ob q n hc hx
    obtain ⟨sl', e2⟩ := b.slot c _ e1 (a.free c ob q n hx) hc hx
    exact ⟨sl', e2⟩
  free := fun c ob q n hx => by
    obtain ⟨o', e1⟩ := a.there c ob q hx
    exact b.free c o' e1 (a.free c ob q n hx) hx
  there := fun c ob q hx => by
    obtain ⟨o', e1⟩ := a.there c ob q hx
    exact b.there c o' e1 hx
  tups := fun c xs q => b.tups c xs (a.tups c xs q)
  frzs := fun c ob xs q => b.frzs c ob xs (a.frzs c ob xs q)
  tbls := fun c ps q => by
    obtain ⟨m1, e1⟩ := a.tbls c ps q
    obtain ⟨m2, e2⟩ := b.tbls c _ e1
    exact ⟨m1 ++ m2, by rw [e2, Array.append_assoc]⟩
theorem Un.kept (k : ∀ b u, h.get? b = some u → h'.get? b = some u) : Un fs ex H H h h' :=
  ⟨fun b ob q _ _ _ => k b ob q, fun b ob q _ _ _ => ⟨ob.slots, k b ob q⟩, fun _ _ _ n _ => n, fun b ob q _ => ⟨ob, k b ob q⟩, fun _ _ q => q, fun _ _ _ q => q, fun _ ps q => ⟨#[], by rw [q]; simp⟩⟩
theorem Un.refl : Un fs ex H H h h := Un.kept fun _ _ q => q
theorem Un.laid (k : ∀ b u, h.get? b = some u → h'.get? b = some u) (hp : h.objs.size ≤ a) (hn : H a = none) : Un fs ex H (upd H a o) h h' where
  keep := fun b u q _ _ _ => k b u q
  slot := fun b u q _ _ _ => ⟨u.slots, k b u q⟩
  free := fun b u q n _ => by rw [upd_ne (Nat.ne_of_lt (Nat.lt_of_lt_of_le (Heap.lt_size q) hp))]; exact n
  there := fun b u q _ => ⟨u, k b u q⟩
  tups := fun b xs q => by rw [upd_ne (ne_of_none q hn)]; exact q
  frzs := fun b u xs q => by rw [upd_ne (ne_of_none q hn)]; exact q
  tbls := fun b ps q => ⟨#[], by rw [upd_ne (ne_of_none q hn), q]; simp⟩
theorem Un.write (mu : Mut (H x)) (he : e = x ∨ H e = some (.own x)) (k : ∀ b u, b ≠ e → h.get? b = some u → h'.get? b = some u) (heo : ∃ u, h'.get? e = some u) : Un fs ex H (upd H x o) h h' := by
  have hx : ∀ b, H b = none → b ≠ x := fun b n z => by subst z; rw [n] at mu; exact mu
  have hb : ∀ b, H b = none → b ≠ e := fun b n z => by
    subst z
    rcases he with r | r
    · exact hx b n r
    · rw [n] at r; cases r
  have hm : ∀ b u, H b = some u → ¬ Mut (some u) → b ≠ x := fun b u q nm z => by subst z; rw [q] at mu; exact nm mu
  refine ⟨fun b u q n _ _ => k b u (hb b n) q, fun b u q n _ _ => ⟨u.slots, k b u (hb b n) q⟩, fun b u q n _ => by rw [upd_ne (hx b n)]; exact n, fun b u q _ => ?_,
    fun b xs q => by rw [upd_ne (hm b _ q fun z => z)]; exact q, fun b u xs q => by rw [upd_ne (hm b _ q fun z => z)]; exact q, fun b ps q => ⟨#[], by rw [upd_ne (hm b _ q fun z => z), q]; simp⟩⟩
  by_cases hbe : b = e
  · subst hbe; exact heo
  · exact ⟨u, k b u hbe q⟩
theorem Un.mono (u : Un fs ex H H1 h h1) (hs : ∀ b ∈ fs, b ∈ fs') (hx : ∀ b ∈ ex, b ∈ ex') : Un fs' ex' H H1 h h1 :=
  ⟨fun b ob q n hb he => u.keep b ob q n (fun z => hb (hs b z)) fun z => he (hx b z), fun _ _ q n _ he => u.any q n fun z => he (hx _ z), fun b ob q n he => u.free b ob q n fun z => he (hx b z), fun b ob q he => u.there b ob q fun z => he (hx b z), u.tups, u.frzs, u.tbls⟩
end

/-! ### the heap without what is tracked -/
def trk (h : Heap) (H : Hp) : List Addr := (List.range h.objs.size).filter fun a => (H a).isSome
def hidT (h : Heap) (H : Hp) : Heap := PySem.W.hideAll h (trk h H)
theorem hidT_size (h : Heap) (H : Hp) : (hidT h H).objs.size = h.objs.size := PySem.W.hideAll_size _ _
theorem hidT_get {h : Heap} {H : Hp} {b : Addr} {o : Obj} (e : h.get? b = some o) (n : H b = none) : (hidT h H).get? b = some o :=
  PySem.W.hideAll_get _ e fun hm => by
    have q : (H b).isSome = true := (List.mem_filter.mp hm).2
    rw [n] at q; simp at q
theorem of_hidT {h : Heap} {H : Hp} {b : Addr} {o : Obj} (e : (hidT h H).get? b = some o) : h.get? b = some o ∧ H b = none := by
  have e' : h.get? b = some o := PySem.W.of_hideAll (trk h H) e
  refine ⟨e', ?_⟩
  cases q : H b with
  | none => rfl
  | some x =>
    have hm : b ∈ trk h H := List.mem_filter.mpr ⟨List.mem_range.mpr (Heap.lt_size e'), by simp [q]⟩
    have z : (hidT h H).get? b = none := PySem.W.hideAll_none (trk h H) hm
    rw [z] at e; cases e

/-! ### OpenK's ledger, filled with every new object but one -/
end L2

namespace L2
open PySem PySem.Spec PyProof.Rows

/-- the module's facts, over the base: the heap at the law's entry without what is tracked there -/
structure Mod (K : PySem.W.Frag) (mg : Str → Option Value) (base : Heap) : Prop where
  kin : K.In base
  glob : base.Ns mainGlobals mg
  blt : ∃ mb, base.Ns builtinsNs mb ∧ ∀ x : Str, x ≠ "__name__" → mb x = bootBuiltins x
  nolimit : base.NoLimit

/-- the context: a def's body (or a comprehension's block) running. base: fixed through the whole law; s₀, H₀: the entry; outer: the frames whose slots others may change (a def's callers); stack: all frames that run;
   ex: iterators that were made ahead of the entry and are walked here (a comprehension's); fn: the names whose cells were made at the entry (a def: all; a comprehension's block: its own); calm: not within an except suite; pn: pins that every state bears; xe: what is wanted of an exception that leaves the code -/
structure Cx where
  prog : Program
  w : World
  K : PySem.W.Frag
  mg : Str → Option Value
  base : Heap
  A : Around
  N : List Str
  s_0 : Shared
  H_0 : Hp
  env : Env
  outer : List Env
  stack : List Env
  ex : List Addr
  fn : Str → Bool
  calm : Bool
  pn : List (Addr × Obj)
  xe : Value → Shared → Prop
/-- the callers' frames -/
def frs (l : List Env) : List Addr := l.filterMap (·.frame)
abbrev Cx.fs (X : Cx) : List Addr := frs X.outer

def Vis (sc : Scope) (x : Str) : Prop := sc.names.lookup x = some .local ∨ sc.names.lookup x = some .cell ∨ sc.names.lookup x = some .free
def Loc (sc : Scope) (x : Str) : Prop := sc.names.lookup x = some .local ∨ sc.names.lookup x = some .cell
def Look (env : Env) (h : Heap) (m : Str → Option Value) (x : Str) (u : Value) : Prop :=
  (env.kindOf x = some .local ∧ m x = some u) ∨ ((env.kindOf x = some .cell ∨ env.kindOf x = some .free) ∧ ∃ c, env.cells.lookup x = some c ∧ h.IsCell c (some u))

structure Cx.Ok (X : Cx) : Prop where
  mod : Mod X.K X.mg X.base
  kind : X.env.scope.kind = .function
  glob : X.env.globals = mainGlobals
  blt : X.env.builtins = builtinsNs
  above : X.s_0.heap.objs.size ≤ X.env.locals
  inj : ∀ x y c, X.env.cells.lookup x = some c → X.env.cells.lookup y = some c → x = y
  has : ∀ x, (X.env.kindOf x = some .cell ∨ X.env.kindOf x = some .free) → ∃ c, X.env.cells.lookup x = some c
  cab : ∀ x c, X.fn x = true → X.env.cells.lookup x = some c → X.s_0.heap.objs.size ≤ c
  hd : X.calm = true → X.A.handled = none
  hq : HP X.A X.pn
  frames : X.A.frames = some X.stack
  stk : X.stack = X.outer ∨ (X.stack = X.env :: X.outer ∧ X.env.frame = some X.env.locals)
  exf : ∀ b ∈ X.ex, b ≠ X.env.locals ∧ ∀ x c, X.env.cells.lookup x = some c → c ≠ b
  bs : ∀ b o, X.base.get? b = some o → X.s_0.heap.get? b = some o ∧ X.H_0 b = none
  bsz : X.base.objs.size ≤ X.s_0.heap.objs.size
  noex : ∀ b o, X.base.get? b = some o → b ∉ X.ex
  exfs : ∀ b ∈ X.ex, b ∉ X.fs
  funs : X.s_0.heap.FunFrames X.base X.outer
  frf : ∀ b ∈ X.fs, X.H_0 b = none

structure Inv (X : Cx) (pins : List (Addr × Obj)) (σ : List (Option V)) (H : Hp) (s : Shared) : Prop where
  ok : X.Ok
  os : s.os = X.s_0.os
  bare : AllBare s.gens
  base : Un X.fs X.ex X.H_0 H X.s_0.heap s.heap
  loc : ∃ m, s.heap.Ns X.env.locals m ∧ ∀ (i : Nat) (x : Str) (v : V), X.N[i]? = some x → σ[i]? = some (some v) → Vis X.env.scope x → ∃ u, RelV v u ∧ Look X.env s.heap m x u
  cell : ∀ x c, X.env.cells.lookup x = some c → ∃ v, s.heap.IsCell c v
  free : H X.env.locals = none
  freeC : ∀ x c, X.env.cells.lookup x = some c → H c = none ∨ (X.fn x = false ∧ ∃ o, H c = some (.frz o (.own c)))
  pin : ∀ p ∈ X.pn ++ pins, s.heap.get? p.1 = some p.2 ∧ H p.1 = none ∧ p.1 ≠ X.env.locals ∧ p.1 ∉ X.fs ∧ ∀ v, p.2.data ≠ .cell v
  hok : HOk X.prog X.w H s.heap
  len : σ.length = X.N.length

section
variable {X : Cx} {pins : List (Addr × Obj)} {σ : List (Option V)} {H H' : Hp} {s : Shared} {h' : Heap}

theorem Cx.Ok.nofr (ok : X.Ok) {b : Addr} {o : Obj} (e : X.base.get? b = some o) : b ∉ X.fs := fun hb => by
  have := (ok.funs.mem hb).1
  rw [e] at this; cases this
theorem Inv.bs (I : Inv X pins σ H s) : ∀ b o, X.base.get? b = some o → s.heap.get? b = some o ∧ H b = none := fun b o e =>
  ⟨I.base.keep b o (I.ok.bs b o e).1 (I.ok.bs b o e).2 (I.ok.nofr e) (I.ok.noex b o e), I.base.free b o (I.ok.bs b o e).1 (I.ok.bs b o e).2 (I.ok.noex b o e)⟩
theorem Inv.bk (I : Inv X pins σ H s) : ∀ b o, X.base.get? b = some o → s.heap.get? b = some o := fun b o e => (I.bs b o e).1
theorem Inv.mod (I : Inv X pins σ H s) : Mod X.K X.mg X.base := I.ok.mod
theorem Inv.kIn (I : Inv X pins σ H s) : X.K.In s.heap := I.ok.mod.kin.keeps I.bk
/-- the frame over the base: for OpenK's rules (K.In X.base is I.mod.kin) -/
theorem Inv.fr (I : Inv X pins σ H s) : ∃ m, Fr X.base X.env.locals s.heap m :=
  let ⟨m, hn, _⟩ := I.loc
  ⟨m, hn, I.bk, Nat.le_trans I.ok.bsz I.ok.above⟩
theorem Inv.lt (I : Inv X pins σ H s) : X.env.locals < s.heap.objs.size := let ⟨_, hn, _⟩ := I.loc; hn.lt
theorem Inv.sz (I : Inv X pins σ H s) : X.s_0.heap.objs.size ≤ s.heap.objs.size := Nat.le_trans I.ok.above (Nat.le_of_lt I.lt)
theorem Inv.nofs (I : Inv X pins σ H s) {a : Addr} (h : s.heap.objs.size ≤ a) : a ∉ X.fs := fun hb => by
  obtain ⟨_, o, ho, _⟩ := I.ok.funs.mem hb
  exact absurd (Nat.lt_of_lt_of_le (Heap.lt_size ho) (Nat.le_trans I.sz h)) (Nat.lt_irrefl _)
theorem Inv.cne (I : Inv X pins σ H s) : ∀ x c, X.env.cells.lookup x = some c → c ≠ X.env.locals := fun x c e z => by
  obtain ⟨v, o, ho, hd⟩ := I.cell x c e
  obtain ⟨m, ⟨o', es, ep, ho', hd', _⟩, _⟩ := I.loc
  rw [z, ho'] at ho; cases ho; rw [hd'] at hd; cases hd
theorem Inv.funs (I : Inv X pins σ H s) : s.heap.FunFrames X.base X.outer := by
  have all : ∀ (l : List Env), (∀ b ∈ frs l, b ∈ X.fs) → X.s_0.heap.FunFrames X.base l → s.heap.FunFrames X.base l := by
    intro l
    induction l with
    | nil => intro _ _; trivial
    | cons env r ih =>
      intro hs hl
      obtain ⟨hk, ⟨L, o, hf, hn, ho, hd⟩, hr⟩ := hl
      have hL : L ∈ X.fs := hs L (by unfold frs; rw [List.filterMap_cons, hf]; exact List.mem_cons_self)
      obtain ⟨sl, e⟩ := I.base.slot L o ho (I.ok.frf L hL) hL fun z => I.ok.exfs L z hL
      exact ⟨hk, ⟨L, _, hf, hn, e, hd⟩, ih (fun b hb => hs b (by unfold frs; rw [List.filterMap_cons, hf]; exact List.mem_cons_of_mem _ hb)) hr⟩
  exact all X.outer (fun _ hb => hb) I.ok.funs

/-- the frames that run, for a call -/
theorem Inv.stack (I : Inv X pins σ H s) : s.heap.FunFrames X.base X.stack := by
  rcases I.ok.stk with e | ⟨e, hf⟩
  · rw [e]; exact I.funs
  · rw [e]
    obtain ⟨m, hn, _⟩ := I.loc
    refine .cons (by rw [I.ok.kind]; decide) hf hn ?_ I.funs
    exact Heap.get?_none_of_le (Nat.le_trans I.ok.bsz I.ok.above)
theorem Inv.stkSub (I : Inv X pins σ H s) : ∀ b ∈ frs X.stack, b ∈ X.env.locals :: X.fs := fun b hb => by
  rcases I.ok.stk with e | ⟨e, hf⟩
  · rw [e] at hb; exact List.mem_cons_of_mem _ hb
  · rw [e] at hb
    unfold frs at hb
    rw [List.filterMap_cons, hf] at hb
    exact hb
theorem Inv.stkFree (I : Inv X pins σ H s) : ∀ b ∈ frs X.stack, H b = none := fun b hb => by
  rcases List.mem_cons.mp (I.stkSub b hb) with e | hb
  · rw [e]; exact I.free
  · obtain ⟨_, o, ho, _⟩ := I.ok.funs.mem hb
    exact I.base.free b o ho (I.ok.frf b hb) fun z => I.ok.exfs b z hb

theorem Inv.hqAt {it : Addr} (I : Inv X pins σ H s) (h : ∀ p ∈ X.pn ++ pins, p.1 ≠ it) : HQ [it] X.A s.heap :=
  I.ok.hq.hq (fun p hp => (I.pin p (List.mem_append_left _ hp)).1) fun p hp z => h p (List.mem_append_left _ hp) (by simpa using z)
theorem Inv.hq0 (I : Inv X pins σ H s) : HQ [] X.A s.heap := I.ok.hq.hq (fun p hp => (I.pin p (List.mem_append_left _ hp)).1) fun p _ z => nomatch z
theorem Inv.hq1 (I : Inv X pins σ H s) : ∃ ch, Chain s.heap ch ∧ X.A.handled = headV ch ∧ ∀ x ∈ ch, H x = none := by
  obtain ⟨ch, nd, e, l⟩ := I.ok.hq
  refine ⟨ch, ⟨nd, fun i y z => ?_⟩, e, fun x m => ?_⟩
  · obtain ⟨o, vs, a, b, c⟩ := l i y z
    exact ⟨o, vs, (I.pin _ (List.mem_append_left _ a)).1, b, c⟩
  · obtain ⟨i, hi, q⟩ := List.mem_iff_getElem.mp m
    obtain ⟨o, vs, a, _⟩ := l i x (by rw [List.getElem?_eq_getElem hi, q])
    exact (I.pin _ (List.mem_append_left _ a)).2.1
/-- THE STEP: the untracked objects but the frame and the records at ch are kept (the callers' frames up to slots), the frame's map is kept, the new abstract heap is held -/
theorem Inv.step {g' : Array GenState} {t' : Nat} {d' : Drawn} {ch : List Addr} (I : Inv X pins σ H s)
    (hch : ∀ b ∈ ch, (b ∈ X.ex ∨ X.s_0.heap.objs.size ≤ b) ∧ b ≠ X.env.locals ∧ (∀ x c, X.env.cells.lookup x = some c → c ≠ b) ∧ ∀ p ∈ X.pn ++ pins, p.1 ≠ b)
    (keep : ∀ b o, b ≠ X.env.locals → b ∉ X.fs → b ∉ ch → s.heap.get? b = some o → H b = none → h'.get? b = some o)
    (slot : ∀ b o, b ≠ X.env.locals → b ∈ X.fs → b ∉ ch → s.heap.get? b = some o → H b = none → ∃ sl, h'.get? b = some { o with slots := sl }) (free : ∀ b o, b ∉ ch → s.heap.get? b = some o → H b = none → H' b = none)
    (there : ∀ b o, b ∉ ch → s.heap.get? b = some o → ∃ o', h'.get? b = some o')
    (tups : ∀ b xs, H b = some (.tup xs) → H' b = some (.tup xs)) (frzs : ∀ b o u, H b = some (.frz o u) → H' b = some (.frz o u)) (tbls : ∀ b ps, H b = some (.tbl ps) → ∃ more, H' b = some (.tbl (ps ++ more)))
    (ns : ∀ m, s.heap.Ns X.env.locals m → h'.Ns X.env.locals m) (hok : HOk X.prog X.w H' h') (hg : AllBare g') :
    Inv X pins σ H' { s with heap := h', gens := g', drawn := d', toks := t' } := by
  have neL : ∀ b o, X.s_0.heap.get? b = some o → b ≠ X.env.locals := fun b o e => Nat.ne_of_lt (Nat.lt_of_lt_of_le (Heap.lt_size e) I.ok.above)
  have neC : ∀ b o, X.s_0.heap.get? b = some o → b ∉ X.ex → b ∉ ch := fun b o e hx hb => by
    rcases (hch b hb).1 with z | z
    · exact hx z
    · exact absurd (Nat.lt_of_lt_of_le (Heap.lt_size e) z) (Nat.lt_irrefl _)
  have cellK : ∀ x c, X.env.cells.lookup x = some c → ∀ v, s.heap.IsCell c v → h'.IsCell c v := fun x c e v ⟨o, ho, hd⟩ => by
    have nch : c ∉ ch := fun z => (hch c z).2.2.1 x c e rfl
    rcases I.freeC x c e with fc | ⟨_, o', fc⟩
    · by_cases hc : c ∈ X.fs
      · obtain ⟨sl, q⟩ := slot c o (I.cne x c e) hc nch ho fc
        exact ⟨_, q, hd⟩
      · exact ⟨o, keep c o (I.cne x c e) hc nch ho fc, hd⟩
    · obtain ⟨e1, _⟩ := I.hok c _ fc
      rw [ho] at e1; cases e1
      obtain ⟨e2, _⟩ := hok c _ (frzs c o _ fc)
      exact ⟨o, e2, hd⟩
  refine ⟨I.ok, I.os, hg, ⟨fun b o e n hb hx => ?_, fun b o e n hb hx => ?_, fun b o e n hx => ?_, fun b o e hx => ?_, fun b xs e => tups b xs (I.base.tups b xs e), fun b o xs e => frzs b o xs (I.base.frzs b o xs e), fun b ps e => ?_⟩, ?_, fun x c e => ?_, ?_, fun x c e => ?_, fun p hp => ?_, hok, I.len⟩
  · exact keep b o (neL b o e) hb (neC b o e hx) (I.base.keep b o e n hb hx) (I.base.free b o e n hx)
  · obtain ⟨sl, e1⟩ := I.base.slot b o e n hb hx
    obtain ⟨sl', e2⟩ := slot b _ (neL b o e) hb (neC b o e hx) e1 (I.base.free b o e n hx)
    exact ⟨sl', e2⟩
  · obtain ⟨o', e1⟩ := I.base.there b o e hx
    exact free b o' (neC b o e hx) e1 (I.base.free b o e n hx)
  · obtain ⟨o', e1⟩ := I.base.there b o e hx
    exact there b o' (neC b o e hx) e1
  · obtain ⟨m1, e1⟩ := I.base.tbls b ps e
    obtain ⟨m2, e2⟩ := tbls b _ e1
    exact ⟨m1 ++ m2, by rw [e2, Array.append_assoc]⟩
  · obtain ⟨m, hn, hl⟩ := I.loc
    refine ⟨m, ns m hn, fun i x v e1 e2 e3 => ?_⟩
    obtain ⟨u, r, l⟩ := hl i x v e1 e2 e3
    refine ⟨u, r, ?_⟩
    rcases l with l | ⟨k, c, e, z⟩
    · exact .inl l
    · exact .inr ⟨k, c, e, cellK x c e _ z⟩
  · obtain ⟨v, z⟩ := I.cell x c e
    exact ⟨v, cellK x c e v z⟩
  · obtain ⟨m, ⟨o, _, _, ho, _⟩, _⟩ := I.loc
    exact free _ o (fun z => (hch _ z).2.1 rfl) ho I.free
  · obtain ⟨v, o, ho, hd⟩ := I.cell x c e
    rcases I.freeC x c e with fc | ⟨fn, o', fc⟩
    · exact .inl (free c o (fun z => (hch c z).2.2.1 x c e rfl) ho fc)
    · exact .inr ⟨fn, o', frzs c _ _ fc⟩
  · obtain ⟨e, n, ne, nf, d⟩ := I.pin p hp
    have nch : p.1 ∉ ch := fun z => (hch p.1 z).2.2.2 p hp rfl
    exact ⟨keep p.1 p.2 ne nf nch e n, free p.1 p.2 nch e n, ne, nf, d⟩
/-- .. where the frame's own object is kept too -/
theorem Inv.un {t' : Nat} (I : Inv X pins σ H s) (u : Un X.fs [] H H' s.heap h') (hok : HOk X.prog X.w H' h') : Inv X pins σ H' { s with heap := h', toks := t' } := by
  obtain ⟨m, ⟨o, es, ep, ho, r⟩, _⟩ := id I.loc
  obtain ⟨sl, hL⟩ := u.any ho I.free (by simp)
  exact I.step (g' := s.gens) (d' := s.drawn) (ch := []) (fun _ z => nomatch z) (fun b o _ hb _ e n => u.keep b o e n hb (by simp)) (fun b o _ hb _ e n => u.slot b o e n hb (by simp)) (fun b o _ e n => u.free b o e n (by simp)) (fun b o _ e => u.there b o e (by simp)) u.tups u.frzs u.tbls (fun m' hm => by
    obtain ⟨o', es', ep', ho', r'⟩ := hm
    rw [ho] at ho'; cases ho'
    exact ⟨_, es', ep', hL, r'⟩) hok I.bare
/-- behind a call (or a comprehension's block): the slots of this frame may have changed too, the records at ch may have turned -/
theorem Inv.call {g' : Array GenState} {t' : Nat} {d' : Drawn} {ch : List Addr} (I : Inv X pins σ H s) (u : Un (frs X.stack) ch H H' s.heap h') (hok : HOk X.prog X.w H' h') (hg : AllBare g')
    (hch : ∀ b ∈ ch, (b ∈ X.ex ∨ X.s_0.heap.objs.size ≤ b) ∧ b ≠ X.env.locals ∧ (∀ x c, X.env.cells.lookup x = some c → c ≠ b) ∧ ∀ p ∈ X.pn ++ pins, p.1 ≠ b) :
    Inv X pins σ H' { s with heap := h', gens := g', drawn := d', toks := t' } := by
  obtain ⟨m, ⟨o, es, ep, ho, r⟩, _⟩ := id I.loc
  obtain ⟨sl, hL⟩ := u.any ho I.free fun z => (hch _ z).2.1 rfl
  exact I.step (ch := ch) hch (fun b o hL hb hc e n => u.keep b o e n (fun z => (List.mem_cons.mp (I.stkSub b z)).elim hL hb) hc) (fun b o _ _ hc e n => u.any e n hc) (fun b o hc e n => u.free b o e n hc) (fun b o hc e => u.there b o e hc) u.tups u.frzs u.tbls (fun m' hm => by
    obtain ⟨o', es', ep', ho', r'⟩ := hm
    rw [ho] at ho'; cases ho'
    exact ⟨_, es', ep', hL, r'⟩) hok hg
/-- an untracked record of ours (an iterator) has turned -/
theorem Inv.turned {t' : Nat} {it : Addr} (I : Inv X pins σ H s) (k : ∀ b o, b ≠ it → s.heap.get? b = some o → h'.get? b = some o) (hn : H it = none) (hL : it ≠ X.env.locals)
    (h1 : it ∈ X.ex ∨ X.s_0.heap.objs.size ≤ it) (h2 : ∀ x c, X.env.cells.lookup x = some c → c ≠ it) (h3 : ∀ p ∈ X.pn ++ pins, p.1 ≠ it) : Inv X pins σ H { s with heap := h', toks := t' } := by
  have nit : ∀ b u, H b = some u → b ≠ it := fun b u e z => by rw [z, hn] at e; cases e
  refine I.step (g' := s.gens) (d' := s.drawn) (ch := [it]) (fun b hb => ?_) (fun b o _ _ hc e _ => k b o (fun z => hc (by simp [z])) e) (fun b o _ _ hc e _ => ⟨o.slots, k b o (fun z => hc (by simp [z])) e⟩) (fun _ _ _ _ n => n)
    (fun b o hc e => ⟨o, k b o (fun z => hc (by simp [z])) e⟩) (fun _ _ e => e) (fun _ _ _ e => e) (fun b ps e => ⟨#[], by rw [e]; simp⟩) (fun m hm => ?_) (fun b u e => ?_) I.bare
  · have e : b = it := by simpa using hb
    subst e
    exact ⟨h1, hL, h2, h3⟩
  · obtain ⟨o, es, ep, ho, r⟩ := hm
    exact ⟨o, es, ep, k _ o (Ne.symm hL) ho, r⟩
  · refine (I.hok b u e).stay (fun c v hc q => k c v ?_ q) (fun _ q => q) fun _ _ q => q
    rcases hc with z | z
    · rw [z]; exact nit b u e
    · exact nit c _ z
theorem Inv.tok (I : Inv X pins σ H s) (t : Nat) : Inv X pins σ H { s with toks := t } := I.un (h' := s.heap) (t' := t) Un.refl I.hok
/-- all objects kept -/
theorem Inv.kept {t' : Nat} (I : Inv X pins σ H s) (k : ∀ b u, s.heap.get? b = some u → h'.get? b = some u) : Inv X pins σ H { s with heap := h', toks := t' } := I.un (Un.kept k) (I.hok.kept k)
/-- a new object laid and tracked -/
theorem Inv.laid {a : Addr} {o : HO} {t' : Nat} (I : Inv X pins σ H s) (k : ∀ b u, s.heap.get? b = some u → h'.get? b = some u) (hp : s.heap.objs.size ≤ a) (new : ObjOk X.prog X.w (upd H a o) h' a o) :
    Inv X pins σ (upd H a o) { s with heap := h', toks := t' } := I.un (Un.laid k hp (I.hok.fresh hp)) (I.hok.laid k hp new)
/-- an object written -/
theorem Inv.write {x e : Addr} {o : HO} {t' : Nat} (I : Inv X pins σ H s) (mu : Mut (H x)) (he : e = x ∨ H e = some (.own x)) (k : ∀ b u, b ≠ e → s.heap.get? b = some u → h'.get? b = some u) (heo : ∃ u, h'.get? e = some u)
    (new : ObjOk X.prog X.w (upd H x o) h' x o) : Inv X pins σ (upd H x o) { s with heap := h', toks := t' } := I.un (Un.write mu he k heo) (I.hok.write mu he k heo new)
/-- forgetting slots, pins -/
theorem Inv.weak {σ' : List (Option V)} (I : Inv X pins σ H s) (hl : σ'.length = σ.length) (w : ∀ (i : Nat) v, σ'[i]? = some (some v) → σ[i]? = some (some v)) : Inv X pins σ' H s :=
  ⟨I.ok, I.os, I.bare, I.base, let ⟨m, hn, hl'⟩ := I.loc; ⟨m, hn, fun i x v e1 e2 e3 => hl' i x v e1 (w i v e2) e3⟩, I.cell, I.free, I.freeC, I.pin, I.hok, hl.trans I.len⟩
theorem Inv.pins_of {pins' : List (Addr × Obj)} (I : Inv X pins σ H s) (h : ∀ p ∈ pins', s.heap.get? p.1 = some p.2 ∧ H p.1 = none ∧ p.1 ≠ X.env.locals ∧ p.1 ∉ X.fs ∧ ∀ v, p.2.data ≠ .cell v) : Inv X pins' σ H s :=
  ⟨I.ok, I.os, I.bare, I.base, I.loc, I.cell, I.free, I.freeC, fun p hp => (List.mem_append.mp hp).elim (fun z => I.pin p (List.mem_append_left _ z)) (h p), I.hok, I.len⟩

theorem nodup_ix {N : List Str} (hN : N.Nodup) {i j : Nat} {x : Str} (a : N[i]? = some x) (b : N[j]? = some x) : i = j := by
  obtain ⟨h1, e1⟩ := List.getElem?_eq_some_iff.mp a
  obtain ⟨h2, e2⟩ := List.getElem?_eq_some_iff.mp b
  exact (List.getElem_inj hN).mp (e1.trans e2.symm)

/-- a name is stored; what changed -/
theorem store_ok2 {M : Model} {A : Around} {E : Value → Shared → Prop} {i : Nat} {x : Str} {v : V} {u : Value} {Q : Unit → Shared → Prop} (I : Inv X pins σ H s) (hN : X.N.Nodup) (hi : X.N[i]? = some x) (hx : Loc X.env.scope x) (r : RelV v u)
    (h : ∀ s', Inv X pins (σ.set i (some v)) H s' → (∃ a, Heap.SameBut a s.heap s'.heap ∧ (a = X.env.locals ∨ X.env.cells.lookup x = some a)) → Q () s') (hf : X.fn x = true ∨ X.env.scope.names.lookup x = some .local := by first | exact .inl rfl | exact .inr rfl | assumption) : wpAny M A (storeName X.env x u) Q E s := by
  obtain ⟨m, hn, hl⟩ := id I.loc
  have hcls : (X.env.scope.kind == .class || (X.env.scope.kind == .module && X.env.locals != X.env.globals)) = false := by rw [I.ok.kind]; rfl
  have hiσ : i < σ.length := by rw [I.len]; exact (List.getElem?_eq_some_iff.mp hi).1
  have cne := I.cne
  have tracked : ∀ {a : Addr} {h' : Heap}, (∃ o, s.heap.get? a = some o ∧ H a = none) → Heap.SameBut a s.heap h' → HOk X.prog X.w H h' := fun {a h'} ha hs b ob e => by
    obtain ⟨_, _, hfree⟩ := ha
    refine (I.hok b ob e).stay (fun c w' hc q => (hs.2 c ?_).trans q) (fun _ q => q) fun _ _ q => q
    rintro rfl
    rcases hc with rfl | hc
    · rw [hfree] at e; cases e
    · rw [hfree] at hc; cases hc
  rcases hx with hk | hk
  · refine wpAny_storeName_local hk hn (fun h' hn' hs => ?_) hcls
    obtain ⟨oL, _, _, hoL, _⟩ := id hn
    refine h _ ⟨I.ok, I.os, I.bare, ⟨fun b o e n hb hx => ?_, fun b o e n hb hx => ?_, I.base.free, fun b o e hx => ?_, I.base.tups, I.base.frzs, I.base.tbls⟩, ⟨_, hn', fun j y v' e1 e2 e3 => ?_⟩, fun y c e => ?_, I.free, I.freeC, fun p hp => ?_, tracked ⟨oL, hoL, I.free⟩ hs, by simpa using I.len⟩ ⟨_, hs, .inl rfl⟩
    · exact (hs.2 b (Nat.ne_of_lt (Nat.lt_of_lt_of_le (Heap.lt_size e) I.ok.above))).trans (I.base.keep b o e n hb hx)
    · obtain ⟨sl, e1⟩ := I.base.slot b o e n hb hx
      exact ⟨sl, (hs.2 b (Nat.ne_of_lt (Nat.lt_of_lt_of_le (Heap.lt_size e) I.ok.above))).trans e1⟩
    · obtain ⟨o', e1⟩ := I.base.there b o e hx
      exact ⟨o', (hs.2 b (Nat.ne_of_lt (Nat.lt_of_lt_of_le (Heap.lt_size e) I.ok.above))).trans e1⟩
    · by_cases hj : j = i
      · subst hj
        rw [hi] at e1; cases e1
        rw [List.getElem?_set_self hiσ] at e2
        cases e2
        exact ⟨u, r, .inl ⟨hk, by simp⟩⟩
      · rw [List.getElem?_set_ne (Ne.symm hj)] at e2
        obtain ⟨u', r', q⟩ := hl j y v' e1 e2 e3
        refine ⟨u', r', ?_⟩
        rcases q with ⟨k, e⟩ | ⟨k, c, e, z⟩
        · refine .inl ⟨k, ?_⟩
          have : y ≠ x := fun e => hj (nodup_ix hN e1 (e ▸ hi))
          simp [this, e]
        · exact .inr ⟨k, c, e, z.sameBut hs (cne y c e)⟩
    · obtain ⟨w', z⟩ := I.cell y c e
      exact ⟨w', z.sameBut hs (cne y c e)⟩
    · obtain ⟨e, n, ne, nf, d⟩ := I.pin p hp
      exact ⟨(hs.2 p.1 ne).trans e, n, ne, nf, d⟩
  · have hfn : X.fn x = true := by
      rcases hf with z | z
      · exact z
      · rw [z] at hk; cases hk
    obtain ⟨c, hc⟩ := I.ok.has x (.inl hk)
    obtain ⟨w', z⟩ := I.cell x c hc
    refine wpAny_storeName_cell I.ok.kind hk hc z (fun h' hc' hs => ?_)
    obtain ⟨oc, hoc, hocd⟩ := id z
    refine h { s with heap := h' } ⟨I.ok, I.os, I.bare, ⟨fun b o e n hb hx => ?_, fun b o e n hb hx => ?_, I.base.free, fun b o e hx => ?_, I.base.tups, I.base.frzs, I.base.tbls⟩, ⟨m, hn.sameBut hs (Ne.symm (cne x c hc)), fun j y v' e1 e2 e3 => ?_⟩, fun y c' e => ?_, I.free, I.freeC, fun p hp => ?_, tracked ⟨oc, hoc, (I.freeC x c hc).resolve_right fun z => by have z := z.1; rw [hfn] at z; cases z⟩ hs, by simpa using I.len⟩ ⟨c, hs, .inr hc⟩
    · exact (hs.2 b (Nat.ne_of_lt (Nat.lt_of_lt_of_le (Heap.lt_size e) (I.ok.cab x c hfn hc)))).trans (I.base.keep b o e n hb hx)
    · obtain ⟨sl, e1⟩ := I.base.slot b o e n hb hx
      exact ⟨sl, (hs.2 b (Nat.ne_of_lt (Nat.lt_of_lt_of_le (Heap.lt_size e) (I.ok.cab x c hfn hc)))).trans e1⟩
    · obtain ⟨o', e1⟩ := I.base.there b o e hx
      exact ⟨o', (hs.2 b (Nat.ne_of_lt (Nat.lt_of_lt_of_le (Heap.lt_size e) (I.ok.cab x c hfn hc)))).trans e1⟩
    · by_cases hj : j = i
      · subst hj
        rw [hi] at e1; cases e1
        rw [List.getElem?_set_self hiσ] at e2
        cases e2
        exact ⟨u, r, .inr ⟨.inl hk, c, hc, hc'⟩⟩
      · rw [List.getElem?_set_ne (Ne.symm hj)] at e2
        obtain ⟨u', r', q⟩ := hl j y v' e1 e2 e3
        refine ⟨u', r', ?_⟩
        rcases q with q | ⟨k, c', e, z'⟩
        · exact .inl q
        · refine .inr ⟨k, c', e, z'.sameBut hs ?_⟩
          rintro rfl
          exact hj (nodup_ix hN e1 (I.ok.inj _ _ _ e hc ▸ hi))
    · by_cases hcc : c' = c
      · subst hcc; exact ⟨_, hc'⟩
      · obtain ⟨w2, z2⟩ := I.cell y c' e
        exact ⟨w2, z2.sameBut hs hcc⟩
    · obtain ⟨e, n, ne, nf, d⟩ := I.pin p hp
      refine ⟨(hs.2 p.1 ?_).trans e, n, ne, nf, d⟩
      intro q
      rw [q, hoc] at e
      have q' : oc = p.2 := Option.some.inj e
      exact d w' (by rw [← q']; exact hocd)
theorem store_ok {M : Model} {A : Around} {E : Value → Shared → Prop} {i : Nat} {x : Str} {v : V} {u : Value} {Q : Unit → Shared → Prop} (I : Inv X pins σ H s) (hN : X.N.Nodup) (hi : X.N[i]? = some x) (hx : Loc X.env.scope x) (r : RelV v u)
    (h : ∀ s', Inv X pins (σ.set i (some v)) H s' → Q () s') (hf : X.fn x = true ∨ X.env.scope.names.lookup x = some .local := by first | exact .inl rfl | exact .inr rfl | assumption) : wpAny M A (storeName X.env x u) Q E s :=
  store_ok2 I hN hi hx r (fun s' I' _ => h s' I') hf
/-- behind a call or a block, the state as it is -/
theorem Inv.call' {s' : Shared} {ch : List Addr} (I : Inv X pins σ H s) (ho : s'.os = s.os) (u : Un (frs X.stack) ch H H' s.heap s'.heap) (hok : HOk X.prog X.w H' s'.heap) (hg : AllBare s'.gens)
    (hch : ∀ b ∈ ch, (b ∈ X.ex ∨ X.s_0.heap.objs.size ≤ b) ∧ b ≠ X.env.locals ∧ (∀ x c, X.env.cells.lookup x = some c → c ≠ b) ∧ ∀ p ∈ X.pn ++ pins, p.1 ≠ b) : Inv X pins σ H' s' := by
  obtain ⟨h', g', d', t', o'⟩ := s'
  have e : o' = s.os := ho
  subst e
  exact I.call (g' := g') (t' := t') (d' := d') u hok hg hch
end

/-! ### the judgements -/
/-- an exception: its class, its own dict's address (where it has one), the abstract heap behind it -/
abbrev XK := Value → Option Addr → Hp → Prop
abbrev St := List (Option V)
abbrev VK := V → Hp → Prop
/-- an expression's reading; a test's; an argument list's -/
abbrev TE := St → Hp → VK → Prop
abbrev TT := St → Hp → (Bool → Hp → Prop) → Prop
abbrev TA := St → Hp → (List V → Hp → Prop) → Prop
/-- what is wanted behind a statement -/
structure Ends where
  nx : St → Hp → Prop
  rt : VK
  bk : St → Hp → Prop := fun _ _ => False
  ct : St → Hp → Prop := fun _ _ => False
abbrev TS := Ends → St → Hp → Prop

def EP (X : Cx) (pins : List (Addr × Obj)) (σ : St) (Q : VK) (u : Value) (s' : Shared) : Prop := ∃ v H', Inv X pins σ H' s' ∧ RelV v u ∧ Q v H'
def TP (X : Cx) (pins : List (Addr × Obj)) (σ : St) (Q : Bool → Hp → Prop) (b : Bool) (s' : Shared) : Prop := ∃ H', Inv X pins σ H' s' ∧ Q b H'
def AP (X : Cx) (pins : List (Addr × Obj)) (σ : St) (Q : List V → Hp → Prop) (us : List Value) (s' : Shared) : Prop := ∃ vs H', Inv X pins σ H' s' ∧ Vals vs us ∧ Q vs H'
def SP (X : Cx) (pins : List (Addr × Obj)) (D : Ends) (f : Flow) (s' : Shared) : Prop :=
  match f with
  | .next => ∃ σ' H', Inv X pins σ' H' s' ∧ D.nx σ' H'
  | .brk => ∃ σ' H', Inv X pins σ' H' s' ∧ D.bk σ' H'
  | .cont => ∃ σ' H', Inv X pins σ' H' s' ∧ D.ct σ' H'
  | .ret u => ∃ v σ' H', Inv X pins σ' H' s' ∧ RelV v u ∧ D.rt v H'

def PE (X : Cx) (e : Expr) (t : TE) : Prop :=
  ∀ (pins : List (Addr × Obj)) (s : Shared) (σ : St) (H : Hp) (Q : VK), Inv X pins σ H s → t σ H Q → wpAny (model X.prog X.w) X.A (eval e X.env) (EP X pins σ Q) X.xe s
def PT (X : Cx) (e : Expr) (t : TT) : Prop :=
  ∀ (pins : List (Addr × Obj)) (s : Shared) (σ : St) (H : Hp) (Q : Bool → Hp → Prop), Inv X pins σ H s → t σ H Q → wpAny (model X.prog X.w) X.A (isTrue e X.env (eval e X.env)) (TP X pins σ Q) X.xe s
/-- a test whatever its 'whole' is (and, or) -/
def PW (X : Cx) (e : Expr) (t : TT) : Prop :=
  ∀ (whole : Sem Value) (pins : List (Addr × Obj)) (s : Shared) (σ : St) (H : Hp) (Q : Bool → Hp → Prop), Inv X pins σ H s → t σ H Q → wpAny (model X.prog X.w) X.A (isTrue e X.env whole) (TP X pins σ Q) X.xe s
theorem PW.pt {X : Cx} {e : Expr} {t : TT} (h : PW X e t) : PT X e t := h _
/-- an argument list (no star), from the left -/
def PA (X : Cx) (es : List Expr) (t : TA) : Prop :=
  ∀ (pos : Pos) (pins : List (Addr × Obj)) (s : Shared) (σ : St) (H : Hp) (Q : List V → Hp → Prop), Inv X pins σ H s → t σ H Q → wpAny (model X.prog X.w) X.A (spliced (backTo pos (starEach es X.env))) (AP X pins σ Q) X.xe s
def PS (X : Cx) (st : Stmt) (t : TS) : Prop :=
  ∀ (pins : List (Addr × Obj)) (s : Shared) (σ : St) (H : Hp) (D : Ends), Inv X pins σ H s → t D σ H → wpAny (model X.prog X.w) X.A (exec st X.env) (SP X pins D) X.xe s
def PSs (X : Cx) (st : List Stmt) (t : TS) : Prop :=
  ∀ (pins : List (Addr × Obj)) (s : Shared) (σ : St) (H : Hp) (D : Ends), Inv X pins σ H s → t D σ H → wpAny (model X.prog X.w) X.A (execs st X.env) (SP X pins D) X.xe s
/-- weaken the end -/
theorem thn {α : Type} {t : Sem α} {Q Q' : α → Shared → Prop} {M : Model} {A : Around} {E : Value → Shared → Prop} {s : Shared} (h : wpAny M A t Q E s) (hQ : ∀ a s, Q a s → Q' a s) : wpAny M A t Q' E s := wpAny_mono h hQ fun _ _ x => x
end L2

namespace L2
open PySem PySem.Spec PyProof.Rows
section
variable {X : Cx}

/-- two expressions in a row -/
theorem bin {a b : Expr} {ta tb : TE} (ha : PE X a ta) (hb : PE X b tb) {pins : List (Addr × Obj)} {s : Shared} {σ : St} {H : Hp} {R : V → V → Hp → Prop} (I : Inv X pins σ H s) (h : ta σ H fun x H1 => tb σ H1 fun y H2 => R x y H2)
    {α : Type} {Q : α → Shared → Prop} {f : Value → Value → Sem α}
    (hf : ∀ v u s2 x y H2, Inv X pins σ H2 s2 → RelV x v → RelV y u → R x y H2 → wpAny (model X.prog X.w) X.A (f v u) Q X.xe s2) :
    wpAny (model X.prog X.w) X.A (eval a X.env) (fun v s₁ => wpAny (model X.prog X.w) X.A (eval b X.env) (fun u s₂ => wpAny (model X.prog X.w) X.A (f v u) Q X.xe s₂) X.xe s₁) X.xe s := by
  refine thn (ha pins s σ H _ I h) fun v s1 ⟨x, H1, I1, r1, q1⟩ => ?_
  refine thn (hb pins s1 σ H1 _ I1 q1) fun u s2 ⟨y, H2, I2, r2, q2⟩ => ?_
  exact hf v u s2 x y H2 I2 r1 r2 q2

/-! ### names and constants -/
def tVar (i : Nat) : TE := fun σ H Q => ∃ v, σ[i]? = some (some v) ∧ Q v H
def tC (v : V) : TE := fun _ H Q => Q v H
theorem pe_var {i : Nat} {x : Str} {pos : Pos} (hN : X.N[i]? = some x) (hv : Vis X.env.scope x) (hd : (x == ("__debug__" : Str)) = false := by decide) (hcd : (x == ("__classdict__" : Str)) = false := by decide) : PE X (.Name x pos) (tVar i) := by
  intro pins s σ H Q I h
  obtain ⟨v, e, h⟩ := h
  obtain ⟨m, hn, hl⟩ := I.loc
  obtain ⟨u, r, l⟩ := hl i x v hN e hv
  have fin : EP X pins σ Q u s := ⟨v, H, I, r, h⟩
  rcases l with ⟨hk, hm⟩ | ⟨hk, c, hc, hcell⟩
  · exact wpAny_Name (wpAny_loadName_local I.ok.kind hk hn hm fin) hd
  · rcases hk with hk | hk
    · exact wpAny_Name (wpAny_loadName_cell I.ok.kind hk hc hcell fin) hd
    · exact wpAny_Name (wpAny_loadName_free I.ok.kind hk hc hcell fin hcd) hd
theorem pe_int {i j pos} : PE X (.Constant (.int i) j pos) (tC (.int i)) := fun _ _ _ H _ I h => wpAny_Constant_int ⟨.int i, H, I.tok _, ⟨_, rfl⟩, h⟩
theorem pe_bl {b j pos} : PE X (.Constant (.bool b) j pos) (tC (.bl b)) := fun _ _ _ H _ I h => Constant_bool ⟨.bl b, H, I, rfl, h⟩
theorem pe_non {j pos} : PE X (.Constant .none j pos) (tC .non) := fun _ _ _ H _ I h => Constant_none ⟨.non, H, I, rfl, h⟩
theorem pe_str {x j pos} : PE X (.Constant (.str x) j pos) (tC (.str x)) := fun _ _ _ H _ I h => Calls.Constant_str ⟨.str x, H, I.tok _, ⟨_, rfl⟩, h⟩

/-- a global name of the def -/
def Gl (X : Cx) (x : Str) : Prop := X.env.kindOf x = some .globalImplicit
theorem ld_glob {E : Value → Shared → Prop} {pins : List (Addr × Obj)} {s : Shared} {σ : St} {H : Hp} {x : Str} {u : Value} {pos : Pos} {Q : Value → Shared → Prop} (I : Inv X pins σ H s) (hg : Gl X x) (hm : X.mg x = some u) (h : Q u s)
    (hd : (x == ("__debug__" : Str)) = false := by decide) : wpAny (model X.prog X.w) X.A (eval (.Name x pos) X.env) Q E s :=
  Calls.Name_function_global I.ok.kind hg (Calls.loadGlobal_global (by rw [I.ok.glob]; exact I.mod.glob.keeps I.bk) hm h) hd
theorem ld_blt {E : Value → Shared → Prop} {pins : List (Addr × Obj)} {s : Shared} {σ : St} {H : Hp} {x : Str} {u : Value} {pos : Pos} {Q : Value → Shared → Prop} (I : Inv X pins σ H s) (hg : Gl X x) (hm : X.mg x = none) (hv : bootBuiltins x = some u) (h : Q u s)
    (hn : x ≠ "__name__" := by decide) (hd : (x == ("__debug__" : Str)) = false := by decide) : wpAny (model X.prog X.w) X.A (eval (.Name x pos) X.env) Q E s := by
  obtain ⟨mb, h1, h2⟩ := I.mod.blt
  exact Calls.Name_function_global I.ok.kind hg (Calls.loadGlobal_builtin (by rw [I.ok.glob]; exact I.mod.glob.keeps I.bk) hm (by rw [I.ok.blt]; exact h1.keeps I.bk) ((h2 x hn).trans hv) h) hd
/-- a module's constant, a class, a function, as a value -/
theorem pe_glob {x : Str} {v : V} {u : Value} {pos : Pos} (hg : Gl X x) (hm : X.mg x = some u) (r : RelV v u) (hd : (x == ("__debug__" : Str)) = false := by decide) : PE X (.Name x pos) (tC v) :=
  fun _ _ _ H _ I h => ld_glob I hg hm ⟨v, H, I, r, h⟩ hd
theorem pe_bltn {x : Str} {v : V} {u : Value} {pos : Pos} (hg : Gl X x) (hm : X.mg x = none) (hv : bootBuiltins x = some u) (r : RelV v u) (hn : x ≠ "__name__" := by decide) (hd : (x == ("__debug__" : Str)) = false := by decide) : PE X (.Name x pos) (tC v) :=
  fun _ _ _ H _ I h => ld_blt I hg hm hv ⟨v, H, I, r, h⟩ hn hd

/-! ### arithmetic -/
variable {a b : Expr} {ta tb : TE} {pos : Pos}
/-! ### comparisons -/
def PC (X : Cx) (op : CmpOp) (a b : Expr) (t : TE) : Prop :=
  ∀ (pins : List (Addr × Obj)) (s : Shared) (σ : St) (H : Hp) (Q : VK), Inv X pins σ H s → t σ H Q →
    wpAny (model X.prog X.w) X.A (eval a X.env) (fun v s₁ => wpAny (model X.prog X.w) X.A (eval b X.env) (fun u s₂ => wpAny (model X.prog X.w) X.A (compareOp op v u) (EP X pins σ Q) X.xe s₂) X.xe s₁) X.xe s
/-- a comparison as a value, as a test -/
def tB (t : TE) : TT := fun σ H Q => t σ H fun x H1 => ∃ c, x = .bl c ∧ Q c H1
theorem pt_cmp {op : CmpOp} {t : TE} (h : PC X op a b t) (h1 : behindInMarks op b = false := by first | exact nobehind _ (by decide) (by decide) | rfl) : PT X (.Compare a [op] [b] pos) (tB t) := by
  intro pins s σ H Q I hw
  refine wpAny_isTrue_Compare1 (thn (h pins s σ H _ I hw) fun v s1 h1 => thn h1 fun u s2 h2 => thn h2 fun c s3 ⟨x, H1, I1, r1, q1⟩ => ?_) h1
  obtain ⟨d, rfl, q⟩ := q1
  cases r1
  exact wpAny_truthy_bool ⟨H1, I1, q⟩
/-- an expression whose value is a bool, as a test -/
theorem pt_val {e : Expr} {t : TE} (h : PE X e t) (he : ∀ whole, isTrue e X.env whole = (do let v ← whole; standAt e.pos; holding [v] (truthy v)) := by intro _; rfl) : PT X e (tB t) := by
  intro pins s σ H Q I hw
  refine isTrue_plain (thn (h pins s σ H _ I hw) fun v s1 ⟨x, H1, I1, r1, q1⟩ => ?_) (he _)
  obtain ⟨d, rfl, q⟩ := q1
  cases r1
  exact wpAny_truthy_bool ⟨H1, I1, q⟩

/-! ### and, or, not -/
variable {tA tB' : TT} {rest : List Expr}
def tAnd (t u : TT) : TT := fun σ H Q => t σ H fun c H1 => if c = true then u σ H1 Q else Q false H1
def tOr (t u : TT) : TT := fun σ H Q => t σ H fun c H1 => if c = true then Q true H1 else u σ H1 Q
def tNot (t : TT) : TT := fun σ H Q => t σ H fun c H1 => Q (!c) H1
theorem pw_and1 (ha : PT X a tA) : PW X (.BoolOp .And [a] pos) tA := by
  intro wh pins s σ H Q I h
  refine isTrue_and (thn (ha pins s σ H Q I h) fun c s1 e => ?_)
  cases c with
  | true => exact isTrue_and_nil e
  | false => exact e
theorem pw_or1 (ha : PT X a tA) : PW X (.BoolOp .Or [a] pos) tA := by
  intro wh pins s σ H Q I h
  refine isTrue_or (thn (ha pins s σ H Q I h) fun c s1 e => ?_)
  cases c with
  | false => exact isTrue_or_nil e
  | true => exact e
theorem pw_and (ha : PT X a tA) (hb : PW X (.BoolOp .And (b :: rest) pos) tB') : PW X (.BoolOp .And (a :: b :: rest) pos) (tAnd tA tB') := by
  intro wh pins s σ H Q I h
  refine isTrue_and (thn (ha pins s σ H _ I h) fun c s1 ⟨H1, I1, q1⟩ => ?_)
  cases c with
  | true => exact hb wh pins s1 σ H1 Q I1 q1
  | false => exact ⟨H1, I1, q1⟩
theorem pw_or (ha : PT X a tA) (hb : PW X (.BoolOp .Or (b :: rest) pos) tB') : PW X (.BoolOp .Or (a :: b :: rest) pos) (tOr tA tB') := by
  intro wh pins s σ H Q I h
  refine isTrue_or (thn (ha pins s σ H _ I h) fun c s1 ⟨H1, I1, q1⟩ => ?_)
  cases c with
  | true => exact ⟨H1, I1, q1⟩
  | false => exact hb wh pins s1 σ H1 Q I1 q1
theorem pt_not (ha : PT X a tA) : PT X (.UnaryOp .Not a pos) (tNot tA) := by
  intro pins s σ H Q I h
  exact isTrue_not (ha pins s σ H (fun c H1 => Q (!c) H1) I h)
/-- .. as values (bools) -/
def tAndV (ta tb : TE) : TE := fun σ H Q => ta σ H fun x H1 => ∃ c, x = .bl c ∧ if c = true then tb σ H1 Q else Q (.bl false) H1
def tOrV (ta tb : TE) : TE := fun σ H Q => ta σ H fun x H1 => ∃ c, x = .bl c ∧ if c = true then Q (.bl true) H1 else tb σ H1 Q
def tNotV (ta : TE) : TE := fun σ H Q => ta σ H fun x H1 => ∃ c, x = .bl c ∧ Q (.bl (!c)) H1
theorem pe_one {op} {t : TE} (h : PE X a t) : PE X (.BoolOp op [a] pos) t := fun pins s σ H Q I hw => BoolOp_one (h pins s σ H Q I hw)
theorem pe_and (ha : PE X a ta) (hb : PE X (.BoolOp .And (b :: rest) pos) tb) : PE X (.BoolOp .And (a :: b :: rest) pos) (tAndV ta tb) := by
  intro pins s σ H Q I h
  refine BoolOp_and (thn (ha pins s σ H _ I h) fun v s1 ⟨x, H1, I1, r1, q1⟩ => ?_)
  obtain ⟨c, rfl, q1⟩ := q1
  cases r1
  refine wpAny_truthy_bool ?_
  cases c with
  | true => exact hb pins s1 σ H1 Q I1 q1
  | false => exact ⟨.bl false, H1, I1, rfl, q1⟩
theorem pe_or (ha : PE X a ta) (hb : PE X (.BoolOp .Or (b :: rest) pos) tb) : PE X (.BoolOp .Or (a :: b :: rest) pos) (tOrV ta tb) := by
  intro pins s σ H Q I h
  refine BoolOp_or (thn (ha pins s σ H _ I h) fun v s1 ⟨x, H1, I1, r1, q1⟩ => ?_)
  obtain ⟨c, rfl, q1⟩ := q1
  cases r1
  refine wpAny_truthy_bool ?_
  cases c with
  | false => exact hb pins s1 σ H1 Q I1 q1
  | true => exact ⟨.bl true, H1, I1, rfl, q1⟩
theorem pe_not (ha : PE X a ta) : PE X (.UnaryOp .Not a pos) (tNotV ta) := by
  intro pins s σ H Q I h
  refine UnaryOp_ (thn (ha pins s σ H _ I h) fun v s1 ⟨x, H1, I1, r1, q1⟩ => ?_)
  obtain ⟨c, rfl, q1⟩ := q1
  cases r1
  exact not_of (wpAny_truthy_bool ⟨.bl (!c), H1, I1, rfl, q1⟩)
/-- a if t else b -/
def tIf (t : TT) (ta tb : TE) : TE := fun σ H Q => t σ H fun c H1 => if c = true then ta σ H1 Q else tb σ H1 Q
theorem pe_ifExp {c : Expr} (hc : PT X c tA) (ha : PE X a ta) (hb : PE X b tb) : PE X (.IfExp c a b pos) (tIf tA ta tb) := by
  intro pins s σ H Q I h
  refine wpAny_IfExp (thn (hc pins s σ H _ I h) fun d s1 ⟨H1, I1, q1⟩ => ?_)
  cases d with
  | true => exact ha pins s1 σ H1 Q I1 q1
  | false => exact hb pins s1 σ H1 Q I1 q1
end
end L2

namespace L2
open PySem PySem.Spec PyProof.Rows

/-! ### a list, a tuple that is read: tracked, frozen, or an object of the module -/
def SqL (K : PySem.W.Frag) (H : Hp) (a : Addr) (xs : List V) : Prop :=
  Rd H a (.lst xs) ∨
    ∃ (o : Obj) (its : Array Value) (n : Nat), K.lookup a = some o ∧ o.cls = .type "list" ∧ o.dict = none ∧ o.data = .seq its n ∧ its.size ≤ sizeLine ∧ Vals xs its.toList
def SqT (K : PySem.W.Frag) (H : Hp) (a : Addr) (xs : List V) : Prop :=
  Rd H a (.tup xs) ∨
    ∃ (o : Obj) (its : Array Value) (n : Nat), K.lookup a = some o ∧ o.cls = .type "tuple" ∧ o.data = .seq its n ∧ its.size ≤ sizeLine ∧ Vals xs its.toList
def absV : Value → Option V
  | .none => some .non
  | .bool b => some (.bl b)
  | .int i _ => some (.int i)
  | .str x _ => some (.str x)
  | .bytes b _ => some (.byt b)
  | .float b _ => some (.flt b)
  | .ref a => some (.ref a)
  | .type n => some (.ty n)
  | _ => none
theorem RelV.abs {x : V} {u : Value} (r : RelV x u) : absV u = some x := by
  cases x with
  | non => cases r; rfl
  | bl _ => cases r; rfl
  | int _ => obtain ⟨t, rfl⟩ := r; rfl
  | str _ => obtain ⟨t, rfl⟩ := r; rfl
  | byt _ => obtain ⟨t, rfl⟩ := r; rfl
  | flt _ => obtain ⟨t, rfl⟩ := r; rfl
  | ref _ => cases r; rfl
  | ty _ => cases r; rfl
theorem RelV.inj {x y : V} {u : Value} (r : RelV x u) (q : RelV y u) : x = y := Option.some.inj (r.abs.symm.trans q.abs)
theorem Vals.inj : ∀ {xs ys : List V} {us : List Value}, Vals xs us → Vals ys us → xs = ys
  | _, _, _, .nil, .nil => rfl
  | _, _, _, .cons r t, .cons r' t' => by rw [r.inj r', Vals.inj t t']
section
variable {X : Cx} {pins : List (Addr × Obj)} {σ : St} {H : Hp} {s : Shared} {a : Addr} {xs ys : List V}
theorem SqL.of {K : PySem.W.Frag} (h : H a = some (.lst xs)) : SqL K H a xs := .inl (.inl h)
theorem SqT.of {K : PySem.W.Frag} (h : H a = some (.tup xs)) : SqT K H a xs := .inl (.inl h)
theorem Inv.list (I : Inv X pins σ H s) (h : SqL X.K H a xs) : ∃ its : List Value, Vals xs its ∧ PlainL s.heap a its.toArray ∧ xs.length ≤ sizeLine := by
  rcases h with h | ⟨o, its, n, hk, hc, hd, hs, hz, r⟩
  · obtain ⟨z, its, n, r, e⟩ := h.ok I.hok
    exact ⟨its, r, ⟨_, n, e, rfl, rfl, rfl⟩, z⟩
  · refine ⟨its.toList, r, ⟨o, n, I.kIn a o hk, hc, hd, by simpa using hs⟩, ?_⟩
    have e := r.length
    simp only [Array.length_toList] at e
    omega
theorem Inv.tuple (I : Inv X pins σ H s) (h : SqT X.K H a xs) : ∃ its : List Value, Vals xs its ∧ IsTup s.heap a its.toArray ∧ xs.length ≤ sizeLine := by
  rcases h with h | ⟨o, its, n, hk, hc, hs, hz, r⟩
  · obtain ⟨z, its, r, p⟩ := h.ok I.hok
    exact ⟨its, r, p, z⟩
  · refine ⟨its.toList, r, ⟨o, I.kIn a o hk, hc, n, by simpa using hs⟩, ?_⟩
    have e := r.length
    simp only [Array.length_toList] at e
    omega
theorem Inv.list_inj (I : Inv X pins σ H s) (h : SqL X.K H a xs) (h' : SqL X.K H a ys) : xs = ys := by
  obtain ⟨its, r, ⟨o, n, e, _, _, d⟩, _⟩ := I.list h
  obtain ⟨its', r', ⟨o', n', e', _, _, d'⟩, _⟩ := I.list h'
  rw [e] at e'; cases e'
  rw [d] at d'
  injection d' with d1 _
  have : its = its' := by simpa using congrArg Array.toList d1
  subst this
  exact r.inj r'
end

/-! ### another wish about exceptions -/
abbrev Cx.wish (X : Cx) (E : Value → Shared → Prop) : Cx := { X with xe := E }
/-- no exception leaves -/
abbrev Cx.nox (X : Cx) : Cx := X.wish fun _ _ => False
theorem Cx.Ok.wish {X : Cx} (ok : X.Ok) (E : Value → Shared → Prop) : (X.wish E).Ok :=
  ⟨ok.mod, ok.kind, ok.glob, ok.blt, ok.above, ok.inj, ok.has, ok.cab, ok.hd, ok.hq, ok.frames, ok.stk, ok.exf, ok.bs, ok.bsz, ok.noex, ok.exfs, ok.funs, ok.frf⟩
theorem Cx.Ok.unwish {X : Cx} {E : Value → Shared → Prop} (ok : (X.wish E).Ok) : X.Ok :=
  ⟨ok.mod, ok.kind, ok.glob, ok.blt, ok.above, ok.inj, ok.has, ok.cab, ok.hd, ok.hq, ok.frames, ok.stk, ok.exf, ok.bs, ok.bsz, ok.noex, ok.exfs, ok.funs, ok.frf⟩
section
variable {X : Cx} {pins : List (Addr × Obj)} {σ : St} {H : Hp} {s : Shared} {E : Value → Shared → Prop}
theorem Inv.wish (I : Inv X pins σ H s) (E : Value → Shared → Prop) : Inv (X.wish E) pins σ H s := ⟨I.ok.wish E, I.os, I.bare, I.base, I.loc, I.cell, I.free, I.freeC, I.pin, I.hok, I.len⟩
theorem Inv.unwish (I : Inv (X.wish E) pins σ H s) : Inv X pins σ H s := ⟨I.ok.unwish, I.os, I.bare, I.base, I.loc, I.cell, I.free, I.freeC, I.pin, I.hok, I.len⟩
theorem SP.unwish {D : Ends} {f : Flow} {s' : Shared} (h : SP (X.wish E) pins D f s') : SP X pins D f s' := by
  cases f with
  | next => obtain ⟨σ', H', I, q⟩ := h; exact ⟨σ', H', I.unwish, q⟩
  | brk => obtain ⟨σ', H', I, q⟩ := h; exact ⟨σ', H', I.unwish, q⟩
  | cont => obtain ⟨σ', H', I, q⟩ := h; exact ⟨σ', H', I.unwish, q⟩
  | ret u => obtain ⟨v, σ', H', I, r, q⟩ := h; exact ⟨v, σ', H', I.unwish, r, q⟩
theorem PSs.nox {st : List Stmt} {t : TS} (h : PSs X.nox st t) : PSs X st t := fun pins s σ H D I hw =>
  wpAny_mono (h pins s σ H D (I.wish _) hw) (fun _ _ q => q.unwish) fun _ _ z => False.elim z
end

/-! ### blocks and small statements -/
section
variable {X : Cx} {st : Stmt} {rest : List Stmt} {t u : TS} {e : Expr} {te : TE} {pos : Pos}
def tNext : TS := fun D σ H => D.nx σ H
def tSeq (t u : TS) : TS := fun D σ H => t { D with nx := u D } σ H
theorem pss_nil : PSs X [] tNext := fun _ _ σ H _ I h => wpAny_execs_nil ⟨σ, H, I, h⟩
theorem pss_cons (h1 : PS X st t) (h2 : PSs X rest u) : PSs X (st :: rest) (tSeq t u) := by
  intro pins s σ H D I h
  refine wpAny_execs_cons (thn (h1 pins s σ H { D with nx := u D } I h) fun f s1 q => ?_)
  cases f with
  | next =>
    obtain ⟨σ', H', I', q⟩ := q
    exact h2 pins s1 σ' H' D I' q
  | ret v => exact q
  | brk => exact q
  | cont => exact q
theorem pss_one (h1 : PS X st t) : PSs X [st] t := by
  intro pins s σ H D I h
  refine wpAny_execs_cons (thn (h1 pins s σ H D I h) fun f s1 q => ?_)
  cases f with
  | next => exact wpAny_execs_nil q
  | ret v => exact q
  | brk => exact q
  | cont => exact q
/-- in a def's body nothing is shown -/
theorem Inv.quiet {pins : List (Addr × Obj)} {σ : St} {H : Hp} {s : Shared} (I : Inv X pins σ H s) : interactive X.env = false := by simp [interactive, I.ok.kind]
/-- an expression whose value is dropped -/
def tDrop (te : TE) : TS := fun D σ H => te σ H fun _ H1 => D.nx σ H1
theorem ps_expr (he : PE X e te) (hs : swapsWith e none pos.line X.env = pure false := by rfl) : PS X (.Expr e pos) (tDrop te) := by
  intro pins s σ H D I h
  exact wpAny_Expr_any (thn (he pins s σ H _ I h) fun v s1 ⟨x, H1, I1, r1, q1⟩ => ⟨σ, H1, I1, q1⟩) I.quiet hs
def tRet (te : TE) : TS := fun D σ H => te σ H D.rt
theorem ps_ret (he : PE X e te) : PS X (.Return (some e) pos) (tRet te) := by
  intro pins s σ H D I h
  exact wpAny_Return_some (thn (he pins s σ H _ I h) fun v s1 ⟨x, H1, I1, r1, q1⟩ => ⟨x, σ, H1, I1, r1, q1⟩)
def tIfS (c : TT) (t u : TS) : TS := fun D σ H => c σ H fun b H1 => if b = true then t D σ H1 else u D σ H1
theorem ps_if {c : Expr} {a b : List Stmt} {tc : TT} (hc : PT X c tc) (ha : PSs X a t) (hb : PSs X b u) : PS X (.If c a b pos) (tIfS tc t u) := by
  intro pins s σ H D I h
  refine wpAny_If (thn (hc pins s σ H _ I h) fun d s1 ⟨H1, I1, q1⟩ => ?_)
  cases d with
  | true => exact ha pins s1 σ H1 D I1 q1
  | false => exact hb pins s1 σ H1 D I1 q1
end

/-! ### targets -/
abbrev TG := V → St → Hp → (St → Hp → Prop) → Prop
abbrev TGs := List V → St → Hp → (St → Hp → Prop) → Prop
def PG (X : Cx) (target : Expr) (t : TG) : Prop :=
  ∀ (pins : List (Addr × Obj)) (s : Shared) (σ : St) (H : Hp) (v : V) (u : Value) (Q : St → Hp → Prop), Inv X pins σ H s → RelV v u → t v σ H Q →
    wpAny (model X.prog X.w) X.A (assign target X.env u) (fun _ s' => ∃ σ' H', Inv X pins σ' H' s' ∧ Q σ' H') X.xe s
/-- several targets, one after another -/
def PGs (X : Cx) (ts : List Expr) (t : TGs) : Prop :=
  ∀ (pins : List (Addr × Obj)) (s : Shared) (σ : St) (H : Hp) (vs : List V) (us : List Value) (Q : St → Hp → Prop), Inv X pins σ H s → Vals vs us → t vs σ H Q →
    wpAny (model X.prog X.w) X.A (assignInOrder ((assignEach ts X.env).map (·.2)) us) (fun _ s' => ∃ σ' H', Inv X pins σ' H' s' ∧ Q σ' H') X.xe s
/-- o[i] = v, by values -/
abbrev TSet := V → V → V → Hp → (Hp → Prop) → Prop
def PSet (X : Cx) (t : TSet) : Prop :=
  ∀ (pins : List (Addr × Obj)) (s : Shared) (σ : St) (H : Hp) (o i v : V) (ov iv u : Value) (Q : Hp → Prop), Inv X pins σ H s → RelV o ov → RelV i iv → RelV v u → t o i v H Q →
    wpAny (model X.prog X.w) X.A (setItem ov iv u) (fun _ s' => ∃ H', Inv X pins σ H' s' ∧ Q H') X.xe s
section
variable {X : Cx} {pos : Pos}
def gName (i : Nat) : TG := fun v σ H Q => Q (σ.set i (some v)) H
theorem pg_name {i : Nat} {x : Str} (hN : X.N.Nodup) (hi : X.N[i]? = some x) (hx : Loc X.env.scope x) (hf : X.fn x = true ∨ X.env.scope.names.lookup x = some .local := by first | exact .inl rfl | exact .inr rfl | assumption) : PG X (.Name x pos) (gName i) := by
  intro pins s σ H v u Q I r h
  exact wpAny_assign_Name (store_ok I hN hi hx r (fun s' I' => ⟨_, H, I', h⟩) hf)
def gNil : TGs := fun vs σ H Q => vs = [] ∧ Q σ H
def gCons (t : TG) (u : TGs) : TGs := fun vs σ H Q => ∃ v r, vs = v :: r ∧ t v σ H fun σ' H' => u r σ' H' Q
theorem pgs_nil : PGs X [] gNil := by
  intro pins s σ H vs us Q I r h
  obtain ⟨e, h⟩ := h
  subst e
  cases r
  exact assignInOrder_nil ⟨σ, H, I, h⟩
theorem pgs_cons {e : Expr} {es : List Expr} {t : TG} {u : TGs} (h1 : PG X e t) (h2 : PGs X es u)
    (hs : (assignEach (e :: es) X.env).map (·.2) = assign e X.env :: (assignEach es X.env).map (·.2) := by rfl) : PGs X (e :: es) (gCons t u) := by
  intro pins s σ H vs us Q I r h
  obtain ⟨v, vr, e1, h⟩ := h
  subst e1
  cases r with
  | cons r rr =>
    rw [hs]
    refine assignInOrder_cons (thn (h1 pins s σ H _ _ _ I r h) fun _ s1 ⟨σ1, H1, I1, q1⟩ => ?_)
    exact h2 pins s1 σ1 H1 _ _ Q I1 rr q1
/-- (a, b, ..) = a tuple of that length -/
def gTup (K : PySem.W.Frag) (n : Nat) (t : TGs) : TG := fun v σ H Q => ∃ a xs, v = .ref a ∧ SqT K H a xs ∧ xs.length = n ∧ t xs σ H Q
theorem pg_tup {es : List Expr} {k : Nat} {t : TGs} {n : Nat} (hc : true = true) (h : PGs X es t)
    (hn : (assignEach es X.env).length = n := by rfl) (hst : (assignEach es X.env).findIdx? (·.1) = none := by rfl) : PG X (.Tuple es k pos) (gTup X.K n t) := by
  intro pins s σ H v u Q I r hw
  obtain ⟨a, xs, e1, hq, hl, hw⟩ := hw
  subst e1
  cases r
  obtain ⟨its, rv, ht, hz⟩ := I.tuple hq
  refine assignTup_q I.hq0 ht (by simp [hn, ← hl, rv.length]) hst fun h' hx => ?_
  have I1 : Inv X pins σ H { s with heap := h' } := I.kept (t' := s.toks) fun b o e => hx b o (Nat.ne_of_lt (Heap.lt_size e)) e
  exact h pins _ σ H xs _ Q I1 (by simpa using rv) hw
/-- o[i] = .. -/
def gSub (to ti : TE) (t : TSet) : TG := fun v σ H Q => to σ H fun o H1 => ti σ H1 fun i H2 => t o i v H2 fun H3 => Q σ H3
theorem pg_sub {o i : Expr} {to ti : TE} {t : TSet} (ho : PE X o to) (hi : PE X i ti) (hs : PSet X t)
    (ha : ∀ v, assign (.Subscript o i pos) X.env v = (do
      let ov ← holding [v] (eval o X.env)
      let iv ← holding [v, ov] (eval i X.env)
      standAt pos
      holding [v, ov, iv] (setItem ov iv v)
      release [v, ov, iv] []) := by intro _; rfl) : PG X (.Subscript o i pos) (gSub to ti t) := by
  intro pins s σ H v u Q I r h
  rw [ha]
  refine wpAny_bind (wpAny_holding (thn (ho pins s σ H _ I h) fun ov s1 ⟨x, H1, I1, r1, q1⟩ => ?_))
  refine wpAny_bind (wpAny_holding (thn (hi pins s1 σ H1 _ I1 q1) fun iv s2 ⟨y, H2, I2, r2, q2⟩ => ?_))
  refine wpAny_bind (wpAny_standAt (wpAny_bind (wpAny_holding (thn (hs pins s2 σ H2 x y v ov iv u _ I2 r1 r2 r q2) fun _ s3 ⟨H3, I3, q3⟩ => ?_))))
  exact wpAny_release ⟨σ, H3, I3, q3⟩
/-- target = value -/
def tAsg (te : TE) (g : TG) : TS := fun D σ H => te σ H fun x H1 => g x σ H1 D.nx
theorem ps_asg {tg e : Expr} {te : TE} {g : TG} (he : PE X e te) (hg : PG X tg g) (hs : swapsWithSole [tg] e pos.line X.env = pure false := by rfl) (hw : swappedStores [tg] e X.env = pure none := by rfl)
    (h1 : (assignEach [tg] X.env).map (·.2) = [assign tg X.env] := by rfl) : PS X (.Assign [tg] e pos) (tAsg te g) := by
  intro pins s σ H D I h
  refine wpAny_Assign_stores (thn (he pins s σ H _ I h) fun v s1 ⟨x, H1, I1, r1, q1⟩ => ?_) hs hw
  rw [h1]
  exact thn (hg pins s1 σ H1 x v _ I1 r1 q1) fun _ s2 q => q
/-- name = value -/
theorem ps_set {i : Nat} {x : Str} {e : Expr} {te : TE} {pos' : Pos} (hN : X.N.Nodup) (hi : X.N[i]? = some x) (hx : Loc X.env.scope x) (he : PE X e te) (hs : swapsWith e (some (.Name x pos')) pos.line X.env = pure false := by rfl) (hf : X.fn x = true ∨ X.env.scope.names.lookup x = some .local := by first | exact .inl rfl | exact .inr rfl | assumption) :
    PS X (.Assign [.Name x pos'] e pos) (tAsg te (gName i)) := by
  intro pins s σ H D I h
  refine wpAny_Assign_Name (thn (he pins s σ H _ I h) fun v s1 ⟨y, H1, I1, r1, q1⟩ => ?_) hs
  exact store_ok I1 hN hi hx r1 (fun s2 I2 => ⟨_, H1, I2, q1⟩) hf
end

/-! ### while -/
section
variable {X : Cx} {pos : Pos}
end

/-! ### what a loop or a comprehension walks -/
/-- at turn i: it yields x (the heap may grow), or it stops -/
structure It where
  go : Nat → Hp → Prop
  yld : Nat → Hp → V → Hp → Prop
  stop : Nat → Hp → Prop
/-- the iterator's own objects may turn: they are not the frame's, not pinned, younger than the entry (or a comprehension's own) -/
def FpOk (X : Cx) (pins : List (Addr × Obj)) (H : Hp) (b : Addr) : Prop :=
  H b = none ∧ b ≠ X.env.locals ∧ b ∉ X.fs ∧ (b ∈ X.ex ∨ X.s_0.heap.objs.size ≤ b) ∧ (∀ x c, X.env.cells.lookup x = some c → c ≠ b) ∧ ∀ p ∈ X.pn ++ pins, p.1 ≠ b
theorem Inv.fpOk {X : Cx} {pins : List (Addr × Obj)} {σ : St} {H H' : Hp} {s : Shared} {b : Addr} (I : Inv X pins σ H s) (hb : s.heap.objs.size ≤ b) (hn : H' b = none) : FpOk X pins H' b := by
  refine ⟨hn, Nat.ne_of_gt (Nat.lt_of_lt_of_le I.lt hb), I.nofs hb, .inr (Nat.le_trans I.sz hb), fun x c e z => ?_, fun p hp z => ?_⟩
  · obtain ⟨v, q⟩ := I.cell x c e
    exact absurd (Nat.lt_of_lt_of_le q.lt (by rw [z]; exact hb)) (Nat.lt_irrefl _)
  · exact absurd (Nat.lt_of_lt_of_le (Heap.lt_size (I.pin p hp).1) (by rw [z]; exact hb)) (Nat.lt_irrefl _)
structure Turn (P : Program) (w : World) (K : PySem.W.Frag) (tg : Expr) (J : It) (fp : List Addr) (it : Addr) (tn : Nat → Heap → Prop) (cm : Bool := true) : Prop where
  mem : it ∈ fp
  obj : ∀ i h, tn i h → ∀ b ∈ fp, ∃ o, h.get? b = some o ∧ ∀ v, o.data ≠ .cell v
  keep : ∀ i h h', tn i h → (∀ b ∈ fp, ∀ o, h.get? b = some o → h'.get? b = some o) → tn i h'
  item : ∀ (X : Cx), X.prog = P → X.w = w → X.K = K → (cm = true → X.calm = true) → ∀ (i : Nat) (pins : List (Addr × Obj)) (s : Shared) (σ : St) (H : Hp) (E : Value → Shared → Prop), Inv X pins σ H s → (∀ b ∈ fp, FpOk X pins H b) → tn i s.heap → J.go i H →
    wpAny (model P w) X.A (pyNext (.ref it)) (fun r s1 => ∃ u, r = some u ∧
      wpAny (model P w) X.A (letOwnedTupleGo tg (.ref it) u) (fun _ s2 => ∃ x H', Inv X pins σ H' s2 ∧ RelV x u ∧ J.yld i H x H' ∧ tn (i + 1) s2.heap ∧ ∀ b ∈ fp, H' b = none) E s1) E s
  done : ∀ (X : Cx), X.prog = P → X.w = w → X.K = K → (cm = true → X.calm = true) → ∀ (i : Nat) (pins : List (Addr × Obj)) (s : Shared) (σ : St) (H : Hp) (E : Value → Shared → Prop), Inv X pins σ H s → (∀ b ∈ fp, FpOk X pins H b) → tn i s.heap → J.stop i H →
    wpAny (model P w) X.A (pyNext (.ref it)) (fun r s1 => r = none ∧ Inv X pins σ H s1) E s
  self : ∀ (A : Around) (i : Nat) (s : Shared) (Q : Value → Shared → Prop) (E : Value → Shared → Prop), tn i s.heap → Q (.ref it) s → wpAny (model P w) A (pyIter (.ref it)) Q E s
abbrev TI := St → Hp → (It → Hp → Prop) → Prop
/-- an iterator has come -/
def PIE (X : Cx) (pins : List (Addr × Obj)) (σ : St) (tg : Expr) (R : It → Hp → Prop) (itv : Value) (s2 : Shared) : Prop :=
  ∃ (it : Addr) (fp : List Addr) (tn : Nat → Heap → Prop) (J : It) (H' : Hp), itv = .ref it ∧ Inv X pins σ H' s2 ∧ (∃ cm, (cm = true → X.calm = true) ∧ Turn X.prog X.w X.K tg J fp it tn cm) ∧ tn 0 s2.heap ∧ (∀ b ∈ fp, FpOk X pins H' b) ∧ R J H'
def PI (X : Cx) (tg iter : Expr) (wi : TI) : Prop :=
  ∀ (pins : List (Addr × Obj)) (s : Shared) (σ : St) (H : Hp) (R : It → Hp → Prop), Inv X pins σ H s → wi σ H R →
    wpAny (model X.prog X.w) X.A (eval iter X.env) (fun v s1 => wpAny (model X.prog X.w) X.A (pyIter v) (PIE X pins σ tg R) X.xe s1) X.xe s

/-- the step ahead of the store is nothing for an iterator that keeps no tuple -/
theorem go_of {M : Model} {A : Around} {E : Value → Shared → Prop} {s : Shared} {tg : Expr} {it : Addr} {u : Value} {o : Obj} {n : String} {vs : Array Value} {Q : Unit → Shared → Prop} (ho : s.heap.get? it = some o) (hc : o.cls = .type n) (hd : o.data = .fields vs)
    (hn : ["enumerate", "zip", "dict_itemiterator", "dict_reverseitemiterator", "odict_iterator", "itertools.zip_longest", "itertools.pairwise"].contains n = false) (hQ : Q () s) : wpAny M A (letOwnedTupleGo tg (.ref it) u) Q E s := by
  unfold letOwnedTupleGo
  cases tg <;> first
    | exact wpAny_pure hQ
    | (cases u <;> first
        | exact wpAny_pure hQ
        | (refine wpAny_bind (wpAny_load ho ?_)
           rw [hc, hd]
           show wpAny M A (if (["enumerate", "zip", "dict_itemiterator", "dict_reverseitemiterator", "odict_iterator", "itertools.zip_longest", "itertools.pairwise"].contains n && vs[0]? == some (rawInt _)) = true then _ else _) Q E s
           rw [if_neg (by intro h; rw [hn, Bool.false_and] at h; cases h)]
           exact wpAny_pure hQ))

/-- the list at a, as it stands at each turn (a loop may append to it) -/
def Itl (K : PySem.W.Frag) (a : Addr) : It :=
  ⟨fun i H => ∃ xs x, SqL K H a xs ∧ xs[i]? = some x, fun i H x H' => H' = H ∧ ∀ xs, SqL K H a xs → xs[i]? = some x, fun i H => ∃ xs, SqL K H a xs ∧ xs.length ≤ i⟩
/-- lo, lo + 1, .. (n of them) -/
def Itr (lo : Int) (n : Nat) : It := ⟨fun i _ => i < n, fun i H x H' => H' = H ∧ x = .int (lo + i), fun i _ => n ≤ i⟩
theorem turn_list {P : Program} {w : World} {K : PySem.W.Frag} {tg : Expr} (a it : Addr) : Turn P w K tg (Itl K a) [it] it (fun i h => h.IsListIter it a i) false where
  mem := by simp
  obj := fun i h st b hb => by
    have e : b = it := by simpa using hb
    subst e
    obtain ⟨o, e, c, d⟩ := st
    exact ⟨o, e, fun v z => by rw [d] at z; cases z⟩
  keep := fun i h h' st k => st.at fun o e => k it (by simp) o e
  item := by
    intro X hP hw hK hc i pins s σ H E I hf st hg
    subst hP hw hK
    obtain ⟨xs, x, hq, hx⟩ := hg
    obtain ⟨its, rv, p, hz⟩ := I.list hq
    obtain ⟨u, hu, ru⟩ := rv.get hx
    obtain ⟨f0, f1, f2, f3, f4, f5⟩ := hf it (by simp)
    refine wpAny_pyNext_list_item st p.isList (x := u) (by simpa using hu) fun h' st' sb => ?_
    have I1 : Inv X pins σ H { s with heap := h' } := I.turned (t' := s.toks) (fun b o hb e => (sb.2 b hb).trans e) f0 f1 f3 f4 f5
    obtain ⟨o, e, c, d⟩ := id st'
    exact ⟨u, rfl, go_of (s := { s with heap := h' }) e c d (by decide) ⟨x, H, I1, ru, ⟨rfl, fun ys hy => by rw [I.list_inj hy hq]; exact hx⟩, st', fun b hb => (hf b hb).1⟩⟩
  done := by
    intro X hP hw hK hc i pins s σ H E I hf st hg
    subst hP hw hK
    obtain ⟨xs, hq, hx⟩ := hg
    obtain ⟨its, rv, p, hz⟩ := I.list hq
    obtain ⟨f0, f1, f2, f3, f4, f5⟩ := hf it (by simp)
    have hl := rv.length
    exact list_end_q (I.hqAt f5) st p.isList (by simp; omega) fun h' eb => ⟨rfl, I.turned (t' := s.toks) (fun b o hb e => eb b o hb e) f0 f1 f3 f4 f5⟩
  self := fun _ _ _ _ _ st h => wpAny_pyIter_listiter st h
theorem turn_range {P : Program} {w : World} {K : PySem.W.Frag} {tg : Expr} (it : Addr) (lo : Int) (n : Nat) : Turn P w K tg (Itr lo n) [it] it (fun i h => IsRangeIter h it (lo + (i : Nat) * 1) ((n : Int) - (i : Nat)) 1) false where
  mem := by simp
  obj := fun i h st b hb => by
    have e : b = it := by simpa using hb
    subst e
    exact ⟨_, st, fun v z => by
      have z' : Data.fields _ = Data.cell v := z
      cases z'⟩
  keep := fun i h h' st k => k it (by simp) _ st
  item := by
    intro X hP hw hK hc i pins s σ H E I hf st hg
    subst hP hw hK
    obtain ⟨f0, f1, f2, f3, f4, f5⟩ := hf it (by simp)
    refine wpAny_pyNext_range_item st (by have : i < n := hg; omega) fun h' st' sb => ?_
    have I1 : Inv X pins σ H { s with heap := h', toks := s.toks + 1 } := I.turned (fun b o hb e => (sb.2 b hb).trans e) f0 f1 f3 f4 f5
    have st2 : IsRangeIter h' it (lo + ((i + 1 : Nat) : Int) * 1) ((n : Int) - ((i + 1 : Nat) : Int)) 1 := by
      have e1 : lo + ((i + 1 : Nat) : Int) * 1 = lo + (i : Int) * 1 + 1 := by omega
      have e2 : (n : Int) - ((i + 1 : Nat) : Int) = (n : Int) - (i : Int) - 1 := by omega
      rw [e1, e2]; exact st'
    refine ⟨_, rfl, go_of (s := { s with heap := h', toks := s.toks + 1 }) (n := "range_iterator") st2 rfl rfl (by decide) ⟨.int (lo + i), H, I1, ⟨s.toks, ?_⟩, ⟨rfl, rfl⟩, st2, fun b hb => (hf b hb).1⟩⟩
    rw [Int.mul_one]
  done := by
    intro X hP hw hK hc i pins s σ H E I hf st hg
    subst hP hw hK
    obtain ⟨f0, f1, f2, f3, f4, f5⟩ := hf it (by simp)
    exact range_end_q (I.hqAt f5) st (by have : n ≤ i := hg; omega) fun h' eb => ⟨rfl, I.turned (t' := s.toks) (fun b o hb e => eb b o hb e) f0 f1 f3 f4 f5⟩
  self := fun _ _ _ _ _ st h => wpAny_pyIter_rangeiter st h
end L2

namespace L2
open PySem PySem.Spec PyProof.Rows
section
variable {X : Cx} {tg : Expr}
def iList (K : PySem.W.Frag) (tl : TE) : TI := fun σ H R => tl σ H fun x H1 => ∃ a, x = .ref a ∧ (∃ xs, SqL K H1 a xs) ∧ R (Itl K a) H1
theorem pi_list {l : Expr} {tl : TE} (hl : PE X l tl) : PI X tg l (iList X.K tl) := by
  intro pins s σ H R I h
  refine thn (hl pins s σ H _ I h) fun v s1 ⟨x, H1, I1, r1, q1⟩ => ?_
  obtain ⟨a, e, ⟨xs, hq⟩, q⟩ := q1
  subst e
  cases r1
  obtain ⟨its, rv, p, hz⟩ := I1.list hq
  refine wpAny_pyIter_list p.isList ?_
  refine ⟨s1.heap.objs.size, [s1.heap.objs.size], _, _, H1, rfl, I1.kept (t' := s1.toks) fun b o e => Heap.get?_push_of_some _ e, ⟨false, (fun z => nomatch z), turn_list a _⟩, ⟨_, Heap.get?_push_size _ rfl, rfl, rfl⟩, fun b hb => ?_, q⟩
  have e : b = s1.heap.objs.size := by simpa using hb
  subst e
  exact I1.fpOk (Nat.le_refl _) (I1.hok.fresh (Nat.le_refl _))
/-- a range object just made, walked -/
theorem range_it {pins : List (Addr × Obj)} {σ : St} {H : Hp} {s : Shared} {R : It → Hp → Prop} {E : Value → Shared → Prop} {lo hi : Int} {t u v : Tok} {tk : Nat} (I : Inv X pins σ H s) (h1 : -(2 ^ 62) ≤ lo) (h2 : lo < 2 ^ 62) (h3 : -(2 ^ 62) ≤ hi) (h4 : hi < 2 ^ 62)
    (q : R (Itr lo (hi - lo).toNat) H) : wpAny (model X.prog X.w) X.A (pyIter (.ref s.heap.objs.size)) (PIE X pins σ tg R) E { s with heap := s.heap.push { cls := .type "range", data := .fields #[.int lo t, .int hi u, .int 1 v] }, toks := tk } := by
  refine wpAny_pyIter_range (IsRange.new ..) (small_one h1 h2 h3 h4) ?_
  have I1 : Inv X pins σ H { s with heap := s.heap.push { cls := .type "range", data := .fields #[.int lo t, .int hi u, .int 1 v] }, toks := tk } := I.kept fun b o e => Heap.get?_push_of_some _ e
  refine ⟨(s.heap.push { cls := .type "range", data := .fields #[.int lo t, .int hi u, .int 1 v] }).objs.size, [(s.heap.push { cls := .type "range", data := .fields #[.int lo t, .int hi u, .int 1 v] }).objs.size], _, _, H, rfl,
    I1.kept (t' := tk) fun b o e => Heap.get?_push_of_some _ e, ⟨false, (fun z => nomatch z), turn_range _ lo (hi - lo).toNat⟩, ?_, fun b hb => ?_, q⟩
  · have e1 : lo + ((0 : Nat) : Int) * 1 = lo := by simp
    have e2 : (((hi - lo).toNat : Nat) : Int) - ((0 : Nat) : Int) = Builtin.Range.rangeSize lo hi 1 := by rw [rangeSize_one]; split <;> omega
    show IsRangeIter _ _ (lo + ((0 : Nat) : Int) * 1) ((((hi - lo).toNat : Nat) : Int) - ((0 : Nat) : Int)) 1
    rw [e1, e2]
    exact Heap.get?_push_size _ rfl
  · have e : b = (s.heap.push { cls := .type "range", data := .fields #[.int lo t, .int hi u, .int 1 v] }).objs.size := by simpa using hb
    subst e
    exact I1.fpOk (Nat.le_refl _) (I1.hok.fresh (Nat.le_refl _))
def iRng1 (ta : TA) : TI := fun σ H R => ta σ H fun vs H1 => ∃ j : Int, vs = [.int j] ∧ -(2 ^ 62) ≤ j ∧ j < 2 ^ 62 ∧ R (Itr 0 j.toNat) H1
theorem pi_range1 {a : Expr} {ta : TA} {p pos : Pos} (hg : Gl X "range") (hm : X.mg "range" = none) (ha : PA X [a] ta) (hs : starEach [a] X.env = [(false, eval a X.env)] := by rfl) : PI X tg (.Call (.Name "range" p) [a] [] pos) (iRng1 ta) := by
  intro pins s σ H R I h
  refine Call_ (ld_blt I hg hm boot_range (PyProof.Rows.callWith_type1 (thn (ha pos pins s σ H _ I h) fun us s1 ⟨vs, H1, I1, r1, q1⟩ => ?_) hs rfl))
  obtain ⟨j, e, q1, q2, q⟩ := q1
  subst e
  cases r1 with
  | cons r rr =>
    cases rr
    obtain ⟨t, rfl⟩ := r
    exact call_range_1 (range_it I1 (by omega) (by omega) q1 q2 (by simpa using q))
/-! ### for -/
/-- W: the invariant by the turn and a measure; N: what the body is to reach -/
def tFor (wi : TI) (g : TG) (tb : TS) : TS := fun D σ H => wi σ H fun J H1 => ∃ W : Nat → Nat → St → Hp → Prop, (∃ m, W 0 m σ H1) ∧ ∀ i m σ H, W i m σ H →
  (J.stop i H ∧ D.nx σ H) ∨ (J.go i H ∧ ∃ N : St → Hp → Prop, (∀ σ' H', N σ' H' → ∃ m', m' < m ∧ W (i + 1) m' σ' H') ∧ ∀ x H', J.yld i H x H' → g x σ H' fun σ2 H2 => tb { D with nx := N, ct := N, bk := D.nx } σ2 H2)
/-- the records at fp as they stand -/
def pinsAt (fp : List Addr) (h : Heap) : List (Addr × Obj) := fp.filterMap fun b => (h.get? b).map fun o => (b, o)
theorem mem_pinsAt {fp : List Addr} {h : Heap} {b : Addr} {o : Obj} (hb : b ∈ fp) (e : h.get? b = some o) : (b, o) ∈ pinsAt fp h := List.mem_filterMap.mpr ⟨b, hb, by rw [e]; rfl⟩
theorem of_pinsAt {fp : List Addr} {h : Heap} {p : Addr × Obj} (hp : p ∈ pinsAt fp h) : p.1 ∈ fp ∧ h.get? p.1 = some p.2 := by
  obtain ⟨b, hb, e⟩ := List.mem_filterMap.mp hp
  cases q : h.get? b with
  | none => rw [q] at e; cases e
  | some o =>
    rw [q] at e
    have e' : (b, o) = p := Option.some.inj e
    subst e'
    exact ⟨hb, q⟩
theorem Inv.pinned {pins : List (Addr × Obj)} {σ : St} {H : Hp} {s : Shared} {fp : List Addr} (I : Inv X pins σ H s) (hf : ∀ b ∈ fp, FpOk X pins H b) (ho : ∀ b ∈ fp, ∃ o, s.heap.get? b = some o ∧ ∀ v, o.data ≠ .cell v) : Inv X (pins ++ pinsAt fp s.heap) σ H s :=
  I.pins_of fun p hp => (List.mem_append.mp hp).elim (fun z => I.pin p (List.mem_append_right _ z)) fun z => by
    obtain ⟨hb, e⟩ := of_pinsAt z
    obtain ⟨f0, f1, f2, _⟩ := hf p.1 hb
    obtain ⟨o, e', d⟩ := ho p.1 hb
    rw [e] at e'; cases e'
    exact ⟨e, f0, f1, f2, d⟩
theorem Inv.unpinned {pins pl : List (Addr × Obj)} {σ : St} {H : Hp} {s : Shared} (I : Inv X (pins ++ pl) σ H s) : Inv X pins σ H s := I.pins_of fun p hp => I.pin p (List.mem_append_right _ (List.mem_append_left _ hp))
theorem ps_for {iter : Expr} {body : List Stmt} {wi : TI} {g : TG} {tb : TS} {pos : Pos} (hp : PassesOwn (model X.prog X.w) X.A X.env X.xe) (hc : true = true) (hi : PI X tg iter wi) (hg : PG X tg g) (hb : PSs X body tb)
    (hs : ∀ x, foldedSetIterable iter X.env x = pure x := by intro _; rfl) : PS X (.For tg iter body [] pos) (tFor wi g tb) := by
  intro pins s σ H D I h
  refine wpAny_For (thn (hi pins s σ H _ I h) fun v s1 h1 => thn h1 fun itv s2 h2 => ?_) hs
  obtain ⟨it, fp, tn, J, H2, e, I2, ⟨cm, hcm, T⟩, st2, f2, W, ⟨m0, w0⟩, turn⟩ := h2
  subst e
  -- what stays true of the iterator's objects through the loop
  have stat : ∀ {H' : Hp}, (∀ b ∈ fp, H' b = none) → ∀ b ∈ fp, FpOk X pins H' b := fun hn b hb => ⟨hn b hb, (f2 b hb).2⟩
  refine codeAny_forLoop_any (fun n s' => ∃ i σ' H', Inv X pins σ' H' s' ∧ tn i s'.heap ∧ (∀ b ∈ fp, H' b = none) ∧ W i n σ' H') ?_ m0 ⟨0, σ, H2, I2, st2, fun b hb => (f2 b hb).1, w0⟩
  rintro n s3 ⟨i, σ3, H3, I3, st3, fr3, w3⟩
  rcases turn i n σ3 H3 w3 with ⟨stop, qn⟩ | ⟨go, N, hN, step⟩
  · refine wpAny_passesOwn hp (thn (T.done X rfl rfl rfl hcm i pins s3 σ3 H3 X.xe I3 (stat fr3) st3 stop) fun r s4 ⟨hr, I4⟩ => ?_)
    subst hr
    exact wpAny_execs_nil ⟨σ3, H3, I4, qn⟩
  · refine wpAny_passesOwn hp (thn (T.item X rfl rfl rfl hcm i pins s3 σ3 H3 X.xe I3 (stat fr3) st3 go) fun r s4 ⟨u, hr, h4⟩ => ?_)
    subst hr
    refine wpAny_passesOwn hp (thn h4 fun _ s5 ⟨x, H5, I5, r5, y5, st5, fr5⟩ => ?_)
    have I5' := I5.pinned (stat fr5) (T.obj _ _ st5)
    refine wpAny_passesOwn hp (thn (hg _ s5 σ3 H5 x u _ I5' r5 (step x H5 y5)) fun _ s6 ⟨σ6, H6, I6, q6⟩ => ?_)
    refine wpAny_passesOwn hp (thn (hb _ s6 σ6 H6 _ I6 q6) fun f s7 q7 => ?_)
    have again : ∀ {σ7 : St} {H7 : Hp}, Inv X (pins ++ pinsAt fp s5.heap) σ7 H7 s7 → N σ7 H7 → ∃ m, m < n ∧ ∃ i σ' H', Inv X pins σ' H' s7 ∧ tn i s7.heap ∧ (∀ b ∈ fp, H' b = none) ∧ W i m σ' H' := fun {σ7 H7} I7 n7 => by
      obtain ⟨m', hm, w7⟩ := hN σ7 H7 n7
      refine ⟨m', hm, i + 1, σ7, H7, I7.unpinned, T.keep _ _ _ st5 fun b hb o e => (I7.pin (b, o) (List.mem_append_right _ (List.mem_append_right _ (mem_pinsAt hb e)))).1, fun b hb => ?_, w7⟩
      obtain ⟨o, e, d⟩ := T.obj _ _ st5 b hb
      exact (I7.pin (b, o) (List.mem_append_right _ (List.mem_append_right _ (mem_pinsAt hb e)))).2.1
    cases f with
    | next => obtain ⟨σ7, H7, I7, n7⟩ := q7; exact again I7 n7
    | cont => obtain ⟨σ7, H7, I7, n7⟩ := q7; exact again I7 n7
    | brk => obtain ⟨σ7, H7, I7, q7⟩ := q7; exact ⟨σ7, H7, I7.unpinned, q7⟩
    | ret v => obtain ⟨x7, σ7, H7, I7, r7, q7⟩ := q7; exact ⟨x7, σ7, H7, I7.unpinned, r7, q7⟩
end

/-! ### the forms one uses -/
/-- over a list that the body leaves as it is -/
theorem for_list {K : PySem.W.Frag} {a : Addr} {xs : List V} {g : TG} {tb : TS} {D : Ends} {σ : St} {H : Hp} (Pv : Nat → St → Hp → Prop) (h0 : Pv 0 σ H) (hl : ∀ i σ H, i ≤ xs.length → Pv i σ H → SqL K H a xs)
    (hs : ∀ i x σ H, xs[i]? = some x → Pv i σ H → g x σ H fun σ2 H2 => tb { D with nx := Pv (i + 1), ct := Pv (i + 1), bk := D.nx } σ2 H2) (hd : ∀ σ H, Pv xs.length σ H → D.nx σ H) :
    ∃ W : Nat → Nat → St → Hp → Prop, (∃ m, W 0 m σ H) ∧ ∀ i m σ H, W i m σ H →
      ((Itl K a).stop i H ∧ D.nx σ H) ∨ ((Itl K a).go i H ∧ ∃ N : St → Hp → Prop, (∀ σ' H', N σ' H' → ∃ m', m' < m ∧ W (i + 1) m' σ' H') ∧ ∀ x H', (Itl K a).yld i H x H' → g x σ H' fun σ2 H2 => tb { D with nx := N, ct := N, bk := D.nx } σ2 H2) := by
  refine ⟨fun i m σ H => m = xs.length - i ∧ i ≤ xs.length ∧ Pv i σ H, ⟨xs.length, by simp, Nat.zero_le _, h0⟩, ?_⟩
  rintro i m σ H ⟨rfl, hi, p⟩
  have q := hl i σ H hi p
  by_cases hlt : i < xs.length
  · refine .inr ⟨⟨xs, xs[i], q, by simp [hlt]⟩, Pv (i + 1), fun σ' H' p' => ⟨xs.length - (i + 1), by omega, rfl, hlt, p'⟩, fun x H' y => ?_⟩
    obtain ⟨e, y⟩ := y
    subst e
    exact hs i x σ _ (y xs q) p
  · have e : i = xs.length := by omega
    subst e
    exact .inl ⟨⟨xs, q, Nat.le_refl _⟩, hd σ H p⟩
theorem for_range {lo : Int} {n : Nat} {g : TG} {tb : TS} {D : Ends} {σ : St} {H : Hp} (Pv : Nat → St → Hp → Prop) (h0 : Pv 0 σ H)
    (hs : ∀ i σ H, i < n → Pv i σ H → g (.int (lo + i)) σ H fun σ2 H2 => tb { D with nx := Pv (i + 1), ct := Pv (i + 1), bk := D.nx } σ2 H2) (hd : ∀ σ H, Pv n σ H → D.nx σ H) :
    ∃ W : Nat → Nat → St → Hp → Prop, (∃ m, W 0 m σ H) ∧ ∀ i m σ H, W i m σ H →
      ((Itr lo n).stop i H ∧ D.nx σ H) ∨ ((Itr lo n).go i H ∧ ∃ N : St → Hp → Prop, (∀ σ' H', N σ' H' → ∃ m', m' < m ∧ W (i + 1) m' σ' H') ∧ ∀ x H', (Itr lo n).yld i H x H' → g x σ H' fun σ2 H2 => tb { D with nx := N, ct := N, bk := D.nx } σ2 H2) := by
  refine ⟨fun i m σ H => m = n - i ∧ i ≤ n ∧ Pv i σ H, ⟨n, by simp, Nat.zero_le _, h0⟩, ?_⟩
  rintro i m σ H ⟨rfl, hi, p⟩
  by_cases hlt : i < n
  · refine .inr ⟨hlt, Pv (i + 1), fun σ' H' p' => ⟨n - (i + 1), by omega, rfl, hlt, p'⟩, fun x H' y => ?_⟩
    obtain ⟨e, y⟩ := y
    subst e y
    exact hs i σ _ hlt p
  · have e : i = n := by omega
    subst e
    exact .inl ⟨Nat.le_refl _, hd σ H p⟩
end L2

namespace L2
open PySem PySem.Spec PyProof.Rows

abbrev R2 := V → V → Hp → VK → Prop
/-- a two-place operation on values: f is binaryOp op, inplaceOp op or compareOp op -/
def OpR (X : Cx) (f : Value → Value → Sem Value) (r : R2) : Prop :=
  ∀ (pins : List (Addr × Obj)) (s : Shared) (σ : St) (H : Hp) (x y : V) (v u : Value) (Q : VK), Inv X pins σ H s → RelV x v → RelV y u → r x y H Q →
    wpAny (model X.prog X.w) X.A (f v u) (EP X pins σ Q) X.xe s
/-- a one-place operation -/
def UnR (X : Cx) (f : Value → Sem Value) (r : V → Hp → VK → Prop) : Prop :=
  ∀ (pins : List (Addr × Obj)) (s : Shared) (σ : St) (H : Hp) (x : V) (v : Value) (Q : VK), Inv X pins σ H s → RelV x v → r x H Q →
    wpAny (model X.prog X.w) X.A (f v) (EP X pins σ Q) X.xe s
/-- a call of a value that is known (a builtin, a type) with values -/
def CallR (X : Cx) (f : Value) (r : List V → Hp → VK → Prop) : Prop :=
  ∀ (pins : List (Addr × Obj)) (s : Shared) (σ : St) (H : Hp) (xs : List V) (us : List Value) (Q : VK), Inv X pins σ H s → Vals xs us → r xs H Q →
    wpAny (model X.prog X.w) X.A (call f us) (EP X pins σ Q) X.xe s
/-- a value's truth -/
def TruR (X : Cx) (r : V → Hp → (Bool → Hp → Prop) → Prop) : Prop :=
  ∀ (pins : List (Addr × Obj)) (s : Shared) (σ : St) (H : Hp) (x : V) (v : Value) (Q : Bool → Hp → Prop), Inv X pins σ H s → RelV x v → r x H Q →
    wpAny (model X.prog X.w) X.A (truthy v) (TP X pins σ Q) X.xe s

def tOp (r : R2) (ta tb : TE) : TE := fun σ H Q => ta σ H fun x H1 => tb σ H1 fun y H2 => r x y H2 Q
def tUn (r : V → Hp → VK → Prop) (ta : TE) : TE := fun σ H Q => ta σ H fun x H1 => r x H1 Q
/-- ints in, under C, and a value out -/
def rI (C : Int → Int → Prop) (g : Int → Int → V) : R2 := fun x y H Q => ∃ i j, x = .int i ∧ y = .int j ∧ C i j ∧ Q (g i j) H
def rI0 (g : Int → Int → V) : R2 := fun x y H Q => ∃ i j, x = .int i ∧ y = .int j ∧ Q (g i j) H
def rU (g : Int → V) : V → Hp → VK → Prop := fun x H Q => ∃ i, x = .int i ∧ Q (g i) H

section
variable {X : Cx} {a b c : Expr} {ta tb tc : TE} {pos : Pos}

theorem binT (ha : PE X a ta) (hb : PE X b tb) {pins : List (Addr × Obj)} {s : Shared} {σ : St} {H : Hp} {R : V → V → Hp → Prop} (I : Inv X pins σ H s)
    (h : ta σ H fun x H1 => tb σ H1 fun y H2 => R x y H2) {Q : Value → Shared → Prop} {f : Value → Value → Sem Value}
    (hf : ∀ v u s2 x y H2, Inv X pins σ H2 s2 → RelV x v → RelV y u → R x y H2 → wpAny (model X.prog X.w) X.A (f v u) Q X.xe s2) :
    wpAny (model X.prog X.w) X.A (eval a X.env) (fun v s₁ => wpAny (model X.prog X.w) X.A (eval b X.env) (fun u s₂ => wpAny (model X.prog X.w) X.A (f v u) Q X.xe s₂) X.xe s₁) X.xe s := by
  refine thn (ha pins s σ H _ I h) fun v s1 ⟨x, H1, I1, r1, q1⟩ => ?_
  refine thn (hb pins s1 σ H1 _ I1 q1) fun u s2 ⟨y, H2, I2, r2, q2⟩ => ?_
  exact hf v u s2 x y H2 I2 r1 r2 q2

theorem pe_op {op : Operator} {r : R2} (ho : OpR X (binaryOp op) r) (ha : PE X a ta) (hb : PE X b tb) : PE X (.BinOp a op b pos) (tOp r ta tb) := by
  intro pins s σ H Q I h
  exact wpAny_BinOp (binT ha hb I h fun v u s2 x y H2 I2 rx ry q => ho pins s2 σ H2 x y v u Q I2 rx ry q)
theorem pe_un {op : UnaryOp} {r : V → Hp → VK → Prop} (ho : UnR X (unaryOp op) r) (ha : PE X a ta) : PE X (.UnaryOp op a pos) (tUn r ta) := by
  intro pins s σ H Q I h
  exact UnaryOp_ (thn (ha pins s σ H _ I h) fun v s1 ⟨x, H1, I1, r1, q1⟩ => ho pins s1 σ H1 x v Q I1 r1 q1)
/-! ### ints -/
theorem opI {f : Value → Value → Sem Value} {C : Int → Int → Prop} {g : Int → Int → Int}
    (rule : ∀ (i j : Int) (t u : Tok) (s : Shared) (Q : Value → Shared → Prop) (E : Value → Shared → Prop), C i j → Q (.int (g i j) s.toks) { s with toks := s.toks + 1 } → wpAny (model X.prog X.w) X.A (f (.int i t) (.int j u)) Q E s) :
    OpR X f (rI C fun i j => .int (g i j)) := by
  intro pins s σ H x y v u Q I rx ry h
  obtain ⟨i, j, rfl, rfl, hc, q⟩ := h
  obtain ⟨t, rfl⟩ := rx
  obtain ⟨t', rfl⟩ := ry
  exact rule i j t t' s _ _ hc ⟨.int (g i j), H, I.tok _, ⟨_, rfl⟩, q⟩
theorem opI0 {f : Value → Value → Sem Value} {g : Int → Int → Int}
    (rule : ∀ (i j : Int) (t u : Tok) (s : Shared) (Q : Value → Shared → Prop) (E : Value → Shared → Prop), Q (.int (g i j) s.toks) { s with toks := s.toks + 1 } → wpAny (model X.prog X.w) X.A (f (.int i t) (.int j u)) Q E s) :
    OpR X f (rI0 fun i j => .int (g i j)) := by
  intro pins s σ H x y v u Q I rx ry h
  obtain ⟨i, j, rfl, rfl, q⟩ := h
  obtain ⟨t, rfl⟩ := rx
  obtain ⟨t', rfl⟩ := ry
  exact rule i j t t' s _ _ ⟨.int (g i j), H, I.tok _, ⟨_, rfl⟩, q⟩
theorem opB0 {f : Value → Value → Sem Value} {g : Int → Int → Bool}
    (rule : ∀ (i j : Int) (t u : Tok) (s : Shared) (Q : Value → Shared → Prop) (E : Value → Shared → Prop), Q (.bool (g i j)) s → wpAny (model X.prog X.w) X.A (f (.int i t) (.int j u)) Q E s) :
    OpR X f (rI0 fun i j => .bl (g i j)) := by
  intro pins s σ H x y v u Q I rx ry h
  obtain ⟨i, j, rfl, rfl, q⟩ := h
  obtain ⟨t, rfl⟩ := rx
  obtain ⟨t', rfl⟩ := ry
  exact rule i j t t' s _ _ ⟨.bl (g i j), H, I, rfl, q⟩

def CDiv (i j : Int) : Prop := 0 < j ∧ j < 1073741824
def CPow (i j : Int) : Prop := 0 ≤ j ∧ j ≤ 1000000 ∧ i.natAbs < 2 ^ 64
def CMul (i j : Int) : Prop := (-(2 ^ 64) < i ∧ i < 2 ^ 64) ∨ (-(2 ^ 64) < j ∧ j < 2 ^ 64)
theorem CMul.ok {i j : Int} (h : CMul i j) : IntMulOk i j := by
  rcases h with ⟨h1, h2⟩ | ⟨h1, h2⟩
  · exact .of_left (intBits_le_64 h1 h2)
  · exact .of_right (intBits_le_64 h1 h2)
theorem op_add : OpR X (binaryOp .Add) (rI0 fun i j => .int (i + j)) := opI0 fun _ _ _ _ _ _ _ q => add_int q
theorem op_sub : OpR X (binaryOp .Sub) (rI0 fun i j => .int (i - j)) := opI0 fun _ _ _ _ _ _ _ q => sub_int q
theorem op_mul : OpR X (binaryOp .Mult) (rI CMul fun i j => .int (i * j)) := opI fun _ _ _ _ _ _ _ hc q => mul_int q hc.ok
/-- // by a positive divisor -/
theorem op_fdiv : OpR X (binaryOp .FloorDiv) (rI CDiv fun i j => .int (i / j)) := opI fun i j _ _ _ _ _ hc q => by
  have h1 : (0 : Int) < j := hc.1
  have h2 : j < 1073741824 := hc.2
  exact floordiv_int (by omega) (by rw [Int.fdiv_eq_ediv_of_nonneg i (by omega)]; exact q) (.inl (PyProof.noPylong_small (by omega)))
/-- % by a positive divisor of any size -/
theorem op_mod : OpR X (binaryOp .Mod) (rI (fun _ j => 0 < j) fun i j => .int (i % j)) := opI fun i j _ _ _ _ _ hc q => by
  have h1 : (0 : Int) < j := hc
  exact mod_int' (by omega) (by rw [Int.fmod_eq_emod_of_nonneg i (by omega)]; exact q)
theorem op_pow : OpR X (binaryOp .Pow) (rI CPow fun i j => .int (i ^ j.toNat)) := opI fun _ _ _ _ _ _ _ hc q => pow_int_small hc.1 hc.2.1 hc.2.2 q
theorem unI {f : Value → Sem Value} {g : Int → Int}
    (rule : ∀ (i : Int) (t : Tok) (s : Shared) (Q : Value → Shared → Prop) (E : Value → Shared → Prop), Q (.int (g i) s.toks) { s with toks := s.toks + 1 } → wpAny (model X.prog X.w) X.A (f (.int i t)) Q E s) :
    UnR X f (rU fun i => .int (g i)) := by
  intro pins s σ H x v Q I rx h
  obtain ⟨i, rfl, q⟩ := h
  obtain ⟨t, rfl⟩ := rx
  exact rule i t s _ _ ⟨.int (g i), H, I.tok _, ⟨_, rfl⟩, q⟩
theorem un_neg : UnR X (unaryOp .USub) (rU fun i => .int (-i)) := unI fun _ _ _ _ _ q => neg_int q
/-! ### bools among ints: n += (a < b) -/
end

/-! ### comparisons -/
/-- the scalars that == tells apart as data does -/
def scal : V → V → Bool
  | .non, .non => true | .non, .int _ => true | .int _, .non => true | .non, .bl _ => true | .bl _, .non => true | .non, .str _ => true | .str _, .non => true
  | .int _, .int _ => true | .bl _, .bl _ => true | .str _, .str _ => true | .byt _, .byt _ => true
  | .int _, .str _ => true | .str _, .int _ => true | .bl _, .str _ => true | .str _, .bl _ => true
  | _, _ => false
def rEq : R2 := fun x y H Q => scal x y = true ∧ Q (.bl (decide (x = y))) H
def rNe : R2 := fun x y H Q => scal x y = true ∧ Q (.bl (!decide (x = y))) H

theorem dec_int {i j : Int} : decide (V.int i = V.int j) = (i == j) := by
  rw [Bool.eq_iff_iff]
  simp
theorem dec_bl {i j : Bool} : decide (V.bl i = V.bl j) = (i == j) := by
  rw [Bool.eq_iff_iff]
  simp
theorem dec_str {i j : Str} : decide (V.str i = V.str j) = (i == j) := by
  rw [Bool.eq_iff_iff]
  simp
theorem dec_byt {i j : Array UInt8} : decide (V.byt i = V.byt j) = (i.toList == j.toList) := by
  rw [Bool.eq_iff_iff]
  cases i
  cases j
  simp

section
variable {X : Cx} {a b c : Expr} {ta tb tc : TE} {pos : Pos}
theorem fin_bl {pins : List (Addr × Obj)} {σ : St} {H : Hp} {s : Shared} {Q : VK} {k k' : Bool} (I : Inv X pins σ H s) (q : Q (.bl k) H) (e : k = k') : EP X pins σ Q (.bool k') s := by
  subst e
  exact ⟨.bl k, H, I, rfl, q⟩
theorem op_eq : OpR X (compareOp .Eq) rEq := by
  intro pins s σ H x y v u Q I rx ry h
  obtain ⟨hs, q⟩ := h
  cases x with
  | non =>
    cases rx
    cases y with
    | non => cases ry; exact PySem.EqNone.eq_none_none (fin_bl I q (by simp))
    | bl j => cases ry; exact PySem.EqNone.eq_none_bool (fin_bl I q (by simp))
    | int j => obtain ⟨t', rfl⟩ := ry; exact PySem.EqNone.eq_none_int (fin_bl I q (by simp))
    | str j => obtain ⟨t', rfl⟩ := ry; exact PySem.EqNone.eq_none_str (fin_bl I q (by simp))
    | _ => exact absurd (show false = true from hs) Bool.false_ne_true
  | bl i =>
    cases rx
    cases y with
    | non => cases ry; exact PySem.EqNone.eq_bool_none (fin_bl I q (by simp))
    | bl j => cases ry; exact eq_bool (fin_bl I q dec_bl)
    | str j => obtain ⟨t', rfl⟩ := ry; exact PySem.EqMixed.eq_bool_str (fin_bl I q (by simp))
    | _ => exact absurd (show false = true from hs) Bool.false_ne_true
  | int i =>
    obtain ⟨t, rfl⟩ := rx
    cases y with
    | non => cases ry; exact PySem.EqNone.eq_int_none (fin_bl I q (by simp))
    | int j => obtain ⟨t', rfl⟩ := ry; exact eq_int (fin_bl I q dec_int)
    | str j => obtain ⟨t', rfl⟩ := ry; exact PySem.EqMixed.eq_int_str (fin_bl I q (by simp))
    | _ => exact absurd (show false = true from hs) Bool.false_ne_true
  | str i =>
    obtain ⟨t, rfl⟩ := rx
    cases y with
    | non => cases ry; exact PySem.EqNone.eq_str_none (fin_bl I q (by simp))
    | bl j => cases ry; exact PySem.EqMixed.eq_str_bool (fin_bl I q (by simp))
    | int j => obtain ⟨t', rfl⟩ := ry; exact PySem.EqMixed.eq_str_int (fin_bl I q (by simp))
    | str j => obtain ⟨t', rfl⟩ := ry; exact eq_str (fin_bl I q dec_str)
    | _ => exact absurd (show false = true from hs) Bool.false_ne_true
  | byt i =>
    obtain ⟨t, rfl⟩ := rx
    cases y with
    | byt j => obtain ⟨t', rfl⟩ := ry; exact PySem.W.eq_bytes (fin_bl I q dec_byt)
    | _ => exact absurd (show false = true from hs) Bool.false_ne_true
  | _ => cases y <;> exact absurd (show false = true from hs) Bool.false_ne_true
theorem op_ne : OpR X (compareOp .NotEq) rNe := by
  intro pins s σ H x y v u Q I rx ry h
  obtain ⟨hs, q⟩ := h
  cases x with
  | non =>
    cases rx
    cases y with
    | non => cases ry; exact PySem.EqNone.ne_none_none (fin_bl I q (by simp))
    | bl j => cases ry; exact PySem.EqNone.ne_none_bool (fin_bl I q (by simp))
    | int j => obtain ⟨t', rfl⟩ := ry; exact PySem.EqNone.ne_none_int (fin_bl I q (by simp))
    | str j => obtain ⟨t', rfl⟩ := ry; exact PySem.EqNone.ne_none_str (fin_bl I q (by simp))
    | _ => exact absurd (show false = true from hs) Bool.false_ne_true
  | bl i =>
    cases rx
    cases y with
    | non => cases ry; exact PySem.EqNone.ne_bool_none (fin_bl I q (by simp))
    | bl j => cases ry; exact ne_bool (fin_bl I q (congrArg not dec_bl))
    | str j => obtain ⟨t', rfl⟩ := ry; exact PySem.EqMixed.ne_bool_str (fin_bl I q (by simp))
    | _ => exact absurd (show false = true from hs) Bool.false_ne_true
  | int i =>
    obtain ⟨t, rfl⟩ := rx
    cases y with
    | non => cases ry; exact PySem.EqNone.ne_int_none (fin_bl I q (by simp))
    | int j => obtain ⟨t', rfl⟩ := ry; exact ne_int (fin_bl I q (congrArg not dec_int))
    | str j => obtain ⟨t', rfl⟩ := ry; exact PySem.EqMixed.ne_int_str (fin_bl I q (by simp))
    | _ => exact absurd (show false = true from hs) Bool.false_ne_true
  | str i =>
    obtain ⟨t, rfl⟩ := rx
    cases y with
    | non => cases ry; exact PySem.EqNone.ne_str_none (fin_bl I q (by simp))
    | bl j => cases ry; exact PySem.EqMixed.ne_str_bool (fin_bl I q (by simp))
    | int j => obtain ⟨t', rfl⟩ := ry; exact PySem.EqMixed.ne_str_int (fin_bl I q (by simp))
    | str j => obtain ⟨t', rfl⟩ := ry; exact ne_str (fin_bl I q (congrArg not dec_str))
    | _ => exact absurd (show false = true from hs) Bool.false_ne_true
  | byt i =>
    obtain ⟨t, rfl⟩ := rx
    cases y with
    | byt j => obtain ⟨t', rfl⟩ := ry; exact PySem.W.ne_bytes (fin_bl I q (congrArg not dec_byt))
    | _ => exact absurd (show false = true from hs) Bool.false_ne_true
  | _ => cases y <;> exact absurd (show false = true from hs) Bool.false_ne_true

theorem op_lt : OpR X (compareOp .Lt) (rI0 fun i j => .bl (decide (i < j))) := opB0 fun _ _ _ _ _ _ _ q => lt_int q
theorem op_le : OpR X (compareOp .LtE) (rI0 fun i j => .bl (decide (i ≤ j))) := opB0 fun _ _ _ _ _ _ _ q => le_int q
theorem op_gt : OpR X (compareOp .Gt) (rI0 fun i j => .bl (decide (j < i))) := opB0 fun _ _ _ _ _ _ _ q => gt_int q
theorem op_ge : OpR X (compareOp .GtE) (rI0 fun i j => .bl (decide (j ≤ i))) := opB0 fun _ _ _ _ _ _ _ q => ge_int q
/-- is None, is not None: the right side a value none -/
theorem op_isN : OpR X (compareOp .Is) (fun x y H Q => y = .non ∧ Q (.bl (decide (x = .non))) H) := by
  intro pins s σ H x y v u Q I rx ry h
  obtain ⟨rfl, q⟩ := h
  cases ry
  refine is_none_gen (fin_bl I q ?_)
  cases x <;> first
    | (cases rx; rfl)
    | (obtain ⟨t, rfl⟩ := rx; rfl)
theorem nomark (b : Expr) {op : CmpOp} (h : op ≠ .In := by decide) (h2 : op ≠ .NotIn := by decide) : behindInMarks op b = false := by
  have e1 : (op == CmpOp.In) = false := by cases op <;> first | rfl | exact absurd rfl h
  have e2 : (op == CmpOp.NotIn) = false := by cases op <;> first | rfl | exact absurd rfl h2
  cases b <;> simp [behindInMarks, e1, e2]
/-- a comparison as a value; hm: nomark b, or (for in, not in) by with_unfolding_all rfl -/
theorem pe_cmpR {op : CmpOp} {r : R2} (ho : OpR X (compareOp op) r) (ha : PE X a ta) (hb : PE X b tb) (hm : behindInMarks op b = false) : PE X (.Compare a [op] [b] pos) (tOp r ta tb) := by
  intro pins s σ H Q I h
  exact wpAny_Compare1 (binT ha hb I h fun v u s2 x y H2 I2 rx ry q => ho pins s2 σ H2 x y v u Q I2 rx ry q) hm
/-- a reading of a value as a test -/
def tTest (t : TE) : TT := fun σ H Q => t σ H fun x H' => ∃ k, x = .bl k ∧ Q k H'
theorem pt_cmpR {op : CmpOp} {r : R2} (ho : OpR X (compareOp op) r) (ha : PE X a ta) (hb : PE X b tb) (hm : behindInMarks op b = false) : PT X (.Compare a [op] [b] pos) (tTest (tOp r ta tb)) := by
  intro pins s σ H Q I h
  refine wpAny_isTrue_Compare1 (thn (ha pins s σ H _ I h) fun v s1 ⟨x, H1, I1, r1, q1⟩ => thn (hb pins s1 σ H1 _ I1 q1) fun u s2 ⟨y, H2, I2, r2, q2⟩ =>
    thn (ho pins s2 σ H2 x y v u _ I2 r1 r2 q2) fun c s3 ⟨z, H3, I3, r3, k, e, q3⟩ => ?_) hm
  subst e
  cases r3
  exact wpAny_truthy_bool ⟨H3, I3, q3⟩
/-- a op1 b op2 c -/
def tChain (r r' : R2) (ta tb tc : TE) : TE := fun σ H Q => ta σ H fun x H1 => tb σ H1 fun y H2 => r x y H2 fun z H3 => ∃ k, z = .bl k ∧
  (if k = true then tc σ H3 fun w' H4 => r' y w' H4 Q else Q (.bl false) H3)
theorem pe_chain {op op' : CmpOp} {r r' : R2} (ho : OpR X (compareOp op) r) (ho' : OpR X (compareOp op') r') (ha : PE X a ta) (hb : PE X b tb) (hc : PE X c tc)
    (hm : lastMarks [op, op'] [b, c] = false := by with_unfolding_all rfl) : PE X (.Compare a [op, op'] [b, c] pos) (tChain r r' ta tb tc) := by
  intro pins s σ H Q I h
  refine Compare_chain (thn (ha pins s σ H _ I h) fun v s1 ⟨x, H1, I1, r1, q1⟩ => chain_link (thn (hb pins s1 σ H1 _ I1 q1) fun u s2 ⟨y, H2, I2, r2, q2⟩ =>
    thn (ho pins s2 σ H2 x y v u _ I2 r1 r2 q2) fun d s3 ⟨z, H3, I3, r3, k, e, q3⟩ => ?_)) hm
  subst e
  cases r3
  refine wpAny_truthy_bool ?_
  cases k with
  | false => exact ite_ff ⟨.bl false, H3, I3, rfl, q3⟩
  | true => exact ite_tt (chain_last (thn (hc pins s3 σ H3 _ I3 q3) fun w' s4 ⟨z', H4, I4, r4, q4⟩ => ho' pins s4 σ H4 y z' u w' Q I4 r2 r4 q4))
/-! ### truth -/
/-- a value's truth by the abstract heap -/
def TruV (K : PySem.W.Frag) (x : V) (H : Hp) (k : Bool) : Prop :=
  match x with
  | .non => k = false
  | .bl b => k = b
  | .int i => k = (i != 0)
  | .str y => y.length ≤ sizeLine ∧ k = ((y.length : Int) != 0)
  | .byt y => y.size ≤ sizeLine ∧ k = ((y.size : Int) != 0)
  | .ref p => (∃ xs, SqL K H p xs ∧ k = !xs.isEmpty) ∨ (∃ xs, SqT K H p xs ∧ k = !xs.isEmpty) ∨ ∃ kvs, H p = some (.dK kvs) ∧ k = !kvs.isEmpty
  | _ => False
theorem isEmpty_kv {κ : Type} {kvs : List (κ × V)} {vs : List (κ × Value)} (r : KV kvs vs) : (!vs.isEmpty) = !kvs.isEmpty := by
  cases r <;> rfl
theorem isEmpty_of {xs : List V} {its : List Value} (r : Vals xs its) : (!its.toArray.isEmpty) = !xs.isEmpty := by
  cases r <;> simp
theorem line63 : (sizeLine : Nat) < 2 ^ 63 := by rw [sizeLine_eq]; decide
theorem tru_ok : TruR X (fun x H Q => ∃ k, TruV X.K x H k ∧ Q k H) := by
  intro pins s σ H x v Q I rx h
  obtain ⟨k, e, q⟩ := h
  have hl := line63
  have hs : sizeLine = 16777216 := sizeLine_eq
  cases x with
  | non =>
    cases rx
    have e' : k = false := e
    subst e'
    exact truthy_none ⟨H, I, q⟩
  | bl b =>
    cases rx
    have e' : k = b := e
    subst e'
    exact wpAny_truthy_bool ⟨H, I, q⟩
  | int i =>
    obtain ⟨t, rfl⟩ := rx
    have e' : k = (i != 0) := e
    subst e'
    exact PySem.P.truthy_int ⟨H, I, q⟩
  | str y =>
    obtain ⟨t, rfl⟩ := rx
    obtain ⟨hy, e'⟩ : y.length ≤ sizeLine ∧ k = ((y.length : Int) != 0) := e
    subst e'
    exact PySem.P.truthy_str (by omega) ⟨H, I.tok _, q⟩
  | byt y =>
    obtain ⟨t, rfl⟩ := rx
    obtain ⟨hy, e'⟩ : y.size ≤ sizeLine ∧ k = ((y.size : Int) != 0) := e
    subst e'
    exact PySem.W.truthy_bytes (by omega) ⟨H, I.tok _, q⟩
  | ref p =>
    cases rx
    have e' : (∃ xs, SqL X.K H p xs ∧ k = !xs.isEmpty) ∨ (∃ xs, SqT X.K H p xs ∧ k = !xs.isEmpty) ∨ ∃ kvs, H p = some (.dK kvs) ∧ k = !kvs.isEmpty := e
    rcases e' with ⟨xs, hx, e'⟩ | ⟨xs, hx, e'⟩ | ⟨kvs, hx, e'⟩
    · subst e'
      obtain ⟨its, r, pl, hz⟩ := I.list hx
      have hlen := r.length
      exact wpAny_truthy_list pl.isList (by simp only [List.size_toArray]; omega) ⟨H, I.tok _, by rw [isEmpty_of r]; exact q⟩
    · subst e'
      obtain ⟨its, r, pl, hz⟩ := I.tuple hx
      have hlen := r.length
      exact truthy_tuple pl (by simp only [List.size_toArray]; omega) ⟨H, I.tok _, by rw [isEmpty_of r]; exact q⟩
    · subst e'
      obtain ⟨hz, hS, vs, r, m⟩ : kvs.length ≤ sizeLine ∧ (p == sysModules) = false ∧ ∃ vs, KV kvs vs ∧ s.heap.DictOf (mixKind X.prog X.w) p vs := I.hok p _ hx
      have hlen : kvs.length = vs.length := Paired.length r
      exact wpAny_truthy_dict hS m (by omega) ⟨H, I.tok _, by rw [isEmpty_kv r]; exact q⟩
  | _ => exact (show False from e).elim
/-- any expression whose test is its value's truth (a name, a call, a subscript, a field ..: he by fun _ => rfl) -/
theorem pt_truth (ha : PE X a ta) (he : ∀ whole, isTrue a X.env whole = (do let v ← whole; standAt a.pos; holding [v] (truthy v))) :
    PT X a (fun σ H Q => ta σ H fun x H' => ∃ k, TruV X.K x H' k ∧ Q k H') := by
  intro pins s σ H Q I h
  exact isTrue_plain (thn (ha pins s σ H _ I h) fun v s1 ⟨x, H1, I1, r1, q1⟩ => tru_ok pins s1 σ H1 x v Q I1 r1 q1) (he _)

/-! ### strs and bytes -/
/-! ### scalar builtins, by CallR -/
theorem vals1 {x : V} {us : List Value} (r : Vals [x] us) : ∃ u, us = [u] ∧ RelV x u := by
  cases r with
  | cons r1 r2 => cases r2; exact ⟨_, rfl, r1⟩
theorem call_abs : CallR X (.builtin "abs") (fun xs H Q => ∃ i, xs = [.int i] ∧ Q (.int (if i < 0 then -i else i)) H) := by
  intro pins s σ H xs us Q I r h
  obtain ⟨i, rfl, q⟩ := h
  obtain ⟨u, rfl, t, rfl⟩ := vals1 r
  exact call_abs_int fun u tk => ⟨.int (if i < 0 then -i else i), H, I.tok _, ⟨_, rfl⟩, q⟩
theorem call_int1 : CallR X (.type "int") (fun xs H Q => (∃ i, xs = [.int i] ∧ Q (.int i) H) ∨ ∃ k, xs = [.bl k] ∧ Q (.int (if k then 1 else 0)) H) := by
  intro pins s σ H xs us Q I r h
  rcases h with ⟨i, rfl, q⟩ | ⟨k, rfl, q⟩
  · obtain ⟨u, rfl, t, rfl⟩ := vals1 r
    exact call_int_int ⟨.int i, H, I, ⟨_, rfl⟩, q⟩
  · obtain ⟨u, rfl, r1⟩ := vals1 r
    cases r1
    exact call_int_bool ⟨.int (if k then 1 else 0), H, I.tok _, ⟨_, rfl⟩, q⟩
theorem call_str_int : CallR X (.type "str") (fun xs H Q => ∃ i, xs = [.int i] ∧ i.natAbs.log2 < 1920 ∧ Q (.str (toString i)) H) := by
  intro pins s σ H xs us Q I r h
  obtain ⟨i, rfl, hz, q⟩ := h
  obtain ⟨u, rfl, t, rfl⟩ := vals1 r
  exact PySem.P.str_of_int hz ⟨.str _, H, I.tok _, ⟨_, rfl⟩, q⟩
end
end L2

namespace L2
open PySem PySem.Spec PyProof.Rows

/-! ### an instance, its attributes a map -/
structure ObjM (h : Heap) (x dx C : Addr) (mA : Str → Option Value) : Prop where
  obj : h.get? x = some (PySem.W.instObj C dx)
  ns : h.Ns1 dx mA
  ne : dx ≠ x

theorem lookIn_ns {h : Heap} {dx : Addr} {mA : Str → Option Value} (n : h.Ns1 dx mA) : ∃ od, h.get? dx = some od ∧ ∀ name, PySem.W.lookIn name od = some (mA name) := by
  obtain ⟨o, es, ep, ho, hd, hk, _, hm⟩ := n
  refine ⟨o, ho, fun name => ?_⟩
  have e := hm name
  unfold nsFind findBy at e
  rw [← Array.find?_toList] at e
  unfold PySem.W.lookIn
  rw [hd]
  dsimp only
  split
  · rename_i y q
    rw [q] at e
    exact congrArg some e
  · rename_i q
    rw [q] at e
    have a : es.toList.any (·.refKey) = false := by
      rw [List.any_eq_false]
      intro y hy
      obtain ⟨z, t, hkey⟩ := hk y (Array.mem_toList_iff.mp hy)
      simp [DictEntry.refKey, hkey]
    have a' : ¬ es.toList.any (·.refKey) = true := by rw [a]; exact Bool.false_ne_true
    rw [if_neg a']
    exact congrArg some e

theorem ObjM.look {h : Heap} {x dx C : Addr} {mA : Str → Option Value} (I : ObjM h x dx C mA) : ∃ od, PySem.W.InstAt h x (PySem.W.instObj C dx) C (some od) ∧ ∀ name, PySem.W.lookIn name od = some (mA name) :=
  let ⟨od, ho, hl⟩ := lookIn_ns I.ns
  ⟨od, ⟨I.obj, rfl, rfl, ho⟩, hl⟩

section
variable {prog : Program} {w : World} {A : Around} {E : Value → Shared → Prop} {s : Shared} {K : PySem.W.Frag} {x dx C f : Addr} {mA : Str → Option Value} {name : Str} {v : Value}

end

/-! ### the attributes as a list of pairs -/
section
variable {P : Program} {w : World} {H H' : Hp} {h h' : Heap} {a C dx : Addr} {fs fs' : List (Str × V)}
theorem ins_get (hok : HOk P w H h) (e : H a = some (.ins C dx fs)) : ∃ mA, ObjM h a dx C mA ∧ (∀ f, RelO (fs.lookup f) (mA f)) ∧ PySem.Within mA (fs.map (·.1)) ∧ fs.length ≤ 1000 ∧ H dx = some (.own a) := by
  obtain ⟨d, z, ne, ob, mA, n, r, q⟩ := (show ObjOk P w H h a (.ins C dx fs) from hok a _ e)
  exact ⟨mA, ⟨ob, n, ne⟩, r, q, z, d⟩
end

/-! ### what of the text a class must have -/
structure Cls (K : PySem.W.Frag) (C : Addr) : Prop where
  pg : PySem.W.plainGet K C Str.empty = true
  hd : PySem.W.hasDictIn K C = true
  po : PySem.W.plainOver K C = true
  sa : PySem.W.findIn K (.ref C) "__setattr__" = some (some (.builtin "object.__setattr__"))
theorem Cls.get {K : PySem.W.Frag} {C : Addr} (c : Cls K C) (f : Str) : PySem.W.plainGet K C f = true := c.pg
section
variable {X : Cx} {pins : List (Addr × Obj)} {σ : St} {H : Hp} {s : Shared} {a C dx : Addr} {fs : List (Str × V)} {f : Str} {v : V} {A : Around} {E : Value → Shared → Prop}

/-- a new instance, tracked, without attributes -/
theorem Inv.made (I : Inv X pins σ H s) : Inv X pins σ (upd (upd H s.heap.objs.size (.own (s.heap.objs.size + 1))) (s.heap.objs.size + 1) (.ins C s.heap.objs.size []))
    { s with heap := (s.heap.push PySem.W.emptyDict).push (PySem.W.instObj C s.heap.objs.size) } := by
  have e1 : (s.heap.push PySem.W.emptyDict).get? s.heap.objs.size = some PySem.W.emptyDict := Heap.get?_push_size s.heap rfl
  have e2 : ((s.heap.push PySem.W.emptyDict).push (PySem.W.instObj C s.heap.objs.size)).get? (s.heap.objs.size + 1) = some (PySem.W.instObj C s.heap.objs.size) := by
    have := Heap.get?_push_size (s.heap.push PySem.W.emptyDict) (o := PySem.W.instObj C s.heap.objs.size) rfl
    rwa [Heap.size_push] at this
  have e3 : (s.heap.push PySem.W.emptyDict).Ns s.heap.objs.size (fun _ => none) := ⟨PySem.W.emptyDict, #[], _, e1, rfl, (fun e he => absurd he (by simp)), fun _ => rfl⟩
  have I1 := I.laid (a := s.heap.objs.size) (o := .own (s.heap.objs.size + 1)) (h' := s.heap.push PySem.W.emptyDict) (t' := s.toks) (fun b u q => Heap.get?_push_of_some _ q) (Nat.le_refl _) ⟨_, e1⟩
  refine I1.laid (a := s.heap.objs.size + 1) (o := .ins C s.heap.objs.size []) (t' := s.toks) (fun b u q => Heap.get?_push_of_some _ q) (Nat.le_of_eq (Heap.size_push _ _)) ?_
  have ne : s.heap.objs.size ≠ s.heap.objs.size + 1 := Nat.ne_of_lt (Nat.lt_succ_self _)
  refine ⟨by rw [upd_ne ne, upd_same], Nat.zero_le _, ne, e2, fun _ => none, (Heap.Ns1.of_empty e3).at fun o q => Heap.get?_push_of_some _ q, fun _ => True.intro, fun y hy => absurd rfl hy⟩

/-- e.f where nothing but the object is asked: through attributeBase (super) and the last hold -/
theorem attr_of {prog : Program} {w : World} {env : Env} {e : Expr} {f : Str} {pos : Pos} {s : Shared} {Q : Value → Shared → Prop} (hb : attributeBase e f env (eval e env) = eval e env)
    (h : wpAny (model prog w) A (eval e env) (fun o s₁ => wpAny (model prog w) A (getAttr o f true) Q E s₁) E s) : wpAny (model prog w) A (eval (.Attribute e f pos) env) Q E s :=
  Attribute_any_ h (by rw [arm_eval_Attribute, hb])
end

/-! ### readings and rules -/
section
variable {X : Cx} {o e value : Expr} {f : Str} {pos pos' tpos : Pos} {ta tv : TE}
end

/-! ### isinstance -/
section
variable {X : Cx} {pins : List (Addr × Obj)} {σ : St} {H : Hp} {s : Shared} {A : Around} {E : Value → Shared → Prop} {Q : Value → Shared → Prop} {c : Value} {b : Bool}
/-- the type of a value, as the fragment's deciders take it; for an instance its class -/
inductive TyOf (K : PySem.W.Frag) (H : Hp) : V → Value → Prop where
  | non : TyOf K H .non (.type "NoneType")
  | bl (x : Bool) : TyOf K H (.bl x) (.type "bool")
  | int (i : Int) : TyOf K H (.int i) (.type "int")
  | str (x : Str) : TyOf K H (.str x) (.type "str")
  | flt (x : UInt64) : TyOf K H (.flt x) (.type "float")
  | lst {a : Addr} {xs : List V} (e : H a = some (.lst xs)) : TyOf K H (.ref a) (.type "list")
  | frz {a : Addr} {o : Obj} {xs : List V} (e : H a = some (.frz o (.lst xs))) : TyOf K H (.ref a) (.type "list")
  | tup {a : Addr} {xs : List V} (e : H a = some (.tup xs)) : TyOf K H (.ref a) (.type "tuple")
  | dK {a : Addr} {kvs : List (Key × V)} (e : H a = some (.dK kvs)) : TyOf K H (.ref a) (.type "dict")
  | dT {a : Addr} {kvs : List (List Key × V)} (e : H a = some (.dT kvs)) : TyOf K H (.ref a) (.type "dict")
  | ins {a C dx : Addr} {fs : List (Str × V)} (e : H a = some (.ins C dx fs)) (cl : Cls K C) (ha : PySem.W.findIn K (.ref C) "__class__" = some (some (.builtin "object.__class__")))
      (hn : PySem.W.specialIn K (.builtin "object.__class__") "__get__" = some (some (.builtin "getset_descriptor.__get__"))) (htk : PySem.W.takesIn K (.builtin "object.__class__") = some true)
      (hm : PySem.W.mroIn K C (.type "object") = some true) : TyOf K H (.ref a) (.ref C)
/-- isinstance(x, c) for one class c, a built-in or an own one: kitOne's answer -/
theorem isinst_ok {x : V} {u t : Value} (I : Inv X pins σ H s) (rx : RelV x u) (ty : TyOf X.K H x t) (e : PySem.W.kitOne X.K t c = some b) (h : ∀ tk, Q (.bool b) { s with toks := tk }) :
    wpAny (model X.prog X.w) A (call (.builtin "isinstance") [u, c]) Q E s := by
  cases ty with
  | non => cases (show u = Value.none from rx); exact PySem.W.kia_one PySem.W.kitx_none I.kIn True.intro e (fun z => nomatch z) h
  | bl y => cases (show u = Value.bool y from rx); exact PySem.W.kia_one PySem.W.kitx_bool I.kIn True.intro e (fun z => nomatch z) h
  | int i => obtain ⟨t, q⟩ := (show ∃ t, u = Value.int i t from rx); cases q; exact PySem.W.kia_one PySem.W.kitx_int I.kIn True.intro e (fun z => nomatch z) h
  | str y => obtain ⟨t, q⟩ := (show ∃ t, u = Value.str y t from rx); cases q; exact PySem.W.kia_one PySem.W.kitx_str I.kIn True.intro e (fun z => nomatch z) h
  | flt y => obtain ⟨t, q⟩ := (show ∃ t, u = Value.float y t from rx); cases q; exact PySem.W.kia_one PySem.W.kitx_float I.kIn True.intro e (fun z => nomatch z) h
  | @lst a xs ea =>
    cases (show u = Value.ref a from rx)
    obtain ⟨_, _, n, _, h1⟩ := (show ObjOk X.prog X.w H s.heap a (.lst xs) from I.hok a _ ea)
    exact PySem.W.kia_one PySem.W.kitx_list I.kIn ⟨_, h1, rfl⟩ e (fun z => nomatch z) h
  | @frz a ob xs ea =>
    cases (show u = Value.ref a from rx)
    obtain ⟨_, _, _, n, _, h1⟩ := (show ObjOk X.prog X.w H s.heap a (.frz ob (.lst xs)) from I.hok a _ ea)
    exact PySem.W.kia_one PySem.W.kitx_list I.kIn ⟨_, h1, rfl⟩ e (fun z => nomatch z) h
  | @tup a xs ea =>
    cases (show u = Value.ref a from rx)
    obtain ⟨_, _, _, p⟩ := (show ObjOk X.prog X.w H s.heap a (.tup xs) from I.hok a _ ea)
    obtain ⟨o, h1, h2, _⟩ := p
    exact PySem.W.kia_one PySem.W.kitx_tuple I.kIn ⟨o, h1, h2⟩ e (fun z => nomatch z) h
  | @dK a kvs ea =>
    cases (show u = Value.ref a from rx)
    obtain ⟨_, _, vs, _, p⟩ := (show ObjOk X.prog X.w H s.heap a (.dK kvs) from I.hok a _ ea)
    obtain ⟨o, es, ep, h1, h2, _⟩ := p
    exact PySem.W.kia_one PySem.W.kitx_dict I.kIn ⟨o, h1, h2.1⟩ e (fun z => nomatch z) h
  | @dT a kvs ea =>
    cases (show u = Value.ref a from rx)
    obtain ⟨_, _, xs, _, o, es, ep, h1, h2, _⟩ := (show ObjOk X.prog X.w H s.heap a (.dT kvs) from I.hok a _ ea)
    exact PySem.W.kia_one PySem.W.kitx_dict I.kIn ⟨o, h1, h2.1⟩ e (fun z => nomatch z) h
  | @ins a C dx fs ea cl ha hn htk hm =>
    cases (show u = Value.ref a from rx)
    obtain ⟨mA, O, _⟩ := ins_get I.hok ea
    obtain ⟨od, J, _⟩ := O.look
    exact PySem.W.kia_one (PySem.W.kitx_own (cl.get _) cl.hd ha hn htk hm) I.kIn J e (fun z => nomatch z) h
end
end L2

namespace L2
open PySem PySem.Spec PyProof.Rows

/-! ### room -/
structure Room (k : Nat) (A : Around) : Prop where
  dp : A.depth + 3 * k + 5 < recursionLimit
  un : A.units + 16 * k + 200 < cLine
theorem Room.mono {j k : Nat} {A : Around} (r : Room k A) (h : j ≤ k) : Room j A := ⟨by have := r.dp; omega, by have := r.un; omega⟩
theorem Room.deeper {k : Nat} {A : Around} (r : Room (k + 1) A) (env : Env) : Room k (A.deeper env) :=
  ⟨by have := r.dp; show A.depth + 1 + 3 * k + 5 < _; omega, by have := r.un; show A.units + 3 + 16 * k + 200 < _; omega⟩
theorem make_depth {A : Around} {C : Addr} {us : List Value} {kw : List (Str × Value)} : (A.under (.builtin "type.__call__" ⟨.ref C :: us, kw⟩)).depth = A.depth + 1 := by
  first | rfl | simp [Around.under, Code.weight, Code.isCreation, Code.isGuard, Code.isCaller, Code.frames, Code.isFrame, guardIds]
theorem make_units {A : Around} {C : Addr} {us : List Value} {kw : List (Str × Value)} : (A.under (.builtin "type.__call__" ⟨.ref C :: us, kw⟩)).units = A.units + 1 := by
  first | rfl | simp [Around.under, Code.cUnits, Code.frames, Code.isFrame]
theorem Room.make {k : Nat} {A : Around} (r : Room (k + 1) A) (C : Addr) (us : List Value) (kw : List (Str × Value)) : Room k (A.under (.builtin "type.__call__" ⟨.ref C :: us, kw⟩)) :=
  ⟨by have := r.dp; rw [make_depth]; omega, by have := r.un; rw [make_units]; omega⟩
theorem Room.depth {k : Nat} {A : Around} (r : Room k A) : A.depth < recursionLimit := by have := r.dp; omega
theorem Room.units {k : Nat} {A : Around} (r : Room k A) : A.units + 64 < cLine := by have := r.un; omega
/-! ### argument lists and displays -/
def tNil : TA := fun _ H Q => Q [] H
def tCons (ta : TE) (tr : TA) : TA := fun σ H Q => ta σ H fun x H1 => tr σ H1 fun xs H2 => Q (x :: xs) H2
section
variable {X : Cx} {e : Expr} {es : List Expr} {te : TE} {t : TA} {pos : Pos}
theorem pa_nil : PA X [] tNil := fun _ _ _ _ H Q I h => Calls.spliced_nil ⟨[], H, I, .nil, h⟩
theorem pa_cons (ha : PE X e te) (hr : PA X es t) (hs : starEach (e :: es) X.env = (false, eval e X.env) :: starEach es X.env := by rfl) : PA X (e :: es) (tCons te t) := by
  intro pos pins s σ H Q I h
  rw [hs]
  show wpAny _ _ (spliced ((false, eval e X.env) :: backTo pos (starEach es X.env))) _ _ s
  refine Calls.spliced_cons (thn (ha pins s σ H _ I h) fun u s1 ⟨x, H1, I1, r1, q1⟩ => ?_)
  exact thn (hr pos pins s1 σ H1 _ I1 q1) fun us s2 ⟨xs, H2, I2, r2, q2⟩ => ⟨x :: xs, H2, I2, .cons r1 r2, q2⟩

/-- a tuple, a list of written items -/
def tTup (t : TA) : TE := fun σ H Q => t σ H fun xs H1 => xs.length ≤ sizeLine ∧ ∀ p, H1 p = none → Q (.ref p) (upd H1 p (.tup xs))
def tLst (t : TA) : TE := fun σ H Q => t σ H fun xs H1 => xs.length ≤ sizeLine ∧ ∀ p, H1 p = none → Q (.ref p) (upd H1 p (.lst xs))
theorem pe_tup {x1} (h : PA X es t) : PE X (.Tuple es x1 pos) (tTup t) := by
  intro pins s σ H Q I hq
  refine wpAny_Tuple_spliced (thn (h pos pins s σ H _ I hq) fun us s1 ⟨xs, H1, I1, r, z, q⟩ => ⟨by rw [← r.length]; exact z, ?_⟩)
  have hf : H1 s1.heap.objs.size = none := I1.hok.fresh (Nat.le_refl _)
  refine ⟨.ref s1.heap.objs.size, upd H1 s1.heap.objs.size (.tup xs), I1.laid (t' := s1.toks) (fun b u e => Heap.get?_push_of_some _ e) (Nat.le_refl _) ?_, rfl, q _ hf⟩
  exact ⟨z, us, r, ⟨_, Heap.get?_push_size _ rfl, rfl, _, rfl⟩⟩
theorem pe_lst (h : PA X es t) : PE X (.List es pos) (tLst t) := by
  intro pins s σ H Q I hq
  refine wpAny_List_spliced (thn (h pos pins s σ H _ I hq) fun us s1 ⟨xs, H1, I1, r, z, q⟩ => ⟨by rw [← r.length]; exact z, ?_⟩)
  have hf : H1 s1.heap.objs.size = none := I1.hok.fresh (Nat.le_refl _)
  refine ⟨.ref s1.heap.objs.size, upd H1 s1.heap.objs.size (.lst xs), I1.laid (t' := s1.toks) (fun b u e => Heap.get?_push_of_some _ e) (Nat.le_refl _) ?_, rfl, q _ hf⟩
  exact ⟨z, us, 0, r, Heap.get?_push_size _ rfl⟩
end

/-! ### what a def promises -/
/-- a def's promise: the bound arguments in the parameters' order, the heap, the wanted end, the wanted exception -/
abbrev Sp := List V → Hp → VK → XK → Prop
/-- how an exception lies behind a call (file 08 gives it): the callers' frames, abstract heap and state ahead of the call, the wish, the exception, the state -/
abbrev CXT := List Env → Hp → Shared → XK → Value → Shared → Prop

/-- the state at a call -/
structure Env0 (P : Program) (w : World) (K : PySem.W.Frag) (mg : Str → Option Value) (base : Heap) (A : Around) (outer : List Env) (s : Shared) (H : Hp) : Prop where
  frames : A.frames = some outer
  mod : Mod K mg base
  bs : ∀ b o, base.get? b = some o → s.heap.get? b = some o ∧ H b = none
  bsz : base.objs.size ≤ s.heap.objs.size
  funs : s.heap.FunFrames base outer
  frf : ∀ b ∈ frs outer, H b = none
  hok : HOk P w H s.heap
  bare : AllBare s.gens
  hq : ∃ ch, Chain s.heap ch ∧ A.handled = headV ch ∧ ∀ x ∈ ch, H x = none
/-- a call's end -/
def CE (outer : List Env) (P : Program) (w : World) (H : Hp) (s : Shared) (Q : VK) (u : Value) (s' : Shared) : Prop :=
  ∃ v H', s'.os = s.os ∧ AllBare s'.gens ∧ Un (frs outer) [] H H' s.heap s'.heap ∧ HOk P w H' s'.heap ∧ RelV v u ∧ Q v H'
def CR (CX : CXT) (outer : List Env) (P : Program) (w : World) (H : Hp) (s : Shared) (Q : VK) (E : XK) (r : Result) (s' : Shared) : Prop :=
  match r with
  | .ok (.ret u) => CE outer P w H s Q u s'
  | .ok _ => False
  | .error e => CX outer H s E e s'
structure FnOk (P : Program) (w : World) (K : PySem.W.Frag) (mg : Str → Option Value) (base : Heap) (CX : CXT) (k : Nat) (f : Addr) (fd : FuncData) (ps : List Str) (sp : Sp) : Prop where
  len : ∀ vs H Q E, sp vs H Q E → vs.length = ps.length
  run : ∀ (A : Around) (outer : List Env) (s : Shared) (H : Hp) (args : Args) (us : List Value) (vs : List V) (Q : VK) (E : XK), Room k A → Env0 P w K mg base A outer s H → BindsTo s fd args (ps.zip us) → Vals vs us → sp vs H Q E →
    codeAny (model P w) A (.call (.ref f) args) (CR CX outer P w H s Q E) s
theorem FnOk.mono {P : Program} {w : World} {K : PySem.W.Frag} {mg : Str → Option Value} {base : Heap} {CX : CXT} {j k : Nat} {f : Addr} {fd : FuncData} {ps : List Str} {sp : Sp} (F : FnOk P w K mg base CX j f fd ps sp) (h : j ≤ k) :
    FnOk P w K mg base CX k f fd ps sp := ⟨F.len, fun A outer s H args us vs Q E hr => F.run A outer s H args us vs Q E (hr.mono h)⟩
section
variable {X : Cx} {pins : List (Addr × Obj)} {σ : St} {H : Hp} {s s' : Shared}
/-- from a body: what a callee wants -/
theorem Inv.env0 (I : Inv X pins σ H s) : Env0 X.prog X.w X.K X.mg X.base X.A X.stack s H :=
  ⟨I.ok.frames, I.ok.mod, I.bs, Nat.le_trans I.ok.bsz I.sz, I.stack, I.stkFree, I.hok, I.bare, I.hq1⟩
/-- behind a call -/
theorem Inv.after {Q : VK} {u : Value} (I : Inv X pins σ H s) (h : CE X.stack X.prog X.w H s Q u s') : EP X pins σ Q u s' := by
  obtain ⟨v, H', os, bare, un, hok, r, q⟩ := h
  obtain ⟨hh, g, d, t, os'⟩ := s'
  obtain rfl : os' = s.os := os
  exact ⟨v, H', I.call (h' := hh) (g' := g) (d' := d) (t' := t) (ch := []) un hok bare (fun b z => absurd z (by simp)), r, q⟩
end

/-! ### calls -/
/-- f(..): the written arguments, then the defaults dvs; E: what is wanted of an exception -/
def tCall (sp : Sp) (dvs : List V) (E : St → XK) (t : TA) : TE := fun σ H Q => t σ H fun vs H1 => sp (vs ++ dvs) H1 Q (E σ)
/-- how the parameters are bound: us the positional arguments, kw the keywords' values by name, ds the defaults that fill up -/
def Binds (K : PySem.W.Frag) (fd : FuncData) (ps : List Str) (ds : List Value) : Prop :=
  ∀ (s : Shared) (us : List Value), K.In s.heap → (us ++ ds).length = ps.length → BindsTo s fd ⟨us, []⟩ (ps.zip (us ++ ds))
/-- every parameter is given -/
theorem Binds.all {K : PySem.W.Frag} {fd : FuncData} {ps : List Str} (h : ∀ us : List Value, us.length = ps.length → bindArgs fd ⟨us, []⟩ = pure (ps.zip us)) : Binds K fd ps [] := fun s us _ hl => by
  rw [List.append_nil] at hl ⊢
  exact .of_eq (h us hl)

/-- an exception of a callee reaches what this body wants of exceptions -/
def Passes (CX : CXT) (X : Cx) (E : St → XK) : Prop := ∀ (pins : List (Addr × Obj)) (σ : St) (H : Hp) (s : Shared) (e : Value) (s' : Shared), Inv X pins σ H s → CX X.stack H s (E σ) e s' → X.xe e s'

section
variable {X : Cx} {CX : CXT} {k : Nat} {f C : Addr} {fd : FuncData} {ps : List Str} {sp : Sp} {dvs : List V} {ds : List Value} {E : St → XK} {x m : Str} {p pos apos : Pos} {e o : Expr} {es : List Expr} {ta : TE} {t : TA}

/-- the callee runs -/
theorem run_fn {pins : List (Addr × Obj)} {σ : St} {H : Hp} {s : Shared} {Q : VK} {us : List Value} {vs : List V} (F : FnOk X.prog X.w X.K X.mg X.base CX k f fd ps sp) (hr : Room k X.A) (hb : Binds X.K fd ps ds) (hd : Vals dvs ds) (hx : Passes CX X E)
    (I : Inv X pins σ H s) (r : Vals vs us) (h : sp (vs ++ dvs) H Q (E σ)) : wpAny (model X.prog X.w) X.A (call (.ref f) us) (EP X pins σ Q) X.xe s := by
  have r2 : Vals (vs ++ dvs) (us ++ ds) := r.append hd
  have hl : (us ++ ds).length = ps.length := by rw [← r2.length]; exact F.len _ _ _ _ h
  refine wpAny_call (codeAny_mono (F.run X.A X.stack s H ⟨us, []⟩ (us ++ ds) (vs ++ dvs) Q (E σ) hr I.env0 (hb s us I.kIn hl) r2 h) fun r s' hq => ?_)
  cases r with
  | error e => exact hx pins σ H s e s' I hq
  | ok fl =>
    cases fl with
    | ret u => exact I.after hq
    | next => exact False.elim hq
    | brk => exact False.elim hq
    | cont => exact False.elim hq

theorem pe_call (F : FnOk X.prog X.w X.K X.mg X.base CX k f fd ps sp) (hr : Room k X.A) (hg : Gl X x) (hm : X.mg x = some (.ref f)) (hk : PySem.W.keepIn X.K (.ref f) = true) (hb : Binds X.K fd ps ds) (hd : Vals dvs ds) (hx : Passes CX X E)
    (ha : PA X (e :: es) t) (hdb : (x == ("__debug__" : Str)) = false := by decide) (he : starEach (e :: es) X.env = (false, eval e X.env) :: starEach es X.env := by rfl) (hpl : (backTo pos (starEach es X.env)).any (·.1) = false := by rfl) :
    PE X (.Call (.Name x p) (e :: es) [] pos) (tCall sp dvs E t) := by
  intro pins s σ H Q I h
  refine wpAny_Call_Name_kw (ld_glob I hg hm ?_ hdb)
  refine PySem.W.callWith_K (h₀ := X.base) I.ok.mod.kin hk (thn (ha pos pins s σ H _ I h) fun us s1 ⟨vs, H1, I1, r, q⟩ => ⟨I1.kIn, ?_⟩) he hpl
  exact run_fn F hr hb hd hx I1 r q
end

/-! ### keywords -/
section
variable {X : Cx} {CX : CXT} {k : Nat} {f C : Addr} {fd : FuncData} {ps ks : List Str} {sp : Sp} {E : St → XK} {x m : Str} {p pos apos kpos : Pos} {e o : Expr} {es : List Expr} {kws : List Keyword} {te ta : TE} {t tk : TA} {nm : Option Str}
variable {g : List Value → List Value → List Value} {gV : List V → List V → List V}
end

/-! ### a def's body keeps its promise -/
/-- names: the parameters first -/
structure FnScope (N P : List Str) (sc : Scope) : Prop where
  kind : sc.kind = .function
  co : sc.isCoroutine = false
  gen : sc.isGenerator = false
  nd : N.Nodup
  pre : N.take P.length = P
  par : ∀ x ∈ P, sc.names.lookup x = some .local ∨ sc.names.lookup x = some .cell
  nofree : ∀ y ∈ sc.names, y.2 ≠ .free

theorem bindL_out {kindOf : Str → Option NameKind} {x : Str} : ∀ {binds : List (Str × Value)} {m : Str → Option Value}, (∀ v, (x, v) ∉ binds) → bindL kindOf binds m x = m x
  | [], _, _ => rfl
  | (n, v) :: r, m, h => by
    unfold bindL
    rw [bindL_out fun w hw => h w (List.mem_cons_of_mem _ hw)]
    split
    · have : x ≠ n := by rintro rfl; exact h v List.mem_cons_self
      simp [this]
    · rfl
theorem bindC_out {kindOf : Str → Option NameKind} {x : Str} : ∀ {binds : List (Str × Value)} {m : Str → Option Value}, (∀ v, (x, v) ∉ binds) → bindC kindOf binds m x = m x
  | [], _, _ => rfl
  | (n, v) :: r, m, h => by
    unfold bindC
    rw [bindC_out fun w hw => h w (List.mem_cons_of_mem _ hw)]
    split
    · rfl
    · have : x ≠ n := by rintro rfl; exact h v List.mem_cons_self
      simp [this]
theorem bindL_get {kindOf : Str → Option NameKind} {x : Str} {v : Value} : ∀ {P : List Str} {vs : List Value} {i : Nat} {m : Str → Option Value}, P.Nodup → P[i]? = some x → vs[i]? = some v → kindOf x = some .local →
    bindL kindOf (P.zip vs) m x = some v
  | [], _, _, _, _, h, _, _ => by simp at h
  | _ :: _, [], _, _, _, _, h, _ => by simp at h
  | p :: P, w :: vs, 0, m, nd, h1, h2, hk => by
    simp at h1 h2; subst h1; subst h2
    show bindL kindOf ((p, w) :: P.zip vs) m p = _
    unfold bindL
    rw [bindL_out fun v hv => (List.nodup_cons.mp nd).1 (List.of_mem_zip hv).1, if_pos hk]
    simp
  | p :: P, w :: vs, i + 1, m, nd, h1, h2, hk => by
    show bindL kindOf ((p, w) :: P.zip vs) m x = _
    unfold bindL
    exact bindL_get (i := i) (List.nodup_cons.mp nd).2 (by simpa using h1) (by simpa using h2) hk
theorem bindC_get {kindOf : Str → Option NameKind} {x : Str} {v : Value} : ∀ {P : List Str} {vs : List Value} {i : Nat} {m : Str → Option Value}, P.Nodup → P[i]? = some x → vs[i]? = some v → kindOf x ≠ some .local →
    bindC kindOf (P.zip vs) m x = some v
  | [], _, _, _, _, h, _, _ => by simp at h
  | _ :: _, [], _, _, _, _, h, _ => by simp at h
  | p :: P, w :: vs, 0, m, nd, h1, h2, hk => by
    simp at h1 h2; subst h1; subst h2
    show bindC kindOf ((p, w) :: P.zip vs) m p = _
    unfold bindC
    rw [bindC_out fun v hv => (List.nodup_cons.mp nd).1 (List.of_mem_zip hv).1, if_neg hk]
    simp
  | p :: P, w :: vs, i + 1, m, nd, h1, h2, hk => by
    show bindC kindOf ((p, w) :: P.zip vs) m x = _
    unfold bindC
    exact bindC_get (i := i) (List.nodup_cons.mp nd).2 (by simpa using h1) (by simpa using h2) hk

/-- the names' values at the entry -/
def start (N : List Str) (vs : List V) : St := vs.map some ++ List.replicate (N.length - vs.length) none

/-- the pins of what is being handled -/
noncomputable def hpins (A : Around) (h : Heap) (H : Hp) : List (Addr × Obj) := open Classical in if q : ∃ ch, Chain h ch ∧ A.handled = headV ch ∧ ∀ x ∈ ch, H x = none then pinsAt (Classical.choose q) h else []
theorem hpins_at {A : Around} {h : Heap} {H : Hp} {p : Addr × Obj} (m : p ∈ hpins A h H) : ∃ vs, h.get? p.1 = some p.2 ∧ H p.1 = none ∧ p.2.data = .fields vs := by
  unfold hpins at m
  split at m
  · rename_i q
    obtain ⟨c, _, n⟩ := Classical.choose_spec q
    obtain ⟨a, b⟩ := of_pinsAt m
    obtain ⟨o, vs, e, d⟩ := c.there a
    rw [b] at e; cases e
    exact ⟨vs, b, n _ a, d⟩
  · cases m
theorem hpins_ok {A : Around} {h : Heap} {H : Hp} (q : ∃ ch, Chain h ch ∧ A.handled = headV ch ∧ ∀ x ∈ ch, H x = none) : HP A (hpins A h H) := by
  unfold hpins
  rw [dif_pos q]
  obtain ⟨c, e, n⟩ := Classical.choose_spec q
  exact ⟨_, c.nd, e, fun i x z => let ⟨o, vs, a, b⟩ := c.lk i x z; ⟨o, vs, mem_pinsAt (List.mem_of_getElem? z) a, b⟩⟩
/-- the context of a def's body, at its entry; an exception leaves the frame, then lies as CX says -/
noncomputable def cxOf (CX : CXT) (P : Program) (w : World) (K : PySem.W.Frag) (mg : Str → Option Value) (base : Heap) (N : List Str) (qual : Str) (scope : Scope) (f : Addr) (cd : Value) (A : Around) (outer : List Env) (s : Shared) (H : Hp) (E : XK) : Cx where
  prog := P
  w := w
  K := K
  mg := mg
  base := base
  A := A.deeper (envOfC qual scope s.heap.objs.size f cd)
  N := N
  s_0 := s
  H_0 := H
  env := envOfC qual scope s.heap.objs.size f cd
  outer := outer
  stack := envOfC qual scope s.heap.objs.size f cd :: outer
  ex := []
  calm := A.handled.isNone
  fn := fun _ => true
  pn := hpins A s.heap H
  xe := fun e s' => wpAny (model P w) (A.deeper (envOfC qual scope s.heap.objs.size f cd)) (leaving (envOfC qual scope s.heap.objs.size f cd) e) (fun _ s'' => CX outer H s E e s'') (fun e' s'' => CX outer H s E e' s'') s'

theorem cell_has {sc : Scope} {n : Nat} {x : Str} (h : sc.names.lookup x = some .cell) : ∃ c, (cellsFrom n sc.names []).lookup x = some c := by
  have q := PySem.W.cellsFrom_some sc.names n [] (.inl h)
  exact Option.isSome_iff_exists.mp q

theorem pin_start {P : Program} {w : World} {K : PySem.W.Frag} {mg : Str → Option Value} {base : Heap} {A : Around} {outer : List Env} {s : Shared} {H : Hp} {h1 : Heap} (e0 : Env0 P w K mg base A outer s H) (hk : ∀ b o, s.heap.get? b = some o → h1.get? b = some o)
    {p : Addr × Obj} (hp : p ∈ hpins A s.heap H ++ []) : h1.get? p.1 = some p.2 ∧ H p.1 = none ∧ p.1 ≠ s.heap.objs.size ∧ p.1 ∉ frs outer ∧ ∀ v, p.2.data ≠ .cell v := by
  rw [List.append_nil] at hp
  obtain ⟨vs, e, n, d⟩ := hpins_at hp
  refine ⟨hk _ _ e, n, Nat.ne_of_lt (Heap.lt_size e), fun z => ?_, fun v z => by rw [d] at z; cases z⟩
  obtain ⟨_, o, ho, nf⟩ := e0.funs.mem z
  rw [e] at ho; cases ho
  exact nf vs d
theorem inv_start {CX : CXT} {P : Program} {w : World} {K : PySem.W.Frag} {mg : Str → Option Value} {base : Heap} {N ps : List Str} {qual : Str} {scope : Scope} {f : Addr} {cd : Value} {A : Around} {outer : List Env} {s s1 : Shared} {H : Hp} {E : XK} {us : List Value} {vs : List V}
    (S : FnScope N ps scope) (e0 : Env0 P w K mg base A outer s H) (hl : vs.length = ps.length) (r : Vals vs us)
    (x : InCallC s s.heap.objs.size (bindL (envOfC qual scope s.heap.objs.size f cd).kindOf (ps.zip us) fun _ => none) (cellsFrom (s.heap.objs.size + 1) scope.names []) (bindC (envOfC qual scope s.heap.objs.size f cd).kindOf (ps.zip us) fun _ => none) s1) :
    Inv (cxOf CX P w K mg base N qual scope f cd A outer s H E) [] (start N vs) H s1 := by
  have hpl : ps.length ≤ N.length := by have := congrArg List.length S.pre; rw [List.length_take] at this; omega
  obtain ⟨h1, tk, rfl, hk⟩ := x.done
  have noA : ∀ b : Addr, b ∉ (cxOf CX P w K mg base N qual scope f cd A outer s H E).ex := fun b z => absurd (show b ∈ ([] : List Addr) from z) (by simp)
  refine ⟨⟨e0.mod, S.kind, rfl, rfl, Nat.le_refl _, fun y z c h1 h2 => ?_, fun y hy => ?_, fun y c _ h => ?_, fun z => (by have z : A.handled.isNone = true := z; show A.handled = none; simpa using z), hpins_ok e0.hq, Around.frames_deeper e0.frames, .inr ⟨rfl, rfl⟩, fun b z => absurd z (noA b), e0.bs, e0.bsz, fun b _ _ => noA b, fun b z => absurd z (noA b), e0.funs, e0.frf⟩,
    rfl, e0.bare, Un.kept hk, ⟨_, x.toInCall.ns, fun i y v h1 h2 h3 => ?_⟩, fun y c h => ⟨_, x.cell y c h⟩, e0.hok.fresh (Nat.le_refl _), fun y c h => ?_, fun p hp => ?pp, e0.hok.kept hk, ?_⟩
  case pp => exact pin_start e0 hk hp
  · exact name_of_addr x.apart (PySem.mem_of_lookup h1) (PySem.mem_of_lookup h2)
  · have hy : scope.names.lookup y = some .cell ∨ scope.names.lookup y = some .free := hy
    rcases hy with hy | hy
    · exact cell_has hy
    · exact absurd rfl (S.nofree _ (PySem.mem_of_lookup hy))
  · exact Nat.le_of_lt (x.above y c (PySem.mem_of_lookup h))
  · have hi : i < vs.length := by
      unfold start at h2
      by_cases hi : i < vs.length
      · exact hi
      · rw [List.getElem?_append_right (by simpa using hi)] at h2
        rw [List.getElem?_replicate] at h2
        split at h2 <;> cases h2
    have ha : vs[i]? = some v := by
      unfold start at h2
      rw [List.getElem?_append_left (by simpa using hi), List.getElem?_map] at h2
      cases e : vs[i]? with
      | none => rw [e] at h2; cases h2
      | some a => rw [e] at h2; cases h2; rfl
    obtain ⟨u, hu, rv⟩ := r.get ha
    have hp : ps[i]? = some y := by
      rw [← S.pre, List.getElem?_take_of_lt (by omega)]; exact h1
    have ndP : ps.Nodup := by rw [← S.pre]; exact S.nd.sublist (List.take_sublist _ _)
    refine ⟨u, rv, ?_⟩
    rcases S.par y (List.mem_of_getElem? hp) with k | k
    · exact .inl ⟨k, bindL_get ndP hp hu k⟩
    · obtain ⟨c, e⟩ := cell_has (n := s.heap.objs.size + 1) k
      refine .inr ⟨.inl k, c, e, ?_⟩
      have q := x.cell y c e
      rw [bindC_get ndP hp hu (by show scope.names.lookup y ≠ _; rw [k]; decide)] at q
      exact q
  · exact .inl (e0.hok.fresh (Nat.le_of_lt (x.above y c (PySem.mem_of_lookup h))))
  · unfold start
    show _ = N.length
    rw [List.length_append, List.length_map, List.length_replicate]
    omega

/-- THE RULE: a def (or a method) of the text, by its body. The body's reading t is chosen for each entry; it is run at the parameters' values -/
theorem fn_of {CX : CXT} {P : Program} {w : World} {K : PySem.W.Frag} {mg : Str → Option Value} {base : Heap} {k : Nat} {f : Addr} {name qual : Str} {params : Arguments} {body : List Stmt} {scope : Scope} {dV kV doc pm cdv ct oc : Value} {an od : Option Addr}
    {osl : Array (Option Value)} {N ps : List Str} {sp : Sp} (lk : K.lookup f = some ⟨oc, od, .func (PySem.W.fnOf name qual params body scope dV kV doc pm an cdv ct), osl⟩) (hcd : PySem.W.codeIn K cdv qual = true) (S : FnScope N ps scope)
    (len : ∀ vs H Q E, sp vs H Q E → vs.length = ps.length)
    (hbody : ∀ (A : Around) (outer : List Env) (s : Shared) (H : Hp) (vs : List V) (Q : VK) (E : XK), Room k (A.deeper (envOfC qual scope s.heap.objs.size f cdv)) → sp vs H Q E →
      ∃ t, PSs (cxOf CX P w K mg base N qual scope f cdv A outer s H E) body t ∧ t { nx := fun _ H' => Q .non H', rt := Q } (start N vs) H) :
    FnOk P w K mg base CX (k + 1) f (PySem.W.fnOf name qual params body scope dV kV doc pm an cdv ct) ps sp := by
  refine ⟨len, fun A outer s H args us vs Q E hr e0 hb r hsp => ?_⟩
  have hl := len _ _ _ _ hsp
  have KX : K.In s.heap := e0.mod.kin.keeps fun b o e => (e0.bs b o e).1
  have lim : s.heap.NoLimit := e0.mod.nolimit.keeps fun b o e => (e0.bs b o e).1
  have hkind : ∀ y ∈ ps.zip us, scope.names.lookup y.1 = some .local ∨ (scope.names.lookup y.1 = some .cell ∧ ((cellsFrom (s.heap.objs.size + 1) scope.names []).lookup y.1).isSome = true) := fun ⟨n, v⟩ hy => by
    rcases S.par n (List.of_mem_zip hy).1 with q | q
    · exact .inl q
    · exact .inr ⟨q, PySem.W.cellsFrom_some _ _ _ (.inl q)⟩
  refine codeAny_call_function hr.depth (KX _ _ lk) rfl S.co S.gen rfl (PySem.W.codeRec_of KX hcd) (hb _ _ _ _ ?_)
  refine wpAny_newFunctionEnv_cells S.kind hkind fun env he s1 x => ?_
  subst he
  refine ⟨lim.keeps x.toInCall.keep, codeAny_func ?_⟩
  obtain ⟨t, ht, hq⟩ := hbody A outer s H vs Q E (hr.deeper _) hsp
  have I : Inv (cxOf CX P w K mg base N qual scope f cdv A outer s H E) [] (start N vs) H s1 := inv_start S e0 hl r x
  refine wpAny_mono (ht [] s1 (start N vs) H _ I hq) (fun fl s' hs => ?_) fun e s' hs => hs
  have fin : ∀ {σ' : St} {H' : Hp} {v : V} {u : Value}, Inv (cxOf CX P w K mg base N qual scope f cdv A outer s H E) [] σ' H' s' → RelV v u → Q v H' → CE outer P w H s Q u s' :=
    fun {σ' H' v u} J rv q => ⟨v, H', J.os, J.bare, J.base, J.hok, rv, q⟩
  cases fl with
  | ret u =>
    obtain ⟨v, σ', H', J, rv, q⟩ := hs
    exact fin J rv q
  | next =>
    obtain ⟨σ', H', J, q⟩ := hs
    exact fin (v := V.non) (u := Value.none) J rfl q
  | brk =>
    obtain ⟨_, _, _, q⟩ := hs
    exact False.elim q
  | cont =>
    obtain ⟨_, _, _, q⟩ := hs
    exact False.elim q
end L2

namespace L2
open PySem PySem.Spec PyProof.Rows
section
variable {X : Cx} {x : Str} {p pos : Pos} {e : Expr} {es : List Expr} {t : TA} {id T : String} {r : List V → Hp → VK → Prop}

def tCB (r : List V → Hp → VK → Prop) (t : TA) : TE := fun σ H Q => t σ H fun vs H1 => r vs H1 Q
/-- f(e, ..), f a built-in function -/
theorem pe_callB (hc : CallR X (.builtin id) r) (hg : Gl X x) (hm : X.mg x = none) (hv : bootBuiltins x = some (.builtin id)) (ha : PA X (e :: es) t) (hn : x ≠ "__name__" := by decide) (hdb : (x == ("__debug__" : Str)) = false := by decide)
    (he : starEach (e :: es) X.env = (false, eval e X.env) :: starEach es X.env := by rfl) (hpl : (backTo pos (starEach es X.env)).any (·.1) = false := by rfl) : PE X (.Call (.Name x p) (e :: es) [] pos) (tCB r t) := by
  intro pins s σ H Q I h
  refine wpAny_Call_Name_kw (ld_blt I hg hm hv ?_ hn hdb)
  exact PyProof.Rows.callWith_builtin1 (thn (ha pos pins s σ H _ I h) fun us s1 ⟨vs, H1, I1, r1, q1⟩ => hc pins s1 σ H1 vs us Q I1 r1 q1) he hpl
/-- T(e, ..), T a built-in type -/
theorem pe_callTy (hc : CallR X (.type T) r) (hg : Gl X x) (hm : X.mg x = none) (hv : bootBuiltins x = some (.type T)) (ha : PA X (e :: es) t) (hn : x ≠ "__name__" := by decide) (hdb : (x == ("__debug__" : Str)) = false := by decide)
    (he : starEach (e :: es) X.env = (false, eval e X.env) :: starEach es X.env := by rfl) (hpl : (backTo pos (starEach es X.env)).any (·.1) = false := by rfl) : PE X (.Call (.Name x p) (e :: es) [] pos) (tCB r t) := by
  intro pins s σ H Q I h
  refine wpAny_Call_Name_kw (ld_blt I hg hm hv ?_ hn hdb)
  exact PyProof.Rows.callWith_type1 (thn (ha pos pins s σ H _ I h) fun us s1 ⟨vs, H1, I1, r1, q1⟩ => hc pins s1 σ H1 vs us Q I1 r1 q1) he hpl
end
end L2

namespace HT
open PySem PyProof.Rows

section
open PySem.SeqAt
open PySem.AutoSeq1 (wpAny_loadPart')
open PySem.MeetsSeq PySem.MeetsSeq2 PySem.MeetsSeq3

end

section
variable {prog : Program} {w : World} {A : Around} {E : Value → Shared → Prop} {s : Shared}

/-! ### t[a:b], not the whole -/
/-- a slice's bound as a place among n (d where it is left out) -/
def sIx (n d : Nat) : Option Int → Nat
  | none => d
  | some v => if v < 0 then (v + (n : Int)).toNat else min v.toNat n
end
end HT

namespace L2
open PySem PySem.Spec PyProof.Rows

/-! ### the parts of a slice -/
abbrev TO := St → Hp → (Option Int → Hp → Prop) → Prop
/-- a slice's part (left out, or an int) -/
def PO (X : Cx) (e : Option Expr) (t : TO) : Prop :=
  ∀ (pins : List (Addr × Obj)) (s : Shared) (σ : St) (H : Hp) (Q : Option Int → Hp → Prop), Inv X pins σ H s → t σ H Q →
    wpAny (model X.prog X.w) X.A (evalPart e X.env) (fun u s' => ∃ o H', Inv X pins σ H' s' ∧ IsPart u o ∧ Q o H') X.xe s
def tNoPart : TO := fun _ H Q => Q none H
def tPart (t : TE) : TO := fun σ H Q => t σ H fun x H1 => ∃ i, x = .int i ∧ Q (some i) H1

section
variable {X : Cx} {e : Expr} {te : TE} {lo hi : Option Expr} {tl th : TO} {pos p2 : Pos}

theorem po_none : PO X none tNoPart := by
  intro pins s σ H Q I h
  rw [evalPart_none]
  exact wpAny_pure ⟨none, H, I, .none, h⟩
theorem po_some (h : PE X e te) : PO X (some e) (tPart te) := by
  intro pins s σ H Q I hw
  rw [evalPart_some]
  refine thn (h pins s σ H _ I hw) fun u s1 ⟨x, H1, I1, r1, q1⟩ => ?_
  obtain ⟨i, rfl, q⟩ := q1
  obtain ⟨t, rfl⟩ := r1
  exact ⟨some i, H1, I1, .int i t, q⟩

/-- what a slice of a value is, by values: the slice object stands at sl -/
def SlR (X : Cx) (r : V → Option Int → Option Int → Hp → VK → Prop) : Prop :=
  ∀ (pins : List (Addr × Obj)) (s : Shared) (σ : St) (H : Hp) (x : V) (v vl vu : Value) (lo hi : Option Int) (sl : Addr) (Q : VK), Inv X pins σ H s → RelV x v → s.heap.IsSliceOf sl vl vu .none → IsPart vl lo → IsPart vu hi → r x lo hi H Q →
    ∃ T id, typeLookup (.type T) "__getitem__" = pure (some (.builtin id)) ∧ s.TypeIs v T ∧ wpAny (model X.prog X.w) X.A (getItem v (.ref sl)) (EP X pins σ Q) X.xe s
def tSl (r : V → Option Int → Option Int → Hp → VK → Prop) (te : TE) (tl th : TO) : TE := fun σ H Q => te σ H fun x H1 => tl σ H1 fun l H2 => th σ H2 fun u H3 => r x l u H3 Q
/-- a[lo:hi], any a -/
theorem pe_slice {r : V → Option Int → Option Int → Hp → VK → Prop} (hr : SlR X r) (he : PE X e te) (hl : PO X lo tl) (hu : PO X hi th) : PE X (.Subscript e (.Slice lo hi none p2) pos) (tSl r te tl th) := by
  intro pins s σ H Q I h
  refine Subscript_ (thn (he pins s σ H _ I h) fun v s1 ⟨x, H1, I1, r1, q1⟩ => ?_)
  refine wpAny_Slice (thn (hl pins s1 σ H1 _ I1 q1) fun vl s2 ⟨l, H2, I2, pl, q2⟩ => thn (hu pins s2 σ H2 _ I2 q2) fun vu s3 ⟨u, H3, I3, pu, q3⟩ => ?_)
  rw [evalPart_none]
  refine wpAny_pure ?_
  have I4 : Inv X pins σ H3 { s3 with heap := s3.heap.push { cls := .type "slice", data := .fields #[vl, vu, .none] } } := I3.kept (t' := s3.toks) fun b ob q => Heap.get?_push_of_some _ q
  obtain ⟨T, id, hT, ht, hg⟩ := hr pins { s3 with heap := s3.heap.push { cls := .type "slice", data := .fields #[vl, vu, .none] } } σ H3 x v vl vu l u s3.heap.objs.size Q I4 r1 (Heap.IsSliceOf.new ..) pl pu q3
  show wpAny (model X.prog X.w) X.A (subscriptTail e (.Slice lo hi none p2) v (.ref s3.heap.objs.size)) (EP X pins σ Q) X.xe { s3 with heap := s3.heap.push { cls := .type "slice", data := .fields #[vl, vu, .none] } }
  exact tail_any (ops := [.ref s3.heap.objs.size, v]) ht hT hg (by with_unfolding_all rfl)

/-- the items of xs[lo:hi] -/
def cutV (xs : List V) (lo hi : Option Int) : List V := (xs.drop (HT.sIx xs.length 0 lo)).take (HT.sIx xs.length xs.length hi - HT.sIx xs.length 0 lo)
theorem cutV_length (xs : List V) (lo hi : Option Int) : (cutV xs lo hi).length ≤ xs.length := by
  unfold cutV
  rw [List.length_take, List.length_drop]
  omega
/-! ### t < u, t + u -/
end
end L2

namespace L2
open PySem PySem.Spec PyProof.Rows

/-! ### places -/
/-- the place that an index of any sign means -/
def ixN (n : Nat) (i : Int) : Option Nat := if 0 ≤ i then (if i < n then some i.toNat else none) else if -(n : Int) ≤ i then some (i + n).toNat else none
def atI {α : Type} (xs : List α) (i : Int) : Option α := (ixN xs.length i).bind fun j => xs[j]?
theorem ixN_seq {n : Nat} {i : Int} {j : Nat} (h : ixN n i = some j) : seqIndex? i n = some j ∧ j < n ∧ -(n : Int) ≤ i ∧ i < n := by
  unfold ixN at h
  by_cases h0 : 0 ≤ i
  · rw [if_pos h0] at h
    by_cases h1 : i < n
    · rw [if_pos h1] at h
      have e : i.toNat = j := Option.some.inj h
      exact ⟨by rw [seqIndex_of h0 h1, e], by omega, by omega, h1⟩
    · rw [if_neg h1] at h; cases h
  · rw [if_neg h0] at h
    by_cases h1 : -(n : Int) ≤ i
    · rw [if_pos h1] at h
      have e : (i + n).toNat = j := Option.some.inj h
      exact ⟨by rw [seqIndex_neg (by omega) h1, e], by omega, h1, by omega⟩
    · rw [if_neg h1] at h; cases h
theorem atI_get {α : Type} {xs : List α} {i : Int} {v : α} (h : atI xs i = some v) : ∃ j, seqIndex? i xs.length = some j ∧ xs[j]? = some v ∧ j < xs.length ∧ -(xs.length : Int) ≤ i ∧ i < xs.length := by
  unfold atI at h
  cases e : ixN xs.length i with
  | none => rw [e] at h; cases h
  | some j =>
    rw [e] at h
    obtain ⟨h1, h2, h3, h4⟩ := ixN_seq e
    exact ⟨j, h1, h, h2, h3, h4⟩
theorem atI_nat {α : Type} {xs : List α} {j : Nat} {v : α} (h : xs[j]? = some v) : atI xs (j : Int) = some v := by
  have hj : j < xs.length := (List.getElem?_eq_some_iff.mp h).1
  have e : ixN xs.length (j : Int) = some j := by
    unfold ixN
    rw [if_pos (by omega), if_pos (by omega)]; simp
  unfold atI; rw [e]; exact h
/-! ### what may be subscripted -/
/-- what stands as an index of a plain subscript -/
def PlainIx (b : Expr) : Prop := ∀ o i, subscripted b false o i = operate [o, i] (getItem o i)
/-- a subscript by values -/
def IxR (X : Cx) (r : R2) : Prop :=
  ∀ (value slice : Expr) (pins : List (Addr × Obj)) (s : Shared) (σ : St) (H : Hp) (x y : V) (v u : Value) (Q : VK), Inv X pins σ H s → RelV x v → RelV y u → r x y H Q →
    subscripted slice false v u = operate [v, u] (getItem v u) → wpAny (model X.prog X.w) X.A (subscriptTail value slice v u) (EP X pins σ Q) X.xe s
/-- a call of a builtin's method by values: the receiver, the arguments -/
def MtR (X : Cx) (id : String) (r : V → List V → Hp → VK → Prop) : Prop :=
  ∀ (pins : List (Addr × Obj)) (s : Shared) (σ : St) (H : Hp) (x : V) (xs : List V) (v : Value) (us : List Value) (Q : VK), Inv X pins σ H s → RelV x v → Vals xs us → r x xs H Q →
    wpAny (model X.prog X.w) X.A (call (.builtin id) (v :: us)) (EP X pins σ Q) X.xe s
section
variable {X : Cx} {a b : Expr} {ta tb : TE} {pos : Pos}
theorem IxR.or {r r' : R2} (h : IxR X r) (h' : IxR X r') : IxR X (fun x y H Q => r x y H Q ∨ r' x y H Q) := by
  intro value slice pins s σ H x y v u Q I rx ry q hs
  rcases q with q | q
  · exact h value slice pins s σ H x y v u Q I rx ry q hs
  · exact h' value slice pins s σ H x y v u Q I rx ry q hs
/-- a[b] -/
theorem pe_ix {r : R2} (hr : IxR X r) (ha : PE X a ta) (hb : PE X b tb) (hs : PlainIx b) : PE X (.Subscript a b pos) (tOp r ta tb) := by
  intro pins s σ H Q I h
  exact Subscript_ (binT ha hb I h fun v u s2 x y H2 I2 rx ry q => hr a b pins s2 σ H2 x y v u Q I2 rx ry q (hs _ _))

def rIxL (K : PySem.W.Frag) : R2 := fun x y H Q => ∃ p xs i v, x = .ref p ∧ y = .int i ∧ SqL K H p xs ∧ atI xs i = some v ∧ Q v H
def rIxT (K : PySem.W.Frag) : R2 := fun x y H Q => ∃ p xs i v, x = .ref p ∧ y = .int i ∧ SqT K H p xs ∧ atI xs i = some v ∧ Q v H
def rIxS : R2 := fun x y H Q => ∃ z i c, x = .str z ∧ y = .int i ∧ z.length ≤ sizeLine ∧ atI z.cps.toList i = some c ∧ Q (.str ⟨#[c]⟩) H
theorem ix_list : IxR X (rIxL X.K) := by
  intro value slice pins s σ H x y v u Q I rx ry h hs
  obtain ⟨p, xs, i, z, rfl, rfl, hq, he, q⟩ := h
  cases rx
  obtain ⟨t, rfl⟩ := ry
  obtain ⟨its, r, pl, hz⟩ := I.list hq
  obtain ⟨j, h1, h2, h3, h4, h5⟩ := atI_get he
  obtain ⟨w, ew, rw'⟩ := r.get h2
  have hl := r.length
  have hn := line63
  have fin : EP X pins σ Q w s := ⟨z, H, I, rw', q⟩
  by_cases h0 : 0 ≤ i
  · have hj : i.toNat = j := by
      rw [seqIndex_of h0 h5] at h1
      exact Option.some.inj h1
    exact item_listR pl.isList h0 (by omega) (by rw [hj]; simpa using ew) fin hs
  · have hj : (i + (its.toArray.size : Int)).toNat = j := by
      rw [seqIndex_neg (by omega) h4] at h1
      rw [List.size_toArray, ← hl]
      exact Option.some.inj h1
    exact subscriptTail_builtinR (x := w) pl.isList.typeIs slot_list_getitem.lookup
      (wpAny_getItem_list_neg (Q := fun r s' => r = w ∧ EP X pins σ Q r s') pl.isList (by omega) (by rw [List.size_toArray] <;> omega) (by omega) (by rw [hj]; simpa using ew) ⟨rfl, fin⟩) hs
theorem ix_tup : IxR X (rIxT X.K) := by
  intro value slice pins s σ H x y v u Q I rx ry h hs
  obtain ⟨p, xs, i, z, rfl, rfl, hq, he, q⟩ := h
  cases rx
  obtain ⟨t, rfl⟩ := ry
  obtain ⟨its, r, pl, hz⟩ := I.tuple hq
  obtain ⟨j, h1, h2, h3, h4, h5⟩ := atI_get he
  obtain ⟨w, ew, rw'⟩ := r.get h2
  have hl := r.length
  have hn := line63
  have fin : EP X pins σ Q w s := ⟨z, H, I, rw', q⟩
  exact subscriptTail_builtinR (x := w) pl.typeIs slot_tuple_getitem.lookup
    (getItem_tuple (j := j) (Q := fun r s' => r = w ∧ EP X pins σ Q r s') pl (by omega) (by omega) (by rw [List.size_toArray, ← hl]; exact h1) (by simpa using ew) ⟨rfl, fin⟩) hs
theorem ix_str : IxR X rIxS := by
  intro value slice pins s σ H x y v u Q I rx ry h hs
  obtain ⟨z, i, c, rfl, rfl, hz, he, q⟩ := h
  obtain ⟨t, rfl⟩ := rx
  obtain ⟨t', rfl⟩ := ry
  obtain ⟨j, h1, h2, h3, h4, h5⟩ := atI_get he
  have hl : z.cps.toList.length = z.length := by simp [Str.length]
  rw [hl] at h1 h4 h5
  have hn := line63
  exact tail_any (typeIs_str s z t) slot_str_getitem.lookup (getItem_str (c := c) (by
    have e1 : decide (i < -(2 ^ 63 : Int)) = false := decide_eq_false (by omega)
    have e2 : decide (i ≥ 2 ^ 63) = false := decide_eq_false (by omega)
    rw [e1, e2, Bool.or_false]) (by rw [h1]; simpa using h2) ⟨.str ⟨#[c]⟩, H, I.tok _, ⟨_, rfl⟩, q⟩) hs
/-- list, tuple or str -/
def rIx (K : PySem.W.Frag) : R2 := fun x y H Q => rIxL K x y H Q ∨ rIxT K x y H Q ∨ rIxS x y H Q
theorem ix_seq : IxR X (rIx X.K) := ix_list.or (ix_tup.or ix_str)

/-! ### xs[i] = v, any sign -/
/-- the list's object behind a store -/
theorem mapSeq_set (its : List Value) (n j : Nat) (u : Value) : Obj.mapSeq (·.setIfInBounds j u) { cls := .type "list", data := .seq its.toArray n } = { cls := .type "list", data := .seq (its.set j u).toArray n } := by
  simp [Obj.mapSeq]
theorem Inv.lst {pins : List (Addr × Obj)} {σ : St} {H : Hp} {s : Shared} {p : Addr} {xs : List V} (I : Inv X pins σ H s) (h : H p = some (.lst xs)) :
    ∃ (its : List Value) (n : Nat), Vals xs its ∧ s.heap.get? p = some { cls := .type "list", data := .seq its.toArray n } ∧ xs.length ≤ sizeLine := by
  obtain ⟨z, its, n, r, e⟩ := I.hok p _ h
  exact ⟨its, n, r, e, z⟩
/-- the list at p is written by an update of its object -/
theorem Inv.lstUpd {pins : List (Addr × Obj)} {σ : St} {H : Hp} {s : Shared} {p : Addr} {xs ys : List V} {its its' : List Value} {n n' : Nat} {f : Obj → Obj} (I : Inv X pins σ H s) (h : H p = some (.lst xs))
    (ho : s.heap.get? p = some { cls := .type "list", data := .seq its.toArray n }) (hf : f { cls := .type "list", data := .seq its.toArray n } = { cls := .type "list", data := .seq its'.toArray n' }) (r : Vals ys its') (hz : ys.length ≤ sizeLine) (t : Nat) :
    Inv X pins σ (upd H p (.lst ys)) { s with heap := s.heap.update p f, toks := t } := by
  have e : (s.heap.update p f).get? p = some { cls := .type "list", data := .seq its'.toArray n' } := by
    rw [Heap.get?_update_self f ho (by rw [hf] <;> rfl), hf]
  refine I.write (x := p) (e := p) (by rw [h]; trivial) (.inl rfl) (fun b u hb q => (Heap.get?_update_other _ _ (Ne.symm hb)).trans q) ⟨_, e⟩ ?_
  exact ⟨hz, its', n', r, e⟩
def rSetL : V → V → V → Hp → (Hp → Prop) → Prop := fun o i v H Q => ∃ p xs k j, o = .ref p ∧ i = .int k ∧ H p = some (.lst xs) ∧ ixN xs.length k = some j ∧ Q (upd H p (.lst (xs.set j v)))
theorem set_list : PSet X rSetL := by
  intro pins s σ H o i v ov iv u Q I ro ri rv h
  obtain ⟨p, xs, k, j, rfl, rfl, hp, hj, q⟩ := h
  cases ro
  obtain ⟨t, rfl⟩ := ri
  obtain ⟨its, n, r, ho, hz⟩ := I.lst hp
  obtain ⟨h1, h2, h3, h4⟩ := ixN_seq hj
  have hl := r.length
  have hn := line63
  have I' : Inv X pins σ (upd H p (.lst (xs.set j v))) { s with heap := s.heap.update p (Obj.mapSeq (·.setIfInBounds j u)) } :=
    I.lstUpd hp ho (mapSeq_set its n j u) (r.set rv j) (by rw [List.length_set]; exact hz) s.toks
  by_cases h0 : 0 ≤ k
  · have hk : k.toNat = j := by
      rw [seqIndex_of h0 h4] at h1
      exact Option.some.inj h1
    exact PySem.W.ki_setAt ho h0 (by omega) (by rw [List.size_toArray, ← hl]; exact h4) (by rw [hk]; exact ⟨_, I', q⟩)
  · have hk : (k + (its.toArray.size : Int)).toNat = j := by
      rw [seqIndex_neg (by omega) h3] at h1
      rw [List.size_toArray, ← hl]
      exact Option.some.inj h1
    exact PySem.W.ki_setBack ho (by omega) (by rw [List.size_toArray, ← hl]; exact h3) (by omega) (by rw [hk]; exact ⟨_, I', q⟩)

/-! ### slices -/
theorem slice_bounds (lo hi : Option Int) (n : Nat) : (sliceBounds lo hi none n).1 = ((HT.sIx n 0 lo : Nat) : Int) ∧ (sliceBounds lo hi none n).2.1 = ((HT.sIx n n hi : Nat) : Int) ∧ (sliceBounds lo hi none n).2.2 = 1 := by
  refine ⟨?_, ?_, rfl⟩
  · cases lo with
    | none => simp [sliceBounds, HT.sIx]
    | some i =>
      simp only [sliceBounds, HT.sIx, Option.getD_none, show (1 : Int) > 0 by decide, if_true]
      by_cases h : i < 0
      · simp only [h, if_true] <;> omega
      · simp only [h, if_false] <;> omega
  · cases hi with
    | none => simp [sliceBounds, HT.sIx]
    | some i =>
      simp only [sliceBounds, HT.sIx, Option.getD_none, show (1 : Int) > 0 by decide, if_true]
      by_cases h : i < 0
      · simp only [h, if_true] <;> omega
      · simp only [h, if_false] <;> omega
theorem slicePick_cut (its : List Value) (lo hi : Option Int) : slicePick its.toArray lo hi none = ((its.drop (HT.sIx its.length 0 lo)).take (HT.sIx its.length its.length hi - HT.sIx its.length 0 lo)).toArray := by
  obtain ⟨h1, h2, h3⟩ := slice_bounds lo hi its.toArray.size
  unfold slicePick
  rw [h1, h2, h3]
  simp only [sliceRange_one, pick_run, List.size_toArray] <;> rfl
/-- xs[lo:hi] of a list: a new list -/
def rSlL (K : PySem.W.Frag) : V → Option Int → Option Int → Hp → VK → Prop := fun x lo hi H Q => ∃ a xs, x = .ref a ∧ SqL K H a xs ∧ ∀ p, H p = none → Q (.ref p) (upd H p (.lst (cutV xs lo hi)))
theorem sl_list : SlR X (rSlL X.K) := by
  intro pins s σ H x v vl vu lo hi sl Q I rx hs pl pu h
  obtain ⟨a, xs, rfl, hx, q⟩ := h
  cases rx
  obtain ⟨its, r, ht, hz⟩ := I.list hx
  have hlen := r.length
  refine ⟨"list", _, slot_list_getitem.lookup, ht.isList.typeIs, ?_⟩
  refine wpAny_getItem_list_slice ht.isList hs pl pu .none (by simp) ?_ (by rw [List.size_toArray] <;> omega)
  rw [slicePick_cut, ← hlen]
  refine ⟨.ref s.heap.objs.size, _, I.laid (t' := s.toks) (o := .lst (cutV xs lo hi)) (fun b ob q => Heap.get?_push_of_some _ q) (Nat.le_refl _) ?_, rfl, q _ (I.hok.fresh (Nat.le_refl _))⟩
  exact ⟨Nat.le_trans (cutV_length xs lo hi) hz, _, 0, (r.drop (HT.sIx xs.length 0 lo)).take (HT.sIx xs.length xs.length hi - HT.sIx xs.length 0 lo), Heap.get?_push_size _ rfl⟩

/-! ### in, not in: flat items -/
def flatV : V → Bool
  | .non => true
  | .bl _ => true
  | .int _ => true
  | .str _ => true
  | _ => false
/-- == of flat values -/
def eqV : V → V → Bool
  | .non, .non => true
  | .bl a, .bl b => a == b
  | .bl a, .int b => (if a then 1 else 0) == b
  | .int a, .bl b => a == (if b then 1 else 0)
  | .int a, .int b => a == b
  | .str a, .str b => a == b
  | _, _ => false
theorem eqAt_V {A : Around} {s : Shared} {y x : V} {u v : Value} (ry : RelV y u) (rx : RelV x v) (fy : flatV y = true) (fx : flatV x = true) : SeqAt.EqAt A s u v (eqV y x) := by
  cases y with
  | non =>
    cases ry
    cases x with
    | non => cases rx; exact SeqAt.EqAt.same _
    | bl b => cases rx; exact SeqAt.EqAt.none_bool b
    | int b => obtain ⟨t, rfl⟩ := rx; exact SeqAt.EqAt.none_int b t
    | str b => obtain ⟨t, rfl⟩ := rx; exact SeqAt.EqAt.none_str b t
    | _ => exact absurd (show false = true from fx) Bool.false_ne_true
  | bl a =>
    cases ry
    cases x with
    | non => cases rx; exact SeqAt.EqAt.bool_none a
    | bl b => cases rx; exact SeqAt.EqAt.bool_bool a b
    | int b => obtain ⟨t, rfl⟩ := rx; exact SeqAt.EqAt.bool_int a b t
    | str b => obtain ⟨t, rfl⟩ := rx; exact SeqAt.EqAt.bool_str a b t
    | _ => exact absurd (show false = true from fx) Bool.false_ne_true
  | int a =>
    obtain ⟨t', rfl⟩ := ry
    cases x with
    | non => cases rx; exact SeqAt.EqAt.int_none a t'
    | bl b => cases rx; exact SeqAt.EqAt.int_bool a t' b
    | int b => obtain ⟨t, rfl⟩ := rx; exact SeqAt.EqAt.int_int a t' b t
    | str b => obtain ⟨t, rfl⟩ := rx; exact SeqAt.EqAt.int_str a t' b t
    | _ => exact absurd (show false = true from fx) Bool.false_ne_true
  | str a =>
    obtain ⟨t', rfl⟩ := ry
    cases x with
    | non => cases rx; exact SeqAt.EqAt.str_none a t'
    | bl b => cases rx; exact SeqAt.EqAt.str_bool a t' b
    | int b => obtain ⟨t, rfl⟩ := rx; exact SeqAt.EqAt.str_int a t' b t
    | str b => obtain ⟨t, rfl⟩ := rx; exact SeqAt.EqAt.str_str a t' b t
    | _ => exact absurd (show false = true from fx) Bool.false_ne_true
  | _ => exact absurd (show false = true from fy) Bool.false_ne_true
/-- the items' answers, read off the values (a value's own answer does not lean on its token) -/
def eqU (x : V) (u : Value) : Bool := match u with
  | .none => eqV .non x
  | .bool b => eqV (.bl b) x
  | .int i _ => eqV (.int i) x
  | .str z _ => eqV (.str z) x
  | _ => false
theorem eqU_of {x y : V} {u : Value} (r : RelV y u) (f : flatV y = true) : eqU x u = eqV y x := by
  cases y with
  | non => cases r; rfl
  | bl b => cases r; rfl
  | int i => obtain ⟨t, rfl⟩ := r; rfl
  | str z => obtain ⟨t, rfl⟩ := r; rfl
  | _ => exact absurd (show false = true from f) Bool.false_ne_true
theorem any_eqU {x : V} : ∀ {xs : List V} {us : List Value}, Vals xs us → xs.all flatV = true → us.any (eqU x) = xs.any fun y => eqV y x
  | _, _, .nil, _ => rfl
  | y :: xs, u :: us, .cons r t, f => by
    rw [List.all_cons, Bool.and_eq_true] at f
    rw [List.any_cons, List.any_cons, eqU_of r f.1, any_eqU t f.2]
theorem mem_eqAt {A : Around} {s : Shared} {x : V} {v : Value} (rx : RelV x v) (fx : flatV x = true) : ∀ {xs : List V} {us : List Value}, Vals xs us → xs.all flatV = true → ∀ u ∈ us, SeqAt.EqAt A s u v (eqU x u)
  | _, _, .nil, _ => fun u hu => by cases hu
  | y :: xs, u :: us, .cons r t, f => fun u' hu => by
    rw [List.all_cons, Bool.and_eq_true] at f
    rcases List.mem_cons.mp hu with rfl | hu
    · rw [eqU_of r f.1]; exact eqAt_V r rx f.1 fx
    · exact mem_eqAt rx fx t f.2 u' hu
def inV (x : V) (xs : List V) : Bool := xs.any fun y => eqV y x
/-- x in a list or tuple of flat items -/
def rIn (K : PySem.W.Frag) (neg : Bool) : R2 := fun x y H Q => ∃ p xs, y = .ref p ∧ (SqL K H p xs ∨ SqT K H p xs) ∧ flatV x = true ∧ xs.all flatV = true ∧ Q (.bl (if neg then !inV x xs else inV x xs)) H
theorem op_in_seq : OpR X (compareOp .In) (rIn X.K false) := by
  intro pins s σ H x y v u Q I rx ry h
  obtain ⟨p, xs, rfl, hq, fx, fs, q⟩ := h
  cases ry
  rcases hq with hq | hq
  · obtain ⟨its, r, pl, hz⟩ := I.list hq
    refine SeqAt.in_listAt (eqU x) pl.isList (fun w hw => mem_eqAt rx fx r fs w (by simpa using hw)) ⟨.bl _, H, I, rfl, ?_⟩
    rw [show its.toArray.any (eqU x) = its.any (eqU x) by simp, any_eqU r fs]
    exact q
  · obtain ⟨its, r, pl, hz⟩ := I.tuple hq
    refine SeqAt.in_tupleAt (eqU x) pl (fun w hw => mem_eqAt rx fx r fs w (by simpa using hw)) ⟨.bl _, H, I, rfl, ?_⟩
    rw [show its.toArray.any (eqU x) = its.any (eqU x) by simp, any_eqU r fs]
    exact q
theorem op_notIn_seq : OpR X (compareOp .NotIn) (rIn X.K true) := by
  intro pins s σ H x y v u Q I rx ry h
  obtain ⟨p, xs, rfl, hq, fx, fs, q⟩ := h
  cases ry
  rcases hq with hq | hq
  · obtain ⟨its, r, pl, hz⟩ := I.list hq
    refine SeqAt.notIn_listAt (eqU x) pl.isList (fun w hw => mem_eqAt rx fx r fs w (by simpa using hw)) ⟨.bl _, H, I, rfl, ?_⟩
    rw [show its.toArray.any (eqU x) = its.any (eqU x) by simp, any_eqU r fs]
    exact q
  · obtain ⟨its, r, pl, hz⟩ := I.tuple hq
    refine SeqAt.notIn_tupleAt (eqU x) pl (fun w hw => mem_eqAt rx fx r fs w (by simpa using hw)) ⟨.bl _, H, I, rfl, ?_⟩
    rw [show its.toArray.any (eqU x) = its.any (eqU x) by simp, any_eqU r fs]
    exact q
/-! ### len, list(x), tuple(x) of any list or tuple that is read -/
theorem call_len_seq : CallR X (.builtin "len") (fun xs H Q => ∃ p ys, xs = [.ref p] ∧ (SqL X.K H p ys ∨ SqT X.K H p ys) ∧ Q (.int ys.length) H) := by
  intro pins s σ H xs us Q I r h
  obtain ⟨p, ys, rfl, hq, q⟩ := h
  obtain ⟨u, rfl, rx⟩ := vals1 r
  cases rx
  have hn := line63
  rcases hq with hq | hq
  · obtain ⟨its, r', pl, hz⟩ := I.list hq
    have hlen := r'.length
    exact Calls.call_len_list pl.isList (by simp only [List.size_toArray] <;> omega) ⟨.int ys.length, H, I.tok _, ⟨s.toks + 1, by rw [List.size_toArray, hlen]⟩, q⟩
  · obtain ⟨its, r', pl, hz⟩ := I.tuple hq
    have hlen := r'.length
    exact len_tuple pl (by simp only [List.size_toArray] <;> omega) ⟨.int ys.length, H, I.tok _, ⟨s.toks + 1, by rw [List.size_toArray, hlen]⟩, q⟩
theorem call_list_of : CallR X (.type "list") (fun xs H Q => ∃ p ys, xs = [.ref p] ∧ (SqL X.K H p ys ∨ SqT X.K H p ys) ∧ ∀ l, H l = none → Q (.ref l) (upd H l (.lst ys))) := by
  intro pins s σ H xs us Q I r h
  obtain ⟨p, ys, rfl, hq, q⟩ := h
  obtain ⟨u, rfl, rx⟩ := vals1 r
  cases rx
  have fin : ∀ (its : List Value), Vals ys its → ys.length ≤ sizeLine → ∀ (h' : Heap) (c' : Nat), (∀ b o', s.heap.get? b = some o' → h'.get? b = some o') →
      h'.get? s.heap.objs.size = some { cls := .type "list", dict := none, data := .seq its.toArray c', slots := #[] } → EP X pins σ Q (.ref s.heap.objs.size) { s with heap := h' } := fun its r' hz h' c' kp e =>
    ⟨.ref s.heap.objs.size, _, I.laid (t' := s.toks) kp (Nat.le_refl _) (show ObjOk X.prog X.w _ h' _ (.lst ys) from ⟨hz, its, c', r', e⟩), rfl, q _ (I.hok.fresh (Nat.le_refl _))⟩
  rcases hq with hq | hq
  · obtain ⟨its, r', pl, hz⟩ := I.list hq
    have hlen := r'.length
    obtain ⟨o, ho, hc, n, hd⟩ := pl.isList
    exact call_list_seq p (.inl rfl) ho hc hd (fun h' c' kp e => fin its r' hz h' c' kp e) (by simp only [List.size_toArray] <;> omega)
  · obtain ⟨its, r', pl, hz⟩ := I.tuple hq
    have hlen := r'.length
    obtain ⟨o, ho, hc, n, hd⟩ := pl
    exact call_list_seq p (.inr rfl) ho hc hd (fun h' c' kp e => fin its r' hz h' c' kp e) (by simp only [List.size_toArray] <;> omega)
/-! ### the call of a builtin's method: o.m(..) -/
/-- the value is of that builtin type -/
def tyV (K : PySem.W.Frag) (T : String) (x : V) (H : Hp) : Prop := match x with
  | .str _ => T = "str"
  | .int _ => T = "int"
  | .ref p => (T = "list" ∧ ∃ xs, SqL K H p xs) ∨ (T = "tuple" ∧ ∃ o, K.lookup p = some o ∧ o.cls = .type "tuple" ∧ o.dict = none) ∨
      (T = "dict" ∧ ((∃ kvs, H p = some (.dK kvs)) ∨ ∃ kvs, H p = some (.dT kvs))) ∨ (T = "set" ∧ ∃ S n, H p = some (.set S n))
  | _ => False
theorem tyV_is {pins : List (Addr × Obj)} {σ : St} {H : Hp} {s : Shared} {T : String} {x : V} {v : Value} (I : Inv X pins σ H s) (r : RelV x v) (ty : tyV X.K T x H) :
    s.TypeIs v T ∧ ∀ a, v = .ref a → ∃ ob, s.heap.get? a = some ob ∧ ob.dict = none := by
  cases x with
  | str z =>
    obtain ⟨t, rfl⟩ := r
    cases (show T = "str" from ty)
    exact ⟨typeIs_str s z t, fun _ e => nomatch e⟩
  | int i =>
    obtain ⟨t, rfl⟩ := r
    cases (show T = "int" from ty)
    exact ⟨typeIs_int s i t, fun _ e => nomatch e⟩
  | ref p =>
    cases r
    rcases ty with ⟨rfl, xs, hq⟩ | ⟨rfl, o, hk, hc, hd⟩ | ⟨rfl, hk⟩ | ⟨rfl, S, n, hk⟩
    · obtain ⟨its, _, pl, _⟩ := I.list hq
      refine ⟨pl.isList.typeIs, fun a e => ?_⟩
      cases e
      obtain ⟨o, n, e, c, hd, _⟩ := pl
      exact ⟨o, e, hd⟩
    · refine ⟨⟨o, I.kIn p o hk, hc⟩, fun a e => ?_⟩
      cases e
      exact ⟨o, I.kIn _ o hk, hd⟩
    · have z : ∃ o, s.heap.get? p = some o ∧ o.ExactDict := by
        rcases hk with ⟨kvs, hk⟩ | ⟨kvs, hk⟩
        · obtain ⟨_, _, _, _, o, _, _, e, ex, _⟩ := I.hok p _ hk
          exact ⟨o, e, ex⟩
        · obtain ⟨_, _, _, _, o, _, _, e, ex, _⟩ := I.hok p _ hk
          exact ⟨o, e, ex⟩
      obtain ⟨o, e, ex⟩ := z
      refine ⟨⟨o, e, ex.1⟩, fun a e2 => ?_⟩
      cases e2
      exact ⟨o, e, ex.2.1⟩
    · obtain ⟨o, _, _, _, e, ex, _⟩ := I.hok p _ hk
      refine ⟨⟨o, e, ex.1⟩, fun a e2 => ?_⟩
      cases e2
      exact ⟨o, e, ex.2.1⟩
  | _ => exact False.elim ty
def tBM (K : PySem.W.Frag) (T : String) (r : V → List V → Hp → VK → Prop) (to : TE) (t : TA) : TE := fun σ H Q => to σ H fun x H1 => tyV K T x H1 ∧ t σ H1 fun xs H2 => r x xs H2 Q
variable {o e : Expr} {es : List Expr} {to : TE} {t : TA} {name : Str} {apos cpos : Pos} {T id : String} {r : V → List V → Hp → VK → Prop}
theorem pe_bm (pa : PlainAttrs T) (slot : Slot T name id) (hty : typeOf (.builtin id) = pure (.type "method_descriptor")) (hm : MtR X id r) (ho : PE X o to) (ha : PA X (e :: es) t)
    (hbase : attributeBase o name X.env (eval o X.env) = eval o X.env := by rfl)
    (hfew : ((backTo cpos (starEach (e :: es) X.env)).all (fun x => !x.1) && (backToKw cpos (keywordEach [] X.env)).all (fun x => x.1.isSome)
      && decide ((e :: es).length + ([] : List Keyword).length + (if ([] : List Keyword).isEmpty then 0 else 1) < 30)) = true := by rfl)
    (hline : (apos.endLine == cpos.line) = true := by rfl) (hs : starEach (e :: es) X.env = (false, eval e X.env) :: starEach es X.env := by rfl) (hplain : (backTo cpos (starEach es X.env)).any (·.1) = false := by rfl) :
    PE X (.Call (.Attribute o name apos) (e :: es) [] cpos) (tBM X.K T r to t) := by
  intro pins s σ H Q I h
  refine wpAny_Call_method_late hbase hfew hline rfl (thn (ho pins s σ H _ I h) fun v s1 ⟨x, H1, I1, r1, ty, q1⟩ => ?_)
  obtain ⟨h1, h2⟩ := tyV_is I1 r1 ty
  refine ⟨T, id, pa, slot, hty, h1, h2, ?_⟩
  have hA := ha cpos pins s1 σ H1 _ I1 q1
  rw [hs] at hA ⊢
  refine Calls.callWith_builtin (by show (false || (backTo cpos (starEach es X.env)).any (·.1)) = false; rw [hplain] <;> rfl) (Calls.evalArgs_plain ?_)
  exact thn hA fun us s2 ⟨vs, H2, I2, r2, q2⟩ => hm pins s2 σ H2 x vs v us Q I2 r1 r2 q2
/- xs.append(e), list.index on a module's tuple .. are MtR facts of 06m -/
end
end L2

namespace L2
open PySem PySem.Spec PyProof.Rows

def MtM (X : Cx) (id : String) (r : V → List V → Hp → VK → Prop) : Prop :=
  ∀ (pins : List (Addr × Obj)) (s : Shared) (σ : St) (H : Hp) (x : V) (xs : List V) (v : Value) (us : List Value) (Q : VK), Inv X pins σ H s → RelV x v → Vals xs us → r x xs H Q →
    wpAny (model X.prog X.w) X.A (call (.builtin id) (v :: us)) (EP X pins σ Q) X.xe s

/-! ### lists of values -/
theorem Vals.one : ∀ {x : V} {us : List Value}, Vals [x] us → ∃ u, us = [u] ∧ RelV x u
  | _, _, .cons r .nil => ⟨_, rfl, r⟩
theorem Vals.two : ∀ {x y : V} {us : List Value}, Vals [x, y] us → ∃ u v, us = [u, v] ∧ RelV x u ∧ RelV y v
  | _, _, _, .cons r (.cons q .nil) => ⟨_, _, rfl, r, q⟩
theorem Vals.zero : ∀ {us : List Value}, Vals [] us → us = []
  | _, .nil => rfl
theorem Vals.eraseIdx : ∀ {xs : List V} {us : List Value} (i : Nat), Vals xs us → Vals (xs.eraseIdx i) (us.eraseIdx i)
  | _, _, _, .nil => .nil
  | _, _, 0, .cons _ t => t
  | _, _, i + 1, .cons r t => .cons r (Vals.eraseIdx i t)
theorem Vals.rep {xs : List V} {us : List Value} (h : Vals xs us) : ∀ k : Nat, Vals (List.replicate k xs).flatten (List.replicate k us).flatten
  | 0 => .nil
  | k + 1 => by
    rw [List.replicate_succ, List.replicate_succ, List.flatten_cons, List.flatten_cons]
    exact Vals.append h (Vals.rep h k)
theorem len_erase {α : Type} : ∀ (l : List α) (i : Nat), (l.eraseIdx i).length ≤ l.length
  | [], _ => Nat.le_refl _
  | _ :: _, 0 => Nat.le_succ _
  | _ :: r, i + 1 => Nat.succ_le_succ (len_erase r i)
theorem foldl_rep (its : List Value) : ∀ (k : Nat) (acc : List Value),
    List.foldl (fun x1 x2 => x1 ++ x2) acc.toArray (List.replicate k its.toArray) = (acc ++ (List.replicate k its).flatten).toArray
  | 0, acc => by simp
  | k + 1, acc => by
    have e : acc.toArray ++ its.toArray = (acc ++ its).toArray := by simp
    have e2 : (acc ++ its) ++ (List.replicate k its).flatten = acc ++ (List.replicate (k + 1) its).flatten := by
      rw [List.replicate_succ, List.flatten_cons, List.append_assoc]
    rw [← e2, ← foldl_rep its k (acc ++ its), ← e, List.replicate_succ, List.foldl_cons]

section
variable {X : Cx} {pins : List (Addr × Obj)} {σ : St} {H : Hp} {s : Shared} {l b : Addr} {xs ys zs : List V}

/-! ### the two steps: a tracked list is rewritten, a new list is laid -/
theorem Inv.lset {its its' : List Value} {n : Nat} {f : Array Value → Array Value} {t' : Nat} (I : Inv X pins σ H s) (hH : H l = some (.lst xs))
    (e : s.heap.get? l = some { cls := .type "list", data := .seq its.toArray n }) (hf : f its.toArray = its'.toArray) (hv : Vals ys its') (hz : ys.length ≤ sizeLine) :
    Inv X pins σ (upd H l (.lst ys)) { s with heap := s.heap.update l (Obj.mapSeq f), toks := t' } := by
  have q := PySem.IsL.update e f
  rw [hf] at q
  refine I.write (x := l) (e := l) (by rw [hH]; exact trivial) (.inl rfl) (fun b' u hb hu => (Heap.get?_update_other s.heap (Obj.mapSeq f) (Ne.symm hb)).trans hu) ⟨_, q⟩ ?_
  exact ⟨hz, its', _, hv, q⟩
theorem Inv.lnew {its : List Value} {t' : Nat} (I : Inv X pins σ H s) (hv : Vals ys its) (hz : ys.length ≤ sizeLine) :
    Inv X pins σ (upd H s.heap.objs.size (.lst ys)) { s with heap := s.heap.push { cls := .type "list", data := .seq its.toArray }, toks := t' } :=
  I.laid (fun _ _ q => Heap.get?_push_of_some _ q) (Nat.le_refl _) ⟨hz, its, 0, hv, Heap.get?_push_size _ rfl⟩
theorem Inv.fresh (I : Inv X pins σ H s) : H s.heap.objs.size = none := I.hok.fresh (Nat.le_refl _)
theorem Inv.lstM (I : Inv X pins σ H s) (hH : H l = some (.lst xs)) : xs.length ≤ sizeLine ∧ ∃ (its : List Value) (n : Nat), Vals xs its ∧ xs.length = its.length ∧ s.heap.get? l = some { cls := .type "list", data := .seq its.toArray n } := by
  obtain ⟨z, its, n, r, e⟩ := I.hok l _ hH
  exact ⟨z, its, n, r, r.length, e⟩

theorem notLongL {n : Nat} (h : n ≤ sizeLine) : Builtin.List.listTooLong n = false := by
  unfold Builtin.List.listTooLong
  exact decide_eq_false (by omega)
end

section
variable {X : Cx}

/-! ### methods -/
def rAppend : V → List V → Hp → VK → Prop := fun x vs H Q => ∃ l xs y, x = .ref l ∧ vs = [y] ∧ H l = some (.lst xs) ∧ xs.length < sizeLine ∧ Q .non (upd H l (.lst (xs ++ [y])))
theorem mt_append : MtM X "list.append" rAppend := by
  intro pins s σ H x vs v us Q I rx rv h
  obtain ⟨l, xs, y, rfl, rfl, hH, hz, q⟩ := h
  cases rx
  obtain ⟨u, rfl, ru⟩ := rv.one
  obtain ⟨z, its, n, r, hl, e⟩ := I.lstM hH
  refine call_meets F.slot_list_append ⟨_, e, rfl⟩ F.entry_list_append (F.args_list_append_2 _ _) (PySem.list_append l its.toArray n u (by rw [List.size_toArray]; omega)) ⟨e, ?_⟩
  refine ⟨.non, _, I.lset (its' := its ++ [u]) hH e (by simp) (r.append (.cons ru .nil)) ?_, rfl, q⟩
  rw [List.length_append, List.length_singleton]
  omega

def rExtend : V → List V → Hp → VK → Prop := fun x vs H Q => ∃ l b xs zs, x = .ref l ∧ vs = [.ref b] ∧ H l = some (.lst xs) ∧ H b = some (.lst zs) ∧ xs.length + zs.length ≤ sizeLine ∧ Q .non (upd H l (.lst (xs ++ zs)))
theorem mt_extend : MtM X "list.extend" rExtend := by
  intro pins s σ H x vs v us Q I rx rv h
  obtain ⟨l, b, xs, zs, rfl, rfl, hH, hB, hz, q⟩ := h
  cases rx
  obtain ⟨u, rfl, ru⟩ := rv.one
  cases ru
  obtain ⟨z, its, n, r, hl, e⟩ := I.lstM hH
  obtain ⟨z2, its2, n2, r2, hl2, e2⟩ := I.lstM hB
  have hsz : its.toArray.size + its2.toArray.size ≤ sizeLine := by rw [List.size_toArray, List.size_toArray]; omega
  have hlong : ¬ (!its.toArray.isEmpty && Builtin.List.listTooLong (its.toArray.size + its2.toArray.size)) = true := by
    rw [notLongL hsz, Bool.and_false]
    exact Bool.false_ne_true
  refine call_meets F.slot_list_extend ⟨_, e, rfl⟩ F.entry_list_extend (F.args_list_extend_2 _ _)
    (AutoSeq1.list_extend_list_list_0 l its.toArray n b its2.toArray n2 hlong (by rw [List.size_toArray]; omega) (by omega)) ⟨e, e2, ?_⟩
  refine ⟨.non, _, I.lset (its' := its ++ its2) hH e (by simp) (r.append r2) ?_, rfl, q⟩
  rw [List.length_append]
  omega

def rPopAt : V → List V → Hp → VK → Prop := fun x vs H Q => ∃ l xs i k y, x = .ref l ∧ vs = [.int i] ∧ H l = some (.lst xs) ∧ -(2 ^ 63) ≤ i ∧ i < 2 ^ 63 ∧ seqIndex? i xs.length = some k ∧ xs[k]? = some y ∧ Q y (upd H l (.lst (xs.eraseIdx k)))
theorem mt_popAt : MtM X "list.pop" rPopAt := by
  intro pins s σ H x vs v us Q I rx rv h
  obtain ⟨l, xs, i, k, y, rfl, rfl, hH, h1, h2, hk, hy, q⟩ := h
  cases rx
  obtain ⟨u, rfl, ru⟩ := rv.one
  obtain ⟨t, rfl⟩ := ru
  obtain ⟨z, its, n, r, hl, e⟩ := I.lstM hH
  obtain ⟨w, hw, rw'⟩ := r.get hy
  refine call_meets F.slot_list_pop ⟨_, e, rfl⟩ F.entry_list_pop (F.args_list_pop_2 _ _)
    (MeetsSeq.list_pop_at l its.toArray n i t k w (fitsIndex_both h1 h2) (by rw [List.size_toArray, ← hl]; exact hk) (by rw [← Array.getElem?_toList]; exact hw) (by rw [List.size_toArray]; omega)) ⟨e, ?_⟩
  refine ⟨y, _, I.lset (its' := its.eraseIdx k) hH e ?_ (r.eraseIdx k) ?_, rw', q⟩
  · show its.toArray.eraseIdxIfInBounds k = (its.eraseIdx k).toArray
    rw [List.eraseIdxIfInBounds_toArray]
  · have := len_erase xs k
    omega

/-! ### list + list, list += list, list * int -/
def rCat : R2 := fun x y H Q => ∃ l b xs zs, x = .ref l ∧ y = .ref b ∧ H l = some (.lst xs) ∧ H b = some (.lst zs) ∧ xs.length + zs.length ≤ sizeLine ∧ ∀ p, H p = none → Q (.ref p) (upd H p (.lst (xs ++ zs)))
theorem op_cat : OpR X (binaryOp .Add) rCat := by
  intro pins s σ H x y v u Q I rx ry h
  obtain ⟨l, b, xs, zs, rfl, rfl, hH, hB, hz, q⟩ := h
  cases rx
  cases ry
  obtain ⟨z, its, n, r, hl, e⟩ := I.lstM hH
  obtain ⟨z2, its2, n2, r2, hl2, e2⟩ := I.lstM hB
  refine PySem.P.add_list e e2 ?_ (by rw [List.size_toArray, List.size_toArray]; omega)
  have ea : its.toArray ++ its2.toArray = (its ++ its2).toArray := by simp
  rw [ea]
  exact ⟨.ref _, _, I.lnew (t' := s.toks) (r.append r2) (by rw [List.length_append]; omega), rfl, q _ I.fresh⟩
/-- a list times an int (a negative one is nothing) -/
def rRep : R2 := fun x y H Q => ∃ l k xs, x = .ref l ∧ y = .int k ∧ H l = some (.lst xs) ∧ -(2 ^ 63) ≤ k ∧ k < 2 ^ 63 ∧ xs.length * k.toNat ≤ sizeLine ∧
  ∀ p, H p = none → Q (.ref p) (upd H p (.lst (List.replicate k.toNat xs).flatten))
theorem len_rep {α : Type} (xs : List α) (k : Nat) : (List.replicate k xs).flatten.length = k * xs.length := by
  induction k with
  | zero => simp
  | succ k ih => rw [List.replicate_succ, List.flatten_cons, List.length_append, ih, Nat.succ_mul, Nat.add_comm]
theorem op_rep : OpR X (binaryOp .Mult) rRep := by
  intro pins s σ H x y v u Q I rx ry h
  obtain ⟨l, k, xs, rfl, rfl, hH, h1, h2, hz, q⟩ := h
  cases rx
  obtain ⟨t, rfl⟩ := ry
  obtain ⟨z, its, n, r, hl, e⟩ := I.lstM hH
  have hlen : its.toArray.size * k.toNat ≤ sizeLine := by rw [List.size_toArray, ← hl]; exact hz
  have hcap : ¬ its.toArray.size * k.toNat > (2 ^ 63 - 1) / 8 := by
    have : (sizeLine : Nat) ≤ (2 ^ 63 - 1) / 8 := by decide
    omega
  have hfit : ¬ (!Builtin.List.listFitsIndex k) = true := by
    rw [fitsIndex_both h1 h2]
    exact Bool.false_ne_true
  have hlong : ¬ Builtin.List.listTooLong (its.toArray.size * k.toNat) = true := by
    rw [notLongL hlen]
    exact Bool.false_ne_true
  have hnew : List.foldl (fun x1 x2 => x1 ++ x2) #[] (List.replicate (if its.toArray.isEmpty = true then 0 else k.toNat) its.toArray) = (List.replicate k.toNat its).flatten.toArray := by
    have f0 : ∀ m : Nat, List.foldl (fun x1 x2 => x1 ++ x2) #[] (List.replicate m its.toArray) = (List.replicate m its).flatten.toArray := fun m => by
      have := foldl_rep its m []
      rw [List.nil_append] at this
      exact this
    rw [f0]
    cases its with
    | nil => simp
    | cons a r' => rw [if_neg (by simp)]
  refine wpAny_binaryOp_repeat_ref (T := "list") (U := "int") (by decide) ⟨_, e, rfl⟩ (fun s' => typeIs_int s' k t) noFill_list_mul F.fills_int_mul F.slot_int_rmul repeat_list F.slot_int_index.lookup
    (call_meets F.slot_int_rmul (typeIs_int s k t) F.entry_int_rmul (F.args_int_rmul_2 _ _) (int___rmul___int_list k t l its.toArray n)
      ⟨e, rfl, ⟨_, e, rfl⟩, call_meets F.slot_list_mul ⟨_, e, rfl⟩ F.entry_list_mul (F.args_list_mul_2 _ _) (AutoListH.list___mul___list_int_3 l its.toArray n k t hfit hcap hlong) ⟨e, ?_⟩⟩)
  rw [hnew]
  exact ⟨.ref _, _, I.lnew (t' := s.toks) (r.rep k.toNat) (by rw [len_rep, Nat.mul_comm]; exact hz), rfl, q _ I.fresh⟩

/-! ### del xs[i] -/
end

/-! ### xs[a:b] = ys -/
section
variable {prog : Program} {w : World} {A : Around} {E : Value → Shared → Prop} {s : Shared}
end

section
variable {X : Cx}
end
end L2

namespace L2
open PySem PySem.Spec PyProof.Rows

theorem vals_of_ints : ∀ {us : List Value} {ns : List Int}, IntsAre us ns → Vals (ns.map V.int) us
  | _, _, .nil => by rw [List.map_nil]; exact Paired.nil
  | _, _, .cons n t h => by rw [List.map_cons]; exact Paired.cons (show RelV (V.int n) (Value.int n t) from ⟨t, rfl⟩) (vals_of_ints h)
theorem Vals.bls : ∀ {bs : List Bool} {us : List Value}, Vals (bs.map V.bl) us → us = bs.map Value.bool
  | [], us, h => by
    rw [List.map_nil] at h
    cases h
    rfl
  | b :: bs, us, h => by
    rw [List.map_cons] at h
    cases h with
    | cons r t =>
      cases r
      rw [Vals.bls t, List.map_cons]
theorem Vals.ref1 {a : Addr} {us : List Value} (r : Vals [V.ref a] us) : us = [Value.ref a] := by
  cases r with
  | cons r t =>
    cases t
    cases r
    rfl
/-! ### the library's walks over a list of ints, kept objects alone -/
section
variable {prog : Program} {w : World} {A : Around} {E : Value → Shared → Prop} {s : Shared} {l : Addr} {its : List Value} {ns : List Int} {Q : Value → Shared → Prop}
end

/-! ### the calls, by values (CallR of 03t; MtR of 06l) -/
section
variable {X : Cx}
/-! sorted, sort (fewer than 64 items: the library's own bound) -/
end

/-! ### list.index, flat items -/
section
variable {X : Cx}
end

/-! ### type(x) of an own instance; is, is not of a module's class -/
section
variable {X : Cx}
end

/-! ### any(xs), all(xs) of a list of bools -/
theorem iter_any {prog : Program} {w : World} {A : Around} {E : Value → Shared → Prop} {s : Shared} {l : Addr} {items : Array Value} {Q : Value → Shared → Prop} (hl : s.heap.IsList l items)
    (h : ∀ s₂ : Shared, s₂ = { s with heap := s.heap.push { cls := .type "list_iterator", data := .fields #[.ref l, .int 0 0] } } →
      (s₂.heap.IsListIter s.heap.objs.size l 0 ∧ s₂.heap.IsList l items) → l ≠ s.heap.objs.size → Q (.ref s.heap.objs.size) s₂) : wpAny (model prog w) A (pyIter (.ref l)) Q E s := by
  have hlt : l < s.heap.objs.size := by obtain ⟨_, e, _⟩ := hl; exact Heap.lt_size e
  exact wpAny_pyIter_list hl (h _ rfl ⟨⟨_, Heap.get?_push_size _ rfl, rfl, rfl⟩, hl.push _⟩ (Nat.ne_of_lt hlt))
theorem truth_bools {prog : Program} {w : World} {A : Around} {bs : List Bool} {its : List Value} (e : its = bs.map Value.bool) :
    TruthOf prog w A (fun i v => its.toArray[i]? = some v) (fun i => bs.getD i false) := fun i v s Q E hv hq => by
  have hv' : its[i]? = some v := by simpa using hv
  rw [e, List.getElem?_map] at hv'
  obtain ⟨b, hb, rfl⟩ := Option.map_eq_some_iff.mp hv'
  have hg : bs.getD i false = b := by rw [List.getD_eq_getElem?_getD, hb] <;> rfl
  have hq' : Q (bs.getD i false) s := hq
  rw [hg] at hq'
  exact wpAny_truthy_bool hq'
theorem any_range : ∀ bs : List Bool, (List.range bs.length).any (fun i => bs.getD i false) = bs.any id
  | [] => rfl
  | b :: bs => by
    rw [List.length_cons, List.range_succ_eq_map, List.any_cons, List.any_map, List.any_cons, ← any_range bs]
    all_goals rfl
theorem all_range : ∀ bs : List Bool, (List.range bs.length).all (fun i => bs.getD i false) = bs.all id
  | [] => rfl
  | b :: bs => by
    rw [List.length_cons, List.range_succ_eq_map, List.all_cons, List.all_map, List.all_cons, ← all_range bs]
    all_goals rfl
section
variable {X : Cx}
def rAll (K : PySem.W.Frag) : List V → Hp → VK → Prop := fun vs H Q => ∃ (a : Addr) (bs : List Bool), vs = [V.ref a] ∧ SqL K H a (bs.map V.bl) ∧ Q (.bl (bs.all id)) H
theorem cr_all (hc : true = true) : CallR X (.builtin "all") (rAll X.K) := by
  intro pins s σ H vs us Q I r h
  obtain ⟨a, bs, rfl, hs, q⟩ := h
  obtain ⟨its, rv, hl, _⟩ := I.list hs
  rw [Vals.ref1 r]
  have hb := rv.bls
  refine call_all_walk (iter_any hl.isList fun s₂ e2 st hne => ?_)
  subst e2
  obtain ⟨ch, C, eh, av⟩ := I.hq0.new (e := s.heap.objs.size) (Heap.get?_none_of_le (Nat.le_refl _))
  refine ⟨_, _, _, _, _, _, _, rfl, walk_listQ (A := X.A.in1) (ch := ch) eh _ a hne (av _ (by simp)) its.toArray, ⟨st, C.keeps fun x _ o e => Heap.get?_push_of_some _ e⟩, truth_bools hb, fun h' tk hk => ?_⟩
  refine ⟨.bl _, H, I.kept fun b o eo => hk b o (fun hmem => ?_) (Heap.get?_push_of_some _ eo), ?_, q⟩
  · rcases List.mem_cons.mp hmem with e1 | hmem
    · exact absurd (e1 ▸ Heap.lt_size eo) (Nat.lt_irrefl _)
    · cases hmem
  · show Value.bool _ = Value.bool _
    rw [← all_range, hb, List.size_toArray, List.length_map]
end

/-! ### == and != of data at any depth: none, bools, ints, texts, lists, tuples -/
mutual
inductive Dp (K : PySem.W.Frag) (H : Hp) : V → PyData → Prop
  | non : Dp K H .non .none
  | bl (b : Bool) : Dp K H (.bl b) (.bool b)
  | int (i : Int) : Dp K H (.int i) (.int i)
  | str (x : Str) : Dp K H (.str x) (.str x)
  | lst {a : Addr} {xs : List V} {ds : List PyData} : SqL K H a xs → DpAll K H xs ds → Dp K H (.ref a) (.list ds)
  | tup {a : Addr} {xs : List V} {ds : List PyData} : SqT K H a xs → DpAll K H xs ds → Dp K H (.ref a) (.tuple ds)
inductive DpAll (K : PySem.W.Frag) (H : Hp) : List V → List PyData → Prop
  | nil : DpAll K H [] []
  | cons {v : V} {vs : List V} {d : PyData} {ds : List PyData} : Dp K H v d → DpAll K H vs ds → DpAll K H (v :: vs) (d :: ds)
end
section
variable {X : Cx} {pins : List (Addr × Obj)} {σ : St} {H : Hp} {s : Shared}
mutual
theorem Dp.reads (I : Inv X pins σ H s) : ∀ (d : PyData) (v : V) (u : Value), Dp X.K H v d → RelV v u → ∃ as, Reads s.heap u d as
  | .none, _, _, h, r => by
    cases h
    cases r
    exact ⟨_, Reads.none⟩
  | .bool b, _, _, h, r => by
    cases h
    cases r
    exact ⟨_, Reads.bool b⟩
  | .int i, _, _, h, r => by
    cases h
    obtain ⟨t, rfl⟩ := r
    exact ⟨_, Reads.int i t⟩
  | .str x, _, _, h, r => by
    cases h
    obtain ⟨t, rfl⟩ := r
    exact ⟨_, Reads.str x t⟩
  | .list ds, _, _, h, r => by
    cases h with
    | lst hs ha =>
      cases r
      obtain ⟨its, rv, ⟨o, n, ho, hc, _, hd⟩, _⟩ := I.list hs
      obtain ⟨as, hr⟩ := Dp.readsAll I ds _ its ha rv
      exact ⟨_, Reads.list ho hc hd hr⟩
  | .tuple ds, _, _, h, r => by
    cases h with
    | tup hs ha =>
      cases r
      obtain ⟨its, rv, ⟨o, ho, hc, n, hd⟩, _⟩ := I.tuple hs
      obtain ⟨as, hr⟩ := Dp.readsAll I ds _ its ha rv
      exact ⟨_, Reads.tuple ho hc hd hr⟩
  | .dict _, _, _, h, _ => by cases h
theorem Dp.readsAll (I : Inv X pins σ H s) : ∀ (ds : List PyData) (vs : List V) (us : List Value), DpAll X.K H vs ds → Vals vs us → ∃ as, ReadsAll s.heap us ds as
  | [], _, _, h, r => by
    cases h
    cases r
    exact ⟨_, ReadsAll.nil⟩
  | d :: ds, _, _, h, r => by
    cases h with
    | cons h1 h2 =>
      cases r with
      | cons r1 r2 =>
        obtain ⟨as, q1⟩ := Dp.reads I d _ _ h1 r1
        obtain ⟨bs, q2⟩ := Dp.readsAll I ds _ _ h2 r2
        exact ⟨_, ReadsAll.cons q1 q2⟩
end
end
section
variable {X : Cx}
def rNeD (K : PySem.W.Frag) : R2 := fun x y H Q => ∃ d e, Dp K H x d ∧ Dp K H y e ∧ SeqAt.shaped d = true ∧ SeqAt.shaped e = true ∧ Q (.bl (!PyData.eqv d e)) H
theorem op_neD (hu : X.A.units + 64 < cLine) : OpR X (compareOp .NotEq) (rNeD X.K) := by
  intro pins s σ H x y v u Q I rx ry h
  obtain ⟨d, e, hd, he, sd, se, q⟩ := h
  obtain ⟨as, r1⟩ := Dp.reads I d x v hd rx
  obtain ⟨bs, r2⟩ := Dp.reads I e y u he ry
  exact SeqAt.compareNe_shaped r1 r2 sd se hu ⟨.bl _, H, I, rfl, q⟩
end
end L2

namespace L2
open PySem PySem.Spec PyProof.Rows
abbrev CellAt (h : Heap) (c : Addr) (v : Option Value) : Prop := h.IsCell c v
def relS (scope sc : Scope) : Scope :=
  { scope with names := scope.names.map fun (n, k) => if (k == .free && sc.kind == .function && sc.names.lookup n == some .cell) then (n, .cell) else (n, k) }

def cloFrom (cells : List (Str × Addr)) : List (Str × NameKind) → List (Str × Addr) → List (Str × Addr)
  | [], acc => acc
  | (n, k) :: r, acc => if k == .free then cloFrom cells r ((n, (cells.lookup n).getD 0) :: acc) else cloFrom cells r acc

theorem closure_loop (env : Env) (f : Str × NameKind → List (Str × Addr) → Sem (ForInStep (List (Str × Addr))))
    (hf : ∀ n k c, f (n, k) c = if k == .free then (do let a ← cellOf env n; pure (.yield ((n, a) :: c))) else pure (.yield c)) :
    ∀ (names : List (Str × NameKind)) (acc : List (Str × Addr)), (∀ y ∈ names, y.2 = .free → ∃ c, env.cells.lookup y.1 = some c) → forIn names acc f = pure (cloFrom env.cells names acc)
  | [], acc, _ => by rw [List.forIn_nil]; rfl
  | (n, k) :: r, acc, h => by
    rw [List.forIn_cons, hf]
    have ih := fun acc => closure_loop env f hf r acc fun y hy => h y (List.mem_cons_of_mem _ hy)
    unfold cloFrom
    by_cases hk : (k == NameKind.free) = true
    · rw [if_pos hk, if_pos hk]
      obtain ⟨c, hc⟩ := h (n, k) List.mem_cons_self (by simpa using hk)
      have e : cellOf env n = pure c := by unfold cellOf; rw [hc]
      rw [e]
      have e2 : (env.cells.lookup n).getD 0 = c := by rw [hc]; rfl
      rw [e2]
      exact ih _
    · rw [if_neg hk, if_neg hk]
      exact ih _
theorem closure_ok {scope : Scope} {env : Env} (h : ∀ y ∈ scope.names, y.2 = .free → ∃ c, env.cells.lookup y.1 = some c) : closureFor scope env = pure (cloFrom env.cells scope.names []) := by
  simp only [closureFor]
  rw [closure_loop env _ (fun n k c => rfl) scope.names [] h]
  rfl

theorem mem_lookup {α : Type} : ∀ {l : List (Str × α)} {n : Str} {c : α}, (n, c) ∈ l → ∃ c', l.lookup n = some c'
  | (k, v) :: r, n, c, h => by
    rw [List.lookup_cons]
    cases hb : n == k with
    | true => exact ⟨_, rfl⟩
    | false =>
      rcases List.mem_cons.mp h with e | h
      · cases e; simp at hb
      · exact mem_lookup h

theorem cloFrom_mem {cells : List (Str × Addr)} : ∀ {names : List (Str × NameKind)} {acc : List (Str × Addr)} {n : Str} {c : Addr}, (n, c) ∈ cloFrom cells names acc → (n, c) ∈ acc ∨ ((n, .free) ∈ names ∧ c = (cells.lookup n).getD 0)
  | [], _, _, _, h => .inl h
  | (m, k) :: r, acc, n, c, h => by
    unfold cloFrom at h
    split at h
    · rename_i hk
      have hk : k = .free := by simpa using hk
      rcases cloFrom_mem h with h | ⟨h1, h2⟩
      · rcases List.mem_cons.mp h with e | h
        · cases e; exact .inr ⟨hk ▸ List.mem_cons_self, rfl⟩
        · exact .inl h
      · exact .inr ⟨List.mem_cons_of_mem _ h1, h2⟩
    · rcases cloFrom_mem h with h | ⟨h1, h2⟩
      · exact .inl h
      · exact .inr ⟨List.mem_cons_of_mem _ h1, h2⟩
theorem cloFrom_acc {cells : List (Str × Addr)} : ∀ {names : List (Str × NameKind)} {acc : List (Str × Addr)} {p : Str × Addr}, p ∈ acc → p ∈ cloFrom cells names acc
  | [], _, _, h => h
  | (m, k) :: r, acc, p, h => by
    unfold cloFrom
    split
    · exact cloFrom_acc (List.mem_cons_of_mem _ h)
    · exact cloFrom_acc h
theorem cloFrom_has {cells : List (Str × Addr)} : ∀ {names : List (Str × NameKind)} {acc : List (Str × Addr)} {n : Str}, (n, .free) ∈ names → (n, (cells.lookup n).getD 0) ∈ cloFrom cells names acc
  | (m, k) :: r, acc, n, h => by
    unfold cloFrom
    rcases List.mem_cons.mp h with e | h
    · cases e
      exact cloFrom_acc List.mem_cons_self
    · split
      · exact cloFrom_has h
      · exact cloFrom_has h

theorem cells_mem : ∀ {names : List (Str × NameKind)} {h : Heap} {acc : List (Str × Addr)} {x : Str} {c : Addr}, (x, c) ∈ cellsFrom h.objs.size names acc →
    (x, c) ∈ acc ∨ ((x, .cell) ∈ names ∧ h.objs.size ≤ c ∧ CellAt (pushCells h names) c none)
  | [], _, _, _, _, h => .inl h
  | (n, k) :: r, h, acc, x, c, hm => by
    unfold cellsFrom at hm
    unfold pushCells
    split at hm
    · rename_i hk
      rw [if_pos hk]
      have hk : k = .cell := by simpa using hk
      rw [← Heap.size_push h { cls := .type "cell", data := .cell none }] at hm
      rcases cells_mem hm with hm | ⟨h1, h2, h3⟩
      · rcases List.mem_cons.mp hm with e | hm
        · cases e
          exact .inr ⟨hk ▸ List.mem_cons_self, Nat.le_refl _, _, pushCells_keeps r _ _ _ (Heap.get?_push_size _ rfl), rfl⟩
        · exact .inl hm
      · rw [Heap.size_push] at h2
        exact .inr ⟨List.mem_cons_of_mem _ h1, Nat.le_of_succ_le h2, h3⟩
    · rename_i hk
      rw [if_neg hk]
      rcases cells_mem hm with hm | ⟨h1, h2, h3⟩
      · exact .inl hm
      · exact .inr ⟨List.mem_cons_of_mem _ h1, h2, h3⟩
theorem cells_acc : ∀ {names : List (Str × NameKind)} {n : Nat} {acc : List (Str × Addr)} {p : Str × Addr}, p ∈ acc → p ∈ cellsFrom n names acc
  | [], _, _, _, h => h
  | (m, k) :: r, n, acc, p, h => by
    unfold cellsFrom
    split
    · exact cells_acc (List.mem_cons_of_mem _ h)
    · exact cells_acc h
theorem cells_has : ∀ {names : List (Str × NameKind)} {n : Nat} {acc : List (Str × Addr)} {x : Str}, (x, .cell) ∈ names → ∃ c, (x, c) ∈ cellsFrom n names acc
  | (m, k) :: r, n, acc, x, h => by
    unfold cellsFrom
    rcases List.mem_cons.mp h with e | h
    · cases e
      exact ⟨n, cells_acc List.mem_cons_self⟩
    · split
      · exact cells_has h
      · exact cells_has h
theorem cells_inj : ∀ {names : List (Str × NameKind)} {h : Heap} {acc : List (Str × Addr)} {x y : Str} {c : Addr}, (∀ p ∈ acc, p.2 < h.objs.size) → (∀ x y c, (x, c) ∈ acc → (y, c) ∈ acc → x = y) →
    (x, c) ∈ cellsFrom h.objs.size names acc → (y, c) ∈ cellsFrom h.objs.size names acc → x = y
  | [], _, _, _, _, _, _, hi, h1, h2 => hi _ _ _ h1 h2
  | (n, k) :: r, h, acc, x, y, c, hl, hi, h1, h2 => by
    unfold cellsFrom at h1 h2
    split at h1
    · rename_i hk
      rw [if_pos hk] at h2
      rw [← Heap.size_push h { cls := .type "cell", data := .cell none }] at h1 h2
      refine cells_inj (h := h.push _) (fun p hp => ?_) (fun x y c a b => ?_) h1 h2
      · rw [Heap.size_push]
        rcases List.mem_cons.mp hp with rfl | hp
        · exact Nat.lt_succ_self _
        · exact Nat.lt_succ_of_lt (hl p hp)
      · rcases List.mem_cons.mp a with e | a <;> rcases List.mem_cons.mp b with e' | b
        · cases e; cases e'; rfl
        · cases e; exact absurd (hl _ b) (Nat.lt_irrefl _)
        · cases e'; exact absurd (hl _ a) (Nat.lt_irrefl _)
        · exact hi _ _ _ a b
    · rename_i hk
      rw [if_neg hk] at h2
      exact cells_inj hl hi h1 h2

theorem newEnv_comp {M : Model} {A : Around} {E : Value → Shared → Prop} {s : Shared} {scope : Scope} {globals : Addr} {closure : List (Str × Addr)} {qual : Str} {func : Option Addr} {code : Value} {around : Env} {builtins : Addr} {Q : Env → Shared → Prop}
    (h : Q (newEnv scope s.heap.objs.size globals (cellsFrom (s.heap.objs.size + 1) scope.names closure) qual func code (some around) builtins)
      { s with heap := pushCells (s.heap.push { cls := .type "dict", data := .dict #[] }) scope.names }) :
    wpAny M A (newFunctionEnv scope globals closure [] qual func code (some around) builtins) Q E s := by
  simp only [newFunctionEnv, Option.isSome_some, if_true]
  refine wpAny_bind (wpAny_alloc ?_)
  refine wpAny_bind (wpAny_layCells _ (fun n k c => rfl) scope.names closure _ _ ?_)
  rw [show ({ s with heap := s.heap.push { cls := .type "dict", data := .dict #[] } } : Shared).heap.objs.size = s.heap.objs.size + 1 from Heap.size_push ..]
  rw [List.forIn_nil]
  exact wpAny_bind (wpAny_pure (wpAny_pure h))

/-- every name of the written scope, in the scope that runs -/
theorem lookup_relS {sc : Scope} : ∀ {names : List (Str × NameKind)} {x : Str} {k : NameKind},
    (names.map fun (n, k) => if (k == NameKind.free && sc.kind == .function && sc.names.lookup n == some .cell) then (n, NameKind.cell) else (n, k)).lookup x = some k →
    ∃ k', names.lookup x = some k' ∧ (k = k' ∨ (k' = .free ∧ k = .cell))
  | [], _, _, h => by simp at h
  | (n, k₀) :: r, x, k, h => by
    have ih := @lookup_relS sc r x k
    have h' : List.lookup x ((if (k₀ == NameKind.free && sc.kind == .function && sc.names.lookup n == some .cell) = true then (n, NameKind.cell) else (n, k₀)) :: (r.map _)) = some k := h
    cases hx : x == n with
    | true =>
      simp only [List.lookup_cons, hx]
      by_cases hc : (k₀ == NameKind.free && sc.kind == .function && sc.names.lookup n == some .cell) = true
      · rw [if_pos hc] at h'
        simp only [List.lookup_cons, hx] at h'
        cases h'
        simp only [Bool.and_eq_true, beq_iff_eq] at hc
        exact ⟨k₀, rfl, .inr ⟨hc.1.1, rfl⟩⟩
      · rw [if_neg hc] at h'
        simp only [List.lookup_cons, hx] at h'
        cases h'
        exact ⟨_, rfl, .inl rfl⟩
    | false =>
      simp only [List.lookup_cons, hx]
      by_cases hc : (k₀ == NameKind.free && sc.kind == .function && sc.names.lookup n == some .cell) = true
      · rw [if_pos hc] at h'
        simp only [List.lookup_cons, hx] at h'
        exact ih h'
      · rw [if_neg hc] at h'
        simp only [List.lookup_cons, hx] at h'
        exact ih h'
/-- the names of a comprehension's block: its own (with their places in N), or captured -/
structure BlkOk (N : List Str) (sc scope : Scope) (own : List (Str × Nat)) : Prop where
  kind : scope.kind = .function
  uniq : ∀ y ∈ scope.names, scope.names.lookup y.1 = some y.2
  ix : ∀ p ∈ own, N[p.2]? = some p.1
  free : ∀ y ∈ scope.names, y.2 = .free → sc.names.lookup y.1 = some .cell ∨ sc.names.lookup y.1 = some .free
  own : ∀ y ∈ scope.names, y.2 = .local ∨ y.2 = .cell → y.1 ∈ own.map (·.1) ∨ y.1 ∉ N
/-- the slots of the block's own names forgotten -/
def wipe (σ : St) : List Nat → St
  | [] => σ
  | v :: vs => (wipe σ vs).set v none
theorem wipe_length (σ : St) : ∀ vs : List Nat, (wipe σ vs).length = σ.length
  | [] => rfl
  | v :: vs => by unfold wipe; rw [List.length_set, wipe_length σ vs]
theorem wipe_some {σ : St} {i : Nat} {x : V} : ∀ {vs : List Nat}, (wipe σ vs)[i]? = some (some x) → σ[i]? = some (some x) ∧ i ∉ vs
  | [], h => ⟨h, by simp⟩
  | v :: vs, h => by
    unfold wipe at h
    by_cases hi : v = i
    · subst hi
      by_cases hv : v < (wipe σ vs).length
      · rw [List.getElem?_set_self hv] at h; cases h
      · rw [List.getElem?_eq_none (by simpa using hv)] at h; cases h
    · rw [List.getElem?_set_ne hi] at h
      obtain ⟨h1, h2⟩ := wipe_some h
      exact ⟨h1, by simp only [List.mem_cons, not_or]; exact ⟨fun e => hi e.symm, h2⟩⟩

/-- the context of a block that starts at s, its iterator's objects at fp -/
abbrev Cx.blk (X : Cx) (s : Shared) (H : Hp) (scope : Scope) (cenv : Env) (fp : List Addr) : Cx := { X with s_0 := s, H_0 := H, env := cenv, outer := X.stack, ex := fp, fn := fun x => scope.names.lookup x == some .cell, pn := X.pn, xe := fun _ _ => False }
section
variable {X : Cx} {pins : List (Addr × Obj)} {σ : St} {H : Hp} {s : Shared}
theorem block_start {scope : Scope} {own : List (Str × Nat)} {fp : List Addr} (I : Inv X pins σ H s) (ok : BlkOk X.N X.env.scope scope own) (hN : X.N.Nodup) (hfp : ∀ b ∈ fp, FpOk X pins H b ∧ b < s.heap.objs.size) :
    Inv (X.blk s H scope (compEnvC scope (cellsFrom (s.heap.objs.size + 1) scope.names (cloFrom X.env.cells scope.names [])) s.heap.objs.size X.env) fp) [] (wipe σ (own.map (·.2))) H { s with heap := pushCells (s.heap.push { cls := .type "dict", data := .dict #[] }) scope.names } := by
  have hfree : ∀ y ∈ scope.names, y.2 = .free → ∃ c, X.env.cells.lookup y.1 = some c := fun y hy e => by
    rcases ok.free y hy e with k | k
    · exact I.ok.has _ (.inl k)
    · exact I.ok.has _ (.inr k)
  generalize hcenv : compEnvC scope (cellsFrom (s.heap.objs.size + 1) scope.names (cloFrom X.env.cells scope.names [])) s.heap.objs.size X.env = cenv
  have kp : ∀ b o, s.heap.get? b = some o → (pushCells (s.heap.push { cls := .type "dict", data := .dict #[] }) scope.names).get? b = some o := fun b o e => pushCells_keeps _ _ _ _ (Heap.get?_push_of_some _ e)
  have hL : cenv.locals = s.heap.objs.size := by rw [← hcenv]; rfl
  have hcl : cenv.cells = cellsFrom (s.heap.objs.size + 1) scope.names (cloFrom X.env.cells scope.names []) := by rw [← hcenv]; rfl
  have hsc : cenv.scope = relS scope X.env.scope := by rw [← hcenv]; rfl
  rw [← Heap.size_push s.heap { cls := .type "dict", data := .dict #[] }] at hcl
  have cm : ∀ {y c}, (y, c) ∈ cloFrom X.env.cells scope.names [] → X.env.cells.lookup y = some c ∧ c < s.heap.objs.size := fun {y c} hm => by
    rcases cloFrom_mem hm with hm | ⟨h1, rfl⟩
    · cases hm
    · obtain ⟨c, hc⟩ := hfree _ h1 rfl
      rw [hc]
      obtain ⟨w, z⟩ := I.cell _ _ hc
      exact ⟨rfl, z.lt⟩
  have mem : ∀ {y c}, cenv.cells.lookup y = some c → (X.env.cells.lookup y = some c ∧ c < s.heap.objs.size) ∨ (s.heap.objs.size + 1 ≤ c ∧ CellAt (pushCells (s.heap.push { cls := .type "dict", data := .dict #[] }) scope.names) c none) := fun {y c} e => by
    rw [hcl] at e
    rcases cells_mem (PySem.mem_of_lookup e) with hm | ⟨_, h2, h3⟩
    · exact .inl (cm hm)
    · rw [Heap.size_push] at h2; exact .inr ⟨h2, h3⟩
  have look : ∀ {y}, scope.names.lookup y = some .free → ∃ c, cenv.cells.lookup y = some c ∧ X.env.cells.lookup y = some c := fun {y} hl => by
    have hy : (y, NameKind.free) ∈ scope.names := PySem.mem_of_lookup hl
    obtain ⟨c', e'⟩ := mem_lookup (cells_acc (names := scope.names) (n := (s.heap.push { cls := .type "dict", data := .dict #[] }).objs.size) (cloFrom_has (cells := X.env.cells) (acc := []) hy))
    rw [← hcl] at e'
    refine ⟨c', e', ?_⟩
    rw [hcl] at e'
    rcases cells_mem (PySem.mem_of_lookup e') with hm | ⟨h1, _, _⟩
    · exact (cm hm).1
    · have := ok.uniq _ h1
      rw [hl] at this; cases this
  have okB : (X.blk s H scope cenv fp).Ok := by
    refine ⟨I.ok.mod, by show cenv.scope.kind = _; rw [hsc]; exact ok.kind, by show cenv.globals = _; rw [← hcenv]; exact I.ok.glob, by show cenv.builtins = _; rw [← hcenv]; exact I.ok.blt, by show s.heap.objs.size ≤ cenv.locals; rw [hL]; exact Nat.le_refl _,
      fun y z c e1 e2 => ?_, fun y hy => ?_, fun y c z e => ?_, I.ok.hd, I.ok.hq, I.ok.frames, .inl rfl, fun b hb => ⟨?_, fun y c e z => ?_⟩, I.bs, Nat.le_trans I.ok.bsz I.sz, fun b o e hb => ?_, fun b hb z => ?_, I.stack, I.stkFree⟩
    · have e1 : cenv.cells.lookup y = some c := e1
      have e2 : cenv.cells.lookup z = some c := e2
      rw [hcl] at e1 e2
      refine cells_inj (fun p hp => ?_) (fun y z c a b => I.ok.inj y z c (cm a).1 (cm b).1) (PySem.mem_of_lookup e1) (PySem.mem_of_lookup e2)
      rw [Heap.size_push]
      exact Nat.lt_succ_of_lt (cm (y := p.1) (c := p.2) hp).2
    · show ∃ c, cenv.cells.lookup y = some c
      have key : ∀ k, cenv.kindOf y = some k → (k = .cell ∨ k = .free) → ∃ c, cenv.cells.lookup y = some c := fun k hk hk' => by
        unfold Env.kindOf at hk
        rw [hsc] at hk
        obtain ⟨k', e, r⟩ := lookup_relS hk
        have : k' = .cell ∨ k' = .free := by
          rcases r with rfl | ⟨rfl, _⟩
          · exact hk'
          · exact .inr rfl
        rcases this with rfl | rfl
        · obtain ⟨c, hm⟩ := cells_has (n := (s.heap.push { cls := .type "dict", data := .dict #[] }).objs.size) (acc := cloFrom X.env.cells scope.names []) (PySem.mem_of_lookup e)
          obtain ⟨c', e'⟩ := mem_lookup hm
          exact ⟨c', by rw [hcl]; exact e'⟩
        · obtain ⟨c, h1, _⟩ := look e
          exact ⟨c, h1⟩
      rcases hy with hy | hy
      · exact key _ hy (.inl rfl)
      · exact key _ hy (.inr rfl)
    · have z : (scope.names.lookup y == some NameKind.cell) = true := z
      have z : scope.names.lookup y = some .cell := by simpa using z
      have e : cenv.cells.lookup y = some c := e
      rw [hcl] at e
      rcases cells_mem (PySem.mem_of_lookup e) with hm | ⟨_, h2, _⟩
      · rcases cloFrom_mem hm with hm | ⟨h1, _⟩
        · cases hm
        · have q := ok.uniq _ h1
          rw [z] at q; cases q
      · rw [Heap.size_push] at h2
        exact Nat.le_of_succ_le h2
    · show b ≠ cenv.locals
      rw [hL]; exact Nat.ne_of_lt (hfp b hb).2
    · have e : cenv.cells.lookup y = some c := e
      rcases mem e with ⟨h1, _⟩ | ⟨h1, _⟩
      · exact (hfp b hb).1.2.2.2.2.1 y c h1 z
      · have h2 : s.heap.objs.size + 1 ≤ b := by rw [← z]; exact h1
        exact absurd (Nat.lt_of_lt_of_le (hfp b hb).2 (Nat.le_of_succ_le h2)) (Nat.lt_irrefl _)
    · rcases (hfp b hb).1.2.2.2.1 with z | z
      · exact I.ok.noex b o e z
      · exact absurd (Nat.lt_of_lt_of_le (Heap.lt_size e) (Nat.le_trans I.ok.bsz z)) (Nat.lt_irrefl _)
    · rcases List.mem_cons.mp (I.stkSub b z) with z | z
      · exact (hfp b hb).1.2.1 z
      · exact (hfp b hb).1.2.2.1 z
  refine ⟨okB, rfl, I.bare, Un.kept kp, ⟨fun _ => none, ?_, fun i y av e1 e2 e3 => ?_⟩, fun y c e => ?_, ?_, fun y c e => ?_, fun p hp => ?_, I.hok.kept kp, by rw [wipe_length]; exact I.len⟩
  · show Heap.Ns _ cenv.locals _
    rw [hL]
    exact Heap.Ns.keeps (Heap.Ns.new ..) fun b o e => pushCells_keeps _ _ _ _ e
  · obtain ⟨e2, hne⟩ := wipe_some e2
    have hfr : scope.names.lookup y = some .free ∧ (cenv.kindOf y = some .cell ∨ cenv.kindOf y = some .free) := by
      have key : ∀ k, cenv.scope.names.lookup y = some k → k = .local ∨ k = .cell ∨ k = .free → scope.names.lookup y = some .free ∧ (cenv.kindOf y = some .cell ∨ cenv.kindOf y = some .free) := fun k hk hk' => by
        have hk0 := hk
        rw [hsc] at hk
        obtain ⟨k', e, r⟩ := lookup_relS hk
        have no : ¬ (k' = .local ∨ k' = .cell) := fun hh => by
          rcases ok.own _ (PySem.mem_of_lookup e) hh with e' | e'
          · obtain ⟨p, hp, hpy⟩ := List.mem_map.mp e'
            have e3 := ok.ix p hp
            have : p.1 = y := hpy
            rw [this] at e3
            exact hne (List.mem_map.mpr ⟨p, hp, nodup_ix hN e3 e1⟩)
          · exact e' (List.mem_of_getElem? e1)
        rcases r with rfl | ⟨rfl, rfl⟩
        · rcases hk' with rfl | rfl | rfl
          · exact absurd (.inl rfl) no
          · exact absurd (.inr rfl) no
          · exact ⟨e, .inr hk0⟩
        · exact ⟨e, .inl hk0⟩
      have e3 : Vis cenv.scope y := e3
      rcases e3 with e3 | e3 | e3
      · exact key _ e3 (.inl rfl)
      · exact key _ e3 (.inr (.inl rfl))
      · exact key _ e3 (.inr (.inr rfl))
    obtain ⟨m, hn, hl⟩ := I.loc
    have hvis : Vis X.env.scope y := (ok.free _ (PySem.mem_of_lookup hfr.1) rfl).elim (fun k => .inr (.inl k)) (fun k => .inr (.inr k))
    obtain ⟨w, r, q⟩ := hl i y av e1 e2 hvis
    refine ⟨w, r, .inr ⟨hfr.2, ?_⟩⟩
    obtain ⟨c, h1, h2⟩ := look hfr.1
    rcases q with ⟨k, _⟩ | ⟨_, c', e', z⟩
    · have k : X.env.scope.names.lookup y = some .local := k
      rcases ok.free _ (PySem.mem_of_lookup hfr.1) rfl with k' | k' <;> rw [show X.env.scope.names.lookup y = _ from k'] at k <;> cases k
    · rw [h2] at e'; cases e'
      exact ⟨c, h1, z.keeps kp⟩
  · have e : cenv.cells.lookup y = some c := e
    rcases mem e with ⟨h1, _⟩ | ⟨_, z⟩
    · obtain ⟨w, z⟩ := I.cell y c h1
      exact ⟨w, z.keeps kp⟩
    · exact ⟨_, z⟩
  · show H cenv.locals = none
    rw [hL]; exact I.hok.fresh (Nat.le_refl _)
  · have e : cenv.cells.lookup y = some c := e
    rw [hcl] at e
    rcases cells_mem (PySem.mem_of_lookup e) with hm | ⟨_, h2, _⟩
    · rcases I.freeC y c (cm hm).1 with fc | ⟨_, o', fc⟩
      · exact .inl fc
      · refine .inr ⟨?_, o', fc⟩
        rcases cloFrom_mem hm with hm | ⟨h1, _⟩
        · cases hm
        · show (scope.names.lookup y == some NameKind.cell) = false
          rw [ok.uniq _ h1]; rfl
    · rw [Heap.size_push] at h2; exact .inl (I.hok.fresh (Nat.le_of_succ_le h2))
  · obtain ⟨e, n, ne, nf, d⟩ := I.pin p (List.mem_append_left _ (by simpa using hp))
    exact ⟨kp _ _ e, n, by show p.1 ≠ cenv.locals; rw [hL]; exact Nat.ne_of_lt (Heap.lt_size e), fun z => (List.mem_cons.mp (I.stkSub _ z)).elim ne nf, d⟩

/-- an item appended to a tracked list -/
theorem app_ok {E : Value → Shared → Prop} {D : Addr} {xs : List V} {y : V} {v : Value} {Q : Value → Shared → Prop} (I : Inv X pins σ H s) (hD : H D = some (.lst xs)) (hz : xs.length < sizeLine) (r : RelV y v)
    (h : ∀ s', Inv X pins σ (upd H D (.lst (xs ++ [y]))) s' → Q .none s') : wpAny (model X.prog X.w) X.A (call (.builtin "list.append") [.ref D, v]) Q E s := by
  obtain ⟨hz', its, n, ri, e⟩ := I.hok D _ hD
  have hl := ri.length
  refine append_at (hsz := by rw [List.size_toArray]; omega) e fun h' sb ho' => ?_
  refine h { s with heap := h' } (I.write (t' := s.toks) (by rw [hD]; trivial) (.inl rfl) (fun b u hb q => (sb.2 b hb).trans q) ⟨_, ho'⟩ ⟨by rw [List.length_append]; exact hz, its ++ [v], n + 1, ri.append (.cons r .nil), ?_⟩)
  rw [ho']
  simp

/-- a clause's tests -/
def PTs (X : Cx) (ifs : List Expr) (t : TT) : Prop :=
  ∀ (pins : List (Addr × Obj)) (s : Shared) (σ : St) (H : Hp) (Q : Bool → Hp → Prop), Inv X pins σ H s → t σ H Q →
    wpAny (model X.prog X.w) X.A (forIn ifs true fun c r => if r = true then do let ok ← isTrue c X.env (eval c X.env); pure (ForInStep.yield ok) else pure (ForInStep.yield r)) (TP X pins σ Q) X.xe s
def tYes : TT := fun _ H Q => Q true H
theorem pts_nil : PTs X [] tYes := fun _ _ _ H _ I h => wpAny_tests_nil ⟨H, I, h⟩
theorem pts_one {c : Expr} {t : TT} (h : PT X c t) : PTs X [c] t := fun pins s σ H Q I hw => wpAny_tests_one (h pins s σ H Q I hw)
end

theorem thnF {α : Type} {t : Sem α} {Q Q' : α → Shared → Prop} {M : Model} {A : Around} {E : Value → Shared → Prop} {s : Shared} (h : wpAny M A t Q (fun _ _ => False) s) (hQ : ∀ a s, Q a s → Q' a s) : wpAny M A t Q' E s := wpAny_mono h hQ fun _ _ z => False.elim z

/-- the loop of a list comprehension's block, the target of any form (codeAny_compLoop_tests asks a target that no tuple goes to; statement and proof follow it, PyProof/CompMap.lean:41-61, with the step letOwnedTupleGo kept) -/
theorem compLoop_any {prog : Program} {w : World} {A : Around} {R : Result → Shared → Prop} {s : Shared} {elt target iter : Expr} {ifs : List Expr} {scope : Scope} {pos : Pos} {it acc : Value} {env : Env} (I : Nat → Shared → Prop)
    (turn : ∀ n s, I n s → wpAny (model prog w) A (pyNext it) (fun r s₁ => match r with
      | none => R (.ok .next) s₁
      | some v => wpAny (model prog w) A (letOwnedTupleGo target it v) (fun _ s₁' => wpAny (model prog w) A (assign target env v) (fun _ s₂ =>
          wpAny (model prog w) A (forIn ifs true fun c r => if r = true then do let ok ← isTrue c env (eval c env); pure (ForInStep.yield ok) else pure (ForInStep.yield r)) (fun ok s₃ =>
            if ok = true then wpAny (model prog w) A (eval elt env) (fun x s₄ =>
              wpAny (model prog w) A (call (.builtin "list.append") [acc, x]) (fun _ s₅ => ∃ m, m < n ∧ I m s₅) (notedBy (model prog w) A env fun e s' => R (.error e) s') s₄) (notedBy (model prog w) A env fun e s' => R (.error e) s') s₃
            else ∃ m, m < n ∧ I m s₃) (notedBy (model prog w) A env fun e s' => R (.error e) s') s₂) (notedBy (model prog w) A env fun e s' => R (.error e) s') s₁') (notedBy (model prog w) A env fun e s' => R (.error e) s') s₁) (notedBy (model prog w) A env fun e s' => R (.error e) s') s)
    (n : Nat) (h : I n s) :
    codeAny (model prog w) A (.compLoop (.ListComp elt [⟨target, iter, ifs, 0⟩] scope pos) 0 it acc env) R s := by
  refine codeAny_loop rfl I (fun n s hI => ?_) n h
  show wpAny _ A ((compTurn (.ListComp elt [⟨target, iter, ifs, 0⟩] scope pos) 0 it acc env).onRaise (fun x => do noteFrame x env; theTreesLotGoes x)) _ _ s
  refine wpAny_noted ?_
  rw [compTurn_list]
  refine wpAny_bind (wpAny_standAt (wpAny_bind (wpAny_mono (turn n s hI) (fun r s₁ h₁ => ?_) fun _ _ h' => h')))
  cases r with
  | none => exact wpAny_pure h₁
  | some v =>
    refine wpAny_bind (wpAny_mono h₁ (fun _ s₁' h₁' => ?_) fun _ _ h' => h')
    refine wpAny_bind (wpAny_mono h₁' (fun _ s₂ h₂ => wpAny_bind (wpAny_mono h₂ (fun ok s₃ h₃ => ?_) fun _ _ h' => h')) fun _ _ h' => h')
    cases ok with
    | false => exact wpAny_pure ⟨rfl, h₃⟩
    | true =>
      exact wpAny_bind (wpAny_bind (wpAny_mono h₃ (fun x s₄ h₄ => wpAny_bind (wpAny_mono h₄ (fun _ s₅ h₅ => wpAny_pure (wpAny_pure ⟨rfl, h₅⟩)) fun _ _ h' => h')) fun _ _ h' => h'))

section
variable {X : Cx}
/-- [elt for target in iter if ..]: D the new list; W by the turn and a measure, Nx what a turn is to reach -/
def tLc (wi : TI) (g : TG) (tt : TT) (te : TE) (vs : List Nat) : TE := fun σ H Q => wi σ H fun J H1 => ∀ D, H1 D = none → ∃ W : Nat → Nat → Hp → Prop, (∃ m, W 0 m (upd H1 D (.lst []))) ∧ ∀ i m H, W i m H →
  (J.stop i H ∧ Q (.ref D) H) ∨ (J.go i H ∧ ∃ Nx : Hp → Prop, (∀ H', Nx H' → ∃ m', m' < m ∧ W (i + 1) m' H') ∧ ∀ x H', J.yld i H x H' → g x (wipe σ vs) H' fun σ2 H2 => wipe σ2 vs = wipe σ vs ∧ tt σ2 H2 fun b H3 =>
    if b = true then te σ2 H3 fun y H4 => ∃ acc, H4 D = some (.lst acc) ∧ acc.length < sizeLine ∧ Nx (upd H4 D (.lst (acc ++ [y]))) else Nx H3)
theorem lc_core {pins : List (Addr × Obj)} {s : Shared} {σ : St} {H : Hp} {Q : VK} {elt tg iter : Expr} {ifs : List Expr} {scope : Scope} {own : List (Str × Nat)} {pos pos' : Pos} {wi : TI} {g : TG} {tt : TT} {te : TE} {use : Option (Value → Sem Unit)} {Qf : Value → Shared → Prop}
    (hc : true = true) (hN : X.N.Nodup) (I : Inv X pins σ H s) (hi : PI X tg iter wi) (ok : BlkOk X.N X.env.scope scope own)
    (hg : ∀ (s : Shared) (H : Hp) (C : Addr) (cl : List (Str × Addr)) (fp : List Addr), PG (X.blk s H scope (compEnvC scope cl C X.env) fp) tg g) (ht : ∀ (s : Shared) (H : Hp) (C : Addr) (cl : List (Str × Addr)) (fp : List Addr), PTs (X.blk s H scope (compEnvC scope cl C X.env) fp) ifs tt)
    (he : ∀ (s : Shared) (H : Hp) (C : Addr) (cl : List (Str × Addr)) (fp : List Addr), PE (X.blk s H scope (compEnvC scope cl C X.env) fp) elt te) (hs : ∀ x, foldedSetIterable iter X.env x = pure x)
    (h : tLc wi g tt te (own.map (·.2)) σ H Q)
    (hRR : ∀ D C s' m H', Inv X pins σ H' s' → Q (.ref D) H' → s'.heap.Ns C m → FpOk X pins H' C → compPost (model X.prog X.w) X.A X.xe use Qf (.ref D) C (.ok .next) s') :
    wpAny (model X.prog X.w) X.A (comprehension (.ListComp elt [⟨tg, iter, ifs, 0⟩] scope pos) scope X.env pos' (newList []) false (eval iter X.env) use) Qf X.xe s := by
  have hfree : ∀ y ∈ scope.names, y.2 = .free → ∃ c, X.env.cells.lookup y.1 = some c := fun y hy e => by
    rcases ok.free y hy e with k | k
    · exact I.ok.has _ (.inl k)
    · exact I.ok.has _ (.inr k)
  refine wpAny_comprehension_free (use := use) rfl hs (closure_ok hfree) ok.kind (fun y hy e => by rw [ok.uniq y hy, e])
    (thn (hi pins s σ H _ I h) fun xv s1 hx => thn hx fun itv s2 h2 => ?_)
  obtain ⟨it, fp, tn, J, H2, e, I2, ⟨cm, hcm, T⟩, st2, f2, q⟩ := h2
  subst e
  refine wpAny_newObj_type (newEnv_comp ?_) (by show 0 ≤ sizeLine; decide)
  generalize hD : s2.heap.objs.size = D
  have hDn : H2 D = none := I2.hok.fresh (Nat.le_of_eq hD)
  obtain ⟨W, ⟨m0, w0⟩, turn⟩ := q D hDn
  -- the new list
  generalize hs3 : ({ s2 with heap := s2.heap.push { cls := .type "list", data := .seq ([] : List Value).toArray } } : Shared) = s3
  have I3 : Inv X pins σ (upd H2 D (.lst [])) s3 := by
    rw [← hs3]
    refine I2.laid (t' := s2.toks) (fun b o e => Heap.get?_push_of_some _ e) (Nat.le_of_eq hD) ⟨Nat.zero_le _, [], 0, .nil, ?_⟩
    rw [← hD]
    exact Heap.get?_push_size _ rfl
  have h3 : s3.heap = s2.heap.push { cls := .type "list", data := .seq ([] : List Value).toArray } := by rw [← hs3]
  have sz : ∀ b ∈ fp, b < s2.heap.objs.size := fun b hb => by
    obtain ⟨o, e, _⟩ := T.obj _ _ st2 b hb
    exact Heap.lt_size e
  have f3 : ∀ b ∈ fp, FpOk X pins (upd H2 D (.lst [])) b ∧ b < s3.heap.objs.size := fun b hb => by
    have hlt := sz b hb
    refine ⟨⟨?_, (f2 b hb).2⟩, by rw [h3, Heap.size_push]; exact Nat.lt_succ_of_lt hlt⟩
    rw [upd_ne (by rw [← hD]; exact Nat.ne_of_lt hlt)]
    exact (f2 b hb).1
  have st3 : tn 0 s3.heap := T.keep _ _ _ st2 fun b _ o e => by rw [h3]; exact Heap.get?_push_of_some _ e
  have I4 := block_start I3 ok hN f3
  have pg := hg s3 (upd H2 D (.lst [])) s3.heap.objs.size (cellsFrom (s3.heap.objs.size + 1) scope.names (cloFrom X.env.cells scope.names [])) fp
  have pt := ht s3 (upd H2 D (.lst [])) s3.heap.objs.size (cellsFrom (s3.heap.objs.size + 1) scope.names (cloFrom X.env.cells scope.names [])) fp
  have pe := he s3 (upd H2 D (.lst [])) s3.heap.objs.size (cellsFrom (s3.heap.objs.size + 1) scope.names (cloFrom X.env.cells scope.names [])) fp
  show codeAny _ _ (.compStart (.ListComp elt [⟨tg, iter, ifs, 0⟩] scope pos) 0 (.ref it) (.ref D) (compEnvC scope (cellsFrom (s3.heap.objs.size + 1) scope.names (cloFrom X.env.cells scope.names [])) s3.heap.objs.size X.env)) (compPost (model X.prog X.w) X.A X.xe use Qf (.ref D) s3.heap.objs.size) { s3 with heap := pushCells (s3.heap.push { cls := .type "dict", data := .dict #[] }) scope.names }
  have nfp : ∀ b ∈ fp, (upd H2 D (.lst [])) b = none := fun b hb => (f3 b hb).1.1
  generalize hce : compEnvC scope (cellsFrom (s3.heap.objs.size + 1) scope.names (cloFrom X.env.cells scope.names [])) s3.heap.objs.size X.env = ce at I4 pg pt pe ⊢
  have cL : ce.locals = s3.heap.objs.size := by subst hce; rfl
  generalize hH3 : upd H2 D (.lst []) = H3 at I3 I4 pg pt pe w0 nfp f3
  generalize hs4 : ({ s3 with heap := pushCells (s3.heap.push { cls := .type "dict", data := .dict #[] }) scope.names } : Shared) = s4 at I4 ⊢
  have st4 : tn 0 s4.heap := T.keep _ _ _ st3 fun b _ o e => by rw [← hs4]; exact pushCells_keeps _ _ _ _ (Heap.get?_push_of_some _ e)
  have stat : ∀ {σ' : St} {H' : Hp} {s' : Shared}, Inv (X.blk s3 H3 scope ce fp) [] σ' H' s' → (∀ b ∈ fp, H' b = none) → ∀ b ∈ fp, FpOk (X.blk s3 H3 scope ce fp) [] H' b := fun {σ' H' s'} I' hn b hb =>
    ⟨hn b hb, (I'.ok.exf b hb).1, I'.ok.exfs b hb, .inl hb, fun x c e => (I'.ok.exf b hb).2 x c e, fun p hp => (f3 b hb).1.2.2.2.2.2 p (List.mem_append_left _ (by simpa using hp))⟩
  have loop : codeAny (model X.prog X.w) X.A (.compLoop (.ListComp elt [⟨tg, iter, ifs, 0⟩] scope pos) 0 (.ref it) (.ref D) ce) (compPost (model X.prog X.w) X.A X.xe use Qf (.ref D) s3.heap.objs.size) s4 := by
    refine compLoop_any (fun n s' => ∃ i H', Inv (X.blk s3 H3 scope ce fp) [] (wipe σ (own.map (·.2))) H' s' ∧ tn i s'.heap ∧ (∀ b ∈ fp, H' b = none) ∧ W i n H') ?_ m0 ⟨0, H3, I4, st4, nfp, w0⟩
    rintro n s5 ⟨i, H5, I5, st5, n5, w5⟩
    rcases turn i n H5 w5 with ⟨stop, qq⟩ | ⟨go, Nx, hNx, step⟩
    · have td := T.done (X.blk s3 H3 scope ce fp) rfl rfl rfl hcm i [] s5 _ H5 (fun _ _ => False) I5 (stat I5 n5) st5 stop
      refine thnF td fun r s6 ⟨hr, I6⟩ => ?_
      subst hr
      -- back in the def's context
      have I7 : Inv X pins σ H5 s6 := I3.call' (ch := fp) I6.os I6.base I6.hok I6.bare fun b hb => ⟨(f3 b hb).1.2.2.2.1, (f3 b hb).1.2.1, (f3 b hb).1.2.2.2.2.1, (f3 b hb).1.2.2.2.2.2⟩
      have nC : H5 s3.heap.objs.size = none := by
        have z : H5 ce.locals = none := I6.free
        rw [cL] at z
        exact z
      obtain ⟨m, hn, _⟩ := I6.loc
      have hn : s6.heap.Ns ce.locals m := hn
      rw [cL] at hn
      exact hRR D s3.heap.objs.size s6 m H5 I7 qq hn (I3.fpOk (Nat.le_refl _) nC)
    · have ti := T.item (X.blk s3 H3 scope ce fp) rfl rfl rfl hcm i [] s5 _ H5 (fun _ _ => False) I5 (stat I5 n5) st5 go
      refine thnF ti fun r s6 ⟨u, hr, h6⟩ => ?_
      subst hr
      refine thnF h6 fun _ s7 ⟨x, H7, I7, r7, y7, st7, n7⟩ => ?_
      have I7' := I7.pinned (stat I7 n7) (T.obj _ _ st7)
      refine thnF (pg _ s7 _ H7 x u _ I7' r7 (step x H7 y7)) fun _ s8 ⟨σ8, H8, I8, hw8, q8⟩ => ?_
      refine thnF (pt _ s8 σ8 H8 _ I8 q8) fun b s9 ⟨H9, I9, q9⟩ => ?_
      -- the turn's end
      have fin : ∀ {s' : Shared} {H' : Hp}, Inv (X.blk s3 H3 scope ce fp) ([] ++ pinsAt fp s7.heap) σ8 H' s' → Nx H' → ∃ m, m < n ∧ ∃ i H', Inv (X.blk s3 H3 scope ce fp) [] (wipe σ (own.map (·.2))) H' s' ∧ tn i s'.heap ∧ (∀ b ∈ fp, H' b = none) ∧ W i m H' := fun {s' H'} I' nx => by
        obtain ⟨m', hm, w'⟩ := hNx H' nx
        have pin' : ∀ b ∈ fp, ∀ o, s7.heap.get? b = some o → s'.heap.get? b = some o ∧ H' b = none := fun b hb o e =>
          let z := I'.pin (b, o) (List.mem_append_right _ (List.mem_append_right _ (mem_pinsAt hb e)))
          ⟨z.1, z.2.1⟩
        have hl : (wipe σ (own.map (·.2))).length = σ8.length := by rw [← hw8, wipe_length]
        refine ⟨m', hm, i + 1, H', (I'.unpinned (pins := [])).weak hl (fun j v e => ?_), T.keep _ _ _ st7 fun b hb o e => (pin' b hb o e).1, fun b hb => ?_, w'⟩
        · rw [← hw8] at e
          exact (wipe_some e).1
        · obtain ⟨o, e, _⟩ := T.obj _ _ st7 b hb
          exact (pin' b hb o e).2
      cases b with
      | false =>
        simp only [Bool.false_eq_true, if_false] at q9 ⊢
        exact fin I9 q9
      | true =>
        simp only [if_true] at q9 ⊢
        refine thnF (pe _ s9 σ8 H9 _ I9 q9) fun z s10 ⟨yv, H10, I10, r10, acc, hD10, hz10, nx⟩ => ?_
        exact app_ok (X := X.blk s3 H3 scope ce fp) I10 hD10 hz10 r10 fun s11 I11 => fin I11 nx
  exact codeAny_compStart_list loop (T.self X.A 0 _ _ _ st4 loop)
/-- as a value -/
theorem pe_lc {elt tg iter : Expr} {ifs : List Expr} {scope : Scope} {own : List (Str × Nat)} {pos : Pos} {wi : TI} {g : TG} {tt : TT} {te : TE} (hc : true = true) (hN : X.N.Nodup) (hi : PI X tg iter wi) (ok : BlkOk X.N X.env.scope scope own)
    (hg : ∀ (s : Shared) (H : Hp) (C : Addr) (cl : List (Str × Addr)) (fp : List Addr), PG (X.blk s H scope (compEnvC scope cl C X.env) fp) tg g) (ht : ∀ (s : Shared) (H : Hp) (C : Addr) (cl : List (Str × Addr)) (fp : List Addr), PTs (X.blk s H scope (compEnvC scope cl C X.env) fp) ifs tt)
    (he : ∀ (s : Shared) (H : Hp) (C : Addr) (cl : List (Str × Addr)) (fp : List Addr), PE (X.blk s H scope (compEnvC scope cl C X.env) fp) elt te) (hs : ∀ x, foldedSetIterable iter X.env x = pure x := by intro _; rfl) :
    PE X (.ListComp elt [⟨tg, iter, ifs, 0⟩] scope pos) (tLc wi g tt te (own.map (·.2))) := by
  intro pins s σ H Q I h
  rw [eval_ListComp]
  refine lc_core hc hN I hi ok hg ht he hs h fun D C s' m H' I' q hn f => ⟨m, hn, fun h'' sb => ?_⟩
  obtain ⟨f0, f1, f2, f3, f4, f5⟩ := f
  exact ⟨.ref D, H', I'.turned (t' := s'.toks) (fun b o hb e => (sb.2 b hb).trans e) f0 f1 f3 f4 f5, rfl, q⟩
/-- name = [..] on one line, the name a local -/
theorem ps_setLc {i : Nat} {y : Str} {py : Pos} {elt tg iter : Expr} {ifs : List Expr} {scope : Scope} {own : List (Str × Nat)} {pos spos : Pos} {wi : TI} {g : TG} {tt : TT} {te : TE} (hc : true = true) (hN : X.N.Nodup) (hy : X.N[i]? = some y) (hyl : X.env.scope.names.lookup y = some .local)
    (hsw : swapsWith (.ListComp elt [⟨tg, iter, ifs, 0⟩] scope pos) (some (.Name y py)) spos.line X.env = pure true) (hi : PI X tg iter wi) (ok : BlkOk X.N X.env.scope scope own)
    (hg : ∀ (s : Shared) (H : Hp) (C : Addr) (cl : List (Str × Addr)) (fp : List Addr), PG (X.blk s H scope (compEnvC scope cl C X.env) fp) tg g) (ht : ∀ (s : Shared) (H : Hp) (C : Addr) (cl : List (Str × Addr)) (fp : List Addr), PTs (X.blk s H scope (compEnvC scope cl C X.env) fp) ifs tt)
    (he : ∀ (s : Shared) (H : Hp) (C : Addr) (cl : List (Str × Addr)) (fp : List Addr), PE (X.blk s H scope (compEnvC scope cl C X.env) fp) elt te) (hs : ∀ x, foldedSetIterable iter X.env x = pure x := by intro _; rfl) :
    PS X (.Assign [.Name y py] (.ListComp elt [⟨tg, iter, ifs, 0⟩] scope pos) spos) (tAsg (tLc wi g tt te (own.map (·.2))) (gName i)) := by
  intro pins s σ H D I h
  rw [exec_Assign_Name_used _ _ _ _ hsw]
  refine wpAny_bind (wpAny_standAt (wpAny_bind ?_))
  show wpAny _ X.A (do let _ ← comprehension (.ListComp elt [⟨tg, iter, ifs, 0⟩] scope pos) scope X.env (firstIterPos [⟨tg, iter, ifs, 0⟩] pos) (newList []) false (eval iter X.env) (some (assign (.Name y py) X.env))) _ _ s
  have h : tLc wi g tt te (own.map (·.2)) σ H (fun x H1 => gName i x σ H1 D.nx) := h
  refine wpAny_bind (thn (lc_core (Qf := fun _ s' => SP X pins D .next s') hc hN I hi ok hg ht he hs h fun L C s' m H' I' q hn f => ?_) fun _ s' hq => wpAny_pure (wpAny_pure hq))
  show wpAny _ _ (assign (.Name y py) X.env (.ref L)) _ _ _
  refine wpAny_assign_Name (store_ok2 (v := V.ref L) I' hN hy (.inl hyl) rfl (fun s2 I2 ⟨a, sb, ha⟩ => ?_) (.inr hyl))
  obtain ⟨f0, f1, f2, f3, f4, f5⟩ := f
  have haC : C ≠ a := by
    rcases ha with z | z
    · rw [z]; exact f1
    · exact fun e => f4 y a z e.symm
  refine ⟨m, hn.sameBut sb haC, fun h3 sb3 => ?_⟩
  exact ⟨_, H', I2.turned (t' := s2.toks) (fun b o hb e => (sb3.2 b hb).trans e) f0 f1 f3 f4 f5, q⟩
theorem sw_true {elt : Expr} {gs : List Comprehension} {scope : Scope} {pos py : Pos} {y : Str} {l : Nat} {env : Env} (hk : env.scope.kind = .function) (hy : env.scope.names.lookup y = some .local) (hl : (py.line == pos.line) = true)
    (ha : (scope.names.any fun (n, k) => n == y && (k == .local || k == .cell)) = false) : swapsWith (.ListComp elt gs scope pos) (some (.Name y py)) l env = pure true := by
  have ky : env.kindOf y = some .local := hy
  have hb : env.blockKind = .function := by unfold Env.blockKind; rw [hk]; rfl
  unfold swapsWith
  simp only [hb, ky, ha, Expr.pos, hl]
  rfl
end

/-! ### the forms one uses -/
/-- over a range: Pv by the turn and the heap (the new list at D within) -/
theorem lc_range {lo : Int} {n : Nat} {g : TG} {tt : TT} {te : TE} {vs : List Nat} {σ : St} {H1 : Hp} {D : Addr} {Qd : Hp → Prop} (Pv : Nat → Hp → Prop) (h0 : Pv 0 (upd H1 D (.lst [])))
    (hs : ∀ i H, i < n → Pv i H → g (.int (lo + i)) (wipe σ vs) H fun σ2 H2 => wipe σ2 vs = wipe σ vs ∧ tt σ2 H2 fun b H3 =>
      if b = true then te σ2 H3 fun y H4 => ∃ acc, H4 D = some (.lst acc) ∧ acc.length < sizeLine ∧ Pv (i + 1) (upd H4 D (.lst (acc ++ [y]))) else Pv (i + 1) H3) (hd : ∀ H, Pv n H → Qd H) :
    ∃ W : Nat → Nat → Hp → Prop, (∃ m, W 0 m (upd H1 D (.lst []))) ∧ ∀ i m H, W i m H →
      ((Itr lo n).stop i H ∧ Qd H) ∨ ((Itr lo n).go i H ∧ ∃ Nx : Hp → Prop, (∀ H', Nx H' → ∃ m', m' < m ∧ W (i + 1) m' H') ∧ ∀ x H', (Itr lo n).yld i H x H' → g x (wipe σ vs) H' fun σ2 H2 => wipe σ2 vs = wipe σ vs ∧ tt σ2 H2 fun b H3 =>
        if b = true then te σ2 H3 fun y H4 => ∃ acc, H4 D = some (.lst acc) ∧ acc.length < sizeLine ∧ Nx (upd H4 D (.lst (acc ++ [y]))) else Nx H3) := by
  refine ⟨fun i m H => m = n - i ∧ i ≤ n ∧ Pv i H, ⟨n, by simp, Nat.zero_le _, h0⟩, ?_⟩
  rintro i m H ⟨rfl, hi, p⟩
  by_cases hlt : i < n
  · refine .inr ⟨hlt, Pv (i + 1), fun H' p' => ⟨n - (i + 1), by omega, rfl, hlt, p'⟩, fun x H' y => ?_⟩
    obtain ⟨e, y⟩ := y
    subst e y
    exact hs i _ hlt p
  · have e : i = n := by omega
    subst e
    exact .inl ⟨Nat.le_refl _, hd H p⟩
/-- over a list that the block leaves as it is -/
theorem lc_list {K : PySem.W.Frag} {a : Addr} {xs : List V} {g : TG} {tt : TT} {te : TE} {vs : List Nat} {σ : St} {H1 : Hp} {D : Addr} {Qd : Hp → Prop} (Pv : Nat → Hp → Prop) (h0 : Pv 0 (upd H1 D (.lst []))) (hl : ∀ i H, i ≤ xs.length → Pv i H → SqL K H a xs)
    (hs : ∀ i x H, xs[i]? = some x → Pv i H → g x (wipe σ vs) H fun σ2 H2 => wipe σ2 vs = wipe σ vs ∧ tt σ2 H2 fun b H3 =>
      if b = true then te σ2 H3 fun y H4 => ∃ acc, H4 D = some (.lst acc) ∧ acc.length < sizeLine ∧ Pv (i + 1) (upd H4 D (.lst (acc ++ [y]))) else Pv (i + 1) H3) (hd : ∀ H, Pv xs.length H → Qd H) :
    ∃ W : Nat → Nat → Hp → Prop, (∃ m, W 0 m (upd H1 D (.lst []))) ∧ ∀ i m H, W i m H →
      ((Itl K a).stop i H ∧ Qd H) ∨ ((Itl K a).go i H ∧ ∃ Nx : Hp → Prop, (∀ H', Nx H' → ∃ m', m' < m ∧ W (i + 1) m' H') ∧ ∀ x H', (Itl K a).yld i H x H' → g x (wipe σ vs) H' fun σ2 H2 => wipe σ2 vs = wipe σ vs ∧ tt σ2 H2 fun b H3 =>
        if b = true then te σ2 H3 fun y H4 => ∃ acc, H4 D = some (.lst acc) ∧ acc.length < sizeLine ∧ Nx (upd H4 D (.lst (acc ++ [y]))) else Nx H3) := by
  refine ⟨fun i m H => m = xs.length - i ∧ i ≤ xs.length ∧ Pv i H, ⟨xs.length, by simp, Nat.zero_le _, h0⟩, ?_⟩
  rintro i m H ⟨rfl, hi, p⟩
  have q := hl i H hi p
  by_cases hlt : i < xs.length
  · refine .inr ⟨⟨xs, xs[i], q, by simp [hlt]⟩, Pv (i + 1), fun H' p' => ⟨xs.length - (i + 1), by omega, rfl, hlt, p'⟩, fun x H' y => ?_⟩
    obtain ⟨e, y⟩ := y
    subst e
    exact hs i x _ (y xs q) p
  · have e : i = xs.length := by omega
    subst e
    exact .inl ⟨⟨xs, q, Nat.le_refl _⟩, hd H p⟩
def blkC (N : List Str) (sc scope : Scope) (own : List (Str × Nat)) : Bool :=
  (match scope.kind with | .function => true | _ => false) && (scope.names.all fun y => decide (scope.names.lookup y.1 = some y.2)) && (own.all fun p => decide (N[p.2]? = some p.1)) &&
    (scope.names.all fun y => match y.2 with
      | .free => (match sc.names.lookup y.1 with | some .cell => true | some .free => true | _ => false)
      | .local => decide (y.1 ∈ own.map (·.1)) || decide (y.1 ∉ N)
      | .cell => decide (y.1 ∈ own.map (·.1)) || decide (y.1 ∉ N)
      | _ => true)
theorem blkOk_by {N : List Str} {sc scope : Scope} {own : List (Str × Nat)} (h : blkC N sc scope own = true) : BlkOk N sc scope own := by
  unfold blkC at h
  simp only [Bool.and_eq_true, List.all_eq_true, decide_eq_true_eq] at h
  obtain ⟨⟨⟨h1, h2⟩, h3⟩, h4⟩ := h
  refine ⟨?_, h2, h3, fun y hy e => ?_, fun y hy e => ?_⟩
  · split at h1
    · assumption
    · cases h1
  · have q := h4 y hy
    simp only [e] at q
    split at q <;> first | exact .inl (by assumption) | exact .inr (by assumption) | cases q
  · have q := h4 y hy
    rcases e with e | e <;> (simp only [e, Bool.or_eq_true, decide_eq_true_eq] at q; exact q)
end L2

namespace L2
open PySem PySem.Spec PyProof.Rows

section
variable {prog : Program} {w : World} {A : Around} {R : Result → Shared → Prop} {s : Shared} {elt t0 i0 t1 i1 : Expr} {ifs0 ifs1 : List Expr} {scope : Scope} {pos : Pos} {it acc : Value} {env : Env}
end

section
variable {X : Cx}
end
end L2

namespace L2
open PySem PySem.Spec PyProof.Rows

/-! ### lists of pairs as tables -/
section
variable {κ : Type} [DecidableEq κ]
def valV (kvs : List (κ × V)) (k : κ) : Option V := (kvs.find? fun kv => decide (kv.1 = k)).map (·.2)
/-- in its place, or at the end -/
def putK (kvs : List (κ × V)) (k : κ) (v : V) : List (κ × V) :=
  if (kvs.any fun kv => decide (kv.1 = k)) = true then kvs.map (fun kv => if kv.1 = k then (kv.1, v) else kv) else kvs ++ [(k, v)]
def dropK (kvs : List (κ × V)) (k : κ) : List (κ × V) := kvs.filter fun kv => decide (kv.1 ≠ k)

theorem valV_pos {p : κ × V} {r : List (κ × V)} {k : κ} (e : p.1 = k) : valV (p :: r) k = some p.2 := by simp [valV, List.find?_cons, e]
theorem valV_neg {p : κ × V} {r : List (κ × V)} {k : κ} (e : ¬ p.1 = k) : valV (p :: r) k = valV r k := by simp [valV, List.find?_cons, e]
theorem valV_any (k : κ) : ∀ kvs : List (κ × V), (kvs.any fun kv => decide (kv.1 = k)) = (valV kvs k).isSome
  | [] => rfl
  | p :: r => by
    rw [List.any_cons]
    by_cases e : p.1 = k
    · simp only [valV_pos e, decide_eq_true e, Bool.true_or, Option.isSome_some]
    · rw [valV_neg e, decide_eq_false e, Bool.false_or]; exact valV_any k r
theorem RelO.isSome_eq {o : Option V} {u : Option Value} (r : RelO o u) : o.isSome = u.isSome := by
  cases o with
  | none => cases u with
    | none => rfl
    | some _ => exact (show False from r).elim
  | some _ => cases u with
    | none => exact (show False from r).elim
    | some _ => rfl
theorem KV.any {kvs : List (κ × V)} {vs : List (κ × Value)} (r : KV kvs vs) (k : κ) : (kvs.any fun kv => decide (kv.1 = k)) = vs.any fun kv => decide (kv.1 = k) := by
  unfold KV at r
  induction r with
  | nil => rfl
  | cons h t ih => rw [List.any_cons, List.any_cons, ih, h.1]
theorem KV.repl {kvs : List (κ × V)} {vs : List (κ × Value)} (r : KV kvs vs) (k : κ) {y : V} {u : Value} (ry : RelV y u) :
    KV (kvs.map fun kv => if kv.1 = k then (kv.1, y) else kv) (vs.map fun kv => if kv.1 = k then (kv.1, u) else kv) := by
  unfold KV at r ⊢
  induction r with
  | nil => exact .nil
  | @cons p q ps qs h t ih =>
    rw [List.map_cons, List.map_cons]
    refine .cons ?_ ih
    obtain ⟨h1, h2⟩ := h
    by_cases e : p.1 = k
    · rw [if_pos e, if_pos (h1.symm.trans e)]; exact ⟨h1, ry⟩
    · rw [if_neg e, if_neg (fun z => e (h1.trans z))]; exact ⟨h1, h2⟩
theorem KV.put {kvs : List (κ × V)} {vs : List (κ × Value)} (r : KV kvs vs) (k : κ) {y : V} {u : Value} (ry : RelV y u) : KV (putK kvs k y) (stored vs k u) := by
  unfold putK stored
  rw [r.any k]
  by_cases e : (vs.any fun kv => decide (kv.1 = k)) = true
  · rw [if_pos e, if_pos e]; exact r.repl k ry
  · rw [if_neg e, if_neg e]; exact Paired.snoc r ⟨rfl, ry⟩
theorem KV.drop {kvs : List (κ × V)} {vs : List (κ × Value)} (r : KV kvs vs) (k : κ) : KV (dropK kvs k) (without vs k) := by
  unfold KV at r ⊢
  unfold dropK without
  induction r with
  | nil => exact .nil
  | @cons p q ps qs h t ih =>
    obtain ⟨h1, h2⟩ := h
    rw [List.filter_cons, List.filter_cons]
    by_cases e : p.1 = k
    · have a : ¬ decide (p.1 ≠ k) = true := by simp [e]
      have b : ¬ decide (q.1 ≠ k) = true := by simp [h1.symm.trans e]
      rw [if_neg a, if_neg b]; exact ih
    · have e' : ¬ q.1 = k := fun z => e (h1.trans z)
      have a : decide (p.1 ≠ k) = true := by simp [e]
      have b : decide (q.1 ≠ k) = true := by simp [e']
      rw [if_pos a, if_pos b]; exact .cons ⟨h1, h2⟩ ih
theorem KV.length {kvs : List (κ × V)} {vs : List (κ × Value)} (r : KV kvs vs) : kvs.length = vs.length := Paired.length r
end


/-! ### a tracked dict, its keys ints and texts or tuples of these -/
/-- raw entries of a dict with tuple keys -/
abbrev KT (H : Hp) : List (List Key × V) → List (List Key × Addr × Value) → Prop := Paired fun p q => p.1 = q.1 ∧ H q.2.1 = some (.tup (p.1.map kV)) ∧ RelV p.2 q.2.2
theorem KT.val {H : Hp} {kvs : List (List Key × V)} {xs : List (List Key × Addr × Value)} (r : KT H kvs xs) (k : List Key) : RelO (valV kvs k) ((atKey xs k).map (·.2)) := by
  induction r with
  | nil => exact True.intro
  | @cons p q ps qs h t ih =>
    obtain ⟨h1, _, h2⟩ := h
    by_cases e : p.1 = k
    · have e' : q.1 = k := h1.symm.trans e
      have b : atKey (q :: qs) k = some q.2 := by simp [atKey, List.find?_cons, e']
      rw [valV_pos e, b]; exact h2
    · have e' : ¬ q.1 = k := fun z => e (h1.trans z)
      have b : atKey (q :: qs) k = atKey qs k := by simp [atKey, List.find?_cons, e']
      rw [valV_neg e, b]; exact ih
theorem KT.repl {H : Hp} {kvs : List (List Key × V)} {xs : List (List Key × Addr × Value)} (r : KT H kvs xs) (k : List Key) {y : V} {u : Value} (ry : RelV y u) :
    KT H (kvs.map fun kv => if kv.1 = k then (kv.1, y) else kv) (xs.map (putAt k u)) := by
  induction r with
  | nil => exact .nil
  | @cons p q ps qs h t ih =>
    rw [List.map_cons, List.map_cons]
    refine .cons ?_ ih
    obtain ⟨h1, h2, h3⟩ := h
    unfold putAt
    by_cases e : p.1 = k
    · rw [if_pos e, if_pos (h1.symm.trans e)]; exact ⟨h1, h2, ry⟩
    · rw [if_neg e, if_neg (fun z => e (h1.trans z))]; exact ⟨h1, h2, h3⟩
theorem KT.put {H : Hp} {kvs : List (List Key × V)} {xs : List (List Key × Addr × Value)} (r : KT H kvs xs) (k : List Key) {b : Addr} {y : V} {u : Value} (hb : H b = some (.tup (k.map kV))) (ry : RelV y u) :
    KT H (putK kvs k y) (storedH xs k b u) := by
  have e : (kvs.any fun kv => decide (kv.1 = k)) = (atKey xs k).isSome := by
    rw [valV_any, (r.val k).isSome_eq, Option.isSome_map]
  unfold putK storedH
  rw [e]
  by_cases q : (atKey xs k).isSome = true
  · rw [if_pos q, if_pos q]; exact r.repl k ry
  · rw [if_neg q, if_neg q]; exact Paired.snoc r ⟨rfl, hb, ry⟩
section
variable {P : Program} {w : World} {H : Hp} {h : Heap} {a : Addr}
end

/-- what the dict at a holds at the key y -/
def DGet (H : Hp) (a : Addr) (y : V) (r : Option V) : Prop :=
  (∃ kvs k, Rd H a (.dK kvs) ∧ y = kV k ∧ r = valV kvs k) ∨ ∃ kvs k b, Rd H a (.dT kvs) ∧ y = .ref b ∧ H b = some (.tup (k.map kV)) ∧ r = valV kvs k
/-- the heap behind a[y] = v -/
def DPut (H : Hp) (a : Addr) (y v : V) (H' : Hp) : Prop :=
  (∃ kvs k, H a = some (.dK kvs) ∧ y = kV k ∧ kvs.length < sizeLine ∧ H' = upd H a (.dK (putK kvs k v))) ∨
  ∃ kvs k b, H a = some (.dT kvs) ∧ y = .ref b ∧ H b = some (.tup (k.map kV)) ∧ kvs.length < sizeLine ∧ H' = upd H a (.dT (putK kvs k v))
theorem DGet.k {H : Hp} {a : Addr} {kvs : List (Key × V)} {k : Key} (e : H a = some (.dK kvs)) : DGet H a (kV k) (valV kvs k) := .inl ⟨kvs, k, .inl e, rfl, rfl⟩
theorem DGet.t {H : Hp} {a b : Addr} {kvs : List (List Key × V)} {k : List Key} (e : H a = some (.dT kvs)) (eb : H b = some (.tup (k.map kV))) : DGet H a (.ref b) (valV kvs k) := .inr ⟨kvs, k, b, .inl e, rfl, eb, rfl⟩
theorem DPut.k {H : Hp} {a : Addr} {kvs : List (Key × V)} {k : Key} {v : V} (e : H a = some (.dK kvs)) (hl : kvs.length < sizeLine) : DPut H a (kV k) v (upd H a (.dK (putK kvs k v))) := .inl ⟨kvs, k, e, rfl, hl, rfl⟩
theorem DPut.t {H : Hp} {a b : Addr} {kvs : List (List Key × V)} {k : List Key} {v : V} (e : H a = some (.dT kvs)) (eb : H b = some (.tup (k.map kV))) (hl : kvs.length < sizeLine) :
    DPut H a (.ref b) v (upd H a (.dT (putK kvs k v))) := .inr ⟨kvs, k, b, e, rfl, eb, hl, rfl⟩


section
variable {X : Cx} {pins : List (Addr × Obj)} {σ : St} {H : Hp} {s : Shared} {a : Addr} {y v : V} {u r : Value} {o : Option V} {A : Around} {E : Value → Shared → Prop}

end

section
variable {X : Cx} {pins : List (Addr × Obj)} {σ : St} {H : Hp} {s : Shared} {a : Addr} {kvs : List (Key × V)} {k : Key} {u : Value} {A : Around} {E : Value → Shared → Prop}
end


/-! ### readings and rules -/
section
variable {X : Cx} {o i e value : Expr} {pos pos' tpos : Pos} {td ty tv : TE}
end


/-! ### displays -/
section
variable {X : Cx} {pos : Pos}
end

/-! ### methods -/
section
variable {X : Cx} {pins : List (Addr × Obj)} {σ : St} {H : Hp} {s : Shared} {a : Addr} {y d : V} {u r : Value} {o : Option V} {A : Around} {E : Value → Shared → Prop}
end

section
variable {X : Cx} {o e f : Expr} {apos cpos : Pos} {td ty tx : TE}
end

/-! ### dict(d): a copy -/
section
variable {X : Cx} {pins : List (Addr × Obj)} {σ : St} {H : Hp} {s : Shared} {a : Addr} {kvs : List (Key × V)} {A : Around} {E : Value → Shared → Prop}
end


section
variable {X : Cx} {pins : List (Addr × Obj)} {σ : St} {H : Hp} {s : Shared} {a : Addr} {y : V} {u : Value} {A : Around} {E : Value → Shared → Prop}
end
end L2

namespace L2
open PySem PySem.Spec PyProof.Rows

section
variable {prog : Program} {w : World} {A : Around} {E : Value → Shared → Prop}
end

section
variable {X : Cx}
end
end L2

namespace L2
open PySem PySem.Spec PyProof.Rows

section
variable {X : Cx} {pins : List (Addr × Obj)} {σ : St} {H : Hp} {s : Shared} {h' : Heap}
/-- .. and one new object is laid -/
theorem Inv.turnedNew {t' : Nat} {ch : List Addr} {T : Addr} {ob : HO} (I : Inv X pins σ H s) (k : ∀ b o, b ∉ ch → s.heap.get? b = some o → h'.get? b = some o) (hf : ∀ b ∈ ch, FpOk X pins H b) (hT : s.heap.objs.size ≤ T)
    (new : ObjOk X.prog X.w (upd H T ob) h' T ob) : Inv X pins σ (upd H T ob) { s with heap := h', toks := t' } := by
  have hn : H T = none := I.hok.fresh hT
  have nit : ∀ b u, H b = some u → b ∉ ch := fun b u e z => by
    have q := (hf b z).1
    rw [q] at e; cases e
  refine I.step (g' := s.gens) (d' := s.drawn) (ch := ch) (fun b hb => ⟨(hf b hb).2.2.2.1, (hf b hb).2.1, (hf b hb).2.2.2.2.1, (hf b hb).2.2.2.2.2⟩) (fun b o _ _ hc e _ => k b o hc e) (fun b o _ _ hc e _ => ⟨o.slots, k b o hc e⟩)
    (fun b o _ e n => ?_) (fun b o hc e => ⟨o, k b o hc e⟩) (fun b xs e => ?_) (fun b o u e => ?_) (fun b ps e => ⟨#[], ?_⟩) (fun m hm => ?_) (fun b u e => ?_) I.bare
  · rw [upd_ne (Nat.ne_of_lt (Nat.lt_of_lt_of_le (Heap.lt_size e) hT))]; exact n
  · rw [upd_ne (ne_of_none e hn)]; exact e
  · rw [upd_ne (ne_of_none e hn)]; exact e
  · rw [upd_ne (ne_of_none e hn), e]; simp
  · obtain ⟨o, es, ep, ho, r⟩ := hm
    exact ⟨o, es, ep, k _ o (fun z => (hf _ z).2.1 rfl) ho, r⟩
  · by_cases hb : b = T
    · subst hb
      rw [upd_same] at e
      cases e
      exact new
    · rw [upd_ne hb] at e
      refine (I.hok b u e).stay (fun c v hc q => k c v ?_ q) (fun c q => by rw [upd_ne (ne_of_none q hn)]; exact q) fun c xs q => by rw [upd_ne (ne_of_none q hn)]; exact q
      rcases hc with z | z
      · rw [z]; exact nit b u e
      · exact nit c _ z

/-! ### locking a thing while a statement runs -/
end
section
variable {X : Cx}
/-! ### one iterator just laid -/
end

/-! ### range with a step -/
section
variable {X : Cx} {tg : Expr}
end
/-! ### reversed(list) -/
section
variable {X : Cx} {tg : Expr}
end

/-! ### a str -/
/-! ### a dict's keys: any dict's entries -/
section
variable {prog : Program} {w : World} {A : Around} {E : Value → Shared → Prop} {s : Shared}
end

/-! ### a locked dict -/
section
variable {X : Cx} {pins : List (Addr × Obj)} {σ : St} {H : Hp} {s : Shared} {d : Addr} {o : Obj}
end

section
variable {P : Program} {w : World} {K : PySem.W.Frag} {tg : Expr} {d : Addr} {o : Obj} {es : Array DictEntry} {ep : Nat}
end

/-! ### for k in d, d.keys(), d.values(), d.items() -/
section
variable {X : Cx} {tg e : Expr} {td : TE} {apos cpos : Pos}
end

/-! ### enumerate(list) -/
/-- the list at a as it stands at each turn, each item in a new pair -/
def Ite (K : PySem.W.Frag) (a : Addr) : It :=
  ⟨fun i H => ∃ (xs : List V) (x : V), SqL K H a xs ∧ xs[i]? = some x, fun i H v H' => ∃ T x, v = .ref T ∧ H T = none ∧ H' = upd H T (.tup [.int (i : Nat), x]) ∧ ∀ xs, SqL K H a xs → xs[i]? = some x, fun i H => ∃ xs : List V, SqL K H a xs ∧ xs.length ≤ i⟩
theorem turn_enum {P : Program} {w : World} {K : PySem.W.Frag} {elts : List Expr} {kk : Nat} {tpos : Pos} (a e it : Addr) :
    Turn P w K (.Tuple elts kk tpos) (Ite K a) [e, it] e (fun i h => (∃ old, IsEnum h e it ((i : Nat) : Int) old) ∧ h.IsListIter it a i ∧ e ≠ it) false where
  mem := by simp
  obj := fun i h st b hb => by
    obtain ⟨⟨old, he⟩, ⟨o, ho, hc, hd⟩, _⟩ := st
    have e' : b = e ∨ b = it := by simpa using hb
    rcases e' with z | z
    · rw [z]; exact ⟨_, he, fun v q => nomatch q⟩
    · rw [z]; exact ⟨o, ho, fun v q => by rw [hd] at q; cases q⟩
  keep := fun i h h' st k => let ⟨⟨old, he⟩, hi, hne⟩ := st; ⟨⟨old, k e (by simp) _ he⟩, hi.at fun o q => k it (by simp) o q, hne⟩
  item := by
    intro X hP hw hK hc i pins s σ H E I hf st hg
    subst hP hw hK
    obtain ⟨⟨old, he⟩, hit, hne⟩ := st
    obtain ⟨xs, x, hq, hx⟩ := hg
    obtain ⟨its, rv, p, hz⟩ := I.list hq
    obtain ⟨u, hu, ru⟩ := rv.get hx
    have hel : e < s.heap.objs.size := Heap.lt_size he
    have hil : it < s.heap.objs.size := by obtain ⟨_, q, _⟩ := hit; exact Heap.lt_size q
    refine wpAny_pyNext_enum_item he hit p.isList (x := u) (by simpa using hu) hne fun h' ho hit' hT hsz hk => ?_
    refine ⟨_, rfl, wpAny_letOwnedTupleGo_enum (s := { s with heap := h', toks := s.toks + 1 }) ho fun h'' he' sb => ?_⟩
    have hT2 : h''.get? s.heap.objs.size = some { cls := .type "tuple", data := .seq #[.int i s.toks, u] } := (sb.2 _ (Nat.ne_of_gt hel)).trans hT
    have new : ObjOk X.prog X.w (upd H s.heap.objs.size (.tup [.int (i : Nat), x])) h'' s.heap.objs.size (.tup [.int (i : Nat), x]) :=
      ⟨by show 2 ≤ sizeLine; decide, [.int i s.toks, u], .cons ⟨_, rfl⟩ (.cons ru .nil), ⟨_, hT2, rfl, _, rfl⟩⟩
    have I1 : Inv X pins σ (upd H s.heap.objs.size (.tup [.int (i : Nat), x])) { s with heap := h'', toks := s.toks + 1 } :=
      I.turnedNew (ch := [e, it]) (fun b ob hb q => (sb.2 b (fun z => hb (by simp [z]))).trans (hk b ob (fun z => hb (by simp [z])) (fun z => hb (by simp [z])) q)) hf (Nat.le_refl _) new
    refine ⟨.ref s.heap.objs.size, _, I1, rfl, ⟨_, x, rfl, I.hok.fresh (Nat.le_refl _), rfl, fun ys hy => by rw [I.list_inj hy hq]; exact hx⟩, ⟨⟨u, ?_⟩, hit'.at fun o q => (sb.2 it (Ne.symm hne)).trans q, hne⟩, fun b hb => ?_⟩
    · have e1 : ((i + 1 : Nat) : Int) = (i : Int) + 1 := by omega
      rw [e1]; exact he'
    · have hb' : b < s.heap.objs.size := by
        have e' : b = e ∨ b = it := by simpa using hb
        rcases e' with z | z
        · rw [z]; exact hel
        · rw [z]; exact hil
      rw [upd_ne (Nat.ne_of_lt hb')]
      exact (hf b hb).1
  done := by
    intro X hP hw hK hc i pins s σ H E I hf st hg
    subst hP hw hK
    obtain ⟨⟨old, he⟩, hit, hne⟩ := st
    obtain ⟨xs, hq, hx⟩ := hg
    obtain ⟨its, rv, p, hz⟩ := I.list hq
    obtain ⟨f0, f1, f2, f3, f4, f5⟩ := hf it (by simp)
    have hl := rv.length
    exact enum_end_q (I.hqAt f5) he hit p.isList (by simp; omega) fun h' eb => ⟨rfl, I.turned (t' := s.toks) (fun b o hb q => eb b o hb q) f0 f1 f3 f4 f5⟩
  self := fun A i s Q E st h => let ⟨⟨_, he⟩, _⟩ := st; wpAny_pyIter_enum he h
def iEnum (K : PySem.W.Frag) (ta : TA) : TI := fun σ H R => ta σ H fun vs H1 => ∃ a xs, vs = [.ref a] ∧ SqL K H1 a xs ∧ R (Ite K a) H1
theorem pi_enum {X : Cx} {e : Expr} {ta : TA} {p pos tpos : Pos} {elts : List Expr} {kk : Nat} (hg : Gl X "enumerate") (hm : X.mg "enumerate" = none) (ha : PA X [e] ta) (hs : starEach [e] X.env = [(false, eval e X.env)] := by rfl) :
    PI X (.Tuple elts kk tpos) (.Call (.Name "enumerate" p) [e] [] pos) (iEnum X.K ta) := by
  intro pins s σ H R I h
  refine Call_ (ld_blt I hg hm boot_enumerate (PyProof.Rows.callWith_type1 (thn (ha pos pins s σ H _ I h) fun us s1 ⟨vs, H1, I1, r1, q1⟩ => ?_) hs rfl))
  obtain ⟨a, xs, ex, hq, q⟩ := q1
  subst ex
  cases r1 with
  | cons r rr =>
    cases rr
    cases r
    obtain ⟨its, rv, p', hz⟩ := I1.list hq
    refine call_enumerate_list p'.isList fun h' he hit hsz hk => wpAny_pyIter_enum he ?_
    have I2 : Inv X pins σ H1 { s1 with heap := h' } := I1.kept (t' := s1.toks) hk
    refine ⟨s1.heap.objs.size + 1, [s1.heap.objs.size + 1, s1.heap.objs.size], _, _, H1, rfl, I2, ⟨false, (fun z => nomatch z), turn_enum a (s1.heap.objs.size + 1) s1.heap.objs.size⟩, ⟨⟨.none, he⟩, hit, Nat.succ_ne_self _⟩, fun b hb => ?_, q⟩
    have e' : b = s1.heap.objs.size + 1 ∨ b = s1.heap.objs.size := by simpa using hb
    have hle : s1.heap.objs.size ≤ b := by
      rcases e' with z | z
      · rw [z]; exact Nat.le_add_right _ _
      · rw [z]; exact Nat.le_refl _
    exact I1.fpOk hle (I1.hok.fresh hle)
/-! ### zip(list, list) -/
end L2

section 
namespace Bits
open PySem PyProof.Rows

end Bits
end 

section 
namespace TL
open PySem PySem.Builtin PySem.Builtin.Str PySem.StrLaws

abbrev tl (x : Str) : List Nat := x.cps.toList
theorem len_tl (x : Str) : x.length = (tl x).length := by simp [tl, Str.length]
theorem ext_tl {x y : Str} (h : tl x = tl y) : x = y := Str.ext' (Array.toList_inj.mp h)
theorem tl_append (x y : Str) : tl (x ++ y) = tl x ++ tl y := by
  show (x ++ y).cps.toList = _
  rw [Str.cps_append, Array.toList_append]
theorem map_tl_inj : ∀ {l m : List Str}, l.map tl = m.map tl → l = m
  | [], [], _ => rfl
  | [], _ :: _, h => by simp at h
  | _ :: _, [], h => by simp at h
  | x :: l, y :: m, h => by
    rw [List.map_cons, List.map_cons] at h
    injection h with h1 h2
    rw [ext_tl h1, map_tl_inj h2]
/-! ### the list functions -/
/-- S stands at the head of l -/
def pre (S l : List Nat) : Bool := l.take S.length == S
/-- l cut at each S from the left; k signs are still to be passed over -/
def spl (S : List Nat) : Nat → List Nat → List Nat → List (List Nat)
  | _, acc, [] => [acc]
  | 0, acc, c :: r => if pre S (c :: r) = true then acc :: spl S (S.length - 1) [] r else spl S 0 (acc ++ [c]) r
  | k + 1, acc, _ :: r => spl S k acc r
theorem spl_nil (S : List Nat) (k : Nat) (acc : List Nat) : spl S k acc [] = [acc] := by cases k <;> rfl
theorem spl_hit {S acc r : List Nat} {c : Nat} (h : pre S (c :: r) = true) : spl S 0 acc (c :: r) = acc :: spl S (S.length - 1) [] r := by
  show (if pre S (c :: r) = true then acc :: spl S (S.length - 1) [] r else spl S 0 (acc ++ [c]) r) = _
  rw [if_pos h]
theorem spl_miss {S acc r : List Nat} {c : Nat} (h : pre S (c :: r) = false) : spl S 0 acc (c :: r) = spl S 0 (acc ++ [c]) r := by
  show (if pre S (c :: r) = true then acc :: spl S (S.length - 1) [] r else spl S 0 (acc ++ [c]) r) = _
  rw [if_neg (by rw [h]; exact Bool.false_ne_true)]
theorem spl_pass (S : List Nat) : ∀ (k : Nat) (acc l : List Nat), spl S k acc l = spl S 0 acc (l.drop k)
  | 0, _, _ => by rw [List.drop_zero]
  | k + 1, acc, [] => by rw [List.drop_nil, spl_nil, spl_nil]
  | k + 1, acc, c :: r => by
    show spl S k acc r = spl S 0 acc (r.drop k)
    exact spl_pass S k acc r
theorem pre_nil {S : List Nat} (hS : S ≠ []) : pre S [] = false := by
  cases S with
  | nil => exact absurd rfl hS
  | cons s S => rfl
theorem pre_of_head {s c : Nat} (S r : List Nat) (h : c ≠ s) : pre (s :: S) (c :: r) = false := by
  cases hp : pre (s :: S) (c :: r) with
  | false => rfl
  | true =>
    have e : (c :: r).take (s :: S).length = s :: S := eq_of_beq hp
    rw [List.length_cons, List.take_succ_cons] at e
    injection e with e1 e2
    exact absurd e1 h
theorem pre_self (S r : List Nat) : pre S (S ++ r) = true := by
  show ((S ++ r).take S.length == S) = true
  have e : (S ++ r).take S.length = S := List.take_left
  rw [e] <;> exact beq_self_eq_true S

theorem getElem_drop_cons {L : List Nat} {a : Nat} (h : a < L.length) : ∃ c, L.drop a = c :: L.drop (a + 1) := ⟨L[a], List.drop_eq_getElem_cons h⟩
theorem spl_run (S L : List Nat) : ∀ (m a : Nat) (acc : List Nat), a + m ≤ L.length → (∀ k, a ≤ k → k < a + m → pre S (L.drop k) = false) →
    spl S 0 acc (L.drop a) = spl S 0 (acc ++ (L.drop a).take m) (L.drop (a + m))
  | 0, a, acc, _, _ => by rw [List.take_zero, List.append_nil, Nat.add_zero]
  | m + 1, a, acc, h, hn => by
    have hlt : a < L.length := by omega
    obtain ⟨c, e⟩ := getElem_drop_cons hlt
    have h0 := hn a (Nat.le_refl _) (by omega)
    have ih := spl_run S L m (a + 1) (acc ++ [c]) (by omega) (fun k h1 h2 => hn k (by omega) (by omega))
    have e2 : a + 1 + m = a + (m + 1) := by omega
    rw [e2] at ih
    rw [e] at h0
    rw [e, spl_miss h0, ih, List.take_succ_cons, List.append_assoc] <;> rfl
theorem drop_two (L : List Nat) (a b : Nat) : (L.drop a).drop b = L.drop (a + b) := by
  first
    | rw [List.drop_drop]
    | rw [List.drop_drop, Nat.add_comm]
theorem spl_at {S L : List Nat} (hS : S ≠ []) {c : Nat} {acc : List Nat} (h : pre S (L.drop c) = true) : spl S 0 acc (L.drop c) = acc :: spl S 0 [] (L.drop (c + S.length)) := by
  rw [← drop_two]
  cases e : L.drop c with
  | nil => rw [e, pre_nil hS] at h; cases h
  | cons d r =>
    rw [e] at h
    rw [spl_hit h, spl_pass]
    cases S with
    | nil => exact absurd rfl hS
    | cons s S => rfl
/-! ### the model's split and partition are these -/
theorem at_iff {x y : Str} (hy : tl y ≠ []) (i : Nat) : At x y x.length i ↔ pre (tl y) ((tl x).drop i) = true := by
  have hx := len_tl x
  have hl := len_tl y
  constructor
  · intro h
    have h2 := h.2
    rw [subAt_eq, hl] at h2
    exact h2
  · intro h
    have e : ((tl x).drop i).take (tl y).length = tl y := eq_of_beq h
    have e1 := congrArg List.length e
    rw [List.length_take, List.length_drop] at e1
    have e2 : 0 < (tl y).length := List.length_pos_iff.mpr hy
    refine ⟨by omega, ?_⟩
    rw [subAt_eq, hl]
    exact h
theorem no_at {x y : Str} (hy : tl y ≠ []) {i : Nat} (h : ¬ At x y x.length i) : pre (tl y) ((tl x).drop i) = false := by
  cases hp : pre (tl y) ((tl x).drop i) with
  | false => rfl
  | true => exact absurd ((at_iff hy i).mpr hp) h
theorem len1 {y : Str} (hy : tl y ≠ []) : 1 ≤ y.length := by
  have e2 : 0 < (tl y).length := List.length_pos_iff.mpr hy
  rw [len_tl y]
  exact e2
theorem tl_strSub (x : Str) (i j : Nat) : tl (strSub x i j) = ((tl x).drop i).take (j - i) := strSub_toList x i j
theorem tl_strSub_end (x : Str) (i : Nat) : tl (strSub x i x.length) = (tl x).drop i := by
  rw [tl_strSub, len_tl x]
  exact List.take_of_length_le (by rw [List.length_drop] <;> omega)

theorem parts_spl {x y : Str} (hy : tl y ≠ []) : ∀ (cuts : List Nat) (a f : Nat), a ≤ (tl x).length → ChainG x y x.length a cuts f → (∀ k, f ≤ k → ¬ At x y x.length k) →
    (partsFrom x y.length a cuts).map tl = spl (tl y) 0 [] ((tl x).drop a)
  | [], a, f, ha, h, hn => by
    have e : f = a := h
    subst e
    show [tl (strSub x f x.length)] = _
    have run := spl_run (tl y) (tl x) ((tl x).length - f) f [] (by omega) (fun k h1 _ => no_at hy (hn k h1))
    have e2 : f + ((tl x).length - f) = (tl x).length := by omega
    rw [e2, List.drop_length, spl_nil, List.nil_append, List.take_of_length_le (by rw [List.length_drop] <;> omega)] at run
    rw [run, tl_strSub_end]
  | c :: r, a, f, ha, h, hn => by
    obtain ⟨h1, h2, h3, h4⟩ := h
    have hc : c + y.length ≤ x.length := h2.1
    have hx := len_tl x
    have hl := len_tl y
    have ih := parts_spl hy r (c + y.length) f (by omega) h4 hn
    show tl (strSub x a c) :: (partsFrom x y.length (c + y.length) r).map tl = _
    have run := spl_run (tl y) (tl x) (c - a) a [] (by omega) (fun k k1 k2 => no_at hy (h3 k k1 (by omega)))
    have e2 : a + (c - a) = c := by omega
    rw [e2, List.nil_append, spl_at hy ((at_iff hy c).mp h2)] at run
    rw [run, ih, tl_strSub, hl]

/-- hk: by kind_ok where the separator is plain -/
theorem split_spl (x y : Str) (hy : tl y ≠ []) (hk : ¬ Builtin.Str.strKind x < Builtin.Str.strKind y) : (Txt.split x y).map tl = spl (tl y) 0 [] (tl x) := by
  obtain ⟨f, g, hn⟩ := occ_tight x y (len1 hy)
  have key := parts_spl hy _ 0 f (Nat.zero_le _) g hn
  rw [List.drop_zero] at key
  have none_case : occurrences x y 0 x.length (x.length + 1) = [] → [x].map tl = spl (tl y) 0 [] (tl x) := fun ho => by
    rw [ho] at key
    rw [← key]
    show [tl x] = [tl (strSub x 0 x.length)]
    rw [sub_whole]
  unfold Txt.split
  by_cases h1 : (decide (x.length < y.length) || decide (Builtin.Str.strKind x < Builtin.Str.strKind y)) = true
  · rw [if_pos h1]
    have hlt : x.length < y.length := by
      simp only [Bool.or_eq_true, decide_eq_true_eq] at h1
      rcases h1 with h | h
      · exact h
      · exact absurd h hk
    refine none_case ?_
    cases ho : occurrences x y 0 x.length (x.length + 1) with
    | nil => rfl
    | cons c r =>
      rw [ho] at g
      have hc : c + y.length ≤ x.length := g.2.1.1
      omega
  · rw [if_neg h1]
    by_cases h2 : (occurrences x y 0 x.length (x.length + 1)).isEmpty = true
    · rw [if_pos h2]
      exact none_case (List.isEmpty_iff.mp h2)
    · rw [if_neg h2, partsBetween_eq]
      exact key
theorem kind_ok {x y : Str} (h : y.cps.all (· < 256) = true) : ¬ Builtin.Str.strKind x < Builtin.Str.strKind y := by
  have e : Builtin.Str.strKind y = 1 := by unfold PySem.Builtin.Str.strKind; rw [if_pos h]
  rw [e]
  unfold PySem.Builtin.Str.strKind
  split
  · omega
  · split <;> omega

/-! ### computing spl and par -/
/-- a part that the separator does not begin in, then the separator -/
theorem spl_part {S p rest acc : List Nat} (hS : S ≠ []) (h : ∀ i, i < p.length → pre S ((p ++ (S ++ rest)).drop i) = false) :
    spl S 0 acc (p ++ (S ++ rest)) = (acc ++ p) :: spl S 0 [] rest := by
  have run := spl_run S (p ++ (S ++ rest)) p.length 0 acc (by rw [List.length_append]; omega) (fun k _ k2 => h k (by omega))
  have ed : (p ++ (S ++ rest)).drop p.length = S ++ rest := List.drop_left
  rw [List.drop_zero, Nat.zero_add, List.take_left] at run
  rw [run, spl_at hS (by rw [ed]; exact pre_self S rest), ← drop_two, ed, List.drop_left]
theorem spl_last {S p acc : List Nat} (h : ∀ i, i < p.length → pre S (p.drop i) = false) : spl S 0 acc p = [acc ++ p] := by
  have run := spl_run S p p.length 0 acc (by omega) (fun k _ k2 => h k (by omega))
  rw [List.drop_zero, Nat.zero_add, List.drop_length, spl_nil, List.take_length] at run
  exact run
/-- the separator's first sign is not in the part -/
theorem free_of {s : Nat} {S p q : List Nat} (h : s ∉ p) : ∀ i, i < p.length → pre (s :: S) ((p ++ q).drop i) = false := fun i hi => by
  have hlt : i < (p ++ q).length := by rw [List.length_append]; omega
  have e : (p ++ q).drop i = (p ++ q)[i] :: (p ++ q).drop (i + 1) := List.drop_eq_getElem_cons hlt
  rw [e]
  refine pre_of_head _ _ fun z => h ?_
  have e1 : (p ++ q)[i] = p[i] := List.getElem_append_left hi
  rw [← z, e1]
  exact List.getElem_mem hi
theorem spl_part1 {s : Nat} {S p rest acc : List Nat} (h : s ∉ p) : spl (s :: S) 0 acc (p ++ (s :: S ++ rest)) = (acc ++ p) :: spl (s :: S) 0 [] rest :=
  spl_part (by simp) (free_of h)
theorem spl_last1 {s : Nat} {S p acc : List Nat} (h : s ∉ p) : spl (s :: S) 0 acc p = [acc ++ p] := spl_last fun i hi => by
  have z := free_of (S := S) (q := []) h i hi
  rw [List.append_nil] at z
  exact z
/-- joined lists -/
def joinL (S : List Nat) : List (List Nat) → List Nat
  | [] => []
  | [p] => p
  | p :: q :: r => p ++ (S ++ joinL S (q :: r))
theorem tl_join (y : Str) : ∀ parts : List Str, tl (Str.join y parts) = joinL (tl y) (parts.map tl)
  | [] => rfl
  | [_] => rfl
  | x :: z :: r => by
    show tl (x ++ y ++ Str.join y (z :: r)) = tl x ++ (tl y ++ joinL (tl y) ((z :: r).map tl))
    rw [tl_append, tl_append, tl_join y (z :: r), List.append_assoc]
theorem spl_join {s : Nat} {S : List Nat} : ∀ {parts : List (List Nat)}, parts ≠ [] → (∀ p ∈ parts, s ∉ p) → spl (s :: S) 0 [] (joinL (s :: S) parts) = parts
  | [], h, _ => absurd rfl h
  | [p], _, hp => by
    show spl (s :: S) 0 [] p = [p]
    rw [spl_last1 (hp p (List.mem_singleton.mpr rfl)), List.nil_append]
  | p :: q :: r, _, hp => by
    show spl (s :: S) 0 [] (p ++ (s :: S ++ joinL (s :: S) (q :: r))) = p :: q :: r
    rw [spl_part1 (hp p (List.mem_cons_self ..)), List.nil_append, spl_join (by simp) fun z hz => hp z (List.mem_cons_of_mem _ hz)]
theorem join_eq (y : Str) (parts : List Str) : Txt.join y parts = Str.join y parts := glued_eq_join y parts
/-- THE READ-BACK: a joined text, split -/
theorem split_join {y : Str} {s : Nat} {S : List Nat} (ey : tl y = s :: S) (hk : y.cps.all (· < 256) = true) {parts : List Str} (hne : parts ≠ []) (hp : ∀ p ∈ parts, s ∉ tl p) :
    Txt.split (Txt.join y parts) y = parts := by
  refine map_tl_inj ?_
  rw [split_spl _ y (by rw [ey]; simp) (kind_ok hk), join_eq, tl_join, ey]
  refine spl_join (fun e => hne (List.map_eq_nil_iff.mp e)) fun p h => ?_
  obtain ⟨z, hz, rfl⟩ := List.mem_map.mp h
  exact hp z hz
/-! ### digits -/
/-! ### words: x.split() -/
end TL
end 

namespace L2
open PySem PySem.Spec PyProof.Rows

/-- a list of texts, of numbered texts -/
theorem vals_strs : ∀ l : List (Str × Tok), Vals ((l.map (·.1)).map V.str) (strValues l)
  | [] => .nil
  | p :: r => .cons ⟨p.2, rfl⟩ (vals_strs r)
theorem strs_of_vals : ∀ {ys : List Str} {us : List Value}, Vals (ys.map V.str) us → StrsAre us ys
  | [], _, .nil => .nil
  | y :: ys, _, .cons r t => by
    obtain ⟨k, rfl⟩ := r
    exact .cons y k (strs_of_vals t)

/-- a new list of texts, tracked -/
def rNewStrs (ys : List Str) : Hp → VK → Prop := fun H Q => ∀ p, H p = none → Q (.ref p) (upd H p (.lst (ys.map V.str)))

section
variable {X : Cx} {pins : List (Addr × Obj)} {σ : St} {H : Hp} {s : Shared} {Q : VK}
theorem laid_strs {l : List (Str × Tok)} {ys : List Str} {k : Nat} (I : Inv X pins σ H s) (e : l.map (·.1) = ys) (hz : ys.length ≤ sizeLine) (h : rNewStrs ys H Q) :
    EP X pins σ Q (.ref s.heap.objs.size) { s with toks := k, heap := s.heap.push { cls := .type "list", data := .seq (strValues l).toArray } } := by
  have hp := I.hok.fresh (Nat.le_refl _)
  refine ⟨.ref s.heap.objs.size, upd H s.heap.objs.size (.lst (ys.map V.str)), I.laid (fun b u q => Heap.get?_push_of_some _ q) (Nat.le_refl _) ⟨by rw [List.length_map]; exact hz, strValues l, _, ?_, Heap.get?_push_size _ rfl⟩, rfl, h _ hp⟩
  rw [← e]
  exact vals_strs l
end

section
variable {X : Cx}

/-- x.split(sep) -/
theorem mt_split : MtR X "str.split" (fun x xs H Q => ∃ a b, x = .str a ∧ xs = [.str b] ∧ (b.length == 0) = false ∧ a.length + 2 ≤ sizeLine ∧ rNewStrs (Txt.split a b) H Q) := by
  intro pins s σ H x xs v us Q I rx rs h
  obtain ⟨a, b, rfl, rfl, hb, hz, h⟩ := h
  obtain ⟨t, rfl⟩ := rx
  cases rs with
  | cons r1 rs =>
    cases rs
    obtain ⟨u, rfl⟩ := r1
    have hl : (Txt.split a b).length ≤ sizeLine := Nat.le_trans (PyProof.Rows.split_le a b) hz
    have hn : (Builtin.Str.partsBetween a (Builtin.Str.occurrences a b 0 a.length (a.length + 1)) b.length).length ≤ sizeLine := by
      have e1 := StrLaws.occ_length_le a b 0 a.length (a.length + 1)
      rw [length_partsBetween]; omega
    cases h1 : (decide (a.length < b.length) || decide (Builtin.Str.strKind a < Builtin.Str.strKind b))
    · cases hf : (Builtin.Str.occurrences a b 0 a.length (a.length + 1)).isEmpty
      · refine call_meets F.slot_str_split (typeIs_str _ _ _) F.entry_str_split (F.args_str_split_2 _ _) (meets_str_split_sep a b t u h1 hb hf (by omega) hn) ?_
        show EP X pins σ Q (.ref s.heap.objs.size) { s with toks := _, heap := s.heap.push { cls := .type "list", data := .seq (strsFrom s.toks (Builtin.Str.partsBetween a (Builtin.Str.occurrences a b 0 a.length (a.length + 1)) b.length)).toArray } }
        rw [strsFrom_eq]
        exact laid_strs (ys := Txt.split a b) I ((numbered_texts _ _).trans ((if_neg (ne_true_of_eq_false h1)).trans (if_neg (ne_true_of_eq_false hf))).symm) hl h
      · refine call_meets F.slot_str_split (typeIs_str _ _ _) F.entry_str_split (F.args_str_split_2 _ _) (meets_str_split_not_found a b t u h1 hb hf) ?_
        exact laid_strs (l := [(a, t)]) (ys := Txt.split a b) (k := s.toks) I ((if_neg (ne_true_of_eq_false h1)).trans (if_pos hf)).symm hl h
    · refine call_meets F.slot_str_split (typeIs_str _ _ _) F.entry_str_split (F.args_str_split_2 _ _) (meets_str_split_cannot_occur a b t u h1) ?_
      exact laid_strs (l := [(a, t)]) (ys := Txt.split a b) (k := s.toks) I (if_pos h1).symm hl h

/-- sep.join(a list | a tuple of texts) -/
theorem mt_join : MtR X "str.join" (fun x xs H Q => ∃ a p, ∃ ys : List Str, x = .str a ∧ xs = [.ref p] ∧ (SqL X.K H p (ys.map V.str) ∨ SqT X.K H p (ys.map V.str)) ∧
    (ys.map (·.length)).sum + ys.length * a.length ≤ 16777216 ∧ Q (.str (Txt.join a ys)) H) := by
  intro pins s σ H x xs v us Q I rx rs h
  obtain ⟨a, p, ys, rfl, rfl, hp, hz, h⟩ := h
  obtain ⟨t, rfl⟩ := rx
  cases rs with
  | cons r1 rs =>
    cases rs
    cases r1
    rcases hp with hp | hp
    · obtain ⟨its, r, ⟨o, n, ho, hc, _, hd⟩, _⟩ := I.list hp
      exact PyProof.Rows.join_list (items := its.toArray) ⟨o, ho, hc, n, hd⟩ (by rw [List.toList_toArray]; exact strs_of_vals r) hz fun t' k => ⟨.str _, H, I.tok k, ⟨t', rfl⟩, h⟩
    · obtain ⟨its, r, ht, _⟩ := I.tuple hp
      exact PyProof.Rows.join_tuple (items := its.toArray) ht (by rw [List.toList_toArray]; exact strs_of_vals r) hz fun t' k => ⟨.str _, H, I.tok k, ⟨t', rfl⟩, h⟩

/-! ### of a text alone -/
/-! ### of a text and a text -/
/-- int(text) -/
theorem call_int_str : CallR X (.type "int") (fun xs H Q => ∃ a n, xs = [.str a] ∧ PySem.intText? a = some n ∧ a.length ≤ 640 ∧ Q (.int n) H) := by
  intro pins s σ H xs us Q I rs h
  obtain ⟨a, n, rfl, hn, hl, h⟩ := h
  cases rs with
  | cons r1 rs =>
    cases rs
    obtain ⟨t, rfl⟩ := r1
    exact PySem.W.KIN.call_text hn hl ⟨.int n, H, I.tok _, ⟨_, rfl⟩, h⟩
end

section
variable {X : Cx} {o e : Expr} {to te : TE}
end
end L2

namespace L2
open PySem PySem.Spec PyProof.Rows

section
variable {X : Cx}
end

/-! ### slices of a text -/
/-- z[lo:hi] -/
def cutS (z : Str) (lo hi : Option Int) : Str :=
  ⟨((z.cps.toList.drop (HT.sIx z.length 0 lo)).take (HT.sIx z.length z.length hi - HT.sIx z.length 0 lo)).toArray⟩
end L2

namespace Att
open PySem PySem.W PySem.Calls PyProof.Rows

/-! ### the script -/
theorem ints_of_wellAll {P : Params} {h : Heap} : ∀ (ns : List Int) (vs : List Value), WellAll P h vs (ns.map WData.int) → IntsAre vs ns := by
  intro ns
  induction ns with
  | nil =>
    intro vs w
    rw [List.map_nil] at w
    cases w
    exact .nil
  | cons n ns ih =>
    intro vs w
    rw [List.map_cons] at w
    cases w with
    | cons a b =>
      cases a
      exact .cons _ _ (ih _ b)

theorem script_of {l : OpenLaw} {n : Nat} (hn : l.most = some n) {P : Params} {h : Heap} {args : List WData} {vals : List Value}
    (hpre : l.row.toRowW.claim.pre args = true) (hwl : WellAll P h vals args) :
    ∃ a vs ns, vals = [Value.ref a] ∧ args = [WData.list (ns.map WData.int)] ∧ h.get? a = some { cls := .type "list", data := .seq vs.toArray } ∧ IntsAre vs ns ∧ ns.length ≤ n := by
  have hsh : WShape.hasAll [] args [.list .int] = true := (pre_splitW hpre).1
  have hc : l.pre.holds [] { args := args } = true := (pre_splitW hpre).2
  obtain ⟨d, r, rfl, h1, h2⟩ := hasAllW_cons hsh
  obtain rfl := hasAllW_nil h2
  obtain ⟨xs, rfl, h3⟩ := hasW_list h1
  obtain ⟨ns, rfl⟩ := items_int h3
  have hlen : ns.length ≤ n := by
    unfold OpenLaw.pre at hc
    have h4 : (WTm.not (.lt (.lit (.int (n : Int))) (.len (.arg 0)))).holds [] { args := [.list (ns.map .int)] } = true := by
      have h4 := (holds_andW hc).1
      rw [hn] at h4
      exact h4
    have h5 := condW_of h4 (w_not (w_lt w_lit (w_len_list (w_arg rfl))))
    rw [List.length_map] at h5
    refine Nat.le_of_not_lt fun q => ?_
    have q' : (n : Int) < ((ns.length : Nat) : Int) := by omega
    first
      | (rw [decide_eq_true q'] at h5; exact absurd h5 (by decide))
      | (simp at h5; omega)
  cases hwl with
  | cons w1 w2 =>
    cases w2
    cases w1 with
    | list ho hall => exact ⟨_, _, ns, rfl, rfl, ho, ints_of_wellAll ns _ hall, hlen⟩

theorem post_true (l : OpenLaw) (args : List WData) : l.row.toRowW.claim.post args (.bool true) args = true :=
  postW_of (r := l.row.toRowW) (X := (true == true))
    (show WShape.has [] (.bool true) .bool = true by first | rfl | decide | simp [WShape.has, WShape.arms, WShape.armsAll])
    (show (WTm.eq .res (.lit (.bool true))).value [] { args := args, res := some (.bool true), after := args } = some (.bool (true == true)) from w_eq_bool (w_res rfl) w_lit) rfl

/-! ### the attachment: holds_open's last premise (the goal 'hc' behind k_head) from a wpAny of the law's body -/
/-- the same from a codeAny of the CALL (for a layer whose function contracts speak of calls) -/
theorem attach_call {l : OpenLaw} {n : Nat} {q : Program} {loose : List Str} {XP : (Str → Option Value) → Heap → Prop} {YP : World → Heap → Prop} {d : DefRec}
    (hn : l.most = some n) (hdf : d.params.defaults = [])
    (call : ∀ (w : World) (s₀ s₁ : Shared) (mg mb : Str → Option Value) (fa : Addr) (o : Obj) (pm cd doc : Value) (a : Addr) (vs : List Value) (ns : List Int),
      Ground q loose [] XP w s₀ mg mb s₁.heap → YP w s₁.heap →
      s₁.heap.get? fa = some o → o.data = .func (docDef d.name d.params d.body d.scope pm cd doc) → s₁.heap.CodeRec cd d.name → mg d.name = some (.ref fa) →
      s₁.heap.get? a = some { cls := .type "list", data := .seq vs.toArray } → IntsAre vs ns → ns.length ≤ n → s₁.gens = #[] →
      codeAny (model l.prog w) callerA (.call (.ref fa) ⟨[.ref a], []⟩) (fun r s' => r = .ok (.ret (.bool true)) ∧ OldK s₁.heap s'.heap ∧ s'.os = s₁.os ∧ AllBare s'.gens) s₁) :
    WalkO q loose XP YP l.row.toRowW d [] (fun f vs => PySem.call f vs) := by
  intro w s₀ s₁ mg mb G Y fa o pm cd doc dV kV ho hd hcd hD hmg hg args vals as hpre hlay hrd hwl hlo
  obtain rfl : dV = .none := Dflts.none hD hdf
  obtain rfl : kV = .none := Dflts.noKw hD
  obtain ⟨a, vs, ns, rfl, rfl, hobj, hints, hlen⟩ := script_of hn hpre hwl
  refine enter_call (codeAny_mono (call w s₀ s₁ mg mb fa o pm cd doc a vs ns G Y ho (fd_plain hd) hcd hmg hobj hints hlen hg) fun r s' hq => ?_)
  obtain ⟨rfl, h2, h3, h4⟩ := hq
  exact ⟨.inl ⟨.bool true, .bool true, [], rfl, fun _ => rfl, .bool true, post_true l _, fun _ => ⟨List.Pairwise.nil, fun _ hm => (nomatch hm)⟩⟩, h2, h3, h4⟩

/-! ### rules over ANY heap (no ledger) from facts about the written part K: the library's own take a ledger (News) for what they write -/
section
variable {prog : Program} {w : World} {A : Around} {E : Value → Shared → Prop} {s : Shared} {K : Frag}

/-! the whole heap as the ledger: makes every rule that writes through a ledger a rule over any heap -/
end
end Att

namespace L2
open PySem PySem.Spec PyProof.Rows

theorem vals_ints : ∀ {vs : List Value} {ns : List Int}, IntsAre vs ns → Vals (ns.map V.int) vs
  | _, _, .nil => .nil
  | _, _, .cons n t h => .cons ⟨t, rfl⟩ (vals_ints h)

end L2

namespace L2
open PySem PySem.Spec PyProof.Rows

abbrev KOf {K : PySem.W.Frag} {h : Heap} (_ : K.In h) : PySem.W.Frag := K

end L2

/-! SHORT WORDS over the layer: a def of the text, its body, what a loop and a test want. -/
namespace L2
open PySem PySem.Spec PyProof.Rows

/-! ### the text by places -/
/-- the j-th statement of a class's body -/
def inClass (s : Stmt) (j : Nat) : Stmt := match s with
  | .ClassDef _ _ _ body _ _ _ _ _ _ _ => body.getD j (.Pass ⟨0, 0, 0, 0⟩)
  | _ => .Pass ⟨0, 0, 0, 0⟩
def defArgs (s : Stmt) : Arguments := match s with
  | .FunctionDef _ a _ _ _ _ _ _ _ _ => a
  | _ => { posonlyargs := [], args := [], vararg := none, kwonlyargs := [], kw_defaults := [], kwarg := none, defaults := [] }
def defBody (s : Stmt) : List Stmt := match s with
  | .FunctionDef _ _ b _ _ _ _ _ _ _ => b
  | _ => []
def defScope (s : Stmt) : Scope := match s with
  | .FunctionDef _ _ _ _ _ _ sc _ _ _ => sc
  | _ => { kind := .function, names := [], isGenerator := false, isCoroutine := false }

/-! ### no exception leaves a def -/
abbrev CX0 : CXT := fun _ _ _ _ _ _ => False
abbrev E0 : XK := fun _ _ _ => False
theorem pass0 {X : Cx} : Passes CX0 X (fun _ => E0) := fun _ _ _ _ _ _ _ h => h.elim

/-! ### a def (or method) of the text as it stands behind the top -/
structure Fun (K : PySem.W.Frag) (x qual : Str) (st : Stmt) (f : Addr) (fd : FuncData) : Prop where
  ex : ∃ (oc : Value) (od : Option Addr) (kV doc pm : Value) (an : Option Addr) (cdv ct : Value) (osl : Array (Option Value)),
    fd = PySem.W.fnOf x qual (defArgs st) (defBody st) (defScope st) .none kV doc pm an cdv ct ∧ K.lookup f = some ⟨oc, od, .func fd, osl⟩ ∧ PySem.W.codeIn K cdv qual = true
  kp : PySem.W.keepIn K (.ref f) = true
section
variable {P : Program} {w : World} {K : PySem.W.Frag} {mg : Str → Option Value} {base : Heap}
/-- THE RULE for a def: its body as a term of rules, and the reading of that term -/
theorem Fun.ok {x qual : Str} {st : Stmt} {f : Addr} {fd : FuncData} {N ps : List Str} {k : Nat} {sp : Sp} (F : Fun K x qual st f fd) (S : FnScope N ps (defScope st)) (len : ∀ vs H Q E, sp vs H Q E → vs.length = ps.length)
    (hbody : ∀ (cdv : Value) (A : Around) (outer : List Env) (s : Shared) (H : Hp) (vs : List V) (Q : VK) (E : XK), Room k (A.deeper (envOfC qual (defScope st) s.heap.objs.size f cdv)) → sp vs H Q E →
      ∃ t, PSs (cxOf CX0 P w K mg base N qual (defScope st) f cdv A outer s H E).nox (defBody st) t ∧ t { nx := fun _ H' => Q .non H', rt := Q } (start N vs) H) : FnOk P w K mg base CX0 (k + 1) f fd ps sp := by
  obtain ⟨oc, od, kV, doc, pm, an, cdv, ct, osl, rfl, lk, hcd⟩ := F.ex
  refine fn_of lk hcd S len fun A outer s H vs Q E hr hsp => ?_
  obtain ⟨t, h, q⟩ := hbody cdv A outer s H vs Q E hr hsp
  exact ⟨t, h.nox, q⟩
/-- how its arguments bind (no defaults): h is «fun _ _ _ _ _ _ us hl => match us, hl with | [_, _], _ => rfl», one _ a parameter -/
theorem Fun.binds {x qual : Str} {st : Stmt} {f : Addr} {fd : FuncData} {ps : List Str} (F : Fun K x qual st f fd)
    (h : ∀ (kV doc pm : Value) (an : Option Addr) (cdv ct : Value) (us : List Value), us.length = ps.length → bindArgs (PySem.W.fnOf x qual (defArgs st) (defBody st) (defScope st) .none kV doc pm an cdv ct) ⟨us, []⟩ = pure (ps.zip us)) : Binds K fd ps [] := by
  obtain ⟨oc, od, kV, doc, pm, an, cdv, ct, osl, rfl, lk, hcd⟩ := F.ex
  exact .all (h kV doc pm an cdv ct)
theorem fun_mk {x qual : Str} {st : Stmt} {f : Addr} {oc : Value} {od an : Option Addr} {osl : Array (Option Value)} {kV doc pm cdv ct : Value} (l : K.lookup f = some ⟨oc, od, .func (PySem.W.fnOf x qual (defArgs st) (defBody st) (defScope st) .none kV doc pm an cdv ct), osl⟩)
    (c : PySem.W.codeIn K cdv qual = true) (k : PySem.W.keepIn K (.ref f) = true) : Fun K x qual st f (PySem.W.fnOf x qual (defArgs st) (defBody st) (defScope st) .none kV doc pm an cdv ct) := ⟨⟨oc, od, kV, doc, pm, an, cdv, ct, osl, rfl, l, c⟩, k⟩
end
theorem hu_of {A : Around} {k : Nat} (hr : Room k A) : A.units + 1 < cLine := Nat.lt_of_le_of_lt (Nat.add_le_add_left (by decide : 1 ≤ 64) _) hr.units
/-! ### expressions in short: the name that stands in the i-th slot -/
section
variable {X : Cx}
theorem pv (i : Nat) {x : Str} {pos : Pos} (hN : X.N[i]? = some x := by rfl) (hv : Vis X.env.scope x := by first | exact Or.inl rfl | exact Or.inr (Or.inl rfl) | exact Or.inr (Or.inr rfl)) (hd : (x == ("__debug__" : Str)) = false := by decide)
    (hcd : (x == ("__classdict__" : Str)) = false := by decide) : PE X (.Name x pos) (tVar i) := pe_var hN hv hd hcd
end

/-! ### tests -/
theorem iteF {A B : Prop} (h : B) : if false = true then A else B := by
  rw [if_neg Bool.false_ne_true]
  exact h
theorem iteT {A B : Prop} (h : A) : if true = true then A else B := by
  rw [if_pos rfl]
  exact h
theorem ite2 {c A B : Prop} [Decidable c] (h1 : c → A) (h2 : ¬ c → B) : if c then A else B := by
  by_cases h : c
  · rw [if_pos h]
    exact h1 h
  · rw [if_neg h]
    exact h2 h
theorem iteNS {c A B : Prop} [Decidable c] (hc : c) (h : B) : if (!decide c) = true then A else B := by
  rw [decide_eq_true hc]
  exact iteF h

/-! ### heaps -/
/-- all that was tracked is as it was -/
def Same (H H' : Hp) : Prop := ∀ b o, H b = some o → H' b = some o
theorem Same.refl (H : Hp) : Same H H := fun _ _ h => h
theorem Same.trans {H H1 H2 : Hp} (a : Same H H1) (b : Same H1 H2) : Same H H2 := fun c o h => b c o (a c o h)
theorem Same.free {H H' : Hp} (e : Same H H') {l : Addr} (h : H' l = Option.none) : H l = Option.none := by
  cases q : H l with
  | none => rfl
  | some o =>
    rw [e l o q] at h
    cases h
theorem Same.seq {K : PySem.W.Frag} {H H' : Hp} {a : Addr} {xs : List V} (e : Same H H') (h : SqL K H a xs) : SqL K H' a xs := by
  rcases h with (h | ⟨o, h⟩) | h
  · exact .inl (.inl (e _ _ h))
  · exact .inl (.inr ⟨o, e _ _ h⟩)
  · exact .inr h

/-! ### a dict's pairs: keys that differ -/
section
variable {κ : Type} [DecidableEq κ]
theorem dropK_pos {p : κ × V} {r : List (κ × V)} {k : κ} (e : p.1 = k) : dropK (p :: r) k = dropK r k := by
  unfold dropK
  rw [List.filter_cons, if_neg (by simp [e])]
theorem dropK_neg {p : κ × V} {r : List (κ × V)} {k : κ} (e : ¬ p.1 = k) : dropK (p :: r) k = p :: dropK r k := by
  unfold dropK
  rw [List.filter_cons, if_pos (by simp [e])]
end
/-! ### lists -/
theorem at_of {xs : List V} {z : Int} {j : Nat} {v : V} (e : z = (j : Int)) (h : xs[j]? = some v) : atI xs z = some v := by
  rw [e]
  exact atI_nat h
theorem nd_ix {α : Type} {l : List α} (hN : l.Nodup) {i j : Nat} {x : α} (a : l[i]? = some x) (b : l[j]? = some x) : i = j := by
  obtain ⟨h1, e1⟩ := List.getElem?_eq_some_iff.mp a
  obtain ⟨h2, e2⟩ := List.getElem?_eq_some_iff.mp b
  exact (List.getElem_inj hN).mp (e1.trans e2.symm)
theorem sum_set : ∀ {l : List Int} {j : Nat} {z y : Int}, l[j]? = some z → (l.set j y).sum = l.sum - z + y
  | [], j, z, y, h => by simp at h
  | a :: r, 0, z, y, h => by
    have e : a = z := Option.some.inj h
    subst e
    show (y :: r).sum = (a :: r).sum - a + y
    rw [List.sum_cons, List.sum_cons]
    omega
  | a :: r, j + 1, z, y, h => by
    have ih := sum_set (l := r) (j := j) (z := z) (y := y) h
    show (a :: r.set j y).sum = (a :: r).sum - z + y
    rw [List.sum_cons, List.sum_cons, ih]
    omega
/-- a new instance and its __init__ leave all that was tracked as it was -/
theorem Same.made {H H1 : Hp} {x dx C : Addr} (nx : H x = Option.none) (nd : H dx = Option.none) (k : ∀ b o, (upd (upd H dx (.own x)) x (.ins C dx [])) b = some o → b ≠ x → H1 b = some o) : Same H H1 := fun b o e =>
  k b o (by rw [upd_ne (ne_of_none e nx), upd_ne (ne_of_none e nd)]; exact e) (ne_of_none e nx)
end L2

set_option Elab.async false
set_option linter.all false
set_option maxRecDepth 100000
namespace L2
open PySem PySem.Spec PyProof.Rows

/-! ### exceptions on their way -/
/-- the frame's mark is on the exception, or none is -/
def Up (B : Heap) (X : Cx) (a : Addr) (cls : Value) (a0 : AD) (cx : Value) (h : Heap) : Prop := Air B X.stack a cls a0 cx .none h ∨ Lain B X.stack a cls a0 cx (rawInt X.env.locals) h
theorem Up.stay {B : Heap} {X : Cx} {a : Addr} {cls : Value} {a0 : AD} {cx : Value} {h : Heap} (u : Up B X a cls a0 cx h) : B.StaysIn h := u.elim (·.stay) (·.stay)
/-- what lies still while the exception is on its way: what is tracked, what was there at the entry, the pins -/
structure Cov (X : Cx) (B : Heap) (H : Hp) : Prop where
  trk : ∀ b u, H b = some u → ∃ o, B.get? b = some o
  old : ∀ b o, X.s_0.heap.get? b = some o → b ∉ X.fs → b ∉ X.ex → ∃ o', B.get? b = some o'
  pn : ∀ p ∈ X.pn, ∃ o, B.get? p.1 = some o
/-- its context: a chain that lies still -/
def Chn (B h : Heap) (H : Hp) (a : Addr) (cx : Value) : Prop := ∃ ch, cx = (headV ch).getD .none ∧ Chain h ch ∧ a ∉ ch ∧ ∀ x ∈ ch, (∃ o, B.get? x = some o) ∧ H x = none
theorem in_still {B h h' : Heap} (st : B.StaysIn h) (st' : B.StaysIn h') {b : Addr} {o : Obj} (e : h.get? b = some o) (x : ∃ o', B.get? b = some o') : h'.get? b = some o := by
  obtain ⟨o', q⟩ := x
  have z := st b o' q
  rw [e] at z; cases z
  exact st' b o q
theorem Chn.keeps {B h h' : Heap} {H : Hp} {a : Addr} {cx : Value} (c : Chn B h H a cx) (st : B.StaysIn h) (st' : B.StaysIn h') : Chn B h' H a cx :=
  let ⟨ch, e, k, n, l⟩ := c; ⟨ch, e, k.keeps fun x m o z => in_still st st' z (l x m).1, n, l⟩
section
variable {X : Cx} {pins : List (Addr × Obj)} {σ : St} {H : Hp} {s : Shared} {B h' : Heap}
theorem inv_air (I : Inv X [] σ H s) (st : B.StaysIn s.heap) (st' : B.StaysIn h') (u : s.heap.UpToSlots h') (cv : Cov X B H) : Inv X [] σ H { s with heap := h' } := by
  have cellU : ∀ {c : Addr} {v : Option Value}, s.heap.IsCell c v → h'.IsCell c v := fun {c v} ⟨o, ho, hd⟩ => by
    obtain ⟨sl, e⟩ := u c o ho fun vs z => by rw [hd] at z; cases z
    exact ⟨_, e, hd⟩
  have slot : ∀ b o, X.s_0.heap.get? b = some o → X.H_0 b = none → b ∈ X.fs → b ∉ X.ex → ∃ sl, h'.get? b = some { o with slots := sl } := fun b o e n hb hx => by
    obtain ⟨sl, e1⟩ := I.base.slot b o e n hb hx
    obtain ⟨_, o', ho', nf⟩ := I.funs.mem hb
    rw [e1] at ho'; cases ho'
    obtain ⟨sl', e2⟩ := u b _ e1 nf
    exact ⟨sl', e2⟩
  refine ⟨I.ok, I.os, I.bare, ⟨fun b o e n hb hx => in_still st st' (I.base.keep b o e n hb hx) (cv.old b o e hb hx), slot, I.base.free, fun b o e hx => ?_, I.base.tups, I.base.frzs, I.base.tbls⟩, ?_, fun x c e => ?_, I.free, I.freeC, fun p hp => ?_, fun b o e => ?_, I.len⟩
  · by_cases hb : b ∈ X.fs
    · obtain ⟨sl, z⟩ := slot b o e (I.ok.frf b hb) hb hx
      exact ⟨_, z⟩
    · obtain ⟨o1, e1⟩ := I.base.there b o e hx
      exact ⟨o1, in_still st st' e1 (cv.old b o e hb hx)⟩
  · obtain ⟨m, hn, hl⟩ := I.loc
    refine ⟨m, u.ns hn, fun i x v e1 e2 e3 => ?_⟩
    obtain ⟨w, r, l⟩ := hl i x v e1 e2 e3
    refine ⟨w, r, ?_⟩
    rcases l with l | ⟨k, c, e, z⟩
    · exact .inl l
    · exact .inr ⟨k, c, e, cellU z⟩
  · obtain ⟨v, z⟩ := I.cell x c e
    exact ⟨v, cellU z⟩
  · obtain ⟨e, n, ne, nf, d⟩ := I.pin p hp
    exact ⟨in_still st st' e (cv.pn p (by simpa using hp)), n, ne, nf, d⟩
  · exact (I.hok b o e).stay (fun c w hc q => in_still st st' q (hc.elim (fun z => cv.trk c o (z ▸ e)) fun z => cv.trk c _ z)) (fun _ q => q) fun _ _ q => q

theorem up_note {M : Model} {E : Value → Shared → Prop} {Q : Unit → Shared → Prop} {a : Addr} {cls : Value} {a0 : AD} {cx : Value} (hst : X.stack = X.env :: X.outer) (hf : X.env.frame = some X.env.locals) (fr : X.A.frames = some X.stack) (x : Up B X a cls a0 cx s.heap)
    (q : ∀ h', Lain B X.stack a cls a0 cx (rawInt X.env.locals) h' → s.heap.UpToSlots h' → Q () { s with heap := h' }) : wpAny M X.A (noteFrame (.ref a) X.env) Q E s := by
  rcases x with x | x
  · rw [hst] at x fr
    refine air_note fr hf x fun h' l u => q h' ?_ u
    rw [hst]; exact l
  · exact lain_again hf x (q s.heap x (.refl _))
end

theorem ObjOk.get {P : Program} {w : World} {H : Hp} {h : Heap} {a : Addr} {o : HO} (x : ObjOk P w H h a o) : ∃ u, h.get? a = some u := by
  cases o with
  | lst xs => obtain ⟨_, _, _, _, e⟩ := x; exact ⟨_, e⟩
  | tup xs => obtain ⟨_, _, _, o, e, _⟩ := x; exact ⟨_, e⟩
  | dK kvs => obtain ⟨_, _, _, _, o, _, _, e, _⟩ := x; exact ⟨_, e⟩
  | dT kvs => obtain ⟨_, _, _, _, o, _, _, e, _⟩ := x; exact ⟨_, e⟩
  | set S n => obtain ⟨o, _, _, _, e, _⟩ := x; exact ⟨_, e⟩
  | ins C dx fs => obtain ⟨_, _, _, e, _⟩ := x; exact ⟨_, e⟩
  | own y => exact x
  | xd fs => obtain ⟨_, ⟨_, _, _, e, _⟩, _⟩ := x; exact ⟨_, e⟩
  | rng lo hi => obtain ⟨_, _, _, e⟩ := x; exact ⟨_, e⟩
  | frz ob u => obtain ⟨e, _⟩ := x; exact ⟨_, e⟩
  | tbl ps => exact ⟨_, (show h.get? a = some _ from x)⟩
  | met f y => exact ⟨_, (show h.get? a = some _ from x)⟩
  | ext φ => exact x.2.1

/-- an exception that leaves: R says of the names' values, of its class and of the heap what is wanted -/
def XE (X : Cx) (R : St → XK) : Value → Shared → Prop := fun e s => ∃ (a C : Addr) (a0 : AD) (cx : Value) (B : Heap) (σ : St) (H : Hp),
  e = .ref a ∧ Inv X [] σ H s ∧ Up B X a (.ref C) a0 cx s.heap ∧ Cov X B H ∧ Chn B s.heap H a cx ∧ R σ (.ref C) a0.2 H
abbrev Cx.exc (X : Cx) (R : St → XK) : Cx := X.wish (XE X R)
/-- behind a call -/
def CX1 (P : Program) (w : World) : CXT := fun outer H0 s0 E e s' => ∃ (a C : Addr) (a0 : AD) (cx : Value) (B : Heap) (H' : Hp),
  e = .ref a ∧ s'.os = s0.os ∧ AllBare s'.gens ∧ Un (frs outer) [] H0 H' s0.heap s'.heap ∧ HOk P w H' s'.heap ∧ Air B outer a (.ref C) a0 cx .none s'.heap ∧ (∀ b u, H' b = some u → ∃ o, B.get? b = some o) ∧
    (∀ b o, s0.heap.get? b = some o → b ∉ frs outer → ∃ o', B.get? b = some o') ∧ Chn B s'.heap H' a cx ∧ E (.ref C) a0.2 H'
theorem cx1_never {P : Program} {w : World} {outer : List Env} {H : Hp} {s s' : Shared} {e : Value} (h : CX1 P w outer H s E0 e s') : False := let ⟨_, _, _, _, _, _, _, _, _, _, _, _, _, _, _, z⟩ := h; z

section
variable {X : Cx} {R : St → XK}
/-- a callee's exception passes -/
theorem pass1 : Passes (CX1 X.prog X.w) (X.exc R) R := by
  intro pins σ H s e s' I h
  obtain ⟨a, C, a0, cx, B, H', rfl, os, bare, un, hok, air, trk, old, chn, q⟩ := h
  have I0 : Inv X pins σ H s := I.unwish
  have I1 : Inv X pins σ H' s' := I0.call' (ch := []) os un hok bare fun b z => nomatch z
  have nst : ∀ b, b ≠ X.env.locals → b ∉ X.fs → b ∉ frs X.stack := fun b h1 h2 z => (List.mem_cons.mp (I0.stkSub b z)).elim h1 h2
  refine ⟨a, C, a0, cx, B, σ, H', rfl, I1.pins_of fun p hp => (nomatch hp), .inl air, ⟨trk, fun b o e hb hx => ?_, fun p hp => ?_⟩, chn, q⟩
  · obtain ⟨o1, e1⟩ := I0.base.there b o e hx
    exact old b o1 e1 (nst b (Nat.ne_of_lt (Nat.lt_of_lt_of_le (Heap.lt_size e) I0.ok.above)) hb)
  · obtain ⟨e, n, ne, nf, d⟩ := I0.pin p (List.mem_append_left _ hp)
    exact old p.1 p.2 e (nst p.1 ne nf)
theorem PSs.unexc {E' : Value → Shared → Prop} {st : List Stmt} {t : TS} (h : PSs (X.wish E') st t) (hE : ∀ e s, E' e s → X.xe e s) : PSs X st t := fun pins s σ H D I hw =>
  wpAny_mono (h pins s σ H D (I.wish _) hw) (fun _ _ q => q.unwish) hE
end

section
variable {P : Program} {w : World} {K : PySem.W.Frag} {mg : Str → Option Value} {base : Heap}
/-- the exception leaves the def -/
theorem xe_def {N : List Str} {qual : Str} {scope : Scope} {f : Addr} {cd : Value} {A : Around} {outer : List Env} {s : Shared} {H : Hp} {E : XK} {e : Value} {s' : Shared}
    (h : XE (cxOf (CX1 P w) P w K mg base N qual scope f cd A outer s H E) (fun _ => E) e s') : (cxOf (CX1 P w) P w K mg base N qual scope f cd A outer s H E).xe e s' := by
  obtain ⟨a, C, a0, cx, B, σ, H1, rfl, I, up, cv, chn, q⟩ := h
  show wpAny _ _ (leaving _ (.ref a)) _ _ s'
  unfold leaving
  refine wpAny_bind (up_note (X := cxOf (CX1 P w) P w K mg base N qual scope f cd A outer s H E) rfl rfl I.ok.frames up fun h1 l1 u1 => lain_land (s := { s' with heap := h1 }) l1 fun h2 l2 u2 => ?_)
  have I2 := inv_air (s := s') (h' := h2) I up.stay l2.stay (u1.trans u2) cv
  refine ⟨a, C, a0, cx, B, H1, rfl, I2.os, I2.bare, I2.base, I2.hok, ⟨l2.stay, l2.off, ?_, .inr l2.ex⟩, cv.trk, fun b o z hb => cv.old b o z hb (fun z => nomatch z), chn.keeps up.stay l2.stay, q⟩
  obtain ⟨_, _, k⟩ := l2.fun_
  exact k
/-- THE RULE for a def that may throw -/
theorem Fun.okX {x qual : Str} {st : Stmt} {f : Addr} {fd : FuncData} {N ps : List Str} {k : Nat} {sp : Sp} (F : Fun K x qual st f fd) (S : FnScope N ps (defScope st)) (len : ∀ vs H Q E, sp vs H Q E → vs.length = ps.length)
    (hbody : ∀ (cdv : Value) (A : Around) (outer : List Env) (s : Shared) (H : Hp) (vs : List V) (Q : VK) (E : XK), Room k (A.deeper (envOfC qual (defScope st) s.heap.objs.size f cdv)) → sp vs H Q E →
      ∃ t, PSs ((cxOf (CX1 P w) P w K mg base N qual (defScope st) f cdv A outer s H E).exc fun _ => E) (defBody st) t ∧ t { nx := fun _ H' => Q .non H', rt := Q } (start N vs) H) : FnOk P w K mg base (CX1 P w) (k + 1) f fd ps sp := by
  obtain ⟨oc, od, kV, doc, pm, an, cdv, ct, osl, rfl, lk, hcd⟩ := F.ex
  refine fn_of lk hcd S len fun A outer s H vs Q E hr hsp => ?_
  obtain ⟨t, h, q⟩ := hbody cdv A outer s H vs Q E hr hsp
  exact ⟨t, h.unexc fun e s' => xe_def, q⟩
end

/-! ### own classes of exceptions -/
/-- a class of exceptions of the text: its tail, and how it is made -/
structure XCl (K : PySem.W.Frag) (C : Addr) (bmB : List Value) (newId : String) : Prop where
  ex : PySem.W.excIn K C bmB newId = true
  kp : PySem.W.keepIn K (.ref C) = true
/-- the class's row of classes, itself ahead -/
def mroIn (K : PySem.W.Frag) (C : Addr) : List Value := match K.lookup C with | some ⟨_, _, .cls cd, _⟩ => cd.mro | _ => []
theorem XCl.obj {K : PySem.W.Frag} {C : Addr} {bmB : List Value} {newId : String} (x : XCl K C bmB newId) {h : Heap} (KX : K.In h) :
    ∃ bm N nm q bs hdct sn sub ab col dd k0 k1 k2 k3 k5 mN, h.get? C = some (excClassObj nm q C N bs bm hdct sn sub ab col dd k0 k1 k2 k3 k5 newId) ∧ h.Ns N mN ∧ mN "__init__" = none ∧ OwnTail h bmB bm ∧ mroIn K C = .ref C :: bm := by
  have q := x.ex
  unfold PySem.W.excIn at q
  split at q
  · rename_i dd cd sl ho
    split at q
    · rename_i C' bm k0 k1 k2 k3 n k5 hm hs
      simp only [Bool.and_eq_true, beq_iff_eq, Bool.not_eq_true'] at q
      obtain ⟨⟨⟨⟨⟨rfl, rfl⟩, hdel⟩, ht⟩, hok⟩, hni⟩ := q
      have hmr : mroIn K C' = .ref C' :: bm := by unfold mroIn; rw [ho]; exact hm
      obtain ⟨nm, bs, mro, ns, qn, hd, sn, sub, ab, col, del⟩ := cd
      dsimp only at hm hdel hok hni; subst hm hdel
      obtain ⟨l⟩ := sl
      simp only at hs; subst hs
      exact ⟨bm, ns, nm, qn, bs, hd, sn, sub, ab, col, dd, k0, k1, k2, k3, k5, _, KX _ _ ho, .of_isNs (PySem.W.isNs_of_in KX hok), PySem.W.nsMap_none_of_in KX hok hni, PySem.W.tail_of_in KX ht, hmr⟩
    · cases q
  · cases q

/-- a class of exceptions of the text, with or without an __init__ of its own -/
def excInW (K : PySem.W.Frag) (C : Addr) (bmB : List Value) (newId : String) : Bool := match K.lookup C with
  | some ⟨.type "type", _, .cls k, l⟩ => (match k.mro, l.toList with
    | .ref D :: bm, [_, _, _, _, some (.builtin i), _] => D == C && i == newId && !k.hasDel && PySem.W.tailIn K bmB bm && PySem.W.nsOkIn K k.ns
    | _, _ => false)
  | _ => false
structure XCw (K : PySem.W.Frag) (C : Addr) (bmB : List Value) (newId : String) : Prop where
  ex : excInW K C bmB newId = true
  kp : PySem.W.keepIn K (.ref C) = true
theorem XCl.w {K : PySem.W.Frag} {C : Addr} {bmB : List Value} {newId : String} (x : XCl K C bmB newId) : XCw K C bmB newId := by
  refine ⟨?_, x.kp⟩
  have q := x.ex
  unfold PySem.W.excIn at q
  unfold excInW
  split at q
  · rename_i dd cd sl ho
    rw [ho]
    split at q
    · rename_i C' bm k0 k1 k2 k3 n k5 hm hs
      simp only [Bool.and_eq_true] at q
      simp only [hm, hs, Bool.and_eq_true]
      exact q.1
    · cases q
  · cases q
theorem XCw.obj {K : PySem.W.Frag} {C : Addr} {bmB : List Value} {newId : String} (x : XCw K C bmB newId) {h : Heap} (KX : K.In h) :
    ∃ bm N nm q bs hdct sn sub ab col dd k0 k1 k2 k3 k5 mN, h.get? C = some (excClassObj nm q C N bs bm hdct sn sub ab col dd k0 k1 k2 k3 k5 newId) ∧ h.Ns N mN ∧ OwnTail h bmB bm ∧ mroIn K C = .ref C :: bm := by
  have q := x.ex
  unfold excInW at q
  split at q
  · rename_i dd cd sl ho
    split at q
    · rename_i C' bm k0 k1 k2 k3 n k5 hm hs
      simp only [Bool.and_eq_true, beq_iff_eq, Bool.not_eq_true'] at q
      obtain ⟨⟨⟨⟨rfl, rfl⟩, hdel⟩, ht⟩, hok⟩ := q
      have hmr : mroIn K C' = .ref C' :: bm := by unfold mroIn; rw [ho]; exact hm
      obtain ⟨nm, bs, mro, ns, qn, hd, sn, sub, ab, col, del⟩ := cd
      dsimp only at hm hdel hok; subst hm hdel
      obtain ⟨l⟩ := sl
      simp only at hs; subst hs
      exact ⟨bm, ns, nm, qn, bs, hd, sn, sub, ab, col, dd, k0, k1, k2, k3, k5, _, KX _ _ ho, .of_isNs (PySem.W.isNs_of_in KX hok), PySem.W.tail_of_in KX ht, hmr⟩
    · cases q
  · cases q

section
variable {prog : Program} {w : World} {A : Around} {E : Value → Shared → Prop} {s : Shared} {env : Env}
variable {nm q : Str} {C N : Addr} {bs bm bmB : List Value} {hdct : Bool} {sn : List Str} {sub : List Value} {ab : Bool} {col : Option Bool} {dd : Option Addr} {k0 k1 k2 k3 k5 : Option Value} {B newId initId : String}
/-- raise x, x an exception just made -/
theorem raiseStmt_q {x : Sem Value} {Q : Flow → Shared → Prop} (hbase : bm.contains (.type "BaseException") = true)
    (h : wpAny (model prog w) A x (fun v s₁ => ∃ e t ch, ∃ dx : Option Addr, v = .ref e ∧ s₁.heap.get? C = some (excClassObj nm q C N bs bm hdct sn sub ab col dd k0 k1 k2 k3 k5 newId) ∧ s₁.heap.get? e = some { cls := .ref C, dict := dx, data := .fields #[.ref t, .none, .none, .none, .bool false, .none] } ∧ Chain s₁.heap ch ∧ A.handled = headV ch ∧ e ∉ ch ∧
      ∀ h', Heap.SameBut e s₁.heap h' → Ex h' e (.ref C) (.ref t, dx) ((headV ch).getD .none) .none → E (.ref e) { s₁ with heap := h' }) E s) :
    wpAny (model prog w) A (raiseStmt env (some x) none) Q E s := by
  have hcB : (Value.ref C :: bm).contains (.type "BaseException") = true := by rw [List.contains_cons, hbase, Bool.or_true]
  unfold raiseStmt; refine wpAny_bind (wpAny_mono h (fun v s₁ h₁ => ?_) fun _ _ z => z)
  obtain ⟨e, t, ch, dx, rfl, hC, he, c, eh, ne, hE⟩ := h₁
  obtain ⟨hp, g, d, tk, os⟩ := s₁
  repeat (first | with_reducible refine wpAny_loadPart_at he ?_ | with_reducible refine wpAny_loadPart_at hC ?_ | (with_reducible refine wpAny_isSubtype_exc hC ?_; rw [hcB]) | wp_step)
  exact raise_c c eh ne he rfl (by simp) rfl fun h' vs' sb ge g0 g1 g2 => hE h' sb ⟨_, vs', ge, rfl, rfl, ⟨g0, rfl⟩, g1, g2⟩
/-- raise C(..) -/
theorem raiseCall_q (F : ExcBaseFacts B newId initId bmB) {mN : Str → Option Value} {x : Str} {np cpos pos : Pos} {args : List Expr} {Q : Flow → Shared → Prop}
    (hbase : bm.contains (.type "BaseException") = true) (hplain : (backTo cpos (starEach args env)).any (·.1) = false) (hni : mN "__init__" = none)
    (h : wpAny (model prog w) A (eval (.Name x np) env) (fun f s₁ => f = .ref C ∧ wpAny (model prog w) A (evalArgs (.ref C) true (backTo cpos (starEach args env)) [])
      (fun a s₂ => a.kw = [] ∧ a.pos.length ≤ sizeLine ∧ s₂.heap.get? C = some (excClassObj nm q C N bs bm hdct sn sub ab col dd k0 k1 k2 k3 k5 newId) ∧ s₂.heap.Ns N mN ∧ OwnTail s₂.heap bmB bm ∧ ∃ ch, Chain s₂.heap ch ∧ A.handled = headV ch ∧
        ∀ h' e t, (∀ b o, s₂.heap.get? b = some o → h'.get? b = some o) → s₂.heap.get? e = none → Ex h' e (.ref C) (.ref t, none) ((headV ch).getD .none) .none → E (.ref e) { s₂ with heap := h' }) E s₁) E s) :
    wpAny (model prog w) A (exec (.Raise (some (.Call (.Name x np) args [] cpos)) none pos) env) Q E s := by
  rw [arm_exec_Raise]
  refine wpAny_bind (wpAny_standAt (raiseStmt_q (C := C) (nm := nm) (q := q) (N := N) (bs := bs) (bm := bm) (hdct := hdct) (sn := sn) (sub := sub) (ab := ab) (col := col) (dd := dd) (k0 := k0) (k1 := k1) (k2 := k2) (k3 := k3) (k5 := k5) (newId := newId) hbase (wpAny_bind (wpAny_mono (wpAny_Call_ofName (wpAny_mono h (fun f s₁ h₁ => ?_) fun _ _ z => z)) (fun v s₃ h₃ => wpAny_bind (wpAny_standAt (wpAny_pure h₃))) fun _ _ z => z))))
  obtain ⟨rfl, h₁⟩ := h₁
  unfold callWith; refine wpAny_bind (wpAny_holding (wpAny_mono h₁ (fun a s₂ h₂ => wpAny_bind (wpAny_standAt ?_)) fun _ _ z => z))
  obtain ⟨apos, akw⟩ := a
  obtain ⟨hkw, hlen, hC, hn, T, ch, c, eh, h₂⟩ := h₂
  obtain rfl : akw = [] := hkw
  obtain ⟨hp, g, d, tk, os⟩ := s₂
  simp only [hplain]; refine wpAny_bind (wpAny_keeperOf_exc hC ?_)
  refine wpAny_bind (wpAny_call_exc_subT (hrest := hlen) F T hC hn hni fun h' e hm => wpAny_bind (wpAny_holding (wpAny_point (wpAny_pure ?_))))
  obtain ⟨t, ht, _, _⟩ := hm.there
  refine ⟨e, t, ch, none, rfl, hm.keeps _ _ hC, ht, c.keeps fun x _ o z => hm.keeps x o z, eh, fun z => ?_, fun h'' sb x => ?_⟩
  · obtain ⟨o, _, y, _⟩ := c.there z
    rw [show hp.get? e = none from hm.new] at y; cases y
  · exact h₂ h'' e t (fun b o z => (sb.2 b fun y => by rw [y] at z; rw [show hp.get? e = none from hm.new] at z; cases z).trans (hm.keeps b o z)) hm.new x
/-- does the handler take it -/
theorem match_own {h : Heap} {g : Array GenState} {d : Drawn} {tk : Nat} {os : OsState} {e D : Addr} {oe : Obj} {Q : Bool → Shared → Prop} {nm' q' : Str} {N' : Addr} {bs' bm' : List Value} {hdct' : Bool} {sn' : List Str} {sub' : List Value} {ab' : Bool} {col' : Option Bool} {dd' : Option Addr} {j0 j1 j2 j3 j5 : Option Value} {newId' : String}
    (hC : h.get? C = some (excClassObj nm q C N bs bm hdct sn sub ab col dd k0 k1 k2 k3 k5 newId)) (hD : h.get? D = some (excClassObj nm' q' D N' bs' bm' hdct' sn' sub' ab' col' dd' j0 j1 j2 j3 j5 newId')) (he : h.get? e = some oe) (hcls : oe.cls = .ref C) (hbase : bm'.contains (.type "BaseException") = true)
    (hq : Q ((Value.ref C :: bm).contains (.ref D)) ⟨h, g, d, tk, os⟩) : wpAny (model prog w) A (excMatches (.ref e) (.ref D)) Q E ⟨h, g, d, tk, os⟩ := by
  have hcB : (Value.ref D :: bm').contains (.type "BaseException") = true := by rw [List.contains_cons, hbase, Bool.or_true]
  have f := tc_notTuple
  unfold excMatches
  repeat (first | (with_reducible refine wpAny_loadPart_at he ?_; rw [hcls]) | with_reducible refine wpAny_loadPart_at hD ?_ | with_reducible refine wpAny_loadPart_at hC ?_ | (with_reducible refine wpAny_isSubtype_exc hD ?_; rw [hcB]) | with_reducible refine wpAny_isSubtype_exc hC ?_ | wp_step)
  cases hb : (Value.ref C :: bm).contains (Value.ref D) <;> (rw [hb] at hq; wp_walk; exact hq)
end

/-! ### raise -/
section
variable {X : Cx} {R : St → XK} {C : Addr} {bmB : List Value} {newId initId BT : String} {x : Str} {np cpos pos : Pos} {e : Expr} {es : List Expr} {ta : TA}
theorem FunFrames_base {h h' base B : Heap} : ∀ {l : List Env}, h.FunFrames base l → (∀ b ∈ frs l, B.get? b = none) → (∀ b ∈ frs l, ∀ o, h.get? b = some o → h'.get? b = some o) → h'.FunFrames B l
  | [], _, _, _ => trivial
  | env :: r, hl, hB, hk => by
    obtain ⟨h1, ⟨L, o, hf, hn, ho, hd⟩, hr⟩ := hl
    have hL : L ∈ frs (env :: r) := by unfold frs; rw [List.filterMap_cons, hf]; exact List.mem_cons_self
    have sub : ∀ b ∈ frs r, b ∈ frs (env :: r) := fun b hb => by unfold frs; rw [List.filterMap_cons, hf]; exact List.mem_cons_of_mem _ hb
    exact ⟨h1, ⟨L, o, hf, hB L hL, hk L hL o ho, hd⟩, FunFrames_base hr (fun b hb => hB b (sub b hb)) fun b hb => hk b (sub b hb)⟩
/-- an exception of a class of the text -/
def tRaise (C : Addr) (R : St → XK) (ta : TA) : TS := fun _ σ H => ta σ H fun vs H1 => vs.length ≤ sizeLine ∧ R σ (.ref C) none H1
theorem ps_raise (c : XCl X.K C bmB newId) (F : ExcBaseFacts BT newId initId bmB) (hbB : bmB.contains (.type "BaseException") = true) (hg : Gl (X.exc R) x) (hm : X.mg x = some (.ref C)) (ha : PA (X.exc R) (e :: es) ta)
    (hdb : (x == ("__debug__" : Str)) = false := by decide) (he : starEach (e :: es) X.env = (false, eval e X.env) :: starEach es X.env := by rfl) (hpl : (backTo cpos (starEach es X.env)).any (·.1) = false := by rfl) :
    PS (X.exc R) (.Raise (some (.Call (.Name x np) (e :: es) [] cpos)) none pos) (tRaise C R ta) := by
  intro pins s σ H D I h
  obtain ⟨bm, N, nm, q, bs, hdct, sn, sub, ab, col, dd, k0, k1, k2, k3, k5, mN, hC, hN, hni, T, hmr⟩ := c.obj I.ok.mod.kin
  have keepB : ∀ {s2 : Shared} {σ2 : St} {H2 : Hp} {pins2 : List (Addr × Obj)}, Inv (X.exc R) pins2 σ2 H2 s2 → ∀ b o, X.base.get? b = some o → s2.heap.get? b = some o := fun I2 => I2.bk
  refine raiseCall_q (C := C) (nm := nm) (q := q) (N := N) (bs := bs) (bm := bm) (hdct := hdct) (sn := sn) (sub := sub) (ab := ab) (col := col) (dd := dd) (k0 := k0) (k1 := k1) (k2 := k2) (k3 := k3) (k5 := k5) (newId := newId) (mN := mN) F (T.hasType hbB)
    (by show (backTo cpos (starEach (e :: es) X.env)).any (·.1) = false; rw [he]; show (false || (backTo cpos (starEach es X.env)).any (·.1)) = false; rw [hpl]; rfl) hni (ld_glob I hg hm ⟨rfl, ?_⟩ hdb)
  have h0 := ha cpos pins s σ H _ I h
  have he' : starEach (e :: es) (X.exc R).env = (false, eval e (X.exc R).env) :: starEach es (X.exc R).env := he
  rw [he'] at h0 ⊢
  refine Calls.evalArgs_plain (wpAny_mono h0 (fun us s2 h2 => ⟨rfl, ?_⟩) fun _ _ z => z)
  obtain ⟨vs, H2, I2, r2, hlen, hR⟩ := h2
  have I0 : Inv X pins σ H2 s2 := I2.unwish
  obtain ⟨ch, cc, eh, cn⟩ := I0.hq1
  refine ⟨by rw [← r2.length]; exact hlen, I0.bk _ _ hC, hN.keeps I0.bk, T.keeps I0.bk, ch, cc, eh, fun h' a t keep new x => ?_⟩
  have I3 : Inv X pins σ H2 { s2 with heap := h' } := I0.kept (t' := s2.toks) keep
  generalize hBdef : PySem.W.hideAll s2.heap (frs X.stack) = B
  have inB : ∀ {b : Addr} {o : Obj}, s2.heap.get? b = some o → b ∉ frs X.stack → ∃ o', B.get? b = some o' := fun {b o} z n => ⟨o, by rw [← hBdef]; exact PySem.W.hideAll_get _ z n⟩
  have stB : B.StaysIn h' := fun b o z => keep b o (PySem.W.of_hideAll (frs X.stack) (by rw [hBdef]; exact z))
  have nst : ∀ b, b ≠ X.env.locals → b ∉ X.fs → b ∉ frs X.stack := fun b h1 h2 z => (List.mem_cons.mp (I0.stkSub b z)).elim h1 h2
  have offa : B.get? a = none := by
    cases z : B.get? a with
    | none => rfl
    | some o => have y := PySem.W.of_hideAll (frs X.stack) (by rw [hBdef]; exact z); rw [new] at y; cases y
  refine ⟨a, C, (.ref t, none), _, B, σ, H2, rfl, I3.pins_of fun p hp => (nomatch hp), .inl ⟨stB, offa, FunFrames_base I0.stack (fun b hb => by rw [← hBdef]; exact PySem.W.hideAll_none _ hb) fun b _ o z => keep b o z, .inl x⟩,
    ⟨fun b u z => ?_, fun b o z hb hx => ?_, fun p hp => ?_⟩, ⟨ch, rfl, cc.keeps fun x _ o z => keep x o z, fun z => ?_, fun x m => ?_⟩, hR⟩
  · have lt := I0.hok b u z
    obtain ⟨o, e1⟩ : ∃ o, s2.heap.get? b = some o := lt.get
    exact inB e1 fun y => by rw [I0.stkFree b y] at z; cases z
  · obtain ⟨o1, e1⟩ := I0.base.there b o z hx
    exact inB e1 (nst b (Nat.ne_of_lt (Nat.lt_of_lt_of_le (Heap.lt_size z) I0.ok.above)) hb)
  · obtain ⟨e1, n, ne, nf, d⟩ := I0.pin p (List.mem_append_left _ hp)
    exact inB e1 (nst p.1 ne nf)
  · obtain ⟨o, _, y, _⟩ := cc.there z
    rw [new] at y; cases y
  · obtain ⟨o, ws, y, yd⟩ := cc.there m
    refine ⟨inB y fun z => ?_, cn x m⟩
    obtain ⟨_, o', ho', nf⟩ := I0.stack.mem z
    rw [y] at ho'; cases ho'
    exact nf ws yd
end
end L2

set_option Elab.async false
set_option linter.all false
set_option maxRecDepth 100000
namespace L2
open PySem PySem.Spec PyProof.Rows

/-! ### try -/
abbrev Cx.pinsTo (X : Cx) (pl : List (Addr × Obj)) : Cx := { X with pn := X.pn ++ pl }
/-- an except suite: a is being handled -/
abbrev Cx.hand (X : Cx) (a : Addr) (ex : List (Addr × Obj)) : Cx := { X with A := X.A.mark (some (.ref a)), calm := false, pn := X.pn ++ ex, xe := fun _ _ => False }
section
variable {X : Cx} {pins pl : List (Addr × Obj)} {σ : St} {H : Hp} {s : Shared}
theorem Cx.Ok.pinsTo (ok : X.Ok) : (X.pinsTo pl).Ok :=
  ⟨ok.mod, ok.kind, ok.glob, ok.blt, ok.above, ok.inj, ok.has, ok.cab, ok.hd, ok.hq.mono (fun p hp => List.mem_append_left _ hp), ok.frames, ok.stk, ok.exf, ok.bs, ok.bsz, ok.noex, ok.exfs, ok.funs, ok.frf⟩
theorem Inv.toPn (I : Inv X pins σ H s) : Inv (X.pinsTo pins) [] σ H s := ⟨I.ok.pinsTo, I.os, I.bare, I.base, I.loc, I.cell, I.free, I.freeC, fun p hp => I.pin p (by simpa using hp), I.hok, I.len⟩
theorem Inv.ofPn (ok : X.Ok) (I : Inv (X.pinsTo pins) [] σ H s) : Inv X pins σ H s := ⟨ok, I.os, I.bare, I.base, I.loc, I.cell, I.free, I.freeC, fun p hp => I.pin p (by simpa using hp), I.hok, I.len⟩
theorem SP.ofPn (ok : X.Ok) {D : Ends} {f : Flow} {s' : Shared} (h : SP (X.pinsTo pins) [] D f s') : SP X pins D f s' := by
  cases f with
  | next => obtain ⟨σ', H', I, q⟩ := h; exact ⟨σ', H', I.ofPn ok, q⟩
  | brk => obtain ⟨σ', H', I, q⟩ := h; exact ⟨σ', H', I.ofPn ok, q⟩
  | cont => obtain ⟨σ', H', I, q⟩ := h; exact ⟨σ', H', I.ofPn ok, q⟩
  | ret u => obtain ⟨v, σ', H', I, r, q⟩ := h; exact ⟨v, σ', H', I.ofPn ok, r, q⟩
/-- back from an except suite -/
theorem Inv.unhand {a : Addr} {ex : List (Addr × Obj)} (ok : X.Ok) (I : Inv (X.hand a ex) [] σ H s) : Inv X [] σ H s :=
  ⟨ok, I.os, I.bare, I.base, I.loc, I.cell, I.free, I.freeC, fun p hp => I.pin p (List.mem_append_left _ (List.mem_append_left _ (by simpa using hp))), I.hok, I.len⟩
theorem SP.unhand {a : Addr} {ex : List (Addr × Obj)} (ok : X.Ok) {D : Ends} {f : Flow} {s' : Shared} (h : SP (X.hand a ex) [] D f s') : SP X [] D f s' := by
  cases f with
  | next => obtain ⟨σ', H', I, q⟩ := h; exact ⟨σ', H', I.unhand ok, q⟩
  | brk => obtain ⟨σ', H', I, q⟩ := h; exact ⟨σ', H', I.unhand ok, q⟩
  | cont => obtain ⟨σ', H', I, q⟩ := h; exact ⟨σ', H', I.unhand ok, q⟩
  | ret u => obtain ⟨v, σ', H', I, r, q⟩ := h; exact ⟨v, σ', H', I.unhand ok, r, q⟩
/-- into an except suite -/
theorem hand_inv {B : Heap} {a C : Addr} {a0 : AD} {cx : Value} (I : Inv X [] σ H s) (l : Lain B X.stack a (.ref C) a0 cx .none s.heap) (cv : Cov X B H) (c : Chn B s.heap H a cx) :
    ∃ ex o, (a, o) ∈ ex ∧ (o.cls = .ref C ∧ o.dict = a0.2 ∧ ∀ c, o.data ≠ .cls c) ∧ Inv (X.hand a ex) [] σ H s := by
  obtain ⟨ch, ecx, cc, na, lk⟩ := c
  obtain ⟨T, x, y⟩ := id l.ex
  obtain ⟨oe, vs, ge, gc, gd, g0, g1, g2⟩ := x.obj
  have c2 : Chain s.heap (a :: ch) := cc.cons na ⟨oe, vs, ge, gd, by rw [← ecx]; exact g2⟩
  have Ha : H a = none := by
    cases z : H a with
    | none => rfl
    | some u => obtain ⟨o, q⟩ := cv.trk a u z; rw [l.off] at q; cases q
  have Hx : ∀ x ∈ a :: ch, H x = none := fun x m => (List.mem_cons.mp m).elim (fun z => z ▸ Ha) fun z => (lk x z).2
  have pin : ∀ p ∈ pinsAt (a :: ch) s.heap, s.heap.get? p.1 = some p.2 ∧ H p.1 = none ∧ p.1 ≠ X.env.locals ∧ p.1 ∉ X.fs ∧ ∀ v, p.2.data ≠ .cell v := fun p hp => by
    obtain ⟨m, e⟩ := of_pinsAt hp
    obtain ⟨o, ws, e1, d⟩ := c2.there m
    rw [e] at e1; cases e1
    refine ⟨e, Hx _ m, fun z => ?_, fun z => ?_, fun v z => by rw [d] at z; cases z⟩
    · obtain ⟨mm, ⟨o', es, ep, ho', hd', _⟩, _⟩ := I.loc
      rw [z, ho'] at e; cases e; rw [hd'] at d; cases d
    · obtain ⟨_, o', ho', nf⟩ := I.funs.mem z
      rw [e] at ho'; cases ho'
      exact nf ws d
  have ok : (X.hand a (pinsAt (a :: ch) s.heap)).Ok := by
    have ok := I.ok
    refine ⟨ok.mod, ok.kind, ok.glob, ok.blt, ok.above, ok.inj, ok.has, ok.cab, (fun z => nomatch z), ⟨a :: ch, c2.nd, rfl, fun i x z => ?_⟩, ok.frames, ok.stk, ok.exf, ok.bs, ok.bsz, ok.noex, ok.exfs, ok.funs, ok.frf⟩
    obtain ⟨o, ws, e, d, z2⟩ := c2.lk i x z
    exact ⟨o, ws, List.mem_append_right _ (mem_pinsAt (List.mem_of_getElem? z) e), d, z2⟩
  refine ⟨pinsAt (a :: ch) s.heap, oe, mem_pinsAt List.mem_cons_self ge, ⟨gc, g0.2, fun c z => by rw [gd] at z; cases z⟩, ⟨ok, I.os, I.bare, I.base, I.loc, I.cell, I.free, I.freeC, fun p hp => ?_, I.hok, I.len⟩⟩
  rcases List.mem_append.mp (List.mem_append.mp hp |>.elim id fun z => nomatch z) with z | z
  · exact I.pin p (by simpa using z)
  · exact pin p z
end

/-- a class of exceptions: what a handler of the class at D takes -/
def takes (K : PySem.W.Frag) (C D : Addr) : Bool := (mroIn K C).contains (.ref D)
/-- the handlers, from the state behind the body's exception -/
def PH (X : Cx) (R : St → XK) (hs : List ExceptHandler) (rH : Ends → St → XK) : Prop :=
  ∀ (pins : List (Addr × Obj)) (a C : Addr) (a0 : AD) (cx : Value) (B : Heap) (σ : St) (H : Hp) (s : Shared) (D : Ends), X.Ok → Inv (X.pinsTo pins) [] σ H s → Lain B X.stack a (.ref C) a0 cx .none s.heap → Cov (X.pinsTo pins) B H → Chn B s.heap H a cx →
    rH D σ (.ref C) a0.2 H → wpAny (model X.prog X.w) X.A (handleBy (.ref a) X.env hs) (SP X pins D) (XE X R) s
section
variable {X : Cx} {R : St → XK} {rH : Ends → St → XK} {hs : List ExceptHandler}
theorem Cov.unpin {pins : List (Addr × Obj)} {B : Heap} {H : Hp} (c : Cov (X.pinsTo pins) B H) : Cov X B H := ⟨c.trk, c.old, fun p hp => c.pn p (List.mem_append_left _ hp)⟩
theorem ph_nil (hf : X.env.frame = some X.env.locals) : PH X R [] (fun _ => R) := by
  intro pins a C a0 cx B σ H s D ok I l cv c q
  refine wpAny_handleBy_nil ?_
  unfold PySem.passOn
  obtain ⟨T, x, y⟩ := id l.ex
  obtain ⟨oe, vs, ge, gc, gd, g0, g1, g2⟩ := x.obj
  refine wpAny_bind (wpAny_field ge gd g1 ?_)
  rw [if_neg (show ¬ ((Value.ref T == Value.none) = true) from Bool.false_ne_true), hf]
  refine wpAny_bind (lain_set (fo := some X.env.locals) l fun h2 l2 u2 => wpAny_throw ?_)
  have I2 := inv_air (X := X.pinsTo pins) (s := s) (h' := h2) I l.stay l2.stay u2 cv
  exact ⟨a, C, a0, cx, B, σ, H, rfl, (I2.ofPn ok).pins_of fun p hp => (nomatch hp), .inr l2, cv.unpin, c.keeps l.stay l2.stay, q⟩
/-- try: .. except ..: tb is read with what the handlers want -/
def tTry (tb : (St → XK) → TS) (rH : Ends → St → XK) : TS := fun D σ H => tb (rH D) D σ H
theorem ps_try {body : List Stmt} {h0 : ExceptHandler} {pos : Pos} {tb : (St → XK) → TS} (hst : X.stack = X.env :: X.outer) (hf : X.env.frame = some X.env.locals) (hb : ∀ pins R', PSs ((X.pinsTo pins).exc R') body (tb R')) (hh : PH X R (h0 :: hs) rH) :
    PS (X.exc R) (.Try body (h0 :: hs) [] [] pos) (tTry tb rH) := by
  intro pins s σ H D I h
  have I0 : Inv X pins σ H s := I.unwish
  refine wpAny_Try_except (wpAny_mono (hb pins (rH D) [] s σ H D (I0.toPn.wish _) h) (fun f s1 h1 => ?_) fun e s1 h1 => ?_)
  · have h2 : SP X pins D f s1 := (SP.unwish (X := X.pinsTo pins) h1).ofPn I0.ok
    have up : ∀ {f : Flow}, SP X pins D f s1 → SP (X.exc R) pins D f s1 := fun {f} h => by
      cases f with
      | next => obtain ⟨σ', H', I, q⟩ := h; exact ⟨σ', H', I.wish _, q⟩
      | brk => obtain ⟨σ', H', I, q⟩ := h; exact ⟨σ', H', I.wish _, q⟩
      | cont => obtain ⟨σ', H', I, q⟩ := h; exact ⟨σ', H', I.wish _, q⟩
      | ret u => obtain ⟨v, σ', H', I, r, q⟩ := h; exact ⟨v, σ', H', I.wish _, r, q⟩
    cases f with
    | next => exact wpAny_execs_nil (up h2)
    | brk => exact up h2
    | cont => exact up h2
    | ret u => exact up h2
  · obtain ⟨a, C, a0, cx, B, σ1, H1, rfl, I1, u1, cv, chn, q⟩ := h1
    refine up_note (X := X.pinsTo pins) hst hf I1.ok.frames u1 fun h2 l2 w2 => lain_land (s := { s1 with heap := h2 }) l2 fun h3 l3 w3 => ?_
    have I3 := inv_air (X := X.pinsTo pins) (s := s1) (h' := h3) I1 u1.stay l3.stay (w2.trans w3) cv
    refine wpAny_mono (hh pins a C a0 cx B σ1 H1 { s1 with heap := h3 } D I0.ok I3 l3 cv (chn.keeps u1.stay l3.stay) q) (fun f s4 h4 => ?_) fun _ _ z => z
    cases f with
    | next => obtain ⟨σ', H', I, q⟩ := h4; exact ⟨σ', H', I.wish _, q⟩
    | brk => obtain ⟨σ', H', I, q⟩ := h4; exact ⟨σ', H', I.wish _, q⟩
    | cont => obtain ⟨σ', H', I, q⟩ := h4; exact ⟨σ', H', I.wish _, q⟩
    | ret u => obtain ⟨v, σ', H', I, r, q⟩ := h4; exact ⟨v, σ', H', I.wish _, r, q⟩
end
end L2

set_option Elab.async false
set_option linter.all false
set_option maxRecDepth 100000
namespace L2
open PySem PySem.Spec PyProof.Rows

/-! ### isinstance of an exception -/
/-- none of the text's classes in the row has the name -/
def quietIn (K : PySem.W.Frag) (bmB : List Value) (n : Str) : List Value → Bool
  | [] => bmB == []
  | v :: r => (v :: r) == bmB || match v with
    | .ref A => (match K.lookup A with
      | some ⟨_, _, .cls cd, _⟩ => PySem.W.nsOkIn K cd.ns && PySem.W.nsIn K cd.ns n == some none && quietIn K bmB n r
      | _ => false)
    | _ => false
/-- what isinstance asks of a class of exceptions -/
structure XQu (K : PySem.W.Frag) (C : Addr) (bmB : List Value) : Prop where
  cls : quietIn K bmB "__class__" (mroIn K C) = true
  ga : quietIn K bmB "__getattribute__" (mroIn K C) = true
  gt : quietIn K bmB "__getattr__" (mroIn K C) = true
section
variable {prog : Program} {w : World} {A : Around} {E : Value → Shared → Prop} {h : Heap} {g : Array GenState} {d : Drawn} {t : Nat} {os : OsState} {a : Addr} {o : Obj} {K : PySem.W.Frag}
  {nm q : Str} {C N : Addr} {bs bm bmB : List Value} {hdct : Bool} {sn : List Str} {sub : List Value} {ab : Bool} {col : Option Bool} {dd : Option Addr} {k0 k1 k2 k3 k5 : Option Value} {B newId : String}
theorem look_quiet {M : Model} {n : Str} {y : Option Value} {Q : Option Value → Shared → Prop} (KX : K.In h) (hrest : lookupAlong bmB n = pure y) (hq : Q y ⟨h, g, d, t, os⟩) : ∀ {l : List Value}, quietIn K bmB n l = true → wpAny M A (lookupAlong l n) Q E ⟨h, g, d, t, os⟩
  | [], e => by rw [← beq_iff_eq.mp (show (bmB == []) = true from e), hrest]; exact wpAny_pure hq
  | v :: r, e => by
    unfold quietIn at e
    rcases Bool.or_eq_true_iff.mp e with z | z
    · rw [beq_iff_eq.mp z, hrest]; exact wpAny_pure hq
    · split at z
      · split at z
        · rename_i ho
          simp only [Bool.and_eq_true, beq_iff_eq] at z
          rw [lookupAlong_cons]
          refine wpAny_bind (wpAny_classOwn_cls (KX _ _ ho) (.of_isNs (PySem.W.isNs_of_in KX z.1.1)) ?_)
          rw [PySem.W.nsMap_none_of_in KX z.1.1 z.1.2]
          exact look_quiet KX hrest hq z.2
        · cases z
      · cases z
theorem type_quiet {M : Model} {n : Str} {y : Option Value} {Q : Option Value → Shared → Prop} (KX : K.In h) (hC : h.get? C = some (excClassObj nm q C N bs bm hdct sn sub ab col dd k0 k1 k2 k3 k5 newId)) (hmr : mroIn K C = .ref C :: bm) (e : quietIn K bmB n (mroIn K C) = true)
    (hbm : mroOf (.type B) = pure bmB) (hB : typeLookup (.type B) n = pure y) (hq : Q y ⟨h, g, d, t, os⟩) : wpAny M A (typeLookup (.ref C) n) Q E ⟨h, g, d, t, os⟩ := by
  have hrest : lookupAlong bmB n = pure y := by rw [typeLookup_eq, hbm] at hB; exact hB
  rw [typeLookup_eq]; refine wpAny_bind (wpAny_mroOf_exc hC ?_)
  rw [← hmr]; exact look_quiet KX hrest hq e
theorem xclass_get {R : Result → Shared → Prop} (hC : h.get? C = some (excClassObj nm q C N bs bm hdct sn sub ab col dd k0 k1 k2 k3 k5 newId)) (ho : bm.contains (.type "object") = true) (hx : h.get? a = some o) (hc : o.cls = .ref C) (hq : R (.ok (.ret (.ref C))) ⟨h, g, d, t, os⟩) :
    codeAny (model prog w) A (.call (.builtin "getset_descriptor.__get__") ⟨[.builtin "object.__class__", .ref a, .ref C], []⟩) R ⟨h, g, d, t, os⟩ := by
  have hT5 : (⟨h, g, d, t, os⟩ : Shared).TypeIs (.builtin "object.__class__") "getset_descriptor" := F.typeOf_object_class
  have hcO : (Value.ref C :: bm).contains (.type (".".intercalate ("object.__class__".cutAt '.').dropLast)) = true := by rw [F.owner_object_class, List.contains_cons, ho]; rfl
  refine codeAny_call_builtin F.slot_gs_get.plain F.entry_gs_get (F.slot_gs_get.check _ _ _ _ _ _ _ _ hT5 (F.args_gs_get _ _ _) ?_)
  repeat (any_goals (first | assumption | (with_reducible refine wpAny_loadPart_at hx ?_; rw [hc]) | (with_reducible refine wpAny_isSubtype_exc hC ?_; rw [hcO]) | wp_step))
  refine ⟨Code.quiet_builtin _ (by decide +kernel), codeAny_builtin F.entry_object_class ?_⟩
  repeat (any_goals (first | assumption | (with_reducible refine wpAny_loadPart_at hx ?_; rw [hc]) | wp_step))
theorem xclass_entry {tk : Tok} {Q : Fin → Shared → Prop} (KX : K.In h) (hC : h.get? C = some (excClassObj nm q C N bs bm hdct sn sub ab col dd k0 k1 k2 k3 k5 newId)) (hmr : mroIn K C = .ref C :: bm) (Z : XQu K C bmB) (hbm : mroOf (.type B) = pure bmB) (lk : typeLookup (.type B) "__class__" = pure (some (.builtin "object.__class__")))
    (ho : bm.contains (.type "object") = true) (hx : h.get? a = some o) (hc : o.cls = .ref C) (hq : Q (.done (.ret (.ref C))) ⟨h, g, d, t, os⟩) : wpAny (model prog w) A (Builtin.«object.__getattribute__» ⟨[.ref a, .str "__class__" tk], []⟩) Q E ⟨h, g, d, t, os⟩ := by
  have hT5 : (⟨h, g, d, t, os⟩ : Shared).TypeIs (.builtin "object.__class__") "getset_descriptor" := F.typeOf_object_class
  have f5 := F.typeOf_object_class
  have f6 := F.slot_gs_get.lookup
  have f7 := F.slot_gs_set.lookup
  repeat (any_goals (first | assumption | (with_reducible refine wpAny_loadPart_at hx ?_; rw [hc]) | with_reducible refine type_quiet KX hC hmr Z.cls hbm lk ?_ | wp_step))
  refine xclass_get hC ho hx hc ?_
  repeat (any_goals (first | assumption | wp_step))
theorem xclass_check {M : Model} {nameV : Value} {Q : Unit → Shared → Prop} (FB : ExcAttrBase B bmB) (hC : h.get? C = some (excClassObj nm q C N bs bm hdct sn sub ab col dd k0 k1 k2 k3 k5 newId)) (T : OwnTail h bmB bm)
    (hx : h.get? a = some o) (hc : o.cls = .ref C) (hq : Q () ⟨h, g, d, t, os⟩) : wpAny M A (checkBuiltinCall "BaseException.__getattribute__" ⟨[.ref a, nameV], []⟩) Q E ⟨h, g, d, t, os⟩ := by
  have bk : builtinKind "BaseException.__getattribute__" = some .slot := by decide +kernel
  have bs' : splitId "BaseException.__getattribute__" = some ("BaseException", "__getattribute__") := by decide +kernel
  have hcB : (Value.ref C :: bm).contains (.type "BaseException") = true := by rw [List.contains_cons, T.hasType FB.hasBase]; rfl
  have ha := F.args_bexc_ga (.ref a) nameV
  simp only [checkBuiltinCall, bk, bs']; refine wpAny_bind ?_
  unfold isInstance
  repeat (first | (with_reducible refine wpAny_loadPart_at hx ?_; rw [hc]) | (with_reducible refine wpAny_isSubtype_exc hC ?_; rw [hcB]) | wp_step)
  exact hq
theorem xclass_by {tk : Tok} {Q : Value → Shared → Prop} (KX : K.In h) (FB : ExcAttrBase B bmB) (hC : h.get? C = some (excClassObj nm q C N bs bm hdct sn sub ab col dd k0 k1 k2 k3 k5 newId)) (T : OwnTail h bmB bm) (hmr : mroIn K C = .ref C :: bm) (Z : XQu K C bmB) (lk : typeLookup (.type B) "__class__" = pure (some (.builtin "object.__class__")))
    (ho : bmB.contains (.type "object") = true) (hx : h.get? a = some o) (hc : o.cls = .ref C) (hq : Q (.ref C) ⟨h, g, d, t, os⟩) : wpAny (model prog w) A (getAttrBy (.ref a) (.str "__class__" tk) false) Q E ⟨h, g, d, t, os⟩ := by
  have f3 := FB.ga.bind (.ref a)
  have hx2 : (Value.builtin "BaseException.__getattribute__" == Value.builtin "object.__getattribute__") = false := by decide +kernel
  have hx1 : (onTheHeap (Value.ref C) && Value.builtin "BaseException.__getattribute__" == Value.builtin "object.__getattribute__") = false := by rw [hx2]; rfl
  repeat (any_goals (first | assumption | (with_reducible refine wpAny_loadPart_at hx ?_; rw [hc]) | with_reducible refine type_quiet KX hC hmr Z.ga FB.mro FB.ga.lookup ?_ | with_reducible refine type_quiet KX hC hmr Z.gt FB.mro FB.noGetattr ?_ | wp_step))
  refine codeAny_call_builtin FB.ga.plain F.entry_bexc_ga (xclass_check FB hC T hx hc (xclass_entry KX hC hmr Z FB.mro lk (T.hasType ho) hx hc ?_))
  repeat (any_goals (first | assumption | wp_step))
theorem xclass_attr {Q : Option Value → Shared → Prop} (KX : K.In h) (FB : ExcAttrBase B bmB) (hC : h.get? C = some (excClassObj nm q C N bs bm hdct sn sub ab col dd k0 k1 k2 k3 k5 newId)) (T : OwnTail h bmB bm) (hmr : mroIn K C = .ref C :: bm) (Z : XQu K C bmB) (lk : typeLookup (.type B) "__class__" = pure (some (.builtin "object.__class__")))
    (ho : bmB.contains (.type "object") = true) (hx : h.get? a = some o) (hc : o.cls = .ref C) (hq : Q (some (.ref C)) ⟨h, g, d, t + 1, os⟩) : wpAny (model prog w) A (getAttr? (.ref a) "__class__") Q E ⟨h, g, d, t, os⟩ := by
  unfold getAttr? getAttrBy?
  repeat (any_goals (first | assumption | with_reducible apply xclass_by KX FB hC T hmr Z lk ho hx hc | wp_step))
end
end L2

namespace L2
open PySem PySem.Spec PyProof.Rows
/-- what all own classes over ValueError have -/
abbrev vmro : List Value := [.type "ValueError", .type "Exception", .type "BaseException", .type "object"]
abbrev vnew : String := "ValueError.__new__"
theorem vattr : ExcAttrBase "ValueError" vmro where
  toExcAttrFacts := PySem.F.attr_ValueError
  mro := PySem.F.excBase_ValueError.mroIs
  noGetattr := by rw [typeLookup_type, builtinLookup_eq_fast]; kernel_rfl
  hasBase := by decide +kernel
theorem vclass : typeLookup (.type "ValueError") "__class__" = pure (some (.builtin "object.__class__")) := by rw [typeLookup_type, builtinLookup_eq_fast]; kernel_rfl
/-- an own class over ValueError -/
structure VCl (K : PySem.W.Frag) (C : Addr) : Prop where
  x : XCl K C vmro vnew
  q : XQu K C vmro
structure VCw (K : PySem.W.Frag) (C : Addr) : Prop where
  x : XCw K C vmro vnew
  q : XQu K C vmro
theorem VCl.w {K : PySem.W.Frag} {C : Addr} (c : VCl K C) : VCw K C := ⟨c.x.w, c.q⟩
theorem kitx_exc {K : PySem.W.Frag} {a C : Addr} (c : VCw K C) : PySem.W.KitX K (.ref a) (.ref C) (fun h => ∃ o, h.get? a = some o ∧ o.cls = .ref C) where
  ty := fun M h X ⟨o, e, ec⟩ => by
    exact ec ▸ (PySem.W.Looks.ld e).andThen .now
  it := fun M h X _ => by
    obtain ⟨bm, N, nm, qn, bs, hdct, sn, sub, ab, col, dd, k0, k1, k2, k3, k5, mN, hC, _⟩ := c.x.obj X
    intro A' Q' E' s' k q
    unfold isType loadHead
    exact wpAny_bind (wpAny_loadPart (k _ _ hC) (wpAny_pure q))
  ne := fun h tp dd' its n sl X htp => by
    obtain ⟨bm, N, nm, qn, bs, hdct, sn, sub, ab, col, dd, k0, k1, k2, k3, k5, mN, hC, _⟩ := c.x.obj X
    refine Bool.eq_false_iff.mpr fun q => ?_
    have e : C = tp := Value.ref.inj (beq_iff_eq.mp q)
    subst e
    rw [hC] at htp
    have z := congrArg Obj.data (Option.some.inj htp)
    cases z
  ca := fun {prog w A E Q s} X p k => by
    obtain ⟨o, e, ec⟩ := p
    obtain ⟨bm, N, nm, qn, bs, hdct, sn, sub, ab, col, dd, k0, k1, k2, k3, k5, mN, hC, hN, T, hmr⟩ := c.x.obj X
    obtain ⟨hp, g, d, tk, os⟩ := s
    exact xclass_attr X vattr hC T hmr c.q vclass (by decide +kernel) e ec k
/-- isinstance(e, c), e the exception at a, of the class at C -/
def rIsX (K : PySem.W.Frag) (a C : Addr) : List V → Hp → VK → Prop := fun xs H Q => ∃ y c b, xs = [.ref a, y] ∧ RelV y c ∧ (∀ u, RelV y u → u = c) ∧ PySem.W.kitOne K (.ref C) c = some b ∧ Q (.bl b) H
theorem cr_isX {Y : Cx} {a C : Addr} {o : Obj} (hp : (a, o) ∈ Y.pn) (hc : o.cls = .ref C) (c : VCw Y.K C) : CallR Y (.builtin "isinstance") (rIsX Y.K a C) := by
  intro pins s σ H xs us Q I r h
  obtain ⟨y, cv, b, rfl, rc, uq, e, q⟩ := h
  obtain ⟨u, v, rfl, ru, rv⟩ : ∃ u v, us = [u, v] ∧ RelV (.ref a) u ∧ RelV y v := by
    cases r with
    | cons p p' =>
      cases p' with
      | cons p2 p3 =>
        cases p3
        exact ⟨_, _, rfl, p, p2⟩
  obtain rfl : u = Value.ref a := ru
  rw [uq v rv]
  exact PySem.W.kia_one (kitx_exc c) I.kIn ⟨o, (I.pin (a, o) (List.mem_append_left _ hp)).1, hc⟩ e (fun z => nomatch z) fun tk => ⟨.bl b, H, I.tok _, rfl, q⟩

/-! ### except C as e -/
/-- the names are forgotten -/
def blank (σ : St) : St := List.replicate σ.length none
theorem blank_some {σ : St} {i : Nat} {v : V} : ¬ (blank σ)[i]? = some (some v) := fun h => by
  unfold blank at h
  rw [List.getElem?_replicate] at h
  split at h <;> cases h
theorem inv_names {X : Cx} {pins : List (Addr × Obj)} {σ : St} {H : Hp} {s : Shared} {h' : Heap} {m' : Str → Option Value} {tk : Nat} (I : Inv X pins σ H s) (hn' : h'.Ns X.env.locals m') (hs : Heap.SameBut X.env.locals s.heap h') : Inv X pins (blank σ) H { s with heap := h', toks := tk } := by
  have ne0 : ∀ b o, X.s_0.heap.get? b = some o → b ≠ X.env.locals := fun b o e => Nat.ne_of_lt (Nat.lt_of_lt_of_le (Heap.lt_size e) I.ok.above)
  refine ⟨I.ok, I.os, I.bare, ⟨fun b o e n hb hx => (hs.2 b (ne0 b o e)).trans (I.base.keep b o e n hb hx), fun b o e n hb hx => ?_, I.base.free, fun b o e hx => ?_, I.base.tups, I.base.frzs, I.base.tbls⟩, ⟨m', hn', fun i x v _ e2 _ => absurd e2 blank_some⟩, fun x c e => ?_, I.free, I.freeC, fun p hp => ?_, fun b o e => ?_, ?_⟩
  · obtain ⟨sl, e1⟩ := I.base.slot b o e n hb hx
    exact ⟨sl, (hs.2 b (ne0 b o e)).trans e1⟩
  · obtain ⟨o1, e1⟩ := I.base.there b o e hx
    exact ⟨o1, (hs.2 b (ne0 b o e)).trans e1⟩
  · obtain ⟨v, z⟩ := I.cell x c e
    exact ⟨v, z.sameBut hs (I.cne x c e)⟩
  · obtain ⟨e, n, ne, nf, d⟩ := I.pin p hp
    exact ⟨(hs.2 p.1 ne).trans e, n, ne, nf, d⟩
  · refine (I.hok b o e).stay (fun c w hc q => (hs.2 c fun z => ?_).trans q) (fun _ q => q) fun _ _ q => q
    rcases hc with y | y
    · rw [← y, z, I.free] at e; cases e
    · rw [z, I.free] at y; cases y
  · unfold blank; rw [List.length_replicate]; exact I.len
def fade (D : Ends) : Ends := { nx := fun σ H => D.nx (blank σ) H, rt := D.rt, bk := fun σ H => D.bk (blank σ) H, ct := fun σ H => D.ct (blank σ) H }
theorem sp_names {X : Cx} {pins : List (Addr × Obj)} {D : Ends} {f : Flow} {s : Shared} {h' : Heap} {m' : Str → Option Value} {tk : Nat} (h : SP X pins (fade D) f s) (hn' : h'.Ns X.env.locals m') (hs : Heap.SameBut X.env.locals s.heap h') : SP X pins D f { s with heap := h', toks := tk } := by
  cases f with
  | next => obtain ⟨σ', H', I, q⟩ := h; exact ⟨_, H', inv_names I hn' hs, q⟩
  | brk => obtain ⟨σ', H', I, q⟩ := h; exact ⟨_, H', inv_names I hn' hs, q⟩
  | cont => obtain ⟨σ', H', I, q⟩ := h; exact ⟨_, H', inv_names I hn' hs, q⟩
  | ret u => obtain ⟨v, σ', H', I, r, q⟩ := h; exact ⟨v, _, H', inv_names I hn' hs, r, q⟩
theorem SP.loc {X : Cx} {pins : List (Addr × Obj)} {D : Ends} {f : Flow} {s : Shared} (h : SP X pins D f s) : ∃ m, s.heap.Ns X.env.locals m := by
  cases f with
  | next => obtain ⟨σ', H', I, q⟩ := h; obtain ⟨m, n, _⟩ := I.loc; exact ⟨m, n⟩
  | brk => obtain ⟨σ', H', I, q⟩ := h; obtain ⟨m, n, _⟩ := I.loc; exact ⟨m, n⟩
  | cont => obtain ⟨σ', H', I, q⟩ := h; obtain ⟨m, n, _⟩ := I.loc; exact ⟨m, n⟩
  | ret u => obtain ⟨v, σ', H', I, r, q⟩ := h; obtain ⟨m, n, _⟩ := I.loc; exact ⟨m, n⟩
/-- except D as x (slot i): -/
def rHandN (K : PySem.W.Frag) (i : Nat) (Dc : Addr) (th : Addr → Addr → Option Addr → TS) (rest : Ends → St → XK) : Ends → St → XK := fun D σ cls d H => ∃ C, cls = .ref C ∧ VCw K C ∧ if takes K C Dc = true then ∀ a, H a = none → th a C d (fade D) (σ.set i (some (.ref a))) H else rest D σ cls d H
theorem ph_consN {X : Cx} {R : St → XK} {rH : Ends → St → XK} {hs : List ExceptHandler} {i : Nat} {x n : Str} {np pos : Pos} {Dc : Addr} {bmD : List Value} {newD : String} {b0 : Stmt} {suite : List Stmt} {th : Addr → Addr → Option Addr → TS} (hN : X.N.Nodup) (hi : X.N[i]? = some n) (hl : X.env.scope.names.lookup n = some .local)
    (hg : Gl X x) (hm : X.mg x = some (.ref Dc)) (c : XCl X.K Dc bmD newD) (hbD : bmD.contains (.type "BaseException") = true)
    (hsu : ∀ pins a ex C o, ∀ d, (a, o) ∈ ex → (o.cls = .ref C ∧ o.dict = d ∧ ∀ c, o.data ≠ .cls c) → VCw X.K C → PSs ((X.pinsTo pins).hand a ex) (b0 :: suite) (th a C d)) (hr : PH X R hs rH) (hdb : (x == ("__debug__" : Str)) = false := by decide) :
    PH X R (.ExceptHandler (some (.Name x np)) (some n) (b0 :: suite) pos :: hs) (rHandN X.K i Dc th rH) := by
  intro pins a C a0 cx B σ H s D ok I l cv ch q
  obtain ⟨C', e, vc, q⟩ := q
  cases e
  have Ha : H a = none := by
    cases z : H a with
    | none => rfl
    | some u => obtain ⟨o, q⟩ := cv.trk a u z; rw [l.off] at q; cases q
  obtain ⟨ex, oa, _, _, I1⟩ := hand_inv (X := X.pinsTo pins) I l cv ch
  refine wpAny_handleBy_cons (codeAny_handlers_test (ld_glob (X := (X.pinsTo pins).hand a ex) I1 hg hm ?_ hdb)) (by intro z; cases z)
  obtain ⟨bm, N, nm, qn, bs, hdct, sn, sub, ab, col, dd, k0, k1, k2, k3, k5, mN, hC, _, _, hmr⟩ := vc.x.obj I.kIn
  obtain ⟨bm', N', nm', qn', bs', hdct', sn', sub', ab', col', dd', j0, j1, j2, j3, j5, mN', hD, _, _, TD, _⟩ := c.obj I.kIn
  obtain ⟨T, y, _⟩ := id l.ex
  obtain ⟨oe, vs, ge, gc, gd, g0, g1, g2⟩ := y.obj
  obtain ⟨hp, g, d, tk, os⟩ := s
  refine match_own hC hD ge gc (TD.hasType hbD) ?_
  have et : takes X.K C Dc = (Value.ref C :: bm).contains (.ref Dc) := by unfold takes; rw [hmr]
  rw [← et]
  have hp0 : (X.env.scope.kind == .class || (X.env.scope.kind == .module && X.env.locals != X.env.globals)) = false := by rw [ok.kind]; rfl
  cases hb : takes X.K C Dc with
  | false =>
    rw [hb] at q
    exact hr pins a C a0 cx B σ H ⟨hp, g, d, tk, os⟩ D ok I l cv ch (by simpa using q)
  | true =>
    rw [hb] at q
    have q : th a C a0.2 (fade D) (σ.set i (some (.ref a))) H := (by simpa using q : ∀ a, H a = none → th a C a0.2 (fade D) (σ.set i (some (.ref a))) H) a Ha
    refine codeAny_handlers_suite_as (lain_land (s := ⟨hp, g, d, tk, os⟩) l fun h2 l2 u2 => ?_)
    have I2 := inv_air (X := X.pinsTo pins) (h' := h2) I l.stay l2.stay u2 cv
    obtain ⟨ex2, oa2, m2, c2, I3⟩ := hand_inv (X := X.pinsTo pins) I2 l2 cv (ch.keeps l.stay l2.stay)
    refine store_ok (X := (X.pinsTo pins).hand a ex2) I3 hN hi (.inl hl) (v := .ref a) rfl (fun s4 I4 => ?_) (.inr hl)
    refine wpAny_mono (hsu pins a ex2 C oa2 a0.2 m2 c2 vc [] _ _ H (fade D) I4 q) (fun f s5 h5 => ?_) fun _ _ z => False.elim z
    have h6 : SP X pins (fade D) f s5 := (h5.unhand (X := X.pinsTo pins) ok.pinsTo).ofPn ok
    obtain ⟨m, hm5⟩ := h6.loc
    exact wpAny_nameGoes hl hm5 hp0 fun h7 m7 n7 sb => sp_names h6 n7 sb
end L2

set_option Elab.async false
set_option linter.all false
set_option maxRecDepth 100000
namespace L2
open PySem PySem.Spec PyProof.Rows

/-! ### in an except suite; where nothing leaves -/
theorem Room.mark {k : Nat} {A : Around} {v : Option Value} (r : Room k A) : Room k (A.mark v) := ⟨r.dp, r.un⟩
/-- a callee that may throw, where it does not -/
theorem pass1n {X : Cx} {P : Program} {w : World} : Passes (CX1 P w) X (fun _ => E0) := fun _ _ _ _ _ _ _ h => (cx1_never h).elim
section
variable {P : Program} {w : World} {K : PySem.W.Frag} {mg : Str → Option Value} {base : Heap}
/-- THE RULE for a def with a try that lets nothing out -/
theorem Fun.okT {x qual : Str} {st : Stmt} {f : Addr} {fd : FuncData} {N ps : List Str} {k : Nat} {sp : Sp} (F : Fun K x qual st f fd) (S : FnScope N ps (defScope st)) (len : ∀ vs H Q E, sp vs H Q E → vs.length = ps.length)
    (hbody : ∀ (cdv : Value) (A : Around) (outer : List Env) (s : Shared) (H : Hp) (vs : List V) (Q : VK) (E : XK), Room k (A.deeper (envOfC qual (defScope st) s.heap.objs.size f cdv)) → sp vs H Q E →
      ∃ t, PSs ((cxOf CX0 P w K mg base N qual (defScope st) f cdv A outer s H E).exc fun _ => E0) (defBody st) t ∧ t { nx := fun _ H' => Q .non H', rt := Q } (start N vs) H) : FnOk P w K mg base CX0 (k + 1) f fd ps sp := by
  refine F.ok S len fun cdv A outer s H vs Q E hr hsp => ?_
  obtain ⟨t, h, q⟩ := hbody cdv A outer s H vs Q E hr hsp
  refine ⟨t, fun pins s1 σ H1 D I hw => ?_, q⟩
  refine wpAny_mono (h pins s1 σ H1 D (I.unwish.wish _) hw) (fun f s2 z => ?_) fun e s2 z => ?_
  · have z := z.unwish
    cases f with
    | next => obtain ⟨σ', H', I, q⟩ := z; exact ⟨σ', H', I.wish _, q⟩
    | brk => obtain ⟨σ', H', I, q⟩ := z; exact ⟨σ', H', I.wish _, q⟩
    | cont => obtain ⟨σ', H', I, q⟩ := z; exact ⟨σ', H', I.wish _, q⟩
    | ret u => obtain ⟨v, σ', H', I, r, q⟩ := z; exact ⟨v, σ', H', I.wish _, r, q⟩
  · obtain ⟨_, _, _, _, _, _, _, _, _, _, _, _, z⟩ := z
    exact z
end
end L2

set_option Elab.async false
set_option linter.all false
set_option maxRecDepth 100000
namespace L2
open PySem PySem.Spec PyProof.Rows

/-! ### cells that a call may read: known while an expression runs -/
/-- the cell at c holds v -/
def CellV (H : Hp) (c : Addr) (v : V) : Prop := ∃ o u, H c = some (.frz o (.own c)) ∧ o.data = .cell (some u) ∧ RelV v u
abbrev Cx.lk1 (X : Cx) (x : Str) : Cx := { X with fn := fun y => if y = x then false else X.fn y }
def hid (H : Hp) (c : Addr) : Hp := fun b => if b = c then none else H b
theorem hid_same {H : Hp} {c : Addr} : hid H c c = none := if_pos rfl
theorem hid_ne {H : Hp} {c b : Addr} (h : b ≠ c) : hid H c b = H b := if_neg h
section
variable {X : Cx} {pins : List (Addr × Obj)} {σ : St} {H : Hp} {s : Shared} {x : Str} {c : Addr}
theorem Cx.Ok.lk1 (ok : X.Ok) : (X.lk1 x).Ok :=
  ⟨ok.mod, ok.kind, ok.glob, ok.blt, ok.above, ok.inj, ok.has, fun y c h e => ok.cab y c (by
    by_cases z : y = x
    · exact absurd ((if_pos z).symm.trans h) Bool.false_ne_true
    · exact (if_neg z).symm.trans h) e, ok.hd, ok.hq, ok.frames, ok.stk, ok.exf, ok.bs, ok.bsz, ok.noex, ok.exfs, ok.funs, ok.frf⟩
theorem Inv.lock1 {o : Obj} {v : Option Value} (I : Inv X pins σ H s) (hx : X.fn x = true) (hc : X.env.cells.lookup x = some c) (ho : s.heap.get? c = some o) (hd : o.data = .cell v) :
    Inv (X.lk1 x) pins σ (upd H c (.frz o (.own c))) s := by
  have hn : H c = none := (I.freeC x c hc).resolve_right fun z => by have z := z.1; rw [hx] at z; cases z
  have ge := I.ok.cab x c hx hc
  refine ⟨I.ok.lk1, I.os, I.bare, ⟨I.base.keep, I.base.slot, fun b ob e n hx' => ?_, I.base.there, fun b xs e => ?_, fun b ob u e => ?_, fun b ps e => ?_⟩, I.loc, I.cell, ?_, fun y c' e => ?_, fun p hp => ?_, fun b u e => ?_, I.len⟩
  · rw [upd_ne (fun z => absurd (Nat.lt_of_lt_of_le (Heap.lt_size (z ▸ e)) ge) (Nat.lt_irrefl _))]; exact I.base.free b ob e n hx'
  · have q := I.base.tups b xs e; rw [upd_ne (ne_of_none q hn)]; exact q
  · have q := I.base.frzs b ob u e; rw [upd_ne (ne_of_none q hn)]; exact q
  · obtain ⟨m, q⟩ := I.base.tbls b ps e; exact ⟨m, by rw [upd_ne (ne_of_none q hn)]; exact q⟩
  · rw [upd_ne (Ne.symm (I.cne x c hc))]; exact I.free
  · by_cases z : c' = c
    · subst z
      have : y = x := I.ok.inj _ _ _ e hc
      exact .inr ⟨if_pos this, o, upd_same⟩
    · rcases I.freeC y c' e with q | ⟨q, o', q'⟩
      · exact .inl (by rw [upd_ne z]; exact q)
      · refine .inr ⟨?_, o', by rw [upd_ne z]; exact q'⟩
        show (if y = x then false else X.fn y) = false
        split
        · rfl
        · exact q
  · obtain ⟨e, n, ne, nf, d⟩ := I.pin p hp
    refine ⟨e, ?_, ne, nf, d⟩
    rw [upd_ne (fun z => by rw [z, ho] at e; exact d v (Option.some.inj e ▸ hd))]; exact n
  · by_cases z : b = c
    · subst z; rw [upd_same] at e; cases e; exact ⟨ho, o, ho⟩
    · rw [upd_ne z] at e
      exact (I.hok b u e).stay (fun _ _ _ q => q) (fun b' q => by rw [upd_ne (ne_of_none q hn)]; exact q) fun b' xs q => by rw [upd_ne (ne_of_none q hn)]; exact q
theorem Inv.unlock1 (ok : X.Ok) (hc : X.env.cells.lookup x = some c) (h0 : ∀ o u, X.H_0 c ≠ some (.frz o u)) (I : Inv (X.lk1 x) pins σ H s) : Inv X pins σ (hid H c) s := by
  have hf := I.freeC x c hc
  have nt : ∀ b o, H b = some o → (∀ ob u, o ≠ .frz ob u) → b ≠ c := fun b o e d z => by
    subst z
    rcases hf with q | ⟨_, o', q⟩
    · rw [q] at e; cases e
    · rw [q] at e; cases e; exact d _ _ rfl
  refine ⟨ok, I.os, I.bare, ⟨I.base.keep, I.base.slot, fun b ob e n hx' => ?_, I.base.there, fun b xs e => ?_, fun b ob u e => ?_, fun b ps e => ?_⟩, I.loc, I.cell, ?_, fun y c' e => ?_, fun p hp => ?_, fun b u e => ?_, I.len⟩
  · have q := I.base.free b ob e n hx'
    unfold hid; split
    · rfl
    · exact q
  · have q := I.base.tups b xs e
    rw [hid_ne (nt b _ q (fun _ _ z => nomatch z))]; exact q
  · rw [hid_ne (fun z => by subst z; exact h0 _ _ e)]; exact I.base.frzs b ob u e
  · obtain ⟨m, q⟩ := I.base.tbls b ps e
    exact ⟨m, by rw [hid_ne (nt b _ q (fun _ _ z => nomatch z))]; exact q⟩
  · have q := I.free
    unfold hid; split
    · rfl
    · exact q
  · by_cases z : c' = c
    · exact .inl (by subst z; exact hid_same)
    · rcases I.freeC y c' e with q | ⟨q, o', q'⟩
      · exact .inl (by rw [hid_ne z]; exact q)
      · refine .inr ⟨?_, o', by rw [hid_ne z]; exact q'⟩
        have q : (if y = x then false else X.fn y) = false := q
        rw [if_neg (fun w => by subst w; rw [hc] at e; cases e; exact z rfl)] at q
        exact q
  · obtain ⟨e, n, ne, nf, d⟩ := I.pin p hp
    refine ⟨e, ?_, ne, nf, d⟩
    unfold hid; split
    · rfl
    · exact n
  · have z : b ≠ c := fun z => by subst z; rw [hid_same] at e; cases e
    rw [hid_ne z] at e
    exact (I.hok b u e).stay (fun _ _ _ q => q) (fun b' q => by rw [hid_ne (nt b' _ q (fun _ _ z => nomatch z))]; exact q) fun b' xs q => by rw [hid_ne (nt b' _ q (fun _ _ z => nomatch z))]; exact q
/-- the cell of a name is known while an expression runs -/
def tCell1 (c : Addr) (i : Nat) (t : TE) : TE := fun σ H Q => ∃ v, σ[i]? = some (some v) ∧ ∀ o u, H c = none → o.data = .cell (some u) → RelV v u → t σ (upd H c (.frz o (.own c))) fun w H' => Q w (hid H' c)
theorem pe_cell1 {i : Nat} {e : Expr} {t : TE} (hx : X.fn x = true) (hk : X.env.kindOf x = some .cell) (hc : X.env.cells.lookup x = some c) (hN : X.N[i]? = some x) (he : PE (X.lk1 x) e t) : PE X e (tCell1 c i t) := by
  intro pins s σ H Q I ⟨v, e1, h⟩
  obtain ⟨m, hn, hl⟩ := id I.loc
  obtain ⟨u, r, l⟩ := hl i x v hN e1 (.inr (.inl hk))
  have hnone : H c = none := (I.freeC x c hc).resolve_right fun z => by have z := z.1; rw [hx] at z; cases z
  rcases l with ⟨k, _⟩ | ⟨_, c', e2, o, ho, hd⟩
  · rw [hk] at k; cases k
  · rw [hc] at e2; cases e2
    have h0 : ∀ o u, X.H_0 c ≠ some (.frz o u) := fun o u z => by have q := I.base.frzs c o u z; rw [hnone] at q; cases q
    refine thn (he pins s σ _ _ (I.lock1 hx hc ho hd) (h o u hnone hd r)) fun w s' ⟨v', H', I', r', q'⟩ => ?_
    exact ⟨v', hid H' c, I'.unlock1 I.ok hc h0, r', q'⟩
end
end L2

set_option Elab.async false
set_option linter.all false
set_option maxRecDepth 100000
namespace L2
open PySem PySem.Spec PyProof.Rows

/-! ### lambdas are made -/
/-- what a lambda's making leans on: the code object of the def around, and its table -/
structure LamB (mg : Str → Option Value) (base : Heap) (c T : Addr) : Prop where
  hd : PySem.W.CodeHd base c T
  bm : ∃ bm ob, mg "__builtins__" = some (.ref bm) ∧ bm ≠ builtinsNs ∧ base.get? bm = some ob ∧ ob.cls = .type "module" ∧ ob.dict = some builtinsNs ∧ ob.data = .plain
/-- a code object of this name -/
def CodeV (H : Hp) (cv : Value) (qual : Str) : Prop := ∃ c oc vs t, cv = .ref c ∧ H c = some (.frz oc (.own c)) ∧ oc.data = .fields vs ∧ vs[1]? = some (.str qual t)
/-- the table of a def's lambdas -/
def TabOk (H : Hp) (T : Addr) (qual : Str) : Prop := ∃ ps, H T = some (.tbl ps) ∧ TriplesOk ps.toList ∧ ∀ pos cv, codeAmong pos ps.toList = some cv → CodeV H cv qual
def Grow (T : Addr) (H H' : Hp) : Prop := ∀ b o, b ≠ T → H b = some o → H' b = some o
theorem CodeV.grow {H H' : Hp} {T : Addr} {cv : Value} {qual : Str} (x : CodeV H cv qual) (g : Grow T H H') (ht : ∃ ps, H T = some (.tbl ps)) : CodeV H' cv qual := by
  obtain ⟨c, oc, vs, t, e, h, r⟩ := x
  obtain ⟨ps, hp⟩ := ht
  exact ⟨c, oc, vs, t, e, g _ _ (fun z => by rw [z, hp] at h; cases h) h, r⟩
theorem CodeV.same {H H' : Hp} {cv : Value} {qual : Str} (x : CodeV H cv qual) (g : Same H H') : CodeV H' cv qual := by
  obtain ⟨c, oc, vs, t, e, h, r⟩ := x
  exact ⟨c, oc, vs, t, e, g _ _ h, r⟩
theorem TabOk.same {H H' : Hp} {T : Addr} {qual : Str} (x : TabOk H T qual) (g : Same H H') : TabOk H' T qual := by
  obtain ⟨ps, h, t, k⟩ := x
  exact ⟨ps, g _ _ h, t, fun pos cv z => (k pos cv z).same g⟩
/-- the function at f is this lambda; clos its cells, dvs its defaults -/
def LamV (H : Hp) (f : Addr) (qual : Str) (params : Arguments) (body : Expr) (scope : Scope) (clos : List (Str × Addr)) (dvs : List V) : Prop :=
  ∃ o pm cd ct dV doc, H f = some (.frz o (.own f)) ∧ o.data = .func (PySem.W.kdv_fn "<lambda>" qual params (.expr body) scope clos dV doc pm cd ct) ∧ CodeV H cd qual ∧
    ((dvs = [] ∧ dV = .none) ∨ ∃ d, dV = .ref d ∧ dvs ≠ [] ∧ H d = some (.tup dvs))
theorem LamV.same {H H' : Hp} {f : Addr} {qual : Str} {params : Arguments} {body : Expr} {scope : Scope} {clos : List (Str × Addr)} {dvs : List V} (x : LamV H f qual params body scope clos dvs) (g : Same H H') : LamV H' f qual params body scope clos dvs := by
  obtain ⟨o, pm, cd, ct, dV, doc, h, e, k, d⟩ := x
  exact ⟨o, pm, cd, ct, dV, doc, g _ _ h, e, k.same g, d.imp (fun z => z) fun ⟨d, z, nn, y⟩ => ⟨d, z, nn, g _ _ y⟩⟩
theorem LamV.grow {H H' : Hp} {f T : Addr} {qual : Str} {params : Arguments} {body : Expr} {scope : Scope} {clos : List (Str × Addr)} {dvs : List V} (x : LamV H f qual params body scope clos dvs) (g : Grow T H H') (ht : ∃ ps, H T = some (.tbl ps)) : LamV H' f qual params body scope clos dvs := by
  obtain ⟨o, pm, cd, ct, dV, doc, h, e, k, d⟩ := x
  obtain ⟨ps, hp⟩ := id ht
  exact ⟨o, pm, cd, ct, dV, doc, g _ _ (fun z => by rw [z, hp] at h; cases h) h, e, k.grow g ht, d.imp (fun z => z) fun ⟨d, z, nn, y⟩ => ⟨d, z, nn, g _ _ (fun z => by rw [z, hp] at y; cases y) y⟩⟩

theorem triples_snoc {a b : Int} {t u : Tok} {c : Value} (l : List Value) (h : TriplesOk l) : TriplesOk (l ++ [.int a t, .int b u, c]) := by
  fun_induction TriplesOk l with
  | case1 => simp [TriplesOk]
  | case2 a t b u x rest ih => simp only [List.cons_append, TriplesOk]; exact ih h
  | case3 => exact h.elim
theorem among_snoc {a b : Int} {t u : Tok} {c cv : Value} {pos : Pos} (l : List Value) (h : TriplesOk l) (e : codeAmong pos (l ++ [.int a t, .int b u, c]) = some cv) : codeAmong pos l = some cv ∨ cv = c := by
  fun_induction TriplesOk l with
  | case1 =>
    simp only [List.nil_append, codeAmong] at e
    split at e
    · cases e; exact .inr rfl
    · cases e
  | case2 a t b u x rest ih =>
    simp only [List.cons_append, codeAmong] at e ⊢
    split at e
    · rename_i q; rw [if_pos q]; exact .inl e
    · rename_i q; rw [if_neg q]; exact ih h e
  | case3 => exact h.elim

/-- a lambda's cells, and those of the def around -/
structure CloOk (scope : Scope) (clos cells : List (Str × Addr)) : Prop where
  inj : ∀ x y c, clos.lookup x = some c → clos.lookup y = some c → x = y
  has : ∀ x, scope.names.lookup x = some .free → ∃ c, clos.lookup x = some c
  sub : ∀ x c, clos.lookup x = some c → cells.lookup x = some c ∧ (x, .free) ∈ scope.names
theorem lookup_mem {α β : Type} [BEq α] [LawfulBEq α] {a : α} : ∀ {l : List (α × β)} {b : β}, (a, b) ∈ l → ∃ b', l.lookup a = some b'
  | [], _, h => nomatch h
  | (x, y) :: r, b, h => by
    by_cases e : a = x
    · subst e; exact ⟨y, by simp⟩
    · obtain ⟨b', q⟩ := lookup_mem (l := r) (b := b) ((List.mem_cons.mp h).resolve_left fun z => e (by cases z; rfl))
      exact ⟨b', by rw [List.lookup_cons, beq_eq_false_iff_ne.mpr e]; exact q⟩
theorem clo_ok {scope : Scope} {cells : List (Str × Addr)} (hfree : ∀ y ∈ scope.names, y.2 = .free → ∃ c, cells.lookup y.1 = some c) (hinj : ∀ x y c, cells.lookup x = some c → cells.lookup y = some c → x = y) : CloOk scope (cloFrom cells scope.names []) cells := by
  have sub : ∀ x c, (cloFrom cells scope.names []).lookup x = some c → cells.lookup x = some c ∧ (x, .free) ∈ scope.names := fun x c e => by
    rcases cloFrom_mem (PySem.mem_of_lookup e) with z | ⟨h1, h2⟩
    · cases z
    · obtain ⟨c', e'⟩ := hfree _ h1 rfl
      rw [h2, e']; exact ⟨rfl, h1⟩
  exact ⟨fun x y c h1 h2 => hinj x y c (sub x c h1).1 (sub y c h2).1, fun x h => lookup_mem (cloFrom_has (PySem.mem_of_lookup h)), sub⟩

section
variable {X : Cx} {pins : List (Addr × Obj)} {σ : St} {H H' : Hp} {s : Shared} {T c : Addr} {h' : Heap}
theorem hok_grow {P : Program} {w : World} {ps : Array Value} {h : Heap} (x : HOk P w H h) (hT : H T = some (.tbl ps)) (keep : ∀ b o, b ≠ T → h.get? b = some o → h'.get? b = some o) (same : Grow T H H')
    (new : ∀ b u, H' b = some u → (b = T ∨ H b = none) → ObjOk P w H' h' b u) : HOk P w H' h' := fun b u e => by
  by_cases z : b = T
  · exact new b u e (.inl z)
  · cases q : H b with
    | none => exact new b u e (.inr q)
    | some o =>
      have e' := same b o z q
      rw [e] at e'; cases e'
      refine (x b u q).stay (fun b' u' hb' q' => keep b' u' (fun y => ?_) q') (fun b' q' => same _ _ (fun y => by rw [y, hT] at q'; cases q') q') fun b' xs q' => same _ _ (fun y => by rw [y, hT] at q'; cases q') q'
      rcases hb' with y' | y'
      · exact z (y' ▸ y)
      · rw [y, hT] at y'; cases y'
theorem Inv.grow {ps : Array Value} {tk : Nat} (I : Inv X pins σ H s) (hT : H T = some (.tbl ps)) (keep : ∀ b o, b ≠ T → s.heap.get? b = some o → h'.get? b = some o) (same : Grow T H H')
    (free : ∀ b, b < s.heap.objs.size → H b = none → H' b = none) (tb : ∃ more, H' T = some (.tbl (ps ++ more))) (hPt : ∃ o', h'.get? T = some o')
    (new : ∀ b u, H' b = some u → (b = T ∨ H b = none) → ObjOk X.prog X.w H' h' b u) : Inv X pins σ H' { s with heap := h', toks := tk } := by
  have ne : ∀ b o, H b = some o → (∀ q, o ≠ .tbl q) → b ≠ T := fun b o e d z => by rw [z, hT] at e; cases e; exact d _ rfl
  refine I.un ⟨fun b o e n _ _ => keep b o (fun z => by rw [z, hT] at n; cases n) e, fun b o e n _ _ => ⟨o.slots, keep b o (fun z => by rw [z, hT] at n; cases n) e⟩, fun b o e n _ => free b (Heap.lt_size e) n, fun b o e _ => ?_,
    fun b xs e => same _ _ (ne b _ e fun q z => nomatch z) e, fun b o u e => same _ _ (ne b _ e fun q z => nomatch z) e, fun b ps' e => ?_⟩ (hok_grow I.hok hT keep same new)
  · by_cases z : b = T
    · rw [z]; exact hPt
    · exact ⟨o, keep b o z e⟩
  · by_cases z : b = T
    · subst z; rw [hT] at e; cases e; exact tb
    · exact ⟨#[], by rw [same _ _ z e]; simp⟩

/-- a def or a lambda is made: the last part, behind the defaults -/
theorem lam_tail {dV : Value} {dvs : List V} {params : Arguments} {body : Expr} {scope : Scope} {qual : Str} {pos : Pos} {fl : Nat} {Q : Value → Shared → Prop} {E : Value → Shared → Prop} (I : Inv X pins σ H s) (hcd : X.env.code = .ref c) (L : LamB X.mg X.base c T) (TO : TabOk H T qual)
    (hdv : (dvs = [] ∧ dV = .none) ∨ ∃ d, dV = .ref d ∧ dvs ≠ [] ∧ H d = some (.tup dvs)) (hfree : ∀ y ∈ scope.names, y.2 = .free → ∃ c, X.env.cells.lookup y.1 = some c)
    (h : ∀ f H' s', Inv X pins σ H' s' → H f = none → Grow T H H' → TabOk H' T qual → LamV H' f qual params body scope (cloFrom X.env.cells scope.names []) dvs → Q (.ref f) s') :
    wpAny (model X.prog X.w) X.A (makeTail "<lambda>" qual params (.expr body) scope X.env dV .none none pos fl) Q E s := by
  obtain ⟨ps, hT, htr, hco⟩ := id TO
  have hP : s.heap.get? T = some { cls := .none, data := .fields ps } := I.hok T _ hT
  have nb : ∀ b o, X.base.get? b = some o → b ≠ T := fun b o e z => by have q := (I.bs b o e).2; rw [z, hT] at q; cases q
  have hgs : s.heap.Ns mainGlobals X.mg := I.mod.glob.keeps I.bk
  have hgP : mainGlobals ≠ T := by
    obtain ⟨o, es, ep, e, _⟩ := I.mod.glob
    exact nb _ _ e
  obtain ⟨bm, ob, b1, b2, b3, b4, b5, b6⟩ := L.bm
  have hbG : bm ≠ mainGlobals := fun q => by
    obtain ⟨o, es, ep, e, hd, _⟩ := I.mod.glob
    rw [q, e] at b3; cases b3; rw [hd] at b6; cases b6
  have hB : s.heap.BuiltinsAt X.mg T := ⟨bm, ob, b1, b2, hbG, nb _ _ b3, I.bk _ _ b3, b4, b5, b6⟩
  cases hc : codeAmong pos ps.toList with
  | none =>
    refine PySem.W.kdv_makeTail (closure_ok hfree) I.ok.glob hgs hcd (L.hd.keeps I.bk) hP htr hc hgP hB fun c' ctv doc h1 tk hx hge hlt hrec htb => ?_
    obtain ⟨c2, oc, vs, t, e2, hoc, hd, hv⟩ := hrec
    cases e2
    have hfn : s.heap.objs.size ≤ h1.objs.size := Nat.le_trans hge (Nat.le_of_lt hlt)
    have cT : c' ≠ T := fun z => absurd (Nat.lt_of_lt_of_le (Heap.lt_size (z ▸ hP)) hge) (Nat.lt_irrefl _)
    have fT : h1.objs.size ≠ T := fun z => absurd (Nat.lt_of_lt_of_le (Heap.lt_size (z ▸ hP)) hfn) (Nat.lt_irrefl _)
    have fc : h1.objs.size ≠ c' := Nat.ne_of_gt hlt
    have fr : ∀ b o, H b = some o → b ≠ c' ∧ b ≠ h1.objs.size := fun b o e => by
      refine ⟨fun z => ?_, fun z => ?_⟩
      · rw [z, I.hok.fresh hge] at e; cases e
      · rw [z, I.hok.fresh hfn] at e; cases e
    generalize hfo : PySem.W.kdv_obj "<lambda>" qual params (.expr body) scope (cloFrom X.env.cells scope.names []) dV doc ((X.mg "__name__").getD .none) c' ctv = fo
    have fod : fo.data = .func (PySem.W.kdv_fn "<lambda>" qual params (.expr body) scope (cloFrom X.env.cells scope.names []) dV doc ((X.mg "__name__").getD .none) (.ref c') ctv) := by rw [← hfo]
    have hfz : fo.isFreed = false := by rw [← hfo]; rfl
    generalize hps : ps ++ #[rawInt pos.line, rawInt pos.col, .ref c'] = ps' at htb
    have gr : Grow T H (upd (upd (upd H T (.tbl ps')) c' (.frz oc (.own c'))) h1.objs.size (.frz fo (.own h1.objs.size))) := fun b o n e => by
      rw [upd_ne (fr b o e).2, upd_ne (fr b o e).1, upd_ne n]; exact e
    have cd : CodeV (upd (upd (upd H T (.tbl ps')) c' (.frz oc (.own c'))) h1.objs.size (.frz fo (.own h1.objs.size))) (.ref c') qual := ⟨c', oc, vs, t, rfl, by rw [upd_ne (Ne.symm fc), upd_same], hd, hv⟩
    have hTat : (upd (upd (upd H T (.tbl ps')) c' (.frz oc (.own c'))) h1.objs.size (.frz fo (.own h1.objs.size))) T = some (.tbl ps') := by rw [upd_ne (Ne.symm fT), upd_ne (Ne.symm cT), upd_same]
    refine h h1.objs.size (upd (upd (upd H T (.tbl ps')) c' (.frz oc (.own c'))) h1.objs.size (.frz fo (.own h1.objs.size))) _ ?_ (I.hok.fresh hfn) gr ⟨ps', hTat, ?_, fun p cv z => ?_⟩ ⟨fo, _, _, _, _, doc, upd_same, fod, cd, hdv.imp (fun z => z) fun ⟨d, z, nn, y⟩ => ⟨d, z, nn, gr _ _ (fun z => by rw [z, hT] at y; cases y) y⟩⟩
    · refine I.grow hT (fun b o n e => Heap.get?_push_of_some _ (hx b o n e)) gr (fun b lt n => ?_) ⟨#[rawInt pos.line, rawInt pos.col, .ref c'], by rw [hTat, hps]⟩ ⟨_, Heap.get?_push_of_some _ htb⟩ fun b u e hb => ?_
      · have n1 : b ≠ T := fun z => by rw [z, hT] at n; cases n
        rw [upd_ne (Nat.ne_of_lt (Nat.lt_of_lt_of_le lt hfn)), upd_ne (Nat.ne_of_lt (Nat.lt_of_lt_of_le lt hge)), upd_ne n1]; exact n
      · by_cases z1 : b = h1.objs.size
        · subst z1; rw [upd_same] at e; cases e
          exact ⟨Heap.get?_push_size _ hfz, _, Heap.get?_push_size _ hfz⟩
        · rw [upd_ne z1] at e
          by_cases z2 : b = c'
          · subst z2; rw [upd_same] at e; cases e
            exact ⟨Heap.get?_push_of_some _ hoc, _, Heap.get?_push_of_some _ hoc⟩
          · rw [upd_ne z2] at e
            by_cases z3 : b = T
            · subst z3; rw [upd_same] at e; cases e
              exact Heap.get?_push_of_some _ htb
            · rw [upd_ne z3] at e
              rcases hb with y | y
              · exact absurd y z3
              · rw [y] at e; cases e
    · rw [← hps, Array.toList_append]; exact triples_snoc _ htr
    · rw [← hps, Array.toList_append] at z
      rcases among_snoc _ htr z with y | y
      · exact (hco p cv y).grow gr ⟨ps, hT⟩
      · rw [y]; exact cd
  | some cv =>
    obtain ⟨c', oc, vs, t, rfl, hoc, hd, hv⟩ := hco pos cv hc
    refine PySem.W.kdv_makeTailHit (closure_ok hfree) I.ok.glob hgs hcd (L.hd.keeps I.bk) hP htr hc hB fun ctv doc h1 tk hk hsz => ?_
    generalize hfo : ({ cls := .type "function", data := .func (PySem.W.kdv_fn "<lambda>" qual params (.expr body) scope (cloFrom X.env.cells scope.names []) dV doc ((X.mg "__name__").getD .none) (.ref c') ctv) } : Obj) = fo
    have fod : fo.data = .func (PySem.W.kdv_fn "<lambda>" qual params (.expr body) scope (cloFrom X.env.cells scope.names []) dV doc ((X.mg "__name__").getD .none) (.ref c') ctv) := by rw [← hfo]
    have hfz : fo.isFreed = false := by rw [← hfo]; rfl
    have hf : H h1.objs.size = none := I.hok.fresh hsz
    have gr : Grow T H (upd H h1.objs.size (.frz fo (.own h1.objs.size))) := fun b o n e => by rw [upd_ne (ne_of_none e hf)]; exact e
    have gs : Same H (upd H h1.objs.size (.frz fo (.own h1.objs.size))) := fun b o e => by rw [upd_ne (ne_of_none e hf)]; exact e
    refine h h1.objs.size (upd H h1.objs.size (.frz fo (.own h1.objs.size))) _ ?_ hf gr (TO.same gs) ⟨fo, _, _, _, _, doc, upd_same, fod, ⟨c', oc, vs, t, rfl, gs _ _ hoc, hd, hv⟩, hdv.imp (fun z => z) fun ⟨d, z, nn, y⟩ => ⟨d, z, nn, gs _ _ y⟩⟩
    refine I.grow hT (fun b o n e => Heap.get?_push_of_some _ (hk b o e)) gr (fun b lt n => ?_) ⟨#[], by rw [gs _ _ hT]; simp⟩ ⟨_, Heap.get?_push_of_some _ (hk _ _ hP)⟩ fun b u e hb => ?_
    · rw [upd_ne (Nat.ne_of_lt (Nat.lt_of_lt_of_le lt hsz))]; exact n
    · by_cases z1 : b = h1.objs.size
      · subst z1; rw [upd_same] at e; cases e
        exact ⟨Heap.get?_push_size _ hfz, _, Heap.get?_push_size _ hfz⟩
      · rw [upd_ne z1] at e
        rcases hb with y | y
        · subst y
          rw [hT] at e; cases e
          exact Heap.get?_push_of_some _ (hk _ _ hP)
        · rw [y] at e; cases e
/-- a lambda without defaults -/
def tLam (T : Addr) (qual : Str) (params : Arguments) (body : Expr) (scope : Scope) (cells : List (Str × Addr)) : TE := fun _ H Q => TabOk H T qual ∧ ∀ f clos H', H f = none → Grow T H H' → TabOk H' T qual →
  LamV H' f qual params body scope clos [] → CloOk scope clos cells → Q (.ref f) H'
theorem pe_lam {params : Arguments} {body : Expr} {scope : Scope} {pos : Pos} (hcd : X.env.code = .ref c) (L : LamB X.mg X.base c T) (hfree : ∀ y ∈ scope.names, y.2 = .free → ∃ c, X.env.cells.lookup y.1 = some c) (hdef : defaultsOf params X.env = ([], []) := by rfl) :
    PE X (.Lambda params body scope pos) (tLam T (X.env.qual ++ "<lambda>") params body scope X.env.cells) := by
  intro pins s σ H Q I ⟨TO, h⟩
  refine PySem.W.kla_eval hdef ?_
  rw [makeFunction_eq]
  simp only [List.zip_nil_right, List.filterMap_nil, List.isEmpty_nil, if_true, pure_bind]
  exact lam_tail (dvs := []) I hcd L TO (.inl ⟨rfl, rfl⟩) hfree fun f H' s' I' n g t l => ⟨.ref f, H', I', rfl, h f _ H' n g t l (clo_ok hfree I.ok.inj)⟩
end
end L2

set_option Elab.async false
set_option linter.all false
set_option maxRecDepth 100000
namespace L2
open PySem PySem.Spec PyProof.Rows

/-! ### a function that is a value is called -/
/-- called with nothing, the function at f keeps this -/
def Wk (P : Program) (w : World) (K : PySem.W.Frag) (mg : Str → Option Value) (base : Heap) (k : Nat) (f : Addr) (H : Hp) (Q : VK) (E : XK) : Prop :=
  (∃ o fd, H f = some (.frz o (.own f)) ∧ o.data = .func fd) ∧ ∀ (A : Around) (outer : List Env) (s : Shared), Room k A → Env0 P w K mg base A outer s H → codeAny (model P w) A (.call (.ref f) ⟨[], []⟩) (CR (CX1 P w) outer P w H s Q E) s
def tCallV (W : Addr → Hp → VK → XK → Prop) (i : Nat) (E : St → XK) : TE := fun σ H Q => ∃ f, σ[i]? = some (some (.ref f)) ∧ W f H Q (E σ)
theorem pe_callV {X : Cx} {P : Program} {w : World} {K : PySem.W.Frag} {mg : Str → Option Value} {base : Heap} {i k : Nat} {x : Str} {p pos : Pos} {E : St → XK} (hr : Room k X.A) (hx : Passes (CX1 X.prog X.w) X E) (e1 : X.prog = P := by rfl) (e2 : X.w = w := by rfl) (e3 : X.K = K := by rfl) (e4 : X.mg = mg := by rfl) (e5 : X.base = base := by rfl) (hN : X.N[i]? = some x := by rfl) (hv : Vis X.env.scope x := by first | exact Or.inl rfl | exact Or.inr (Or.inl rfl) | exact Or.inr (Or.inr rfl))
    (hd : (x == ("__debug__" : Str)) = false := by decide) (hcd : (x == ("__classdict__" : Str)) = false := by decide) : PE X (.Call (.Name x p) [] [] pos) (tCallV (Wk P w K mg base k) i E) := by
  subst e1; subst e2; subst e3; subst e4; subst e5
  intro pins s σ H Q I ⟨f, e, ⟨o, fd, hf, hfd⟩, W⟩
  refine wpAny_Call_Name_kw (thn (pe_var (pos := p) hN hv hd hcd pins s σ H (fun v H' => v = .ref f ∧ H' = H) I ⟨_, e, rfl, rfl⟩) fun u s1 ⟨v, H1, I1, r, ev, eh⟩ => ?_)
  subst ev; subst eh
  obtain rfl : u = Value.ref f := r
  obtain ⟨ho, _⟩ := I1.hok f _ hf
  refine PySem.W.callWith_F0 (first := []) (by obtain ⟨oc, od, d, sl⟩ := o; exact ⟨oc, od, fd, sl, by rw [ho]; simp only at hfd; rw [hfd]⟩) ?_
  refine wpAny_call (codeAny_mono (W X.A X.stack s1 hr I1.env0) fun r s' hq => ?_)
  cases r with
  | error e => exact hx pins σ H1 s1 e s' I1 hq
  | ok fl =>
    cases fl with
    | ret u => exact I1.after hq
    | next => exact False.elim hq
    | brk => exact False.elim hq
    | cont => exact False.elim hq

theorem Wk.mono {P : Program} {w : World} {K : PySem.W.Frag} {mg : Str → Option Value} {base : Heap} {k j : Nat} {f : Addr} {H : Hp} {Q Q' : VK} {E E' : XK} (W : Wk P w K mg base k f H Q E) (hk : k ≤ j) (hQ : ∀ v H', Q v H' → Q' v H') (hE : ∀ c d H', E c d H' → E' c d H') : Wk P w K mg base j f H Q' E' := by
  refine ⟨W.1, fun A outer s hr e0 => codeAny_mono (W.2 A outer s (hr.mono hk) e0) fun r s' h => ?_⟩
  cases r with
  | error e =>
    obtain ⟨a, C, a0, cx, B, H', z1, z2, z3, z4, z5, z6, z7, z8, z9, z⟩ := h
    exact ⟨a, C, a0, cx, B, H', z1, z2, z3, z4, z5, z6, z7, z8, z9, hE _ _ _ z⟩
  | ok fl =>
    cases fl with
    | ret u => obtain ⟨v, H', z1, z2, z3, z4, z5, z⟩ := h; exact ⟨v, H', z1, z2, z3, z4, z5, hQ _ _ z⟩
    | next => exact h
    | brk => exact h
    | cont => exact h

/-! ### a lambda runs -/
noncomputable def cxLam (CX : CXT) (P : Program) (w : World) (K : PySem.W.Frag) (mg : Str → Option Value) (base : Heap) (N : List Str) (qual : Str) (scope : Scope) (clos : List (Str × Addr)) (f : Addr) (cd : Value) (A : Around) (outer : List Env) (s : Shared) (H : Hp) (E : XK) : Cx where
  prog := P
  w := w
  K := K
  mg := mg
  base := base
  A := A.deeper (PySem.W.envX qual scope s.heap.objs.size f cd clos)
  N := N
  s_0 := s
  H_0 := H
  env := PySem.W.envX qual scope s.heap.objs.size f cd clos
  outer := outer
  stack := PySem.W.envX qual scope s.heap.objs.size f cd clos :: outer
  ex := []
  calm := A.handled.isNone
  fn := fun _ => false
  pn := hpins A s.heap H
  xe := fun e s' => wpAny (model P w) (A.deeper (PySem.W.envX qual scope s.heap.objs.size f cd clos)) (leaving (PySem.W.envX qual scope s.heap.objs.size f cd clos) e) (fun _ s'' => CX outer H s E e s'') (fun e' s'' => CX outer H s E e' s'') s'
/-- a lambda's names: those of its cells -/
structure LamSc (H : Hp) (scope : Scope) (clos : List (Str × Addr)) (ps N : List Str) (σ0 : St) : Prop where
  kind : scope.kind = .function
  co : scope.isCoroutine = false
  gen : scope.isGenerator = false
  nocell : ∀ y ∈ scope.names, y.2 ≠ .cell
  par : ∀ x ∈ ps, scope.names.lookup x = some .local
  len : σ0.length = N.length
  inj : ∀ x y c, clos.lookup x = some c → clos.lookup y = some c → x = y
  has : ∀ x, scope.names.lookup x = some .free → ∃ c, clos.lookup x = some c
  cells : ∀ x c, clos.lookup x = some c → ∃ v, CellV H c v
  vals : ∀ (i : Nat) x v, N[i]? = some x → σ0[i]? = some (some v) → scope.names.lookup x = some .free ∧ ∃ c, clos.lookup x = some c ∧ CellV H c v
theorem CellV.same {H H' : Hp} {c : Addr} {v : V} (x : CellV H c v) (s : Same H H') : CellV H' c v := let ⟨o, u, e, r⟩ := x; ⟨o, u, s _ _ e, r⟩
theorem CloOk.sc {H : Hp} {scope : Scope} {clos cells : List (Str × Addr)} {ps N : List Str} {σ0 : St} (C : CloOk scope clos cells) (frees : List Str) (hfr : (scope.names.all fun y => !(y.2 == .free) || frees.contains y.1) = true)
    (hv : ∀ x ∈ frees, ∃ c v, cells.lookup x = some c ∧ CellV H c v) (vals : ∀ (i : Nat) x v, N[i]? = some x → σ0[i]? = some (some v) → scope.names.lookup x = some .free ∧ ∃ c, cells.lookup x = some c ∧ CellV H c v)
    (len : σ0.length = N.length) (hnc : (scope.names.all fun y => !(y.2 == .cell)) = true) (par : ∀ x ∈ ps, scope.names.lookup x = some .local) (kind : scope.kind = .function) (co : scope.isCoroutine = false) (gen : scope.isGenerator = false) : LamSc H scope clos ps N σ0 := by
  refine ⟨kind, co, gen, fun y hy z => ?_, par, len, C.inj, C.has, fun x c e => ?_, fun i x v e1 e2 => ?_⟩
  · have q := List.all_eq_true.mp hnc y hy
    rw [z] at q; exact absurd q (by decide)
  · obtain ⟨h1, h2⟩ := C.sub x c e
    have q := List.all_eq_true.mp hfr _ h2
    have q' : x ∈ frees := by simpa using q
    obtain ⟨c', v, e', cv⟩ := hv x q'
    rw [h1] at e'; cases e'
    exact ⟨v, cv⟩
  · obtain ⟨k, c, e, cv⟩ := vals i x v e1 e2
    refine ⟨k, ?_⟩
    obtain ⟨c', e'⟩ := C.has x k
    have h1 := (C.sub x c' e').1
    rw [e] at h1; cases h1
    exact ⟨_, e', cv⟩
theorem CellV.at {P : Program} {w : World} {H : Hp} {h : Heap} {c : Addr} {v : V} (x : CellV H c v) (ok : HOk P w H h) : ∃ u, RelV v u ∧ h.IsCell c (some u) := by
  obtain ⟨o, u, e, d, r⟩ := x
  obtain ⟨g, _⟩ := ok c _ e
  exact ⟨u, r, o, g, d⟩
section
variable {P : Program} {w : World} {K : PySem.W.Frag} {mg : Str → Option Value} {base : Heap} {A : Around} {outer : List Env} {s : Shared} {H : Hp} {E : XK} {N ps : List Str} {qual : Str} {scope : Scope} {clos : List (Str × Addr)} {f : Addr} {cd : Value} {σ0 : St}
theorem inv_lam {CX : CXT} {h1 : Heap} {tk : Nat} {m : Str → Option Value} (S : LamSc H scope clos ps N σ0) (e0 : Env0 P w K mg base A outer s H) (hns : h1.Ns s.heap.objs.size m) (hk : ∀ b o, s.heap.get? b = some o → h1.get? b = some o) :
    Inv (cxLam CX P w K mg base N qual scope clos f cd A outer s H E) [] σ0 H { s with heap := h1, toks := tk } := by
  have noA : ∀ b : Addr, b ∉ (cxLam CX P w K mg base N qual scope clos f cd A outer s H E).ex := fun b z => absurd (show b ∈ ([] : List Addr) from z) (by simp)
  have hok1 : HOk P w H h1 := e0.hok.kept hk
  refine ⟨⟨e0.mod, S.kind, rfl, rfl, Nat.le_refl _, S.inj, fun y hy => ?_, fun y c z => absurd z Bool.false_ne_true, fun z => (by have z : A.handled.isNone = true := z; show A.handled = none; simpa using z), hpins_ok e0.hq, Around.frames_deeper e0.frames, .inr ⟨rfl, rfl⟩, fun b z => absurd z (noA b), e0.bs, e0.bsz, fun b _ _ => noA b, fun b z => absurd z (noA b), e0.funs, e0.frf⟩,
    rfl, e0.bare, Un.kept hk, ⟨_, hns, fun i y v h1 h2 h3 => ?_⟩, fun y c h => ?_, e0.hok.fresh (Nat.le_refl _), fun y c h => ?_, fun p hp => ?pp, hok1, S.len⟩
  case pp => exact pin_start e0 hk hp
  · have hy : scope.names.lookup y = some .cell ∨ scope.names.lookup y = some .free := hy
    rcases hy with hy | hy
    · exact absurd rfl (S.nocell _ (PySem.mem_of_lookup hy))
    · exact S.has y hy
  · obtain ⟨k, c, e, cv⟩ := S.vals i y v h1 h2
    obtain ⟨u, r, ic⟩ := cv.at hok1
    exact ⟨u, r, .inr ⟨.inr k, c, e, ic⟩⟩
  · obtain ⟨v, cv⟩ := S.cells y c h
    obtain ⟨u, r, ic⟩ := cv.at hok1
    exact ⟨_, ic⟩
  · obtain ⟨v, o, u, e, d, r⟩ := S.cells y c h
    exact .inr ⟨rfl, o, e⟩
theorem xe_lam {e : Value} {s' : Shared} (h : XE (cxLam (CX1 P w) P w K mg base N qual scope clos f cd A outer s H E) (fun _ => E) e s') : (cxLam (CX1 P w) P w K mg base N qual scope clos f cd A outer s H E).xe e s' := by
  obtain ⟨a, C, a0, cx, B, σ, H1, rfl, I, up, cv, chn, q⟩ := h
  show wpAny _ _ (leaving _ (.ref a)) _ _ s'
  unfold leaving
  refine wpAny_bind (up_note (X := cxLam (CX1 P w) P w K mg base N qual scope clos f cd A outer s H E) rfl rfl I.ok.frames up fun h1 l1 u1 => lain_land (s := { s' with heap := h1 }) l1 fun h2 l2 u2 => ?_)
  have I2 := inv_air (s := s') (h' := h2) I up.stay l2.stay (u1.trans u2) cv
  refine ⟨a, C, a0, cx, B, H1, rfl, I2.os, I2.bare, I2.base, I2.hok, ⟨l2.stay, l2.off, ?_, .inr l2.ex⟩, cv.trk, fun b o z hb => cv.old b o z hb (fun z => nomatch z), chn.keeps up.stay l2.stay, q⟩
  obtain ⟨_, _, k⟩ := l2.fun_
  exact k
/-- how the defaults bind -/
def DBinds (qual : Str) (params : Arguments) (body : Expr) (scope : Scope) (clos : List (Str × Addr)) (ps : List Str) : List V → Prop
  | [] => ps = [] ∧ ∀ doc pm cd ct, bindArgs (PySem.W.kdv_fn "<lambda>" qual params (.expr body) scope clos .none doc pm cd ct) ⟨[], []⟩ = pure []
  | [_] => ∃ x, ps = [x] ∧ ∀ d doc pm cd ct u, ∃ k, bindArgs (PySem.W.kdv_fn "<lambda>" qual params (.expr body) scope clos (.ref d) doc pm cd ct) ⟨[], []⟩ = seqItems? (.ref d) >>= k ∧ k (some #[u]) = pure [(x, u)]
  | _ => False
theorem lam_wk {k : Nat} {Q : VK} {params : Arguments} {body : Expr} {dvs : List V} (L : LamV H f qual params body scope clos dvs) (S : LamSc H scope clos ps N σ0) (hb : DBinds qual params body scope clos ps dvs)
    (hbody : ∀ (cd : Value) (A : Around) (outer : List Env) (s : Shared), Room k (A.deeper (PySem.W.envX qual scope s.heap.objs.size f cd clos)) →
      ∃ t, PE ((cxLam (CX1 P w) P w K mg base N qual scope clos f cd A outer s H E).exc fun _ => E) body t ∧ t σ0 H Q) : Wk P w K mg base (k + 1) f H Q E := by
  obtain ⟨o, pm, cd, ct, dV, doc, hf, hd, ⟨c, oc, vs, t, rfl, hc, hcd, hv⟩, hdv⟩ := L
  refine ⟨⟨o, _, hf, hd⟩, fun A outer s hr e0 => ?_⟩
  obtain ⟨ho, _⟩ := e0.hok f _ hf
  obtain ⟨hoc, _⟩ := e0.hok c _ hc
  have lim : s.heap.NoLimit := e0.mod.nolimit.keeps fun b o e => (e0.bs b o e).1
  have bt : ∃ us : List Value, us.length = ps.length ∧ BindsTo s (PySem.W.kdv_fn "<lambda>" qual params (.expr body) scope clos dV doc pm (.ref c) ct) ⟨[], []⟩ (ps.zip us) := by
    match dvs, hb, hdv with
    | [], ⟨e, h⟩, hdv =>
      subst e
      rcases hdv with ⟨_, rfl⟩ | ⟨d, rfl, z⟩
      · exact ⟨[], rfl, .of_eq (h doc pm (.ref c) ct)⟩
      · exact absurd rfl z.1
    | [v], ⟨x, e, h⟩, hdv =>
      subst e
      rcases hdv with ⟨z, _⟩ | ⟨d, rfl, z⟩
      · cases z
      · obtain ⟨_, its, r, od, g, _, n, gd⟩ := e0.hok d _ z.2
        obtain ⟨u, rfl, _⟩ : ∃ u, its = [u] ∧ RelV v u := by cases r with | cons a b => cases b; exact ⟨_, rfl, a⟩
        obtain ⟨kk, h1, h2⟩ := h d doc pm (.ref c) ct u
        exact ⟨[u], rfl, .of_defaults rfl g gd h1 h2⟩
    | _ :: _ :: _, h, _ => exact h.elim
  obtain ⟨us, hl, bt⟩ := bt
  refine PySem.W.kla_callFunE hr.depth ho hd S.co S.gen rfl ⟨c, oc, vs, t, rfl, hoc, hcd, hv⟩ (bt _ _ _ _ ?_)
  refine wpAny_newFunctionEnv S.nocell (fun y hy => S.par y.1 (List.of_mem_zip hy).1) (fun h1 hns hsb => ⟨lim.fresh _ hsb, ?_⟩) S.kind
  have hk : ∀ b o, s.heap.get? b = some o → h1.get? b = some o := fun b o e => hsb.extBut b o (Nat.ne_of_lt (Heap.lt_size e)) (Heap.get?_push_of_some _ e)
  show codeAny _ _ (.expr body (PySem.W.envX qual scope s.heap.objs.size f (.ref c) clos)) _ _
  obtain ⟨t, ht, hq⟩ := hbody (.ref c) A outer s (hr.deeper _)
  have I : Inv (cxLam (CX1 P w) P w K mg base N qual scope clos f (.ref c) A outer s H E) [] σ0 H { s with heap := h1, toks := s.toks + (ps.zip us).length } := inv_lam S e0 hns hk
  refine PySem.W.kla_codeExpr (wpAny_mono (ht [] _ σ0 H Q (I.wish _) hq) (fun v s' hs => ?_) fun e s' hs => xe_lam hs)
  obtain ⟨v', H', J, rv, q⟩ := hs
  exact ⟨v', H', J.os, J.bare, J.base, J.hok, rv, q⟩
end
theorem lam_free {scope sc : Scope} {n : Nat} (h : (scope.names.all fun y => !(y.2 == .free) || (sc.names.lookup y.1 == some .cell)) = true) : ∀ y ∈ scope.names, y.2 = .free → ∃ c, (cellsFrom n sc.names []).lookup y.1 = some c := fun y hy e => by
  have q := List.all_eq_true.mp h y hy
  rw [e] at q
  exact cell_has (by simpa using q)
section
variable {P : Program} {w : World} {K : PySem.W.Frag} {mg : Str → Option Value} {base : Heap}
/-- as Fun.ok, the code object known -/
theorem Fun.okC {x qual : Str} {st : Stmt} {f : Addr} {fd : FuncData} {N ps : List Str} {k : Nat} {sp : Sp} (F : Fun K x qual st f fd) (S : FnScope N ps (defScope st)) (len : ∀ vs H Q E, sp vs H Q E → vs.length = ps.length)
    (hbody : ∀ (A : Around) (outer : List Env) (s : Shared) (H : Hp) (vs : List V) (Q : VK) (E : XK), Room k (A.deeper (envOfC qual (defScope st) s.heap.objs.size f fd.code)) → sp vs H Q E →
      ∃ t, PSs (cxOf CX0 P w K mg base N qual (defScope st) f fd.code A outer s H E).nox (defBody st) t ∧ t { nx := fun _ H' => Q .non H', rt := Q } (start N vs) H) : FnOk P w K mg base CX0 (k + 1) f fd ps sp := by
  obtain ⟨oc, od, kV, doc, pm, an, cdv, ct, osl, rfl, lk, hcd⟩ := F.ex
  refine fn_of lk hcd S len fun A outer s H vs Q E hr hsp => ?_
  obtain ⟨t, h, q⟩ := hbody A outer s H vs Q E hr hsp
  exact ⟨t, h.nox, q⟩
end
/-- a table, by lookups -/
theorem tabIn_of {K : PySem.W.Frag} {x : Str} {f c P : Addr} {oc oc2 : Value} {od od2 : Option Addr} {fd : FuncData} {sl sl2 : Array (Option Value)} {vs : Array Value} (h1 : PySem.W.nsIn K mainGlobals x = some (some (.ref f))) (h2 : K.lookup f = some ⟨oc, od, .func fd, sl⟩) (h3 : fd.code = .ref c)
    (h4 : K.lookup c = some ⟨oc2, od2, .fields vs, sl2⟩) (h5 : vs[11]? = some (.ref P)) : PySem.W.tabIn K x = some (c, P) := by
  unfold PySem.W.tabIn
  rw [h1]; simp only [h2, h3, h4, h5]
def TupIn (K : PySem.W.Frag) (p : Addr) (xs : List V) : Prop := ∃ (o : Obj) (its : Array Value) (n : Nat), K.lookup p = some o ∧ o.cls = .type "tuple" ∧ o.data = .seq its n ∧ its.size ≤ sizeLine ∧ Vals xs its.toList
theorem TupIn.sq {K : PySem.W.Frag} {p : Addr} {xs : List V} (h : TupIn K p xs) {H : Hp} : SqT K H p xs := .inr h
end L2

set_option Elab.async false
set_option linter.all false
set_option maxRecDepth 100000
namespace L2
open PySem PySem.Spec PyProof.Rows

/-! ### the head, where defs of the text make lambdas: their tables are tracked -/
theorem cr_isE {X : Cx} {pins ex : List (Addr × Obj)} {a C : Addr} {o : Obj} (hp : (a, o) ∈ ex) (hc : o.cls = .ref C) (c : VCw X.K C) : CallR ((X.pinsTo pins).hand a ex) (.builtin "isinstance") (rIsX X.K a C) :=
  cr_isX (Y := (X.pinsTo pins).hand a ex) (List.mem_append_right _ hp) hc c
abbrev Tabs := List (Addr × Addr)
def TabsH (tabs : Tabs) (H : Hp) : Prop := ∀ q ∈ tabs, H q.2 = some (.tbl #[])
def OnlyT (tabs : Tabs) (H : Hp) : Prop := ∀ b, H b = none ∨ (∃ o xs, H b = some (.frz o (.lst xs))) ∨ (b ∈ tabs.map (·.2) ∧ H b = some (.tbl #[]))
def BMain (mg : Str → Option Value) (h : Heap) : Prop := ∃ bm ob, mg "__builtins__" = some (.ref bm) ∧ bm ≠ builtinsNs ∧ h.get? bm = some ob ∧ ob.cls = .type "module" ∧ ob.dict = some builtinsNs ∧ ob.data = .plain
theorem law_callT {P : Program} {w : World} {K : PySem.W.Frag} {mg mb : Str → Option Value} {CX : CXT} {k : Nat} {fa a : Addr} {fd : FuncData} {x : Str} {sp : Sp} {s₁ : Shared} {vs : List Value} {ns : List Int} {tabs : Tabs}
    (KX : K.In s₁.heap) (hns : s₁.heap.Ns mainGlobals mg) (hb : s₁.heap.Ns builtinsNs mb) (hbb : ∀ x : Str, x ≠ "__name__" → mb x = bootBuiltins x) (hlim : s₁.heap.NoLimit) (hg : s₁.gens = #[])
    (hT : PySem.W.TabsAt tabs s₁.heap) (hKn : PySem.W.noTabs K = true) (hbm : BMain mg s₁.heap)
    (ha : s₁.heap.get? a = some { cls := .type "list", data := .seq vs.toArray }) (hi : IntsAre vs ns) (hl : ns.length ≤ sizeLine) (hr : Room k callerA)
    (F : ∀ base : Heap, K.In base → base.Ns mainGlobals mg → (∀ q ∈ tabs, LamB mg base q.1 q.2) → FnOk P w K mg base CX k fa fd [x] sp) (hbind : ∀ (s : Shared) (u : Value), BindsTo s fd ⟨[u], []⟩ [(x, u)])
    (hsp : ∀ H : Hp, OnlyT tabs H → TabsH tabs H → SqL K H a (ns.map V.int) → sp [.ref a] H (fun v _ => v = .bl true) fun _ _ _ => False)
    (hCX : ∀ H e s', CX [] H s₁ (fun _ _ _ => False) e s' → False) :
    codeAny (model P w) callerA (.call (.ref fa) ⟨[.ref a], []⟩) (fun r s' => r = .ok (.ret (.bool true)) ∧ OldK s₁.heap s'.heap ∧ s'.os = s₁.os ∧ AllBare s'.gens) s₁ := by
  have rv := vals_ints hi
  have lenV := hi.length
  have core : ∀ H : Hp, OnlyT tabs H → TabsH tabs H → SqL K H a (ns.map V.int) → HOk P w H s₁.heap → (∀ b, H b ≠ none → b = a ∨ b ∈ tabs.map (·.2)) → (H a ≠ none → K.lookup a = none) →
      codeAny (model P w) callerA (.call (.ref fa) ⟨[.ref a], []⟩) (fun r s' => r = .ok (.ret (.bool true)) ∧ OldK s₁.heap s'.heap ∧ s'.os = s₁.os ∧ AllBare s'.gens) s₁ := by
    intro H hO hTH hS hok hA hK
    have base_of : ∀ {b : Addr} {o : Obj}, s₁.heap.get? b = some o → H b = none → (hidT s₁.heap H).get? b = some o := fun e n => hidT_get e n
    -- what is neither the script nor a table is free
    have fre : ∀ {b : Addr} {o : Obj}, s₁.heap.get? b = some o → b ≠ a → o ≠ PySem.W.tabObj #[] → H b = none := fun {b o} e n nt => by
      cases q : H b with
      | none => rfl
      | some u =>
        rcases hA b (by rw [q]; simp) with z | z
        · exact absurd z n
        · obtain ⟨r, hr, e2⟩ := List.mem_map.mp z
          have e3 := (hT r hr).2
          rw [e2, e] at e3
          exact absurd (Option.some.inj e3) nt
    have noA : ∀ {b : Addr} {o : Obj} {es : Array DictEntry} {ep : Nat}, s₁.heap.get? b = some o → o.data = .dict es ep → H b = none := fun {b o es ep} e d => by
      refine fre e (fun z => ?_) fun z => by rw [z] at d; cases d
      subst z
      rw [ha] at e; cases e
      have d' : Data.seq vs.toArray _ = Data.dict es ep := d
      cases d'
    have nsK : ∀ {b : Addr} {m : Str → Option Value}, s₁.heap.Ns b m → (hidT s₁.heap H).Ns b m := fun {b m} ⟨o, es, ep, e, d, r⟩ => ⟨o, es, ep, base_of e (noA e d), d, r⟩
    have hKb : K.In (hidT s₁.heap H) := fun b o e => base_of (KX b o e) (by
      cases q : H b with
      | none => rfl
      | some u =>
        rcases hA b (by rw [q]; simp) with e' | e'
        · subst e'
          rw [hK (by rw [q]; simp)] at e; cases e
        · obtain ⟨r, hr, e2⟩ := List.mem_map.mp e'
          have e3 := (hT r hr).2
          rw [e2, KX b o e] at e3
          have e4 := Option.some.inj e3
          have h2 := List.all_eq_true.mp hKn (b, o) (PySem.W.mem_of_lookupK e)
          subst e4
          exact absurd (show false = true from h2) Bool.false_ne_true)
    have hM : Mod K mg (hidT s₁.heap H) := ⟨hKb, nsK hns, ⟨mb, nsK hb, hbb⟩, let ⟨mc, h1, h2⟩ := hlim; ⟨mc, nsK h1, h2⟩⟩
    have e0 : Env0 P w K mg (hidT s₁.heap H) callerA [] s₁ H := ⟨rfl, hM, fun b o e => of_hidT e, Nat.le_of_eq (hidT_size _ _), trivial, fun b hb => absurd (show b ∈ ([] : List Addr) from hb) (by simp), hok, .of_eq hg, [], ⟨List.nodup_nil, fun i x z => by simp at z⟩, rfl, fun x m => nomatch m⟩
    have hLB : ∀ q ∈ tabs, LamB mg (hidT s₁.heap H) q.1 q.2 := fun q hq => by
      refine ⟨?_, ?_⟩
      · obtain ⟨o, ws, file, tf, flags, tg, inF, text, tt, e1, r1, r2⟩ := (hT q hq).1
        refine ⟨o, ws, file, tf, flags, tg, inF, text, tt, base_of e1 (fre e1 (fun z => ?_) fun z => by rw [z] at r1; cases r1), r1, r2⟩
        rw [z, ha] at e1; cases e1; exact absurd (show Value.type "list" = Value.type "code" from r1) (by decide)
      · obtain ⟨bm, ob, b1, b2, b3, b4, b5, b6⟩ := hbm
        refine ⟨bm, ob, b1, b2, base_of b3 (fre b3 (fun z => ?_) fun z => by rw [z] at b4; cases b4), b4, b5, b6⟩
        rw [z, ha] at b3; cases b3; exact absurd (show Value.type "list" = Value.type "module" from b4) (by decide)
    refine codeAny_mono ((F _ hKb (nsK hns) hLB).run callerA [] s₁ H ⟨[.ref a], []⟩ [.ref a] [.ref a] _ _ hr e0 (hbind s₁ (.ref a)) (.cons rfl .nil) (hsp H hO hTH hS)) fun r s' h => ?_
    cases r with
    | error e => exact (hCX H e s' h).elim
    | ok fl =>
      cases fl with
      | next => exact False.elim h
      | brk => exact False.elim h
      | cont => exact False.elim h
      | ret u =>
        obtain ⟨v, H', os, bare, un, hok', r', q⟩ := h
        have q' : v = .bl true := q
        subst q'
        obtain rfl : u = Value.bool true := r'
        refine ⟨rfl, ⟨fun b o e => ?_, fun b o e => un.there b o e (by simp)⟩, os, bare⟩
        cases q : H b with
        | none => exact .inl (un.keep b o e q (by intro z; exact absurd (show b ∈ ([] : List Addr) from z) (by simp)) (by simp))
        | some u =>
          rcases hO b with z | ⟨ob, xs, z⟩ | ⟨m, z⟩
          · rw [q] at z; cases z
          · have z2 := un.frzs b ob _ z
            obtain ⟨e1, _⟩ := hok b _ z
            obtain ⟨e2, _⟩ := hok' b _ z2
            rw [e] at e1; cases e1
            exact .inl e2
          · obtain ⟨more, z2⟩ := un.tbls b _ z
            have e1 : s₁.heap.get? b = some { cls := .none, data := .fields #[] } := hok b _ z
            have e2 : s'.heap.get? b = some { cls := .none, data := .fields (#[] ++ more) } := hok' b _ z2
            rw [e] at e1; cases e1
            obtain ⟨r, hr, rfl⟩ := List.mem_map.mp m
            exact .inr (.inl ⟨((hT r hr).1.tab (hT r hr).2).isCodeTable, rfl, #[], more, rfl, e2⟩)
  have naT : a ∉ tabs.map (·.2) := fun z => by
    obtain ⟨r, hr, e2⟩ := List.mem_map.mp z
    have e3 := (hT r hr).2
    rw [e2, ha] at e3; cases e3
  cases hk : K.lookup a with
  | some o =>
    have e := KX a o hk
    rw [ha] at e
    cases e
    refine core (fun b => open Classical in if b ∈ tabs.map (·.2) then some (.tbl #[]) else none) (fun b => ?_) (fun q hq => if_pos (List.mem_map_of_mem hq)) (.inr ⟨_, vs.toArray, _, hk, rfl, rfl, rfl, by rw [List.size_toArray, lenV]; exact hl, by simpa using rv⟩) (fun b u z => ?_) (fun b z => ?_) fun z => absurd (if_neg naT) z
    · by_cases hb : b ∈ tabs.map (·.2)
      · exact .inr (.inr ⟨hb, if_pos hb⟩)
      · exact .inl (if_neg hb)
    · by_cases hb : b ∈ tabs.map (·.2)
      · have z' := (if_pos hb).symm.trans z
        cases z'
        obtain ⟨r, hr, rfl⟩ := List.mem_map.mp hb
        exact (hT r hr).2
      · have z' := (if_neg hb).symm.trans z
        cases z'
    · by_cases hb : b ∈ tabs.map (·.2)
      · exact .inr hb
      · exact absurd (if_neg hb) z
  | none =>
    refine core (fun b => open Classical in if b = a then some (.frz { cls := .type "list", data := .seq vs.toArray } (.lst (ns.map V.int))) else if b ∈ tabs.map (·.2) then some (.tbl #[]) else none) (fun b => ?_) (fun q hq => ?_) (.inl (.inr ⟨{ cls := .type "list", data := .seq vs.toArray }, if_pos rfl⟩)) (fun b u z => ?_) (fun b z => ?_) fun _ => hk
    · by_cases hb : b = a
      · exact .inr (.inl ⟨_, _, if_pos hb⟩)
      · by_cases ht : b ∈ tabs.map (·.2)
        · exact .inr (.inr ⟨ht, (if_neg hb).trans (if_pos ht)⟩)
        · exact .inl ((if_neg hb).trans (if_neg ht))
    · have hm : q.2 ∈ tabs.map (·.2) := List.mem_map_of_mem hq
      exact (if_neg (show ¬ q.2 = a from fun z => naT (z ▸ hm))).trans (if_pos hm)
    · by_cases hb : b = a
      · have z' := (if_pos hb).symm.trans z
        cases z'
        subst hb
        exact ⟨ha, by rw [List.length_map]; exact hl, vs, _, rv, ha⟩
      · by_cases ht : b ∈ tabs.map (·.2)
        · have z' := ((if_neg hb).trans (if_pos ht)).symm.trans z
          cases z'
          obtain ⟨r, hr, rfl⟩ := List.mem_map.mp ht
          exact (hT r hr).2
        · have z' := ((if_neg hb).trans (if_neg ht)).symm.trans z
          cases z'
    · by_cases hb : b = a
      · exact .inl hb
      · by_cases ht : b ∈ tabs.map (·.2)
        · exact .inr ht
        · exact absurd ((if_neg hb).trans (if_neg ht)) z
/-- as walk_ofK, with tables -/
theorem walk_ofT {l : PySem.W.OpenLaw} {n k : Nat} {q : Program} {loose : List Str} {XP : (Str → Option Value) → Heap → Prop} {YP : World → Heap → Prop} {d : DefRec} {K : Params → PySem.W.Frag} {CX : CXT} {sp : PySem.W.Frag → Tabs → Sp} {x : Str}
    (hn : l.most = some n) (hn2 : n ≤ sizeLine) (hdf : d.params.defaults = []) (hr : Room k callerA)
    (hY : ∀ (w : World) (h : Heap), YP w h → (K w.params).In h)
    (F : ∀ (w : World) (mg : Str → Option Value) (fa : Addr) (h : Heap), (K w.params).In h → h.Ns mainGlobals mg → YP w h → mg d.name = some (.ref fa) →
      ∃ (fd : FuncData) (tabs : Tabs), (∀ (s : Shared) (u : Value), BindsTo s fd ⟨[u], []⟩ [(x, u)]) ∧ PySem.W.TabsAt tabs h ∧ PySem.W.noTabs (K w.params) = true ∧
        ∀ base : Heap, (K w.params).In base → base.Ns mainGlobals mg → (∀ q ∈ tabs, LamB mg base q.1 q.2) → FnOk l.prog w (K w.params) mg base CX k fa fd [x] (sp (K w.params) tabs))
    (hsp : ∀ (K : PySem.W.Frag) (tabs : Tabs) (H : Hp) (a : Addr) (ns : List Int), ns.length ≤ n → OnlyT tabs H → TabsH tabs H → SqL K H a (ns.map V.int) → sp K tabs [.ref a] H (fun v _ => v = .bl true) fun _ _ _ => False)
    (hCX : ∀ (H : Hp) (s : Shared) (e : Value) (s' : Shared), CX [] H s (fun _ _ _ => False) e s' → False) :
    PySem.W.WalkO q loose XP YP l.row.toRowW d [] (fun f vs => PySem.call f vs) := by
  refine Att.attach_call hn hdf fun w s₀ s₁ mg mb fa o pm cd doc a vs ns G Y ho hd hcd hmg hobj hints hlen hg => ?_
  have KX := hY w _ Y
  obtain ⟨fd, tabs, hb, hT, hnt, hF⟩ := F w mg fa _ KX G.T.g Y hmg
  exact law_callT KX G.T.g G.T.b G.T.builtins G.T.nolimit hg hT hnt G.T.bmain hobj hints (Nat.le_trans hlen hn2) hr hF hb (fun H hO hTH hS => hsp _ tabs H a ns hlen hO hTH hS) fun H e s' => hCX H s₁ e s'
end L2

set_option Elab.async false
set_option linter.all false
set_option maxRecDepth 100000
namespace L2
open PySem PySem.Spec PyProof.Rows PySem.W
abbrev mwObj (i : String) (x : Addr) : Obj := { cls := .type "method-wrapper", dict := none, data := .fields #[.builtin i, .ref x], slots := #[] }
theorem i_slot_wget : Slot "wrapper_descriptor" "__get__" "wrapper_descriptor.__get__" := .of (owner := "wrapper_descriptor") (n := "__get__") (by rw [typeLookup_type, builtinLookup_eq_fast]; kernel_rfl) (by decide +kernel) (by decide +kernel) (by decide +kernel)
  (by first | exact .inl (by decide +kernel) | exact .inr (by decide +kernel)) (by rw [isSubtype_type]; kernel_rfl)
theorem i_entry_wget : entryFor table "wrapper_descriptor.__get__" = some Builtin.«wrapper_descriptor.__get__» := entryFor_of_tree (by kernel_rfl)
theorem i_wgetArgs (a b c : Value) : argsOk "wrapper_descriptor.__get__" ⟨[a, b, c], []⟩ := by unfold argsOk; kernel_rfl
theorem i_owner : (".".intercalate ("ValueError.__init__".cutAt '.').dropLast) = "ValueError" := by
  have e0 : "ValueError.__init__".cutAt '.' = ["ValueError", "__init__"] := by first | rfl | decide +kernel
  rw [e0]; rfl
theorem i_typeOf : typeOf (.builtin "ValueError.__init__") = pure (.type "wrapper_descriptor") := by kernel_rfl
section
variable {prog : Program} {w : World} {A : Around} {E : Value → Shared → Prop} {h : Heap} {g : Array GenState} {d : Drawn} {t : Nat} {os : OsState}
variable {nm q : Str} {C N : Addr} {bs bm bmB : List Value} {hdct : Bool} {sn : List Str} {sub : List Value} {ab : Bool} {col : Option Bool} {dd : Option Addr} {k0 k1 k2 k3 k5 : Option Value} {newId : String}
set_option maxHeartbeats 4000000 in
theorem i_super_ga {so D x : Addr} {ox : Obj} {l₀ l : List Value} {K : Frag} {tk : Tok} {Q : Fin → Shared → Prop}
    (hso : h.get? so = some { cls := .type "super", dict := none, data := .fields #[.ref D, .ref x, .ref C], slots := #[] }) (hno : Looks (model prog w) h (opaqueClassAbove (.ref C)) none)
    (hM : Looks (model prog w) h (mroOf (.ref C)) l₀) (hl : (l₀.dropWhile (· != .ref D)).drop 1 = l) (X : K.In h)
    (hC : h.get? C = some (excClassObj nm q C N bs bm hdct sn sub ab col dd k0 k1 k2 k3 k5 newId)) (hcV : (Value.ref C :: bm).contains (.type "ValueError") = true)
    (hf : alongIn K "__init__" l = some (some (.builtin "ValueError.__init__"))) (hx : h.get? x = some ox) (hxc : ox.cls = .ref C) (hxC : x ≠ C)
    (hq : Q (.done (.ret (.ref h.objs.size))) ⟨h.push (mwObj "ValueError.__init__" x), g, d, t, os⟩) :
    wpAny (model prog w) A (Builtin.«super.__getattribute__» ⟨[.ref so, .str "__init__" tk], []⟩) Q E ⟨h, g, d, t, os⟩ := by
  have hlk := i_slot_wget.lookup
  have hto := i_typeOf
  have hne : (Value.ref x == Value.ref C) = false := by simp [hxC]
  have hdt : ({ cls := .type "super", dict := none, data := .fields #[.ref D, .ref x, .ref C], slots := #[] } : Obj).data = .fields #[.ref D, .ref x, .ref C] := rfl
  have f0 : (#[.ref D, .ref x, .ref C] : Array Value)[0]? = some (.ref D) := rfl
  have f1 : (#[.ref D, .ref x, .ref C] : Array Value)[1]? = some (.ref x) := rfl
  have f2 : (#[.ref D, .ref x, .ref C] : Array Value)[2]? = some (.ref C) := rfl
  have hT : (⟨h, g, d, t, os⟩ : Shared).TypeIs (.builtin "ValueError.__init__") "wrapper_descriptor" := i_typeOf
  unfold Builtin.«super.__getattribute__»
  repeat (first
    | (with_reducible refine wpAny_field hso hdt f0 ?_) | (with_reducible refine wpAny_field hso hdt f1 ?_) | (with_reducible refine wpAny_field hso hdt f2 ?_)
    | (with_reducible refine ks_wpAny_notOpaque hno ?_)
    | (with_reducible refine Looks.at hM ?_; rw [hl])
    | (refine ks_forIn_along X (fun _ _ => rfl) rfl ?_ hf)
    | (with_reducible refine wpAny_call_entry i_slot_wget hT i_entry_wget ?_ (i_wgetArgs _ _ _))
    | (simp only [hne, Bool.or_false, Bool.false_eq_true, if_false])
    | wp_step
    | dsimp only)
  rw [hxc, i_owner]
  refine wpAny_isSubtype_exc hC ?_
  rw [hcV]
  repeat (first
    | (unfold newFields; refine wpAny_bind (wpAny_newObj_type ?_ (by size_fits)))
    | (with_reducible refine ⟨_, rfl, ?_⟩)
    | wp_step
    | dsimp only)
  exact hq
theorem i_getMethod {so D x : Addr} {ox : Obj} {l₀ l : List Value} {K : Frag} {pl : Sem Bool} {Q : Value × List Value → Shared → Prop}
    (hso : h.get? so = some { cls := .type "super", dict := none, data := .fields #[.ref D, .ref x, .ref C], slots := #[] }) (hno : Looks (model prog w) h (opaqueClassAbove (.ref C)) none)
    (hM : Looks (model prog w) h (mroOf (.ref C)) l₀) (hl : (l₀.dropWhile (· != .ref D)).drop 1 = l) (X : K.In h)
    (hC : h.get? C = some (excClassObj nm q C N bs bm hdct sn sub ab col dd k0 k1 k2 k3 k5 newId)) (hcV : (Value.ref C :: bm).contains (.type "ValueError") = true)
    (hf : alongIn K "__init__" l = some (some (.builtin "ValueError.__init__"))) (hx : h.get? x = some ox) (hxc : ox.cls = .ref C) (hxC : x ≠ C)
    (hq : Q (.ref h.objs.size, []) ⟨h.push (mwObj "ValueError.__init__" x), g, d, t + 1, os⟩) :
    wpAny (model prog w) A (getMethod (.ref so) "__init__" pl) Q E ⟨h, g, d, t, os⟩ := by
  have hlk := F.ks_slot_super_ga.lookup
  have hcan := F.ks_canon_super_ga
  have hT : ∀ t', (⟨h, g, d, t', os⟩ : Shared).TypeIs (.ref so) "super" := fun _ => ⟨_, hso, rfl⟩
  unfold getMethod
  refine wpAny_bind (wpAny_specialOf (hT _) hlk ?_)
  show wpAny _ _ (if (Manifest.canonical "super.__getattribute__" != "object.__getattribute__") = true then _ else _) _ _ _
  rw [if_pos hcan]
  unfold getAttr getAttrBy
  refine wpAny_bind (wpAny_bind (wpAny_mkText (wpAny_holding (wpAny_bind (wpAny_typeOf (hT _) (wpAny_bind (wpAny_of_eq hlk ?_)))))))
  show wpAny _ _ (getAttrByItsOwn (.ref so) (.str (Str.ofString "__init__") t) (.type "super") (.builtin "super.__getattribute__") true false) _ _ _
  unfold getAttrByItsOwn hookBefore callGetattribute boundAndCalled
  refine wpAny_bind (wpAny_of_eq (show (if onTheHeap (.type "super") then typeLookup (.type "super") "__getattr__" else pure none) = pure none from rfl) ?_)
  refine wpAny_bind (wpAny_attempt (wpAny_holding ?_))
  show wpAny _ _ (bindSpecial (.builtin "super.__getattribute__") (.ref so) >>= _) _ _ _
  refine wpAny_bind (wpAny_of_eq (F.ks_slot_super_ga.bind _) ?_)
  refine wpAny_mono (Q := fun v s' => v = .ref h.objs.size ∧ s' = ⟨h.push (mwObj "ValueError.__init__" x), g, d, t + 1, os⟩) (E := fun _ _ => False)
    (wpAny_call_entry F.ks_slot_super_ga (hT _) F.ks_entry_super_ga (i_super_ga hso hno hM hl X hC hcV hf hx hxc hxC ⟨_, rfl, rfl, rfl⟩) (F.ks_gaArgs_super _ _)) (fun v s' hv => ?_) fun _ _ z => z.elim
  obtain ⟨rfl, rfl⟩ := hv
  exact wpAny_pure (wpAny_pure hq)

end
end L2

set_option Elab.async false
set_option linter.all false
set_option maxRecDepth 100000
namespace L2
open PySem PySem.Spec PyProof.Rows PySem.W
section
variable {prog : Program} {w : World} {A : Around} {E : Value → Shared → Prop} {h : Heap} {g : Array GenState} {d : Drawn} {t : Nat} {os : OsState}
variable {nm q : Str} {C N : Addr} {bs bm bmB : List Value} {hdct : Bool} {sn : List Str} {sub : List Value} {ab : Bool} {col : Option Bool} {dd : Option Addr} {k0 k1 k2 k3 k5 : Option Value} {newId : String}
set_option maxHeartbeats 4000000 in
theorem i_call_mw {mw x t0 : Addr} {dx : Option Addr} {z : Value} {Q : Value → Shared → Prop}
    (hm : h.get? mw = some (mwObj "ValueError.__init__" x)) (hC : h.get? C = some (excClassObj nm q C N bs bm hdct sn sub ab col dd k0 k1 k2 k3 k5 newId)) (hcV : (Value.ref C :: bm).contains (.type "ValueError") = true)
    (hx : h.get? x = some { cls := .ref C, dict := dx, data := .fields #[.ref t0, .none, .none, .none, .bool false, .none] })
    (hq : ∀ h' t1, h'.get? x = some { cls := .ref C, dict := dx, data := .fields #[.ref t1, .none, .none, .none, .bool false, .none] } → (∀ b o, b ≠ x → h.get? b = some o → h'.get? b = some o) → Q .none ⟨h', g, d, t, os⟩) :
    wpAny (model prog w) A (call (.ref mw) [z]) Q E ⟨h, g, d, t, os⟩ := by
  refine wpAny_call (codeAny_of_tree ?_)
  show wpAny _ _ (callAny (.ref mw) _) _ _ _
  unfold callAny
  refine wpAny_bind (wpAny_load hm ?_)
  repeat (first
    | (with_reducible refine wpAny_loadPart_at hx ?_)
    | (with_reducible refine wpAny_isSubtype_exc hC ?_; rw [hcV])
    | wp_step
    | dsimp only)
  refine ⟨Code.quiet_builtin _ (by decide +kernel), codeAny_builtin (F.excBase_ValueError).initEntry ?_⟩
  unfold Builtin.«BaseException.__init__» PySem.Builtin.BaseException.bexcPut newTuple
  repeat (first
    | (with_reducible refine wpAny_loadPart_at hx ?_)
    | wp_step
    | dsimp only)
  refine hq _ h.objs.size ?_ fun b o n e => (Heap.get?_update_other _ _ (Ne.symm n)).trans (Heap.get?_push_of_some _ e)
  exact Heap.get?_update_self _ (Heap.get?_push_of_some _ hx) rfl
end
end L2

set_option Elab.async false
set_option linter.all false
set_option maxRecDepth 100000
namespace L2
open PySem PySem.Spec PyProof.Rows
open PySem.Builtin PySem.Builtin.ObjectAttr
theorem refuse_quiet {K : PySem.W.Frag} {bmB : List Value} {n what : Str} {self : Value} : ∀ {l : List Value}, quietIn K bmB n l = true → refuseLoop self what l = refuseLoop self what bmB
  | [], e => by rw [← beq_iff_eq.mp (show (bmB == []) = true from e)]
  | v :: r, e => by
    unfold quietIn at e
    rcases Bool.or_eq_true_iff.mp e with z | z
    · rw [beq_iff_eq.mp z]
    · split at z
      · split at z
        · simp only [Bool.and_eq_true, beq_iff_eq] at z
          rw [refuseLoop_ref]
          exact refuse_quiet z.2
        · cases z
      · cases z
section
variable {prog : Program} {w : World} {A : Around} {E : Value → Shared → Prop} {h : Heap} {g : Array GenState} {d : Drawn} {t : Nat} {os : OsState} {K : PySem.W.Frag}
variable {nm q : Str} {C N x : Addr} {bs bm bmB : List Value} {hdct : Bool} {sn : List Str} {sub : List Value} {ab : Bool} {col : Option Bool} {dd : Option Addr} {k0 k1 k2 k3 k5 : Option Value} {B newId sa owner : String}
  {mN mA : Str → Option Value} {name : Str} {v : Value}
theorem check_saX {M : Model} {o : Obj} {nameV : Value} {Q : Unit → Shared → Prop} (SF : StoreFacts B bmB sa owner) (hw0 : bm.contains (.type owner) = true)
    (hC : h.get? C = some (excClassObj nm q C N bs bm true sn sub ab col dd k0 k1 k2 k3 k5 newId)) (hx : h.get? x = some o) (hc : o.cls = .ref C) (hq : Q () ⟨h, g, d, t, os⟩) :
    wpAny M A (checkBuiltinCall sa ⟨[.ref x, nameV, v], []⟩) Q E ⟨h, g, d, t, os⟩ := by
  have hcB : (Value.ref C :: bm).contains (.type owner) = true := by rw [List.contains_cons, hw0, Bool.or_true]
  have ha := SF.args (.ref x) nameV v
  simp only [checkBuiltinCall, SF.kind, SF.split]
  refine wpAny_bind ?_
  · unfold isInstance
    repeat (first | (with_reducible refine wpAny_loadPart_at hx ?_; rw [hc]) | (with_reducible refine wpAny_isSubtype_exc hC ?_; rw [hcB]) | wp_step)
    cases hsig : Manifest.signature? sa with
    | none => exact wpAny_pure hq
    | some sig =>
      simp only [argsOk, hsig] at ha
      have h2 : Bind.checkArgs sa sig ⟨[.ref x, nameV, v], []⟩ = pure () := ha
      show wpAny M A (Bind.checkArgs sa sig ⟨[.ref x, nameV, v], []⟩) Q E _
      rw [h2]; exact wpAny_pure hq

theorem store_entryX {tk : Tok} {Q : Fin → Shared → Prop} {ns : List Str} (SF : StoreFacts B bmB sa owner)
    (hC : h.get? C = some (excClassObj nm q C N bs bm true sn sub ab col dd k0 k1 k2 k3 k5 newId)) (KX : K.In h) (hmr : mroIn K C = .ref C :: bm) (hw0 : bm.contains (.type owner) = true) (qs : quietIn K bmB "__setattr__" (mroIn K C) = true) (qn : quietIn K bmB name (mroIn K C) = true)
    (hB : typeLookup (.type B) name = pure none) (hxC : x ≠ C) (I : h.Inst x C mA)
    (hq : ∀ h' tk', h'.Inst x C (fun y => if y = name then some v else mA y) →
      (∀ b o, b ≠ x → (∀ o₀ dx, h.get? x = some o₀ → o₀.dict = some dx → b ≠ dx) → h.get? b = some o → h'.get? b = some o) →
      (∀ o₀, h.get? x = some o₀ → ∃ o₁, h'.get? x = some o₁ ∧ o₁.cls = o₀.cls ∧ o₁.data = o₀.data ∧ o₁.slots = o₀.slots ∧ (∀ dx, o₀.dict = some dx → o₁.dict = some dx) ∧ (o₀.dict = none → ∀ dx, o₁.dict = some dx → h.get? dx = none)) → Q (.done (.ret .none)) ⟨h', g, d, tk', os⟩) (hw : Within mA ns := by within_ways) (hsz : ns.length ≤ sizeLine := by size_fits) :
    wpAny (model prog w) A (Builtin.«object.__setattr__» ⟨[.ref x, .str name tk, v], []⟩) Q E ⟨h, g, d, t, os⟩ := by
  obtain ⟨o, hx, hc, hnc, hd⟩ := I
  have hpass : refuseLoop (.ref x) "__setattr__" (.ref C :: bm) = pure () := by rw [← hmr]; exact (refuse_quiet qs).trans (SF.passes (.ref x))
  unfold Builtin.«object.__setattr__»
  repeat (first | rw [refuse_eq] | (rw [hpass]) | (with_reducible refine wpAny_loadPart_at hx ?_; rw [hc]) | with_reducible refine wpAny_mroOf_exc hC ?_ | (with_reducible refine type_quiet KX hC hmr qn SF.mro hB ?_) | wp_step)
  rcases hd with ⟨hdn, hmA⟩ | ⟨dx, hdx, hne, hns⟩
  ·
    rw [hdn, if_neg (by simp [typeHasDict])]
    split
    · rename_i hcd
      cases hcd
    split
    · rename_i c hcd
      exact absurd hcd (hnc c)
    · have hx₁ : (h.push { cls := .type "dict", data := .dict #[] }).get? x = some o := Heap.get?_push_of_some _ hx
      have hxs : x ≠ h.objs.size := Nat.ne_of_lt (Heap.lt_size hx)
      refine wpAny_bind (wpAny_alloc' ?_)
      refine wpAny_bind (wpAny_update' hx₁ ?_)
      refine wpAny_pure ?_
      have hgd : ((h.push { cls := .type "dict", data := .dict #[] }).update x fun o => { cls := o.cls, dict := some h.objs.size, data := o.data, slots := o.slots }).get? h.objs.size
          = some { cls := .type "dict", data := .dict #[] } :=
        (Heap.get?_update_ne _ _ _ _ hxs.symm).trans (Heap.get?_push_at rfl rfl)
      have hnd : ((h.push { cls := .type "dict", data := .dict #[] }).update x fun o => { cls := o.cls, dict := some h.objs.size, data := o.data, slots := o.slots }).Ns h.objs.size (fun _ => none) :=
        ⟨_, #[], _, hgd, rfl, fun e he => absurd he (by simp), fun _ => rfl⟩
      show wpAny _ _ (storeInDict h.objs.size (.str name tk) name v) _ _ _
      unfold storeInDict newKeyGuard
      refine wpAny_bind (wpAny_pure (wpAny_bind (wpAny_nsSet1 (Heap.Ns1.of_empty hnd) fun h' hn' hs => ?_)))
      obtain ⟨oD, esD, epD, hoD, hdD, hcD⟩ := hn'.count (Within.cons name v Within.nil)
      refine wpAny_bind (wpAny_lookBehind hoD (by rw [hdD]; exact pastItsLine_dict (Nat.le_trans hcD (by rw [List.length_cons, List.length_nil, sizeLine_eq]; omega))) ?_)
      wp_walk
      have hx' : h'.get? x = some { cls := o.cls, dict := some h.objs.size, data := o.data, slots := o.slots } := ?_
      refine hq h' _ ⟨{ cls := o.cls, dict := some h.objs.size, data := o.data, slots := o.slots }, hx', hc, hnc, .inr ⟨h.objs.size, rfl, hxs.symm, ?_⟩⟩ (fun b ob hbx _ hb => ?_)
        (fun o₀ h₀ => by obtain rfl : o = o₀ := Option.some.inj (hx.symm.trans h₀); exact ⟨_, hx', rfl, rfl, rfl, (fun dx e => by rw [hdn] at e; cases e), fun _ dx e => by cases e; exact Heap.get?_none_of_le (Nat.le_refl _)⟩)
      · obtain ⟨o', es, ep, e1, e2, e3, eu, e4⟩ := hn'
        exact ⟨o', es, ep, e1, e2, e3, eu, fun y => by rw [e4 y]; by_cases hy : y = name <;> simp [hy, hmA]⟩
      · exact (hs.2 b (Nat.ne_of_lt (Heap.lt_size hb))).trans ((Heap.get?_update_ne _ _ _ _ hbx).trans (Heap.get?_push_of_some _ hb))
      · refine (hs.2 x hxs).trans (Heap.get?_update_self _ hx₁ ?_)
        have hfr := (Heap.get?_some_iff.mp hx).2
        obtain ⟨oc, od, odt, osl⟩ := o
        cases odt <;> first | rfl | exact hfr
  ·
    rw [hdx]
    refine wpAny_pure ?_
    show wpAny _ _ (storeInDict dx (.str name tk) name v) _ _ _
    unfold storeInDict newKeyGuard
    refine wpAny_bind (wpAny_pure (wpAny_bind (wpAny_nsSet1 hns fun h' hn' hs => ?_)))
    obtain ⟨oD, esD, epD, hoD, hdD, hcD⟩ := hn'.count (Within.cons name v hw)
    refine wpAny_bind (wpAny_lookBehind hoD (by rw [hdD]; exact pastItsLine_dict (Nat.le_trans hcD (by rw [List.length_cons]; omega))) ?_)
    wp_walk
    refine hq h' _ ⟨o, (hs.2 x hne.symm).trans hx, hc, hnc, .inr ⟨dx, hdx, hne, hn'⟩⟩ (fun b ob _ hbd hb => ?_)
      (fun o₀ h₀ => ⟨o₀, (hs.2 x hne.symm).trans h₀, rfl, rfl, rfl, (fun _ e => e), fun z => absurd (((Option.some.inj (hx.symm.trans h₀)).symm ▸ z : o.dict = none)) (by rw [hdx]; exact fun y => nomatch y)⟩)
    exact (hs.2 b (hbd o dx hx hdx)).trans hb

theorem store_callX {tk : Tok} {R : Result → Shared → Prop} {ns : List Str} (SF : StoreFacts B bmB sa owner)
    (hC : h.get? C = some (excClassObj nm q C N bs bm true sn sub ab col dd k0 k1 k2 k3 k5 newId)) (KX : K.In h) (hmr : mroIn K C = .ref C :: bm) (hw0 : bm.contains (.type owner) = true) (qs : quietIn K bmB "__setattr__" (mroIn K C) = true) (qn : quietIn K bmB name (mroIn K C) = true)
    (hB : typeLookup (.type B) name = pure none) (hxC : x ≠ C) (I : h.Inst x C mA)
    (hq : ∀ h' tk', h'.Inst x C (fun y => if y = name then some v else mA y) →
      (∀ b o, b ≠ x → (∀ o₀ dx, h.get? x = some o₀ → o₀.dict = some dx → b ≠ dx) → h.get? b = some o → h'.get? b = some o) →
      (∀ o₀, h.get? x = some o₀ → ∃ o₁, h'.get? x = some o₁ ∧ o₁.cls = o₀.cls ∧ o₁.data = o₀.data ∧ o₁.slots = o₀.slots ∧ (∀ dx, o₀.dict = some dx → o₁.dict = some dx) ∧ (o₀.dict = none → ∀ dx, o₁.dict = some dx → h.get? dx = none)) → R (.ok (.ret .none)) ⟨h', g, d, tk', os⟩) (hw : Within mA ns := by within_ways) (hsz : ns.length ≤ sizeLine := by size_fits) :
    codeAny (model prog w) A (.call (.builtin sa) ⟨[.ref x, .str name tk, v], []⟩) R ⟨h, g, d, t, os⟩ := by
  obtain ⟨o, hx, hc, _⟩ := id I
  exact codeAny_call_builtin SF.slot.plain SF.entry (check_saX SF hw0 hC hx hc (store_entryX SF hC KX hmr hw0 qs qn hB hxC I hq hw hsz))

theorem store_attrX {Q : Unit → Shared → Prop} {ns : List Str} (SF : StoreFacts B bmB sa owner)
    (hC : h.get? C = some (excClassObj nm q C N bs bm true sn sub ab col dd k0 k1 k2 k3 k5 newId)) (KX : K.In h) (hmr : mroIn K C = .ref C :: bm) (hw0 : bm.contains (.type owner) = true) (qs : quietIn K bmB "__setattr__" (mroIn K C) = true) (qn : quietIn K bmB name (mroIn K C) = true)
    (hB : typeLookup (.type B) name = pure none) (hxC : x ≠ C) (I : h.Inst x C mA)
    (hq : ∀ h' tk', h'.Inst x C (fun y => if y = name then some v else mA y) →
      (∀ b o, b ≠ x → (∀ o₀ dx, h.get? x = some o₀ → o₀.dict = some dx → b ≠ dx) → h.get? b = some o → h'.get? b = some o) →
      (∀ o₀, h.get? x = some o₀ → ∃ o₁, h'.get? x = some o₁ ∧ o₁.cls = o₀.cls ∧ o₁.data = o₀.data ∧ o₁.slots = o₀.slots ∧ (∀ dx, o₀.dict = some dx → o₁.dict = some dx) ∧ (o₀.dict = none → ∀ dx, o₁.dict = some dx → h.get? dx = none)) → Q () ⟨h', g, d, tk', os⟩) (hw : Within mA ns := by within_ways) (hsz : ns.length ≤ sizeLine := by size_fits) :
    wpAny (model prog w) A (setAttr (.ref x) name v) Q E ⟨h, g, d, t, os⟩ := by
  obtain ⟨o, hx, hc, _⟩ := id I
  have f3 := SF.slot.bind (.ref x)
  unfold setAttr callSpecial? specialOf
  repeat (any_goals (first | assumption | (with_reducible refine wpAny_loadPart_at hx ?_; rw [hc]) | (with_reducible refine type_quiet KX hC hmr qs SF.mro SF.slot.lookup ?_) | wp_step))
  refine store_callX SF hC KX hmr hw0 qs qn hB hxC I (fun h' tk' I' hk hsame => ?_) hw hsz
  repeat (any_goals (first | assumption | wp_step))
  exact hq h' tk' I' hk hsame
end
end L2

set_option Elab.async false
set_option linter.all false
set_option maxRecDepth 100000
namespace L2
open PySem PySem.Spec PyProof.Rows
open PySem.Builtin PySem.Builtin.ObjectAttr
section
variable {prog : Program} {w : World} {A : Around} {E : Value → Shared → Prop} {h : Heap} {g : Array GenState} {d : Drawn} {t : Nat} {os : OsState} {K : PySem.W.Frag}
variable {nm q : Str} {C N x : Addr} {bs bm bmB : List Value} {sn : List Str} {sub : List Value} {ab : Bool} {col : Option Bool} {dd : Option Addr} {k0 k1 k2 k3 k5 : Option Value} {B newId : String}
  {mA : Str → Option Value} {name : Str} {v : Value}
/-- a field of an exception is read -/
theorem load_entryX {tk : Tok} {Q : Fin → Shared → Prop} (KX : K.In h) (hC : h.get? C = some (excClassObj nm q C N bs bm true sn sub ab col dd k0 k1 k2 k3 k5 newId)) (hmr : mroIn K C = .ref C :: bm) (qn : quietIn K bmB name (mroIn K C) = true)
    (hbm : mroOf (.type B) = pure bmB) (hB : typeLookup (.type B) name = pure none) (I : h.Inst x C mA) (hv : mA name = some v) (hh : handedOut v = pure v) (hq : Q (.done (.ret v)) ⟨h, g, d, t, os⟩) :
    wpAny (model prog w) A (Builtin.«object.__getattribute__» ⟨[.ref x, .str name tk], []⟩) Q E ⟨h, g, d, t, os⟩ := by
  obtain ⟨o, hx, hc, hnc, hd⟩ := I
  rcases hd with ⟨_, hmA⟩ | ⟨dx, hdx, hne, hns⟩
  · rw [hmA name] at hv; cases hv
  unfold Builtin.«object.__getattribute__»
  repeat (first | assumption | (with_reducible refine wpAny_loadPart_at hx ?_; rw [hc]) | with_reducible refine type_quiet KX hC hmr qn hbm hB ?_ | wp_step)
  split
  · rename_i c hcd
    exact absurd hcd (hnc c)
  unfold instanceDict
  repeat (first | (with_reducible refine wpAny_loadPart_at hx ?_; rw [hc]) | with_reducible refine wpAny_loadPart_at hC ?_ | wp_step)
  rw [hdx]
  repeat (first | (unfold inDict) | (with_reducible refine wpAny_nsGet hns.ns ?_; rw [hv]) | wp_step)
  exact hq
theorem load_attrX {expr : Bool} {Q : Value → Shared → Prop} (KX : K.In h) (FB : ExcAttrBase B bmB) (hC : h.get? C = some (excClassObj nm q C N bs bm true sn sub ab col dd k0 k1 k2 k3 k5 newId)) (T : OwnTail h bmB bm) (hmr : mroIn K C = .ref C :: bm)
    (ga : quietIn K bmB "__getattribute__" (mroIn K C) = true) (gt : quietIn K bmB "__getattr__" (mroIn K C) = true) (qn : quietIn K bmB name (mroIn K C) = true)
    (hB : typeLookup (.type B) name = pure none) (I : h.Inst x C mA) (hv : mA name = some v) (hh : handedOut v = pure v) (hq : Q v ⟨h, g, d, t + 1, os⟩) : wpAny (model prog w) A (getAttr (.ref x) name expr) Q E ⟨h, g, d, t, os⟩ := by
  obtain ⟨o, hx, hc, _⟩ := id I
  have f3 := FB.ga.bind (.ref x)
  have hx0 : (expr && onTheHeap (Value.builtin "BaseException.__getattribute__")) = false := by cases expr <;> rfl
  have hx2 : (Value.builtin "BaseException.__getattribute__" == Value.builtin "object.__getattribute__") = false := by decide +kernel
  have hx1 : (onTheHeap (Value.ref C) && Value.builtin "BaseException.__getattribute__" == Value.builtin "object.__getattribute__") = false := by rw [hx2]; rfl
  unfold getAttr getAttrBy
  repeat (any_goals (first | assumption | (with_reducible refine wpAny_loadPart_at hx ?_; rw [hc]) | with_reducible refine type_quiet KX hC hmr ga FB.mro FB.ga.lookup ?_ | with_reducible refine type_quiet KX hC hmr gt FB.mro FB.noGetattr ?_ | wp_step))
  refine codeAny_call_builtin FB.ga.plain F.entry_bexc_ga (xclass_check FB hC T hx hc (load_entryX KX hC hmr qn FB.mro hB I hv hh ?_))
  show wpAny _ _ (handedOut v) _ _ _
  rw [hh]
  exact wpAny_pure hq
end
end L2

set_option Elab.async false
set_option linter.all false
set_option maxRecDepth 100000
namespace L2
open PySem PySem.Spec PyProof.Rows PySem.W PySem.Calls
section
variable {prog : Program} {w : World} {A : Around} {E : Value → Shared → Prop} {s : Shared} {K : Frag}
variable {nm q : Str} {C N : Addr} {bs bm bmB : List Value} {sn : List Str} {sub : List Value} {ab : Bool} {col : Option Bool} {dd : Option Addr} {k0 k1 k2 k3 k5 : Option Value} {newId : String}
/-- a call of a method-wrapper -/
theorem callWith_mw {pos : Pos} {u x : Addr} {i : String} {args : List (Bool × Sem Value)} {Q : Value → Shared → Prop} (hplain : args.any (·.1) = false)
    (h : wpAny (model prog w) A (evalArgs (.ref u) true args []) (fun a s₁ => s₁.heap.get? u = some (mwObj i x) ∧ wpAny (model prog w) A (call (.ref u) a.pos a.kw) Q E s₁) E s) : wpAny (model prog w) A (callWith pos (.ref u) [] args []) Q E s := by
  unfold callWith
  refine wpAny_bind (wpAny_holding (wpAny_mono h (fun a s₁ h₁ => wpAny_bind (wpAny_standAt ?_)) fun _ _ x => x))
  obtain ⟨ho, hcall⟩ := h₁
  simp only [hplain, List.any_nil, Bool.or_false]
  refine wpAny_bind (m := keeperOf (.ref u)) ?_
  unfold keeperOf
  refine wpAny_bind (wpAny_load ho ?_)
  simp only [show (Value.type "method-wrapper" != Value.type "method") = true by decide, show (Value.type "method-wrapper" == Value.type "builtin_function_or_method" || Value.type "method-wrapper" == Value.type "method-wrapper") = true by decide, if_true]
  refine wpAny_pure ?_
  exact wpAny_bind (wpAny_mono hcall (fun r s₂ hr => wpAny_bind (wpAny_holding (wpAny_point (wpAny_pure hr)))) fun _ _ x => x)
theorem at_superCall {c : Code} {env : Env} {o : Expr} {name : Str} {apos pos : Pos} {args : List Expr} {Q : Value → Shared → Prop} (hline : (apos.endLine == pos.line) = true) (hfew : methodCallForm (args.length + ([] : List Keyword).length) (backTo pos (starEach args env)) (backToKw pos (keywordEach [] env)) = true)
    (h : _root_.PySem.wpAt (model prog w) A c (attributeBase o name env (eval o env)) (fun ov s₁ => ∀ pl, wpAny (model prog w) A (getMethod ov name pl) (fun fx s₂ => wpAny (model prog w) A (callWith pos fx.1 fx.2 (backTo pos (starEach args env)) []) Q E s₂) E s₁) E s) :
    _root_.PySem.wpAt (model prog w) A c (eval (.Call (.Attribute o name apos) args [] pos) env) Q E s := by
  have hpos : methodCallPos true o env apos pos = pure pos := by unfold methodCallPos; simp [hline]
  rw [arm_eval_Call]
  refine _root_.PySem.wpAt_bind (_root_.PySem.wpAt_mono h (fun ov s₁ h₁ => _root_.PySem.wpAt_of_wpAny (wpAny_bind (wpAny_standAt ?_))) fun _ _ x => x)
  unfold methodCall
  rw [hfew]
  refine wpAny_bind (wpAny_holding ?_)
  unfold calleeOf
  rw [if_pos rfl]
  exact wpAny_mono (h₁ _) (fun fx s₂ h₂ => wpAny_bind (wpAny_of_eq hpos h₂)) fun _ _ x => x
/-- what is known of an own class of exceptions with an own __init__, of the shape: super().__init__(f'a{n}b'); self.n = n -/
structure InitK (K : Frag) (mg : Str → Option Value) (prog : Program) (C fI cc cda : Addr) (name qual : Str) (params : Arguments) (body : List Stmt) (scope : Scope) (bmB : List Value) (newId : String) : Prop where
  cls : ∃ bm N nm q bs sn sub ab col dd k0 k1 k2 k3 k5 cd, K.lookup C = some (excClassObj nm q C N bs bm true sn sub ab col dd k0 k1 k2 k3 k5 newId) ∧ L2.mroIn K C = .ref C :: bm ∧ clsIn K C = some cd ∧ cd.mro = .ref C :: bm ∧ bm.contains (.type "ValueError") = true ∧ bm.contains (.type "object") = true ∧ alongIn K "__init__" bm = some (some (.builtin "ValueError.__init__")) ∧ nsOkIn K N = true ∧ nsIn K N "__init__" = some (some (.ref fI)) ∧ tailIn K bmB bm = true
  sub : PySem.W.mroIn K C (.ref C) = some true
  fn : ∃ od osl kV doc pm an ct, K.lookup fI = some ⟨.type "function", od, .func (ksFn name qual params body scope .none kV doc pm an (.ref cda) ct cc), osl⟩
  cd : codeIn K (.ref cda) qual = true
  code : ∃ ccl cdd vs ccs file tf, K.lookup cda = some ⟨ccl, cdd, .fields vs, ccs⟩ ∧ vs[2]? = some (.str file tf) ∧ ((prog.main.file : Str) == file) = true
  cell : ∃ cl cld csl, K.lookup cc = some ⟨cl, cld, .cell (some (.ref C)), csl⟩
  top : (prog.main.scope.names.lookup ("super" : Str)).isSome = false
  gl : mg "super" = none
  op : nsIn K cStatics "thirdparty.any" = some none
  qs : quietIn K bmB "__setattr__" (L2.mroIn K C) = true
set_option maxHeartbeats 4000000 in
theorem init_run {mg : Str → Option Value} {fI cc cda e t0 : Addr} {name qual : Str} {params : Arguments} {scope : Scope} {R : Result → Shared → Prop} {n : Int} {tk : Tok} {fld par slf : Str} {a b : Str} {ka kb : Nat} {p0 p1 p2 p3 p4 p5 p6 p7 p8 pa pb pc pd pj : Pos}
    (F : InitK K mg prog C fI cc cda name qual params [.Expr (.Call (.Attribute (.Call (.Name "super" p0) [] [] p1) "__init__" p2) [.JoinedStr [.Constant (.str a) ka pa, .FormattedValue (.Name par pb) (-1) none pc, .Constant (.str b) kb pd] pj] [] p3) p4, .Assign [.Attribute (.Name slf p5) fld p6] (.Name par p7) p8] scope vmro vnew)
    (qn : quietIn K vmro fld (L2.mroIn K C) = true) (hB : typeLookup (.type "ValueError") fld = pure none)
    (heK : ∀ o, K.lookup e ≠ some o) (hroom : A.depth < recursionLimit) (KX : K.In s.heap) (lim : s.heap.NoLimit) (hg : s.heap.Ns mainGlobals mg) (hb : ∃ mb, s.heap.Ns builtinsNs mb ∧ ∀ x : Str, x ≠ "__name__" → mb x = bootBuiltins x)
    (hbind : ∀ (kV doc pm : Value) (an : Option Addr) (ct : Value), BindsTo s (ksFn name qual params [.Expr (.Call (.Attribute (.Call (.Name "super" p0) [] [] p1) "__init__" p2) [.JoinedStr [.Constant (.str a) ka pa, .FormattedValue (.Name par pb) (-1) none pc, .Constant (.str b) kb pd] pj] [] p3) p4, .Assign [.Attribute (.Name slf p5) fld p6] (.Name par p7) p8] scope .none kV doc pm an (.ref cda) ct cc) ⟨[.ref e, .int n tk], []⟩ [(slf, .ref e), (par, .int n tk)])
    (hhead : ∃ ar, (params.posonlyargs ++ params.args).head? = some ar ∧ ar.arg = slf) (hsp : slf ≠ par)
    (sS : scope.names.lookup slf = some .local) (sP : scope.names.lookup par = some .local) (sU : scope.names.lookup ("super" : Str) = some .globalImplicit) (sC : scope.names.lookup ("__class__" : Str) = some .free)
    (nocell : ∀ x ∈ scope.names, x.2 ≠ .cell) (hco : scope.isCoroutine = false) (hgen : scope.isGenerator = false) (hkind : scope.kind = .function) (dS : (slf == ("__debug__" : Str)) = false) (dP : (par == ("__debug__" : Str)) = false)
    (hx : s.heap.get? e = some { cls := .ref C, dict := none, data := .fields #[.ref t0, .none, .none, .none, .bool false, .none] }) (hline : (p2.endLine == p3.line) = true) (hn : n.natAbs.log2 < 1920) (ha : a.length + b.length ≤ 1000)
    (hq : ∀ h' t1 dA tk', h'.get? e = some { cls := .ref C, dict := some dA, data := .fields #[.ref t1, .none, .none, .none, .bool false, .none] } → s.heap.get? dA = none → h'.Ns1 dA (fun y => if y = fld then some (.int n tk) else none) → (∀ b o, b ≠ e → s.heap.get? b = some o → h'.get? b = some o) → R (.ok (.ret .none)) { s with heap := h', toks := tk' }) :
    codeAny (model prog w) A (.call (.ref fI) ⟨[.ref e, .int n tk], []⟩) R s := by
  obtain ⟨od, osl, kV, doc, pm, an, ct, lk⟩ := F.fn
  obtain ⟨bm, N, nm, q, bs, sn, sub, ab, col, dd, k0, k1, k2, k3, k5, cd, hC, hmr, hcd, hcm, hV, hO, hal, _⟩ := F.cls
  obtain ⟨ccl, cdd, vs, ccs, file, tf, hcode, hvs, hfile⟩ := F.code
  obtain ⟨cl, cld, csl, hcell⟩ := F.cell
  obtain ⟨ar, har, hslf⟩ := hhead
  obtain ⟨mb, hb1, hb2⟩ := hb
  refine ks_codeAny_call_defAt hroom (KX _ _ lk) rfl lim (codeRec_of KX F.cd) rfl (hbind kV doc pm an ct) nocell (fun y hy => ?_) (fun h0 hns hk => ?_) hco hgen hkind
  · rcases List.mem_cons.mp hy with z | z
    · rw [z]; exact sS
    · rw [List.mem_singleton.mp z]; exact sP
  have KX0 : K.In h0 := fun b o z => hk b o (KX b o z)
  have hx0 := hk _ _ hx
  have hC0 := KX0 _ _ hC
  have hcD : ∃ cdD, (excClassObj nm q C N bs bm true sn sub ab col dd k0 k1 k2 k3 k5 vnew).data = .cls cdD := ⟨_, rfl⟩
  obtain ⟨cdD, hcD⟩ := hcD
  have mS : (fun x => ([(slf, Value.ref e), (par, Value.int n tk)] : List (Str × Value)).reverse.lookup x) slf = some (.ref e) := by
    show List.lookup slf [(par, Value.int n tk), (slf, Value.ref e)] = _
    have z : (slf == par) = false := beq_false_of_ne hsp
    simp [List.lookup, z]
  have mP : (fun x => ([(slf, Value.ref e), (par, Value.int n tk)] : List (Str × Value)).reverse.lookup x) par = some (.int n tk) := by
    show List.lookup par [(par, Value.int n tk), (slf, Value.ref e)] = _
    simp [List.lookup]
  generalize (fun x => ([(slf, Value.ref e), (par, Value.int n tk)] : List (Str × Value)).reverse.lookup x) = m at hns mS mP
  refine ks_wpAt_execs_cons (ks_wpAt_Expr_any (at_superCall hline (by rfl) ?_) (by unfold interactive; simp [callEnv, newEnv, hkind]))
  refine ks_wpAt_mono (ks_wpAt_super_base (env := callEnv _ _ _) (Q := fun ov s1 => ∃ so h1, ov = .ref so ∧ s1 = { s with heap := h1, toks := s1.toks } ∧ h1.get? so = some (ks_superObj C e C) ∧ ∀ y o, h0.get? y = some o → h1.get? y = some o) sU sC (by decide) rfl (KX0 _ _ lk) rfl har rfl (KX0 _ _ hcode) rfl hvs hfile F.top ?_) (fun ov s1 h1 => ?_) fun _ _ z => z
  · refine ks_loadName_global hkind sU (loadGlobal_builtin (mg := mg) (mb := mb) (hg.keeps hk) F.gl (hb1.keeps hk) ((hb2 _ (by decide)).trans (by rfl)) ⟨rfl, ?_⟩)
    refine wpAny_loadName_free (c := cc) (v := .ref C) hkind sC rfl ⟨_, KX0 _ _ hcell, rfl⟩ ?_
    rw [hslf]
    refine wpAny_loadName_local hkind sS hns mS ?_
    refine ks_wpAny_isType_cls hC0 hcD ⟨rfl, ?_⟩
    refine ks_wpAny_call_super hC0 hcD hx0 rfl (fun c z => by cases z) (looks_mroIn KX0 F.sub) fun h1 e1 kp1 => ?_
    exact ⟨_, h1, rfl, rfl, e1, kp1⟩
  · obtain ⟨so, h1, rfl, es1, hso, kp1⟩ := h1
    rw [es1]
    intro pl
    have KX1 : K.In h1 := fun b o z => kp1 _ _ (KX0 b o z)
    have hx1 := kp1 _ _ hx0
    have hC1 := kp1 _ _ hC0
    have neC : e ≠ C := fun z => by rw [z, hC0] at hx0; cases hx0
    have hcV : (Value.ref C :: bm).contains (.type "ValueError") = true := by rw [List.contains_cons, hV, Bool.or_true]
    refine i_getMethod (D := C) hso (looks_opaque KX1 F.op) (l₀ := cd.mro) (l := bm) (fun A Q E s k q => wpAny_bind ((looks_clsIn KX1 hcd) A _ E s k (wpAny_pure q))) (by rw [hcm]; simp) KX1 hC1 hcV hal hx1 rfl neC ?_
    have kp2 : ∀ b o, h1.get? b = some o → (h1.push (mwObj "ValueError.__init__" e)).get? b = some o := fun b o z => Heap.get?_push_of_some _ z
    have hmw : (h1.push (mwObj "ValueError.__init__" e)).get? h1.objs.size = some (mwObj "ValueError.__init__" e) := Heap.get?_push_at rfl rfl
    generalize h1.push (mwObj "ValueError.__init__" e) = h2 at kp2 hmw ⊢
    generalize h1.objs.size = mw at hmw ⊢
    refine callWith_mw (x := e) (i := "ValueError.__init__") (by rfl) (evalArgs_plain (Calls.spliced_cons ?_))
    rw [if_neg Bool.false_ne_true]
    have hns2 : h2.Ns s.heap.objs.size m := hns.keeps fun b o z => kp2 _ _ (kp1 _ _ z)
    have lt := int_text_length_le (a := n) (k := 1920) (by decide) hn
    have l0 : (Str.empty ++ a).length = a.length := by rw [strLen_append]; exact Nat.zero_add _
    have ln : (Str.ofString (toString n)).length ≤ 1921 := by rw [PySem.ofString_length]; exact lt
    have big : (3000 : Nat) ≤ sizeLine := by decide
    refine JoinedStr_many (joinParts_cons (Calls.Constant_str ⟨by rw [l0]; omega, joinParts_cons (FormattedValue_plain (ldc hkind sP hns2 mP (formatField_int_small hn ⟨by rw [strLen_append, l0]; omega, joinParts_cons (Calls.Constant_str ⟨by rw [strLen_append, strLen_append, l0]; omega, joinParts_nil ?_ (by rw [strLen_append, strLen_append, l0]; omega)⟩)⟩) dP))⟩))
    refine Calls.spliced_nil ⟨hmw, ?_⟩
    refine i_call_mw (C := C) hmw (kp2 _ _ hC1) hcV (kp2 _ _ hx1) fun h3 t1 hx3 kp3 => ?_
    have nlocE : s.heap.objs.size ≠ e := Nat.ne_of_gt (Heap.lt_size hx)
    have hns3 : h3.Ns s.heap.objs.size m := by
      obtain ⟨o, es, ep, z, r⟩ := hns2
      exact ⟨o, es, ep, kp3 _ _ nlocE z, r⟩
    show _root_.PySem.wpAt _ _ _ (execs [_] _) _ _ _
    have ne' : ∀ b o, b ≠ e → s.heap.get? b = some o → h3.get? b = some o := fun b o nb z => kp3 _ _ nb (kp2 _ _ (kp1 _ _ (hk _ _ z)))
    have KX3 : K.In h3 := fun b o z => kp3 _ _ (fun y => heK o (y ▸ z)) (kp2 _ _ (KX1 _ _ z))
    refine ks_wpAt_execs_cons (ks_wpAt_Assign_Attr (_root_.PySem.wpAt_of_wpAny (ldc hkind sP hns3 mP (ldc hkind sS hns3 mS ?_ dS) dP)))
    refine store_attrX (mA := fun _ => none) (ns := []) PySem.F.store_ValueError (KX3 _ _ hC) KX3 hmr hO F.qs qn hB neC ⟨_, hx3, rfl, (fun c z => by cases z), .inl ⟨rfl, fun _ => rfl⟩⟩ (fun h4 tk4 I4 k4 same => ?_) (fun _ z => absurd z (by simp)) (by decide)
    show _root_.PySem.wpAt _ _ _ (execs [] _) _ _ _
    refine _root_.PySem.wpAt_of_wpAny (wpAny_execs_nil ?_)
    obtain ⟨o4, ho4, hc4, _, hd4⟩ := I4
    obtain ⟨o1, ho1, e1, e2, e3, e4, e5⟩ := same _ hx3
    rw [ho4] at ho1
    cases ho1
    rcases hd4 with ⟨_, z⟩ | ⟨dA, hdA, _, hnsA⟩
    · have := z fld
      simp at this
    · have n3 := e5 rfl dA hdA
      refine hq h4 t1 dA tk4 ?_ ?_ hnsA fun b o nb z => k4 b o nb (fun o₀ dx z1 z2 => by rw [hx3] at z1; cases z1; cases z2) (ne' b o nb z)
      · rw [ho4]
        obtain ⟨oc4, od4, odt4, osl4⟩ := o4
        cases e1
        cases e2
        cases e3
        cases hdA
        rfl
      · cases y : s.heap.get? dA with
        | none => rfl
        | some o =>
          by_cases ye : dA = e
          · rw [ye, hx3] at n3; cases n3
          · rw [ne' _ _ ye y] at n3; cases n3
end
end L2

set_option Elab.async false
set_option linter.all false
set_option maxRecDepth 100000
namespace L2
open PySem PySem.Spec PyProof.Rows
section
variable {prog : Program} {w : World} {A : Around} {E : Value → Shared → Prop} {h : Heap} {g : Array GenState} {d : Drawn} {t : Nat} {os : OsState}
variable {nm q : Str} {C N : Addr} {bs bm bmB : List Value} {hdct : Bool} {sn : List Str} {sub : List Value} {ab : Bool} {col : Option Bool} {dd : Option Addr} {k0 k1 k2 k3 k5 : Option Value} {B newId initId : String}
theorem type_call_initT (F : ExcBaseFacts B newId initId bmB) (T : OwnTail h bmB bm) {mN : Str → Option Value} {rest : List Value} {fI : Addr} {oI : Obj} {Q : Fin → Shared → Prop}
    (hC : h.get? C = some (excClassObj nm q C N bs bm hdct sn sub ab col dd k0 k1 k2 k3 k5 newId)) (hn : h.Ns N mN) (hi : mN "__init__" = some (.ref fI))
    (hfI : h.get? fI = some oI) (hfc : oI.cls = .type "function")
    (hq : ∀ h' e, Heap.MadeExcOf h h' e (.ref C) rest →
      wpAny (model prog w) A (call (.ref fI) (.ref e :: rest)) (fun r s' => r = .none ∧ Q (.done (.ret (.ref e))) s') E ⟨h', g, d, t, os⟩) (hrest : rest.length ≤ sizeLine := by size_fits) :
    wpAny (model prog w) A (Builtin.«type.__call__» ⟨.ref C :: rest, []⟩) Q E ⟨h, g, d, t, os⟩ := by
  repeat (first | with_reducible refine wpAny_loadPart_at hC ?_ | with_reducible refine wpAny_madeBy_exc hC ?_ | wp_step)
  refine codeAny_call_builtin_code (Code.quiet_builtin _ F.quiet) (wpAny_check_new_subT F T hC ?_)
  refine codeAny_exc_new_subT F T hC ?_ hrest
  show wpAny _ _ _ _ _ _
  have hC₁ := Heap.get?_push_of_some { cls := .ref C, data := .fields #[.ref h.objs.size, .none, .none, .none, .bool false, .none] }
    (Heap.get?_push_of_some { cls := .type "tuple", data := .seq rest.toArray } hC)
  have hfI₁ := Heap.get?_push_of_some { cls := .ref C, data := .fields #[.ref h.objs.size, .none, .none, .none, .bool false, .none] }
    (Heap.get?_push_of_some { cls := .type "tuple", data := .seq rest.toArray } hfI)
  have hn₁ : ((h.push { cls := .type "tuple", data := .seq rest.toArray }).push { cls := .ref C, data := .fields #[.ref h.objs.size, .none, .none, .none, .bool false, .none] }).Ns N mN :=
    let ⟨o, es, ep, e, r⟩ := hn; ⟨o, es, ep, Heap.get?_push_of_some _ (Heap.get?_push_of_some _ e), r⟩
  have hget : ((h.push { cls := .type "tuple", data := .seq rest.toArray }).push
      { cls := .ref C, data := .fields #[.ref h.objs.size, .none, .none, .none, .bool false, .none] }).get? (h.objs.size + 1) = some
      { cls := .ref C, data := .fields #[.ref h.objs.size, .none, .none, .none, .bool false, .none] } := by heap_get
  have hcC : (Value.ref C :: bm).contains (.ref C) = true := by simp
  unfold isInstance
  repeat (first | with_reducible refine wpAny_loadPart_at hget ?_ | (with_reducible refine wpAny_isSubtype_exc hC₁ ?_; rw [hcC]) | wp_step)
  show wpAny _ _ (typeLookup (.ref C) _) _ _ _
  refine wpAny_typeLookup_tail hC₁ hn₁ (T.keeps (h' := (h.push { cls := .type "tuple", data := .seq rest.toArray }).push { cls := .ref C, data := .fields #[.ref h.objs.size, .none, .none, .none, .bool false, .none] }) fun b o e => Heap.get?_push_of_some _ (Heap.get?_push_of_some _ e)) F.mroIs F.init.lookup ?_
  rw [hi]
  refine wpAny_holding (wpAny_bind ?_)
  unfold bindSpecial
  refine wpAny_bind (wpAny_typeOf (T := "function") ⟨_, hfI₁, hfc⟩ ?_)
  rw [if_pos (by decide)]
  refine wpAny_pure (wpAny_bind (wpAny_mono (hq _ (h.objs.size + 1) ⟨fun b o hb => Heap.get?_push_of_some _ (Heap.get?_push_of_some _ hb), Heap.get?_none_of_le (Nat.le_succ _), h.objs.size, hget, Heap.get?_none_of_le (Nat.le_refl _), ?_⟩) (fun r s' hr => ?_) fun _ _ x => x))
  · exact Heap.get?_push_of_some _ (Heap.get?_push_at rfl rfl)
  · obtain ⟨rfl, hQ⟩ := hr
    wp_walk
    exact hQ

theorem call_initT (F : ExcBaseFacts B newId initId bmB) (T : OwnTail h bmB bm) {mN : Str → Option Value} {rest : List Value} {fI : Addr} {oI : Obj} {Q : Value → Shared → Prop}
    (hC : h.get? C = some (excClassObj nm q C N bs bm hdct sn sub ab col dd k0 k1 k2 k3 k5 newId)) (hn : h.Ns N mN) (hi : mN "__init__" = some (.ref fI))
    (hfI : h.get? fI = some oI) (hfc : oI.cls = .type "function")
    (hq : ∀ h' e, Heap.MadeExcOf h h' e (.ref C) rest →
      wpAny (model prog w) (A.under (.builtin "type.__call__" ⟨.ref C :: rest, []⟩)) (call (.ref fI) (.ref e :: rest)) (fun r s' => r = .none ∧ Q (.ref e) s') E ⟨h', g, d, t, os⟩) (hrest : rest.length ≤ sizeLine := by size_fits) :
    wpAny (model prog w) A (call (.ref C) rest) Q E ⟨h, g, d, t, os⟩ := by
  have f1 := tc_lookup
  have f2 := tc_bind (.ref C)
  have hT : (⟨h, g, d, t, os⟩ : Shared).TypeIs (.ref C) "type" := ⟨_, hC, rfl⟩
  refine wpAny_call (codeAny_of_tree ?_)
  show wpAny _ _ (callAny (.ref C) _) _ _ _
  repeat (any_goals (first | assumption | with_reducible refine wpAny_loadPart_at hC ?_ | wp_step))
  refine ⟨rfl, ?_⟩
  refine codeAny_call_builtin_at (Code.quiet_builtin _ (by decide +kernel)) entry_typeCall (wpAny_check_type_call_sub hC (type_call_initT (hrest := hrest) F T hC hn hi hfI hfc fun h' e hm => ?_))
  exact hq h' e hm
end
end L2

set_option Elab.async false
set_option linter.all false
set_option maxRecDepth 100000
namespace L2
open PySem PySem.Spec PyProof.Rows
theorem ns_some_of {K : PySem.W.Frag} {h : Heap} {N : Addr} {mg : Str → Option Value} {n : Str} {v : Value} (X : K.In h) (G : h.Ns N mg) (e : PySem.W.nsIn K N n = some (some v)) : mg n = some v := by
  obtain ⟨o, es, ep, ho, hd, _, hf⟩ := G
  unfold PySem.W.nsIn at e
  split at e
  · rename_i c d es' n' sl q
    have := X _ _ q
    rw [ho] at this
    cases this
    cases hd
    split at e
    · rename_i he
      cases e
      rw [← hf]
      unfold nsFind findBy
      rw [← Array.find?_toList, he]
      rfl
    · split at e <;> cases e
  · cases e
/-- the form of an __init__: super().__init__(f'a{p}b'); self.fld = p -/
structure InitS (fld : Str) (name qual : Str) (params : Arguments) (body : List Stmt) (scope : Scope) (slf par a b : Str) (p2 p3 : Pos) : Prop where
  bind : ∀ (kV doc pm : Value) (an : Option Addr) (cdv ct : Value) (cc : Addr) (us : List Value), us.length = 2 → bindArgs (PySem.W.ksFn name qual params body scope .none kV doc pm an cdv ct cc) ⟨us, []⟩ = pure ([slf, par].zip us)
  head : ∃ ar, (params.posonlyargs ++ params.args).head? = some ar ∧ ar.arg = slf
  ne : slf ≠ par
  sS : scope.names.lookup slf = some .local
  sP : scope.names.lookup par = some .local
  sU : scope.names.lookup ("super" : Str) = some .globalImplicit
  sC : scope.names.lookup ("__class__" : Str) = some .free
  nocell : ∀ x ∈ scope.names, x.2 ≠ .cell
  co : scope.isCoroutine = false
  gen : scope.isGenerator = false
  kind : scope.kind = .function
  dS : (slf == ("__debug__" : Str)) = false
  dP : (par == ("__debug__" : Str)) = false
  line : (p2.endLine == p3.line) = true
  len : a.length + b.length ≤ 1000
  fB : typeLookup (.type "ValueError") fld = pure none
/-- an own class of exceptions that keeps what it is made with in a field -/
def ICl (K : PySem.W.Frag) (mg : Str → Option Value) (prog : Program) (C : Addr) (fld : Str) : Prop :=
  quietIn K vmro fld (mroIn K C) = true ∧ ∃ (fI cc cda : Addr) (name qual : Str) (params : Arguments) (scope : Scope) (slf par a b : Str) (ka kb : Nat) (p0 p1 p2 p3 p4 p5 p6 p7 p8 pa pb pc pd pj : Pos),
    InitK K mg prog C fI cc cda name qual params [.Expr (.Call (.Attribute (.Call (.Name "super" p0) [] [] p1) "__init__" p2) [.JoinedStr [.Constant (.str a) ka pa, .FormattedValue (.Name par pb) (-1) none pc, .Constant (.str b) kb pd] pj] [] p3) p4, .Assign [.Attribute (.Name slf p5) fld p6] (.Name par p7) p8] scope vmro vnew ∧
    InitS fld name qual params [.Expr (.Call (.Attribute (.Call (.Name "super" p0) [] [] p1) "__init__" p2) [.JoinedStr [.Constant (.str a) ka pa, .FormattedValue (.Name par pb) (-1) none pc, .Constant (.str b) kb pd] pj] [] p3) p4, .Assign [.Attribute (.Name slf p5) fld p6] (.Name par p7) p8] scope slf par a b p2 p3
section
variable {prog : Program} {w : World} {A : Around} {E : Value → Shared → Prop} {s : Shared} {K : PySem.W.Frag} {mg : Str → Option Value} {C : Addr} {fld : Str}
/-- C(n), C such a class -/
theorem icl_call (c : ICl K mg prog C fld) {n : Int} {tk : Tok} {Q : Value → Shared → Prop} (hr : Room 2 A) (KX : K.In s.heap) (lim : s.heap.NoLimit) (hg : s.heap.Ns mainGlobals mg) (hb : ∃ mb, s.heap.Ns builtinsNs mb ∧ ∀ x : Str, x ≠ "__name__" → mb x = bootBuiltins x) (hn : n.natAbs.log2 < 1920)
    (hq : ∀ h' e t dA tk', (∀ b o, s.heap.get? b = some o → h'.get? b = some o) → s.heap.get? e = none → s.heap.get? dA = none → dA ≠ e → h'.get? e = some { cls := .ref C, dict := some dA, data := .fields #[.ref t, .none, .none, .none, .bool false, .none] } → h'.Ns1 dA (fun y => if y = fld then some (.int n tk) else none) → Q (.ref e) { s with heap := h', toks := tk' }) :
    wpAny (model prog w) A (call (.ref C) [.int n tk]) Q E s := by
  obtain ⟨qn, fI, cc, cda, name, qual, params, scope, slf, par, a, b, ka, kb, p0, p1, p2, p3, p4, p5, p6, p7, p8, pa, pb, pc, pd, pj, IK, IS⟩ := c
  obtain ⟨bm, N, nm, q, bs, sn, sub, ab, col, dd, k0, k1, k2, k3, k5, cd, hC, hmr, hcd, hcm, hV, hO, hal, hok, hin, htl⟩ := IK.cls
  obtain ⟨hp, g, d, tk0, os⟩ := s
  have hN : hp.Ns N (hp.nsMap N) := .of_isNs (PySem.W.isNs_of_in KX hok)
  have T := PySem.W.tail_of_in KX htl
  obtain ⟨od, osl, kV, doc, pm, an, ct, lk⟩ := IK.fn
  refine call_initT (N := N) (fI := fI) PySem.F.excBase_ValueError T (KX _ _ hC) hN (ns_some_of KX hN hin) (KX _ _ lk) rfl (fun h1 e m => ?_) (by show 1 ≤ sizeLine; decide)
  obtain ⟨kp, new, t, ht, tn, tt⟩ := m
  have heK : ∀ o, K.lookup e ≠ some o := fun o z => by
    have y : hp.get? e = some o := KX _ _ z
    rw [show hp.get? e = none from new] at y; cases y
  refine wpAny_call (init_run (tk := tk) (n := n) IK qn IS.fB heK ((hr.make C [.int n tk] []).depth) (fun b o z => kp b o (KX b o z)) (lim.keeps kp) (hg.keeps kp) ?_ ?_ IS.head IS.ne IS.sS IS.sP IS.sU IS.sC IS.nocell IS.co IS.gen IS.kind IS.dS IS.dP ht IS.line hn IS.len ?_)
  · obtain ⟨mb, z1, z2⟩ := hb
    exact ⟨mb, z1.keeps kp, z2⟩
  · exact fun kV doc pm an ct => .of_eq (IS.bind kV doc pm an (.ref cda) ct cc [.ref e, .int n tk] rfl)
  · intro h2 t2 dA tk2 he2 ndA hns k2
    have k3 : ∀ b o, hp.get? b = some o → h2.get? b = some o := fun b o z => k2 b o (fun y => by rw [y, show hp.get? e = none from new] at z; cases z) (kp b o z)
    refine ⟨rfl, hq h2 e t2 dA tk2 k3 new ?_ ?_ he2 hns⟩
    · cases z : hp.get? dA with
      | none => rfl
      | some o => rw [kp _ _ z] at ndA; cases ndA
    · rintro rfl
      rw [ht] at ndA; cases ndA
end
end L2

set_option Elab.async false
set_option linter.all false
set_option maxRecDepth 100000
namespace L2
open PySem PySem.Spec PyProof.Rows
section
variable {M : Model} {A : Around} {E : Value → Shared → Prop} {s : Shared} {env : Env}
def compPostX (fr : Option Addr) (M : Model) (A : Around) (E : Value → Shared → Prop) (use : Option (Value → Sem Unit)) (Q : Value → Shared → Prop) (acc : Value) (C : Addr) (r : Result) (s' : Shared) : Prop :=
  match r, use with
  | .ok _, none => ∃ m, s'.heap.Ns C m ∧ ∀ h', Heap.SameBut C s'.heap h' → Q acc { s' with heap := h' }
  | .ok _, some u => wpAny M A (u acc) (fun _ s'' => ∃ m, s''.heap.Ns C m ∧ ∀ h', Heap.SameBut C s''.heap h' → Q .none { s'' with heap := h' }) E s'
  | .error x, _ => ∃ m, s'.heap.Ns C m ∧ ∀ h', Heap.SameBut C s'.heap h' → ∀ cenv : Env, cenv.locals = C → cenv.frame = fr → wpAny M A (passOn "comprehension.variables-let-go" x cenv : Sem Value) (fun _ _ => False) E { s' with heap := h' }

theorem wpAny_comprehension_freeX {e : Expr} {scope : Scope} {pos : Pos} {newAcc first : Sem Value} {g : Comprehension} {gs : List Comprehension} {cl : List (Str × Addr)} {use : Option (Value → Sem Unit)}
    {Q : Value → Shared → Prop}
    (hcl : clausesOf e = g :: gs) (hs : ∀ x, foldedSetIterable g.iter env x = pure x) (hclos : closureFor scope env = pure cl)
    (hkind : scope.kind = .function) (hnames : ∀ x ∈ scope.names, x.2 = .local → scope.names.lookup x.1 = some .local)
    (h : wpAny M A first (fun x s₁ => wpAny M A (pyIter x) (fun it s₂ => wpAny M A newAcc (fun acc s₃ =>
      wpAny M A (newFunctionEnv scope env.globals cl [] env.qual none .none (some env)) (fun cenv s₄ =>
        codeAny M A (.compStart e 0 it acc { cenv with scope := relabel scope env }) (compPostX cenv.frame M A E use Q acc cenv.locals) s₄) E s₃) E s₂) E s₁) E s) :
    wpAny M A (comprehension e scope env pos newAcc false first use) Q E s := by
  unfold comprehension
  rw [hclos, hcl]
  refine wpAny_bind (wpAny_mono h (fun x s₁ h₁ => wpAny_bind (wpAny_standAt (wpAny_bind (wpAny_of_eq (hs x) (wpAny_bind (wpAny_holding (wpAny_mono h₁ (fun it s₂ h₂ =>
    wpAny_standIf (wpAny_bind (wpAny_mono h₂ (fun acc s₃ h₃ => wpAny_bind (wpAny_pure (wpAny_bind (wpAny_mono h₃ (fun cenv s₄ h₄ => ?_) fun _ _ h' => h')))) fun _ _ h' => h')))
      fun _ _ h' => h'))))))) fun _ _ h' => h')
  dsimp only
  have hv : ∀ x ∈ (scope.names.filter fun x => (x.2 == .local || x.2 == .cell) && x.1 != (".0" : Str)).reverse, x.2 = .local →
      Env.kindOf { cenv with scope := relabel scope env } x.1 = some .local := fun x hx hl => lookup_relabel_local (hnames x (List.mem_filter.mp (List.mem_reverse.mp hx)).1 hl)
  have hv' : ∀ x ∈ (scope.names.filter fun x => (x.2 == .local || x.2 == .cell) && x.1 != (".0" : Str)).reverse.drop 1 ++ (scope.names.filter fun x => (x.2 == .local || x.2 == .cell) && x.1 != (".0" : Str)).reverse.take 1,
      x.2 = .local → Env.kindOf { cenv with scope := relabel scope env } x.1 = some .local := fun x hx hl => by
    rcases List.mem_append.mp hx with h1 | h1
    · exact hv x (List.mem_of_mem_drop h1) hl
    · exact hv x (List.mem_of_mem_take h1) hl
  refine wpAny_holding (wpAny_bind (wpAny_attempt (wpAny_holding (wpAny_run (codeAny_mono h₄ fun r s' hr => ?_)))))
  cases r with
  | ok f =>
    cases use with
    | none =>
      obtain ⟨m, hn, hr⟩ := hr
      exact wpAny_bind (wpAny_holding (wpAny_comp_letGo (cenv := { cenv with scope := relabel scope env }) hkind _ s' m hv hn fun h' m' _ hs' => wpAny_pure (hr h' hs')))
    | some u =>
      refine wpAny_bind (wpAny_rule (wpAny_bind (wpAny_holding (wpAny_mono hr (fun _ s'' hr' => ?_) fun _ _ h' => h'))))
      obtain ⟨m, hn, hr'⟩ := hr'
      exact wpAny_bind (wpAny_comp_letGo (cenv := { cenv with scope := relabel scope env }) hkind _ s'' m hv' hn fun h' m' _ hs' => wpAny_pure (hr' h' hs'))
  | error x =>
    have hr' : ∃ m, s'.heap.Ns cenv.locals m ∧ ∀ h', Heap.SameBut cenv.locals s'.heap h' → ∀ cenv' : Env, cenv'.locals = cenv.locals → cenv'.frame = cenv.frame → wpAny M A (passOn "comprehension.variables-let-go" x cenv' : Sem Value) (fun _ _ => False) E { s' with heap := h' } := by cases use <;> exact hr
    obtain ⟨m, hn, hr⟩ := hr'
    exact wpAny_bind (wpAny_holding (wpAny_comp_letGo (cenv := { cenv with scope := relabel scope env }) hkind _ s' m hv hn fun h' m' _ hs' => wpAny_mono (hr h' hs' _ rfl rfl) (fun _ _ f => f.elim) fun _ _ y => y))
end
end L2

set_option Elab.async false
set_option linter.all false
set_option maxRecDepth 100000
namespace L2
open PySem PySem.Spec PyProof.Rows

/-! ### an exception that leaves a comprehension -/
/-- in a block: a callee's exception on its way -/
def XA (X : Cx) (R : XK) : Value → Shared → Prop := fun e s => ∃ (a C : Addr) (a0 : AD) (cx : Value) (B : Heap) (σ : St) (H : Hp),
  e = .ref a ∧ Inv X [] σ H s ∧ Air B X.stack a (.ref C) a0 cx .none s.heap ∧ Cov X B H ∧ Chn B s.heap H a cx ∧ R (.ref C) a0.2 H
abbrev Cx.exb (X : Cx) (R : XK) : Cx := X.wish (XA X R)
section
variable {X : Cx} {R : XK}
theorem pass1b : Passes (CX1 X.prog X.w) (X.exb R) (fun _ => R) := by
  intro pins σ H s e s' I h
  obtain ⟨a, C, a0, cx, B, H', rfl, os, bare, un, hok, air, trk, old, chn, q⟩ := h
  have I0 : Inv X pins σ H s := I.unwish
  have I1 : Inv X pins σ H' s' := I0.call' (ch := []) os un hok bare fun b z => nomatch z
  have nst : ∀ b, b ≠ X.env.locals → b ∉ X.fs → b ∉ frs X.stack := fun b h1 h2 z => (List.mem_cons.mp (I0.stkSub b z)).elim h1 h2
  refine ⟨a, C, a0, cx, B, σ, H', rfl, I1.pins_of fun p hp => (nomatch hp), air, ⟨trk, fun b o e hb hx => ?_, fun p hp => ?_⟩, chn, q⟩
  · obtain ⟨o1, e1⟩ := I0.base.there b o e hx
    exact old b o1 e1 (nst b (Nat.ne_of_lt (Nat.lt_of_lt_of_le (Heap.lt_size e) I0.ok.above)) hb)
  · obtain ⟨e, n, ne, nf, d⟩ := I0.pin p (List.mem_append_left _ hp)
    exact old p.1 p.2 e (nst p.1 ne nf)
end
theorem note_same {e : Value} {env env' : Env} (h : env.frame = env'.frame) : noteFrame e env = noteFrame e env' := by
  unfold noteFrame PySem.frameOf
  rw [h]
/-- the base without one object -/
theorem hide_in {B : Heap} {c b : Addr} {o : Obj} (h : B.get? b = some o) (n : b ≠ c) : (PySem.W.hideAll B [c]).get? b = some o := PySem.W.hideAll_get _ h (by simpa using n)
theorem hide_of {B : Heap} {c b : Addr} {o : Obj} (h : (PySem.W.hideAll B [c]).get? b = some o) : B.get? b = some o ∧ b ≠ c := by
  refine ⟨PySem.W.of_hideAll _ h, fun z => ?_⟩
  have := PySem.W.hideAll_none [c] (h := B) (b := b) (by simp [z])
  rw [this] at h; cases h
theorem hide_none {B : Heap} {c b : Addr} (h : B.get? b = none) : (PySem.W.hideAll B [c]).get? b = none := by
  cases e : (PySem.W.hideAll B [c]).get? b with
  | none => rfl
  | some o => have := (hide_of e).1; rw [h] at this; cases this
theorem Lain.hide {B : Heap} {l : List Env} {e c : Addr} {cls : Value} {a0 : AD} {cx fl : Value} {h : Heap} (x : Lain B l e cls a0 cx fl h) : Lain (PySem.W.hideAll B [c]) l e cls a0 cx fl h := by
  obtain ⟨st, off, ff, T, ex, offT, ne, o⟩ := x
  exact ⟨fun b o z => st b o (hide_of z).1, hide_none off, FunFrames_base ff (fun b m => hide_none (ff.mem m).1) fun b _ o z => z, T, ex, hide_none offT, ne, o⟩
/-- another thing changes, of which the base does not know -/
theorem Lain.but {B : Heap} {l : List Env} {e c : Addr} {cls : Value} {a0 : AD} {cx fl : Value} {h h' : Heap} {oc : Obj} (x : Lain (PySem.W.hideAll B [c]) l e cls a0 cx fl h) (hc : h.get? c = some oc) (nf : ∀ vs, oc.data ≠ .fields vs) (nl : c ∉ frs l) (sb : Heap.SameBut c h h') :
    Lain (PySem.W.hideAll B [c]) l e cls a0 cx fl h' := by
  obtain ⟨st, off, ff, T, ex, offT, ne, oT, ts, gT, dT, t3⟩ := x
  have same : ∀ b o, b ≠ c → h.get? b = some o → h'.get? b = some o := fun b o n z => (sb.2 b n).trans z
  have fld : ∀ b o vs, h.get? b = some o → o.data = .fields vs → b ≠ c := fun b o vs z d y => by
    subst y; rw [hc] at z; cases z; exact nf vs d
  obtain ⟨oe, vs, ge, gc, gd, g0, g1, g2⟩ := ex.obj
  exact ⟨fun b o z => same b o (hide_of z).2 (st b o z), off, FunFrames_base ff (fun b m => (ff.mem m).1) fun b m o z => same b o (fun y => nl (y ▸ m)) z, T, ⟨oe, vs, same _ _ (fld _ _ _ ge gd) ge, gc, gd, g0, g1, g2⟩, offT, ne, oT, ts, same _ _ (fld _ _ _ gT dT) gT, dT, t3⟩

section
variable {X : Cx} {R : XK} {pins : List (Addr × Obj)} {σ : St}
/-- out of the block -/
theorem blk_out {s3 s' : Shared} {H3 : Hp} {scope : Scope} {ce : Env} {fp : List Addr} {e : Value} {use : Option (Value → Sem Unit)} {Qf : Value → Shared → Prop} {acc : Value}
    (hst : X.stack = X.env :: X.outer) (hf : X.env.frame = some X.env.locals) (I3 : Inv X pins σ H3 s3) (cL : ce.locals = s3.heap.objs.size) (cF : ce.frame = X.env.frame)
    (f3 : ∀ b ∈ fp, FpOk X pins H3 b ∧ b < s3.heap.objs.size) (hx : XA (X.blk s3 H3 scope ce fp) R e s') :
    notedBy (model X.prog X.w) X.A ce (fun e s' => compPostX ce.frame (model X.prog X.w) X.A (XE X fun _ => R) use Qf acc s3.heap.objs.size (.error e) s') e s' := by
  obtain ⟨a, C, a0, cx, B, σb, H', rfl, Ib, air, cv, chn, q⟩ := hx
  unfold notedBy
  rw [note_same cF]
  have air : Air B X.stack a (.ref C) a0 cx .none s'.heap := air
  have fr := I3.ok.frames
  rw [hst] at air fr
  refine air_note (env := X.env) (outer := X.outer) fr hf air fun h1 l1 u1 => ?_
  rw [← hst] at l1 air
  -- where things lie
  obtain ⟨m, hn, _⟩ := Ib.loc
  have hn : s'.heap.Ns s3.heap.objs.size m := by rw [← cL]; exact hn
  have hn1 := u1.ns hn
  have nC : H' s3.heap.objs.size = none := by
    have z : H' ce.locals = none := Ib.free
    rw [cL] at z
    exact z
  have I7 : Inv X pins σ H' s' := I3.call' (ch := fp) Ib.os Ib.base Ib.hok Ib.bare fun b hb => ⟨(f3 b hb).1.2.2.2.1, (f3 b hb).1.2.1, (f3 b hb).1.2.2.2.2.1, (f3 b hb).1.2.2.2.2.2⟩
  have I7 : Inv X [] σ H' s' := I7.pins_of fun p hp => (nomatch hp)
  have FC : FpOk X [] H' s3.heap.objs.size := (I3.pins_of (pins' := []) fun p hp => (nomatch hp)).fpOk (Nat.le_refl _) nC
  have nst : ∀ b, b ≠ X.env.locals → b ∉ X.fs → b ∉ frs X.stack := fun b h1 h2 z => (List.mem_cons.mp (I3.stkSub b z)).elim h1 h2
  have nfr : s3.heap.objs.size ∉ frs X.stack := fun z => by
    obtain ⟨_, o, ho, _⟩ := I3.stack.mem z
    exact absurd (Heap.lt_size ho) (Nat.lt_irrefl _)
  obtain ⟨ch, ecx, cc, na, lk⟩ := chn
  obtain ⟨oC, es, ep, hoC, hdC, _⟩ := id hn
  obtain ⟨oC1, es1, ep1, hoC1, hdC1, _⟩ := id hn1
  have nfC1 : ∀ vs, oC1.data ≠ .fields vs := fun vs z => by rw [hdC1] at z; cases z
  have nch : ∀ x ∈ ch, x ≠ s3.heap.objs.size := fun x mx z => by
    obtain ⟨o, ws, y, yd⟩ := cc.there mx
    rw [z, hoC] at y; cases y
    rw [hdC] at yd; cases yd
  have cvB : Cov X (PySem.W.hideAll B [s3.heap.objs.size]) H' := by
    refine ⟨fun b u z => ?_, fun b o z hb hx => ?_, fun p hp => ?_⟩
    · obtain ⟨o, y⟩ := cv.trk b u z
      exact ⟨o, hide_in y fun w => by rw [w, nC] at z; cases z⟩
    · obtain ⟨o1, e1⟩ := I3.base.there b o z hx
      have lt0 : b < X.s_0.heap.objs.size := Heap.lt_size z
      obtain ⟨o', y⟩ := cv.old b o1 e1 (nst b (Nat.ne_of_lt (Nat.lt_of_lt_of_le lt0 I3.ok.above)) hb) fun w => (f3 b w).1.2.2.2.1.elim hx fun v => absurd lt0 (Nat.not_lt.mpr v)
      exact ⟨o', hide_in y fun w => by rw [w] at e1; exact absurd (Heap.lt_size e1) (Nat.lt_irrefl _)⟩
    · obtain ⟨o', y⟩ := cv.pn p hp
      obtain ⟨e1, _⟩ := I3.pin p (List.mem_append_left _ hp)
      exact ⟨o', hide_in y fun w => by rw [w] at e1; exact absurd (Heap.lt_size e1) (Nat.lt_irrefl _)⟩
  have chB : Chn (PySem.W.hideAll B [s3.heap.objs.size]) s'.heap H' a cx := ⟨ch, ecx, cc, na, fun x mx => let ⟨⟨o, y⟩, z⟩ := lk x mx; ⟨⟨o, hide_in y (nch x mx)⟩, z⟩⟩
  have st0 : (PySem.W.hideAll B [s3.heap.objs.size]).StaysIn s'.heap := fun b o z => air.stay b o (hide_of z).1
  have l1 : Lain (PySem.W.hideAll B [s3.heap.objs.size]) X.stack a (.ref C) a0 cx (rawInt X.env.locals) h1 := l1.hide
  have I8 := inv_air (h' := h1) I7 st0 l1.stay u1 cvB
  have ch8 := chB.keeps st0 l1.stay
  refine ⟨m, hn1, fun h2 sb cenv _ ef => ?_⟩
  have l2 := l1.but hoC1 nfC1 nfr sb
  have I9 : Inv X [] σ H' { s' with heap := h2 } := I8.turned (t' := s'.toks) (fun b o hb e => (sb.2 b hb).trans e) FC.1 FC.2.1 FC.2.2.2.1 FC.2.2.2.2.1 FC.2.2.2.2.2
  have ch9 := ch8.keeps l1.stay l2.stay
  unfold PySem.passOn
  obtain ⟨T, x, y⟩ := id l2.ex
  obtain ⟨oe, vs, ge, gc, gd, g0, g1, g2⟩ := x.obj
  refine wpAny_bind (wpAny_field ge gd g1 ?_)
  rw [if_neg (show ¬ ((Value.ref T == Value.none) = true) from Bool.false_ne_true), ef, cF, hf]
  refine wpAny_bind (lain_set (s := { s' with heap := h2 }) (fo := some X.env.locals) l2 fun h3 l3 u3 => wpAny_throw ?_)
  have I10 := inv_air (s := { s' with heap := h2 }) (h' := h3) I9 l2.stay l3.stay u3 cvB
  exact ⟨a, C, a0, cx, _, σ, H', rfl, I10, .inr l3, cvB, ch9.keeps l2.stay l3.stay, q⟩
end
end L2

set_option Elab.async false
set_option linter.all false
set_option maxRecDepth 100000
namespace L2
open PySem PySem.Spec PyProof.Rows
section
variable {X : Cx} {R : XK}
theorem lc_coreX (hst : X.stack = X.env :: X.outer) (hf : X.env.frame = some X.env.locals) {pins : List (Addr × Obj)} {s : Shared} {σ : St} {H : Hp} {Q : VK} {elt tg iter : Expr} {ifs : List Expr} {scope : Scope} {own : List (Str × Nat)} {pos pos' : Pos} {wi : TI} {g : TG} {tt : TT} {te : TE} {use : Option (Value → Sem Unit)} {Qf : Value → Shared → Prop}
    (hc : true = true) (hN : X.N.Nodup) (I : Inv X pins σ H s) (hi : PI (X.exc fun _ => R) tg iter wi) (ok : BlkOk X.N X.env.scope scope own)
    (hg : ∀ (s : Shared) (H : Hp) (C : Addr) (cl : List (Str × Addr)) (fp : List Addr), PG (X.blk s H scope (compEnvC scope cl C X.env) fp) tg g) (ht : ∀ (s : Shared) (H : Hp) (C : Addr) (cl : List (Str × Addr)) (fp : List Addr), PTs (X.blk s H scope (compEnvC scope cl C X.env) fp) ifs tt)
    (he : ∀ (s : Shared) (H : Hp) (C : Addr) (cl : List (Str × Addr)) (fp : List Addr), PE ((X.blk s H scope (compEnvC scope cl C X.env) fp).exb R) elt te) (hs : ∀ x, foldedSetIterable iter X.env x = pure x)
    (h : tLc wi g tt te (own.map (·.2)) σ H Q)
    (hRR : ∀ D C s' m H', Inv X pins σ H' s' → Q (.ref D) H' → s'.heap.Ns C m → FpOk X pins H' C → compPostX X.env.frame (model X.prog X.w) X.A (XE X fun _ => R) use Qf (.ref D) C (.ok .next) s') :
    wpAny (model X.prog X.w) X.A (comprehension (.ListComp elt [⟨tg, iter, ifs, 0⟩] scope pos) scope X.env pos' (newList []) false (eval iter X.env) use) Qf (XE X fun _ => R) s := by
  have hfree : ∀ y ∈ scope.names, y.2 = .free → ∃ c, X.env.cells.lookup y.1 = some c := fun y hy e => by
    rcases ok.free y hy e with k | k
    · exact I.ok.has _ (.inl k)
    · exact I.ok.has _ (.inr k)
  refine wpAny_comprehension_freeX (use := use) rfl hs (closure_ok hfree) ok.kind (fun y hy e => by rw [ok.uniq y hy, e])
    (thn (hi pins s σ H _ (I.wish _) h) fun xv s1 hx => thn hx fun itv s2 h2 => ?_)
  obtain ⟨it, fp, tn, J, H2, e, I2, ⟨cm, hcm, T⟩, st2, f2, q⟩ := h2
  subst e
  have I2 : Inv X pins σ H2 s2 := I2.unwish
  have f2 : ∀ b ∈ fp, FpOk X pins H2 b := f2
  refine wpAny_newObj_type (newEnv_comp ?_) (by show 0 ≤ sizeLine; decide)
  generalize hD : s2.heap.objs.size = D
  have hDn : H2 D = none := I2.hok.fresh (Nat.le_of_eq hD)
  obtain ⟨W, ⟨m0, w0⟩, turn⟩ := q D hDn
  -- the new list
  generalize hs3 : ({ s2 with heap := s2.heap.push { cls := .type "list", data := .seq ([] : List Value).toArray } } : Shared) = s3
  have I3 : Inv X pins σ (upd H2 D (.lst [])) s3 := by
    rw [← hs3]
    refine I2.laid (t' := s2.toks) (fun b o e => Heap.get?_push_of_some _ e) (Nat.le_of_eq hD) ⟨Nat.zero_le _, [], 0, .nil, ?_⟩
    rw [← hD]
    exact Heap.get?_push_size _ rfl
  have h3 : s3.heap = s2.heap.push { cls := .type "list", data := .seq ([] : List Value).toArray } := by rw [← hs3]
  have sz : ∀ b ∈ fp, b < s2.heap.objs.size := fun b hb => by
    obtain ⟨o, e, _⟩ := T.obj _ _ st2 b hb
    exact Heap.lt_size e
  have f3 : ∀ b ∈ fp, FpOk X pins (upd H2 D (.lst [])) b ∧ b < s3.heap.objs.size := fun b hb => by
    have hlt := sz b hb
    refine ⟨⟨?_, (f2 b hb).2⟩, by rw [h3, Heap.size_push]; exact Nat.lt_succ_of_lt hlt⟩
    rw [upd_ne (by rw [← hD]; exact Nat.ne_of_lt hlt)]
    exact (f2 b hb).1
  have st3 : tn 0 s3.heap := T.keep _ _ _ st2 fun b _ o e => by rw [h3]; exact Heap.get?_push_of_some _ e
  have I4 := block_start I3 ok hN f3
  have pg := hg s3 (upd H2 D (.lst [])) s3.heap.objs.size (cellsFrom (s3.heap.objs.size + 1) scope.names (cloFrom X.env.cells scope.names [])) fp
  have pt := ht s3 (upd H2 D (.lst [])) s3.heap.objs.size (cellsFrom (s3.heap.objs.size + 1) scope.names (cloFrom X.env.cells scope.names [])) fp
  have pe := he s3 (upd H2 D (.lst [])) s3.heap.objs.size (cellsFrom (s3.heap.objs.size + 1) scope.names (cloFrom X.env.cells scope.names [])) fp
  show codeAny _ _ (.compStart (.ListComp elt [⟨tg, iter, ifs, 0⟩] scope pos) 0 (.ref it) (.ref D) (compEnvC scope (cellsFrom (s3.heap.objs.size + 1) scope.names (cloFrom X.env.cells scope.names [])) s3.heap.objs.size X.env)) (compPostX X.env.frame (model X.prog X.w) X.A (XE X fun _ => R) use Qf (.ref D) s3.heap.objs.size) { s3 with heap := pushCells (s3.heap.push { cls := .type "dict", data := .dict #[] }) scope.names }
  have nfp : ∀ b ∈ fp, (upd H2 D (.lst [])) b = none := fun b hb => (f3 b hb).1.1
  generalize hce : compEnvC scope (cellsFrom (s3.heap.objs.size + 1) scope.names (cloFrom X.env.cells scope.names [])) s3.heap.objs.size X.env = ce at I4 pg pt pe ⊢
  have cL : ce.locals = s3.heap.objs.size := by subst hce; rfl
  have cF : ce.frame = X.env.frame := by subst hce; rfl
  generalize hH3 : upd H2 D (.lst []) = H3 at I3 I4 pg pt pe w0 nfp f3
  generalize hs4 : ({ s3 with heap := pushCells (s3.heap.push { cls := .type "dict", data := .dict #[] }) scope.names } : Shared) = s4 at I4 ⊢
  have st4 : tn 0 s4.heap := T.keep _ _ _ st3 fun b _ o e => by rw [← hs4]; exact pushCells_keeps _ _ _ _ (Heap.get?_push_of_some _ e)
  have stat : ∀ {σ' : St} {H' : Hp} {s' : Shared}, Inv (X.blk s3 H3 scope ce fp) [] σ' H' s' → (∀ b ∈ fp, H' b = none) → ∀ b ∈ fp, FpOk (X.blk s3 H3 scope ce fp) [] H' b := fun {σ' H' s'} I' hn b hb =>
    ⟨hn b hb, (I'.ok.exf b hb).1, I'.ok.exfs b hb, .inl hb, fun x c e => (I'.ok.exf b hb).2 x c e, fun p hp => (f3 b hb).1.2.2.2.2.2 p (List.mem_append_left _ (by simpa using hp))⟩
  have loop : codeAny (model X.prog X.w) X.A (.compLoop (.ListComp elt [⟨tg, iter, ifs, 0⟩] scope pos) 0 (.ref it) (.ref D) ce) (compPostX X.env.frame (model X.prog X.w) X.A (XE X fun _ => R) use Qf (.ref D) s3.heap.objs.size) s4 := by
    refine compLoop_any (fun n s' => ∃ i H', Inv (X.blk s3 H3 scope ce fp) [] (wipe σ (own.map (·.2))) H' s' ∧ tn i s'.heap ∧ (∀ b ∈ fp, H' b = none) ∧ W i n H') ?_ m0 ⟨0, H3, I4, st4, nfp, w0⟩
    rintro n s5 ⟨i, H5, I5, st5, n5, w5⟩
    rcases turn i n H5 w5 with ⟨stop, qq⟩ | ⟨go, Nx, hNx, step⟩
    · have td := T.done (X.blk s3 H3 scope ce fp) rfl rfl rfl hcm i [] s5 _ H5 (fun _ _ => False) I5 (stat I5 n5) st5 stop
      refine thnF td fun r s6 ⟨hr, I6⟩ => ?_
      subst hr
      -- back in the def's context
      have I7 : Inv X pins σ H5 s6 := I3.call' (ch := fp) I6.os I6.base I6.hok I6.bare fun b hb => ⟨(f3 b hb).1.2.2.2.1, (f3 b hb).1.2.1, (f3 b hb).1.2.2.2.2.1, (f3 b hb).1.2.2.2.2.2⟩
      have nC : H5 s3.heap.objs.size = none := by
        have z : H5 ce.locals = none := I6.free
        rw [cL] at z
        exact z
      obtain ⟨m, hn, _⟩ := I6.loc
      have hn : s6.heap.Ns ce.locals m := hn
      rw [cL] at hn
      exact hRR D s3.heap.objs.size s6 m H5 I7 qq hn (I3.fpOk (Nat.le_refl _) nC)
    · have ti := T.item (X.blk s3 H3 scope ce fp) rfl rfl rfl hcm i [] s5 _ H5 (fun _ _ => False) I5 (stat I5 n5) st5 go
      refine thnF ti fun r s6 ⟨u, hr, h6⟩ => ?_
      subst hr
      refine thnF h6 fun _ s7 ⟨x, H7, I7, r7, y7, st7, n7⟩ => ?_
      have I7' := I7.pinned (stat I7 n7) (T.obj _ _ st7)
      refine thnF (pg _ s7 _ H7 x u _ I7' r7 (step x H7 y7)) fun _ s8 ⟨σ8, H8, I8, hw8, q8⟩ => ?_
      refine thnF (pt _ s8 σ8 H8 _ I8 q8) fun b s9 ⟨H9, I9, q9⟩ => ?_
      -- the turn's end
      have fin : ∀ {s' : Shared} {H' : Hp}, Inv (X.blk s3 H3 scope ce fp) ([] ++ pinsAt fp s7.heap) σ8 H' s' → Nx H' → ∃ m, m < n ∧ ∃ i H', Inv (X.blk s3 H3 scope ce fp) [] (wipe σ (own.map (·.2))) H' s' ∧ tn i s'.heap ∧ (∀ b ∈ fp, H' b = none) ∧ W i m H' := fun {s' H'} I' nx => by
        obtain ⟨m', hm, w'⟩ := hNx H' nx
        have pin' : ∀ b ∈ fp, ∀ o, s7.heap.get? b = some o → s'.heap.get? b = some o ∧ H' b = none := fun b hb o e =>
          let z := I'.pin (b, o) (List.mem_append_right _ (List.mem_append_right _ (mem_pinsAt hb e)))
          ⟨z.1, z.2.1⟩
        have hl : (wipe σ (own.map (·.2))).length = σ8.length := by rw [← hw8, wipe_length]
        refine ⟨m', hm, i + 1, H', (I'.unpinned (pins := [])).weak hl (fun j v e => ?_), T.keep _ _ _ st7 fun b hb o e => (pin' b hb o e).1, fun b hb => ?_, w'⟩
        · rw [← hw8] at e
          exact (wipe_some e).1
        · obtain ⟨o, e, _⟩ := T.obj _ _ st7 b hb
          exact (pin' b hb o e).2
      cases b with
      | false =>
        simp only [Bool.false_eq_true, if_false] at q9 ⊢
        exact fin I9 q9
      | true =>
        simp only [if_true] at q9 ⊢
        refine wpAny_mono (pe _ s9 σ8 H9 _ (I9.wish _) q9) (fun z s10 ⟨yv, H10, I10, r10, acc, hD10, hz10, nx⟩ => ?_) fun e s10 hx => by have z := blk_out (use := use) (Qf := Qf) (acc := .ref D) hst hf I3 cL cF f3 hx; rw [cF] at z; exact z
        have I10 : Inv (X.blk s3 H3 scope ce fp) _ σ8 H10 s10 := I10.unwish
        exact app_ok (X := X.blk s3 H3 scope ce fp) I10 hD10 hz10 r10 fun s11 I11 => fin I11 nx
  exact codeAny_compStart_list loop (T.self X.A 0 _ _ _ st4 loop)
/-- as a value -/
theorem pe_lcX (hst : X.stack = X.env :: X.outer) (hf : X.env.frame = some X.env.locals) {elt tg iter : Expr} {ifs : List Expr} {scope : Scope} {own : List (Str × Nat)} {pos : Pos} {wi : TI} {g : TG} {tt : TT} {te : TE} (hc : true = true) (hN : X.N.Nodup) (hi : PI (X.exc fun _ => R) tg iter wi) (ok : BlkOk X.N X.env.scope scope own)
    (hg : ∀ (s : Shared) (H : Hp) (C : Addr) (cl : List (Str × Addr)) (fp : List Addr), PG (X.blk s H scope (compEnvC scope cl C X.env) fp) tg g) (ht : ∀ (s : Shared) (H : Hp) (C : Addr) (cl : List (Str × Addr)) (fp : List Addr), PTs (X.blk s H scope (compEnvC scope cl C X.env) fp) ifs tt)
    (he : ∀ (s : Shared) (H : Hp) (C : Addr) (cl : List (Str × Addr)) (fp : List Addr), PE ((X.blk s H scope (compEnvC scope cl C X.env) fp).exb R) elt te) (hs : ∀ x, foldedSetIterable iter X.env x = pure x := by intro _; rfl) :
    PE (X.exc fun _ => R) (.ListComp elt [⟨tg, iter, ifs, 0⟩] scope pos) (tLc wi g tt te (own.map (·.2))) := by
  intro pins s σ H Q I h
  rw [eval_ListComp]
  refine lc_coreX hst hf hc hN I.unwish hi ok hg ht he hs h fun D C s' m H' I' q hn f => ⟨m, hn, fun h'' sb => ?_⟩
  obtain ⟨f0, f1, f2, f3, f4, f5⟩ := f
  refine ⟨.ref D, H', Inv.wish (X := X) ?_ _, rfl, q⟩
  exact I'.turned (t' := s'.toks) (fun b o hb e => (sb.2 b hb).trans e) f0 f1 f3 f4 f5

end
end L2

set_option Elab.async false
set_option linter.all false
set_option maxRecDepth 100000
namespace WB
open PySem PySem.Spec PyProof.Rows L2

/-! ### kinds of values, isinstance -/
/-- the built-in kind of a value, by its name -/
inductive TyS (H : Hp) : V → String → Prop where
  | non : TyS H .non "NoneType"
  | bl (x : Bool) : TyS H (.bl x) "bool"
  | int (i : Int) : TyS H (.int i) "int"
  | str (x : Str) : TyS H (.str x) "str"
  | lst {a : Addr} {xs : List V} (e : H a = some (.lst xs)) : TyS H (.ref a) "list"
  | frz {a : Addr} {o : Obj} {xs : List V} (e : H a = some (.frz o (.lst xs))) : TyS H (.ref a) "list"
  | tup {a : Addr} {xs : List V} (e : H a = some (.tup xs)) : TyS H (.ref a) "tuple"
  | dK {a : Addr} {kvs : List (Key × V)} (e : H a = some (.dK kvs)) : TyS H (.ref a) "dict"
  | dT {a : Addr} {kvs : List (List Key × V)} (e : H a = some (.dT kvs)) : TyS H (.ref a) "dict"
theorem TyS.ty {K : PySem.W.Frag} {H : Hp} {x : V} {t : String} (h : TyS H x t) : TyOf K H x (.type t) := by
  cases h with
  | non => exact .non
  | bl b => exact .bl b
  | int i => exact .int i
  | str s => exact .str s
  | lst e => exact .lst e
  | frz e => exact .frz e
  | tup e => exact .tup e
  | dK e => exact .dK e
  | dT e => exact .dT e
def isA (t n : String) : Bool := decide (t = n) || (decide (t = "bool") && decide (n = "int"))
def kinds : List String := ["NoneType", "bool", "int", "str", "list", "tuple", "dict"]
def asked : List String := ["bool", "int", "str", "list", "tuple", "dict"]
theorem kit_all : ∀ t ∈ kinds, ∀ n ∈ asked, ∀ K : PySem.W.Frag, PySem.W.kitOne K (.type t) (.type n) = some (isA t n) := by
  intro t ht n hn K
  simp only [kinds, asked, List.mem_cons, List.not_mem_nil, or_false] at ht hn
  rcases ht with rfl | rfl | rfl | rfl | rfl | rfl | rfl <;> rcases hn with rfl | rfl | rfl | rfl | rfl | rfl <;> rfl
theorem TyS.mem {H : Hp} {x : V} {t : String} (h : TyS H x t) : t ∈ kinds := by
  cases h <;> simp [kinds]
section
variable {X : Cx}
/-- isinstance(x, n) -/
def rIsi : List V → Hp → VK → Prop := fun xs H Q => ∃ x n t, xs = [x, .ty n] ∧ TyS H x t ∧ n ∈ asked ∧ Q (.bl (isA t n)) H
theorem cr_isi : CallR X (.builtin "isinstance") rIsi := by
  intro pins s σ H xs us Q I r h
  obtain ⟨x, n, t, rfl, ty, hn, q⟩ := h
  obtain ⟨u, v, rfl, ru, rv⟩ := r.two
  obtain rfl : v = Value.type n := rv
  exact isinst_ok I ru ty.ty (kit_all t ty.mem n hn X.K) fun tk => ⟨.bl _, H, I.tok _, rfl, q⟩
end

/-! ### data: in, index -/
section
variable {X : Cx}
def rInD (K : PySem.W.Frag) (neg : Bool) : R2 := fun x y H Q => ∃ p xs d ds, y = .ref p ∧ SqL K H p xs ∧ Dp K H x d ∧ DpAll K H xs ds ∧ PyData.canLayAll0 ds = true ∧ d.canLay0 = true ∧ d.depth ≤ 63 ∧
  Q (.bl (if neg then !(ds.any fun z => PyData.eqv z d) else ds.any fun z => PyData.eqv z d)) H
theorem op_inD (hu : X.A.units + 64 < cLine) : OpR X (compareOp .In) (rInD X.K false) := by
  intro pins s σ H x y v u Q I rx ry h
  obtain ⟨p, xs, d, ds, rfl, hs, hd, hds, c1, c2, dd, q⟩ := h
  obtain ⟨as, r1⟩ := Dp.reads I d x v hd rx
  obtain ⟨bs, r2⟩ := Dp.reads I (.list ds) (.ref p) u (.lst hs hds) ry
  exact SeqAt.in_list_reads r2 r1 c1 c2 (by omega) ⟨.bl _, H, I, rfl, q⟩
def rIndexD (K : PySem.W.Frag) : V → List V → Hp → VK → Prop := fun x vs H Q => ∃ (a : Addr) (y : V) (xs : List V) (d : PyData) (ds : List PyData) (j : Nat), x = .ref a ∧ vs = [y] ∧ SqL K H a xs ∧ Dp K H y d ∧ DpAll K H xs ds ∧
  PyData.canLayAll0 ds = true ∧ d.canLay0 = true ∧ d.depth ≤ 63 ∧ (∃ z, ds[j]? = some z ∧ PyData.eqv z d = true) ∧ (∀ m z, m < j → ds[m]? = some z → PyData.eqv z d = false) ∧ Q (.int (j : Nat)) H
theorem mt_indexD (hu : X.A.units + 64 < cLine) : MtR X "list.index" (rIndexD X.K) := by
  intro pins s σ H x vs v us Q I rx rvs h
  obtain ⟨a, y, xs, d, ds, j, rfl, rfl, hs, hd, hds, c1, c2, dd, ⟨z, hz, ez⟩, hno, q⟩ := h
  cases rx
  obtain ⟨uy, rfl, ry⟩ := rvs.one
  obtain ⟨its, rv, ⟨⟨cls, dd', data, sl⟩, n, ho, hc, hdn, hdat⟩, hlen⟩ := I.list hs
  simp only at hc hdat
  subst hc hdat
  obtain ⟨as, r1⟩ := Dp.reads I d y uy hd ry
  obtain ⟨bs, r2⟩ := Dp.readsAll I ds xs its hds rv
  have hmap := SeqAt.readsAll_map ds its bs c1 r2
  have hsl := sizeLine_eq
  have hl : its.length = ds.length := by rw [← hmap, List.length_map]
  have hjl : j < ds.length := (List.getElem?_eq_some_iff.mp hz).1
  have hvl := rv.length
  have at_ : ∀ m (h : m < its.length), ds[m]? = some (SeqAt.readOf s.heap its[m]) := fun m h => by
    rw [← hmap, List.getElem?_map, List.getElem?_eq_getElem h]; rfl
  refine call_meets PySem.F.slot_list_index ⟨_, ho, rfl⟩ PySem.F.entry_list_index (PySem.F.args_list_index_2 _ _)
      (SeqAt.list_indexAt a its.toArray n dd' sl uy (fun y => PyData.eqv (SeqAt.readOf s.heap y) d) j (by simpa using (by omega : j < its.length)) (by omega) ?_ ?_) ⟨ho, SeqAt.items_eqAt (by simpa using r2) r1 c1 c2 (by omega), ?_⟩
  · have h1 := at_ j (by omega)
    rw [hz] at h1
    cases h1
    simpa using ez
  · intro m hm hmj
    have hm' : m < its.length := by simpa using hm
    simpa using hno m _ hmj (at_ m hm')
  · exact ⟨.int (j : Nat), H, I.tok _, ⟨_, rfl⟩, q⟩
end

/-! ### what stays under growth of the heap -/
theorem Same.sqT {K : PySem.W.Frag} {H H' : Hp} {a : Addr} {xs : List V} (e : Same H H') (h : SqT K H a xs) : SqT K H' a xs := by
  rcases h with (h | ⟨o, h⟩) | h
  · exact .inl (.inl (e _ _ h))
  · exact .inl (.inr ⟨o, e _ _ h⟩)
  · exact .inr h
mutual
theorem Dp.same {K : PySem.W.Frag} {H H' : Hp} (e : Same H H') : ∀ {v : V} {d : PyData}, Dp K H v d → Dp K H' v d
  | _, _, .non => .non
  | _, _, .bl b => .bl b
  | _, _, .int i => .int i
  | _, _, .str x => .str x
  | _, _, .lst h1 h2 => .lst (e.seq h1) (DpAll.same e h2)
  | _, _, .tup h1 h2 => .tup (Same.sqT e h1) (DpAll.same e h2)
theorem DpAll.same {K : PySem.W.Frag} {H H' : Hp} (e : Same H H') : ∀ {vs : List V} {ds : List PyData}, DpAll K H vs ds → DpAll K H' vs ds
  | _, _, .nil => .nil
  | _, _, .cons h1 h2 => .cons (Dp.same e h1) (DpAll.same e h2)
end
theorem upd_old {H : Hp} {a p : Addr} {o o' : HO} (h : H a = some o) (hn : H p = none) : upd H p o' a = some o := by
  rw [upd_ne (ne_of_none h hn)]; exact h
theorem Same.upd {H : Hp} {p : Addr} {o : HO} (hn : H p = none) : Same H (upd H p o) := fun _ _ h => upd_old h hn
end WB

set_option Elab.async false
set_option linter.all false
set_option maxRecDepth 100000
namespace WB
open PySem PySem.Spec PyProof.Rows L2

/-! ### numbers -/
def inR (x : V) (lo hi : Int) : Bool := match x with
  | .int i => decide (lo ≤ i) && decide (i ≤ hi)
  | _ => false

theorem itT {c : Bool} {A B : Prop} (h : c = true) (a : A) : if c = true then A else B := by rw [if_pos h]; exact a
theorem itF {c : Bool} {A B : Prop} (h : c = false) (b : B) : if c = true then A else B := by rw [if_neg (by rw [h]; decide)]; exact b
theorem line_ge0 : (1000000 : Nat) < sizeLine := by rw [sizeLine_eq]; decide

/-! ### frames -/
/-- all but what stands at F stays -/
def Fr (F : List Addr) (H H' : Hp) : Prop := ∀ b o, H b = some o → b ∉ F → H' b = some o
theorem Fr.refl (F : List Addr) (H : Hp) : Fr F H H := fun _ _ h _ => h
theorem Fr.trans {F : List Addr} {H H1 H2 : Hp} (a : Fr F H H1) (b : Fr F H1 H2) : Fr F H H2 := fun c o h n => b c o (a c o h n) n
theorem Fr.mono {F G : List Addr} {H H' : Hp} (a : Fr F H H') (s : ∀ x, x ∈ F → x ∈ G) : Fr G H H' := fun b o h n => a b o h fun z => n (s b z)
theorem Fr.same {H H' : Hp} (a : Same H H') (F : List Addr) : Fr F H H' := fun b o h _ => a b o h
theorem Fr.new {F : List Addr} {H : Hp} {p : Addr} {o : HO} (hn : H p = none) : Fr F H (upd H p o) := fun _ _ h _ => upd_old h hn
theorem Fr.put {F : List Addr} {H : Hp} {p : Addr} {o : HO} (hp : p ∈ F) : Fr F H (upd H p o) := fun b _ h n => by
  rw [upd_ne (fun e : b = p => n (by rw [e]; exact hp))]; exact h
theorem Fr.free {F : List Addr} {H H' : Hp} (a : Fr F H H') {p : Addr} (hn : H' p = none) (hp : p ∉ F) : H p = none := by
  cases e : H p with
  | none => rfl
  | some o => rw [a p o e hp] at hn; cases hn

/-! ### letters -/
abbrev LKey := Int × Int × Int
abbrev Letter := LKey × Int
def kL (k : LKey) : List V := [.int k.1, .int k.2.1, .int k.2.2]
def kK (k : LKey) : List Key := [.inl k.1, .inl k.2.1, .inl k.2.2]
def keyOk (k : LKey) : Prop := 0 ≤ k.1 ∧ k.1 ≤ 9 ∧ 0 ≤ k.2.1 ∧ k.2.1 ≤ 9 ∧ 0 ≤ k.2.2 ∧ k.2.2 ≤ 999
def KeyAt (H : Hp) (v : V) (k : LKey) : Prop := ∃ t, v = .ref t ∧ H t = some (.tup (kL k))
def LetAt (H : Hp) (v : V) (l : Letter) : Prop := ∃ t kv, v = .ref t ∧ H t = some (.tup [kv, .int l.2]) ∧ KeyAt H kv l.1
abbrev LetsAt (H : Hp) (vs : List V) (ls : List Letter) : Prop := Paired (LetAt H) vs ls
def Tups (H H' : Hp) : Prop := ∀ b xs, H b = some (.tup xs) → H' b = some (.tup xs)
theorem Tups.of_same {H H' : Hp} (h : Same H H') : Tups H H' := fun _ _ e => h _ _ e
theorem KeyAt.keep {H H' : Hp} (t : Tups H H') {v : V} {k : LKey} (h : KeyAt H v k) : KeyAt H' v k := by
  obtain ⟨p, e, q⟩ := h
  exact ⟨p, e, t _ _ q⟩
theorem LetAt.keep {H H' : Hp} (t : Tups H H') {v : V} {l : Letter} (h : LetAt H v l) : LetAt H' v l := by
  obtain ⟨p, kv, e, q, k⟩ := h
  exact ⟨p, kv, e, t _ _ q, k.keep t⟩
theorem LetsAt.keep {H H' : Hp} (t : Tups H H') {vs : List V} {ls : List Letter} (h : LetsAt H vs ls) : LetsAt H' vs ls := Paired.mapP h fun _ _ z => z.keep t
def keyD (k : LKey) : PyData := .tuple [.int k.1, .int k.2.1, .int k.2.2]
def letD (l : Letter) : PyData := .tuple [keyD l.1, .int l.2]
theorem KeyAt.dp {K : PySem.W.Frag} {H : Hp} {v : V} {k : LKey} (h : KeyAt H v k) : Dp K H v (keyD k) := by
  obtain ⟨p, rfl, q⟩ := h
  exact .tup (SqT.of q) (.cons (.int _) (.cons (.int _) (.cons (.int _) .nil)))
theorem LetAt.dp {K : PySem.W.Frag} {H : Hp} {v : V} {l : Letter} (h : LetAt H v l) : Dp K H v (letD l) := by
  obtain ⟨p, kv, rfl, q, k⟩ := h
  exact .tup (SqT.of q) (.cons k.dp (.cons (.int _) .nil))
theorem LetsAt.dp {K : PySem.W.Frag} {H : Hp} : ∀ {vs : List V} {ls : List Letter}, LetsAt H vs ls → DpAll K H vs (ls.map letD)
  | _, _, .nil => .nil
  | _, _, .cons a b => .cons a.dp (LetsAt.dp b)
theorem Paired.takeP {α β : Type} {F : α → β → Prop} : ∀ (n : Nat) {l₁ : List α} {l₂ : List β}, Paired F l₁ l₂ → Paired F (l₁.take n) (l₂.take n)
  | 0, _, _, _ => .nil
  | _ + 1, _, _, .nil => .nil
  | n + 1, _, _, .cons r t => .cons r (Paired.takeP n t)
theorem Paired.dropP {α β : Type} {F : α → β → Prop} : ∀ (n : Nat) {l₁ : List α} {l₂ : List β}, Paired F l₁ l₂ → Paired F (l₁.drop n) (l₂.drop n)
  | 0, _, _, h => h
  | _ + 1, _, _, .nil => .nil
  | n + 1, _, _, .cons _ t => Paired.dropP n t
theorem Paired.app {α β : Type} {F : α → β → Prop} : ∀ {l₁ m₁ : List α} {l₂ m₂ : List β}, Paired F l₁ l₂ → Paired F m₁ m₂ → Paired F (l₁ ++ m₁) (l₂ ++ m₂)
  | _, _, _, _, .nil, h => h
  | _, _, _, _, .cons r t, h => .cons r (Paired.app t h)
theorem Paired.getP {α β : Type} {F : α → β → Prop} : ∀ {l₁ : List α} {l₂ : List β} {i : Nat} {x : α}, Paired F l₁ l₂ → l₁[i]? = some x → ∃ y, l₂[i]? = some y ∧ F x y
  | _, _, _, _, .nil, e => by simp at e
  | _, _, 0, _, .cons r _, e => by simp at e; subst e; exact ⟨_, rfl, r⟩
  | _, _, i + 1, x, .cons _ t, e => by
    obtain ⟨u, h1, h2⟩ := Paired.getP (i := i) (x := x) t (by simpa using e)
    exact ⟨u, by simpa using h1, h2⟩
theorem Paired.lenP {α β : Type} {F : α → β → Prop} : ∀ {l₁ : List α} {l₂ : List β}, Paired F l₁ l₂ → l₁.length = l₂.length
  | _, _, .nil => rfl
  | _, _, .cons _ t => by simp [Paired.lenP t]

/-! ### where a name stands -/
def idx : List Letter → LKey → Option Nat
  | [], _ => none
  | x :: xs, k => if x.1 = k then some 0 else (idx xs k).map (· + 1)
/-- write, by lists -/
def wrI (kn : Bool) (l : List Letter) (k : LKey) : Nat := if kn then (idx l k).getD l.length else l.length
def wrL (kn : Bool) (l : List Letter) (k : LKey) (b : Int) : List Letter := if kn && (idx l k).isSome then l else l ++ [(k, b)]

/-! ### a world of rows -/
structure RAd where
  R : Addr
  P : Addr
  rs : List Addr
  ds : List Addr
def rowF (nm : Int) (kn : Bool) (R P : Addr) : List (Str × V) := [("world", .int nm), ("knows", .bl kn), ("rows", .ref R), ("places", .ref P)]
def PlcOk (kn : Bool) (l : List Letter) (kvs : List (List Key × V)) : Prop := kvs.length ≤ l.length ∧ (kn = true → ∀ k, valV kvs (kK k) = (idx l k).map fun j => V.int (j : Nat))
structure RowsAt (C : Addr) (H : Hp) (p : Addr) (A : RAd) (nm : Int) (kn : Bool) (L : List (List Letter)) : Prop where
  ob : ∃ dx, H p = some (.ins C dx (rowF nm kn A.R A.P))
  hR : H A.R = some (.lst (A.rs.map V.ref))
  hP : H A.P = some (.lst (A.ds.map V.ref))
  lr : A.rs.length = 6
  ld : A.ds.length = 6
  lL : L.length = 6
  row : ∀ (i : Nat) r l, A.rs[i]? = some r → L[i]? = some l → ∃ vs, H r = some (.lst vs) ∧ LetsAt H vs l
  plc : ∀ (i : Nat) d l, A.ds[i]? = some d → L[i]? = some l → ∃ kvs, H d = some (.dT kvs) ∧ PlcOk kn l kvs
  nd : (A.rs ++ A.ds).Nodup
  out : p ∉ A.rs ++ A.ds ∧ A.R ∉ A.rs ++ A.ds ∧ A.P ∉ A.rs ++ A.ds
/-- what isn't its own may change -/
theorem RowsAt.keep {C : Addr} {H H' : Hp} {p : Addr} {A : RAd} {nm : Int} {kn : Bool} {L : List (List Letter)} (W : RowsAt C H p A nm kn L) {F : List Addr} (f : Fr F H H') (t : Tups H H')
    (n1 : p ∉ F) (n2 : A.R ∉ F) (n3 : A.P ∉ F) (n4 : ∀ x ∈ A.rs ++ A.ds, x ∉ F) : RowsAt C H' p A nm kn L where
  ob := let ⟨dx, h⟩ := W.ob; ⟨dx, f _ _ h n1⟩
  hR := f _ _ W.hR n2
  hP := f _ _ W.hP n3
  lr := W.lr
  ld := W.ld
  lL := W.lL
  row := fun i r l h1 h2 => by
    obtain ⟨vs, h, q⟩ := W.row i r l h1 h2
    exact ⟨vs, f _ _ h (n4 r (List.mem_append_left _ (List.mem_of_getElem? h1))), LetsAt.keep t q⟩
  plc := fun i d l h1 h2 => by
    obtain ⟨kvs, h, q⟩ := W.plc i d l h1 h2
    exact ⟨kvs, f _ _ h (n4 d (List.mem_append_right _ (List.mem_of_getElem? h1))), q⟩
  nd := W.nd
  out := W.out
theorem RowsAt.same {C : Addr} {H H' : Hp} {p : Addr} {A : RAd} {nm : Int} {kn : Bool} {L : List (List Letter)} (W : RowsAt C H p A nm kn L) (s : Same H H') : RowsAt C H' p A nm kn L :=
  W.keep (Fr.same s []) (Tups.of_same s) (by simp) (by simp) (by simp) (by simp)

/-! ### lists of letters, by rows -/
structure OwnAt (H : Hp) (O : Addr) (os : List Addr) (L : List (List Letter)) : Prop where
  hO : H O = some (.lst (os.map V.ref))
  lo : os.length = 6
  lL : L.length = 6
  own : ∀ (i : Nat) o l, os[i]? = some o → L[i]? = some l → ∃ vs, H o = some (.lst vs) ∧ LetsAt H vs l
  nd : os.Nodup
theorem OwnAt.keep {H H' : Hp} {O : Addr} {os : List Addr} {L : List (List Letter)} (W : OwnAt H O os L) (t : Tups H H') (n1 : ∀ o, H O = some o → H' O = some o) (n2 : ∀ x ∈ os, ∀ o, H x = some o → H' x = some o) : OwnAt H' O os L :=
  ⟨n1 _ W.hO, W.lo, W.lL, fun i o l h1 h2 => by
    obtain ⟨vs, h, q⟩ := W.own i o l h1 h2
    exact ⟨vs, n2 _ (List.mem_of_getElem? h1) _ h, LetsAt.keep t q⟩, W.nd⟩

/-! ### the dice -/
def DiceL (xs : List V) : Prop := ∃ (a b : Int) (r : List Int), xs = .int a :: .int b :: r.map V.int ∧ 0 ≤ a ∧ a < 2147483647 ∧ 0 ≤ b ∧ (∀ x ∈ r, 0 < x) ∧ r.length ≤ 63
theorem ixN_nat {n j : Nat} (h : j < n) : ixN n (j : Int) = some j := by
  unfold ixN
  rw [if_pos (by omega), if_pos (by omega)]
  rfl
/-- a statement, a word, the rest -/
def tCut (t u : TS) : TS := fun D σ H => ∃ M : L2.St → Hp → Prop, t { D with nx := M } σ H ∧ ∀ σ' H', M σ' H' → u D σ' H'
theorem pss_cut {X : Cx} {st : Stmt} {rest : List Stmt} {t u : TS} (h1 : PS X st t) (h2 : PSs X rest u) : PSs X (st :: rest) (tCut t u) := by
  intro pins s σ H D I h
  obtain ⟨M, h, k⟩ := h
  refine wpAny_execs_cons (thn (h1 pins s σ H { D with nx := M } I h) fun f s1 q => ?_)
  cases f with
  | next =>
    obtain ⟨σ', H', I', q⟩ := q
    exact h2 pins s1 σ' H' D I' (k _ _ q)
  | ret v => exact q
  | brk => exact q
  | cont => exact q

/-! ### data that is tracked -/
mutual
inductive Dt (H : Hp) : V → PyData → Prop
  | non : Dt H .non .none
  | bl (b : Bool) : Dt H (.bl b) (.bool b)
  | int (i : Int) : Dt H (.int i) (.int i)
  | str (x : Str) : Dt H (.str x) (.str x)
  | lst {a : Addr} {xs : List V} {ds : List PyData} : H a = some (.lst xs) → xs.length ≤ 1000000 → DtAll H xs ds → Dt H (.ref a) (.list ds)
  | tup {a : Addr} {xs : List V} {ds : List PyData} : H a = some (.tup xs) → xs.length ≤ 1000000 → DtAll H xs ds → Dt H (.ref a) (.tuple ds)
inductive DtAll (H : Hp) : List V → List PyData → Prop
  | nil : DtAll H [] []
  | cons {v : V} {vs : List V} {d : PyData} {ds : List PyData} : Dt H v d → DtAll H vs ds → DtAll H (v :: vs) (d :: ds)
end
mutual
theorem Dt.same {H H' : Hp} (e : Same H H') : ∀ {v : V} {d : PyData}, Dt H v d → Dt H' v d
  | _, _, .non => .non
  | _, _, .bl b => .bl b
  | _, _, .int i => .int i
  | _, _, .str x => .str x
  | _, _, .lst h1 h3 h2 => .lst (e _ _ h1) h3 (DtAll.same e h2)
  | _, _, .tup h1 h3 h2 => .tup (e _ _ h1) h3 (DtAll.same e h2)
theorem DtAll.same {H H' : Hp} (e : Same H H') : ∀ {vs : List V} {ds : List PyData}, DtAll H vs ds → DtAll H' vs ds
  | _, _, .nil => .nil
  | _, _, .cons h1 h2 => .cons (Dt.same e h1) (DtAll.same e h2)
end
/-! data of tuples alone -/
theorem DtAll.len {H : Hp} : ∀ {vs : List V} {ds : List PyData}, DtAll H vs ds → vs.length = ds.length
  | _, _, .nil => rfl
  | _, _, .cons _ t => by simp [DtAll.len t]
theorem DtAll.get {H : Hp} : ∀ {vs : List V} {ds : List PyData} {i : Nat}, DtAll H vs ds → i < ds.length → ∃ v d, vs[i]? = some v ∧ ds[i]? = some d ∧ Dt H v d
  | _, _, _, .nil, h => by simp at h
  | _, _, 0, .cons r _, _ => ⟨_, _, rfl, rfl, r⟩
  | _, _, i + 1, .cons _ t, h => by
    obtain ⟨v, d, h1, h2, h3⟩ := DtAll.get (i := i) t (by simpa using h)
    exact ⟨v, d, by simpa using h1, by simpa using h2, h3⟩
theorem depth_get : ∀ {ds : List PyData} {i : Nat} {d : PyData}, ds[i]? = some d → d.depth ≤ PyData.depthAll ds
  | [], _, _, h => by simp at h
  | x :: xs, 0, d, h => by simp at h; subst h; exact Nat.le_max_left _ _
  | x :: xs, i + 1, d, h => Nat.le_trans (depth_get (i := i) (by simpa using h)) (Nat.le_max_right _ _)
theorem depth_all {ds : List PyData} {n : Nat} (h : (PyData.list ds).depth < n + 1) : PyData.depthAll ds < n := by simp [PyData.depth] at h; omega
theorem depth_allT {ds : List PyData} {n : Nat} (h : (PyData.tuple ds).depth < n + 1) : PyData.depthAll ds < n := by simp [PyData.depth] at h; omega
theorem all_rep (n : Nat) : (List.replicate n true).all id = true := by
  rw [List.all_eq_true]; intro x hx; rw [List.eq_of_mem_replicate hx]; rfl
theorem rep_snoc {α : Type} (n : Nat) (x : α) : List.replicate n x ++ [x] = List.replicate (n + 1) x := by
  rw [List.replicate_succ']

theorem tYesT {σ : L2.St} {H : Hp} {A B : Hp → Prop} (h : A H) : tYes σ H (fun b H3 => if b = true then A H3 else B H3) := by
  simp only [tYes, ↓reduceIte]; exact h
/-! ### six new things -/
inductive OffP (vs : List V) (H : Hp) (Q : VK) : Prop
  | mk (d : Addr) (m : Int) (xs : List V) : vs = [.ref d, .int m] → H d = some (.lst xs) → DiceL xs → 0 < m → m < 1073741824 →
      (∀ (v : Int) ys, 0 ≤ v → v < m → DiceL ys → Q (.int v) (upd H d (.lst ys))) → OffP vs H Q
def sp_off : Sp := fun vs H Q _ => OffP vs H Q
inductive KeyP (vs : List V) (H : Hp) (Q : VK) : Prop
  | mk (d : Addr) (xs : List V) : vs = [.ref d] → H d = some (.lst xs) → DiceL xs →
      (∀ (k : LKey) ys p, keyOk k → DiceL ys → H p = none → Q (.ref p) (upd (upd H d (.lst ys)) p (.tup (kL k)))) → KeyP vs H Q
inductive AlikeP (n : Nat) (vs : List V) (H : Hp) (Q : VK) : Prop
  | mk (x y : V) (d : PyData) : vs = [x, y] → Dt H x d → Dt H y d → d.depth < n → (∀ H', Same H H' → Q (.bl true) H') → AlikeP n vs H Q
def sp_alike (n : Nat) : Sp := fun vs H Q _ => AlikeP n vs H Q
theorem sz_le {n : Nat} (h : n ≤ 1000000) : n ≤ sizeLine := Nat.le_trans h (Nat.le_of_lt line_ge0)
theorem sz_lt {n : Nat} (h : n < 1000000) : n < sizeLine := Nat.lt_trans h line_ge0
end WB

set_option Elab.async false
set_option linter.all false
set_option maxRecDepth 100000
namespace WB
open PySem PySem.Spec PyProof.Rows L2

/-! ### keys (int, tuple of ints): a kind of their own -/
section
variable {prog : Program} {w : World}
abbrev PKey := Int × List Key
def IsPair (prog : Program) (w : World) (h : Heap) (k : PKey) (a : Addr) : Prop :=
  ∃ o items n t c, h.get? a = some o ∧ o.cls = .type "tuple" ∧ o.data = .seq items n ∧ items.toList = [.int k.1 t, .ref c] ∧ IsTupleKey (mixKind prog w) h k.2 c
theorem IsPair.typeIs {s : Shared} {k : PKey} {a : Addr} (x : IsPair prog w s.heap k a) : s.TypeIs (.ref a) "tuple" := let ⟨o, _, _, _, _, ho, hc, _⟩ := x; ⟨o, ho, hc⟩
theorem IsPair.inj {h : Heap} {a : Addr} {x y : PKey} (hx : IsPair prog w h x a) (hy : IsPair prog w h y a) : x = y := by
  obtain ⟨o, items, n, t, c, ho, _, hd, hi, hk⟩ := hx
  obtain ⟨o', items', n', t', c', ho', _, hd', hi', hk'⟩ := hy
  obtain rfl : o = o' := Option.some.inj (ho.symm.trans ho')
  rw [hd] at hd'
  injection hd' with h1 _
  subst h1
  rw [hi] at hi'
  simp only [List.cons.injEq, Value.int.injEq, Value.ref.injEq, and_true] at hi'
  obtain ⟨⟨e1, _⟩, e2⟩ := hi'
  subst e2
  exact Prod.ext e1 (hk.inj hk')
theorem IsPair.keeps {h h' : Heap} {k : PKey} {a d : Addr} {o : Obj} {es ep} (x : IsPair prog w h k a) (ho : h.get? d = some o) (hd : o.data = .dict es ep) (hs : Heap.SameBut d h h') : IsPair prog w h' k a := by
  obtain ⟨o', items, n, t, c, ho', hc, hd', hi, hk⟩ := x
  have hne : a ≠ d := by
    rintro rfl
    obtain rfl : o' = o := Option.some.inj (ho'.symm.trans ho)
    rw [hd] at hd'; exact nomatch hd'
  exact ⟨o', items, n, t, c, (hs.2 a hne).trans ho', hc, hd', hi, hk.keeps ho hd hs⟩
def pairHash (prog : Program) (w : World) (k : PKey) : Int := reduceHash (Builtin.Tuple.tupleHashOf [(mixKind prog w).hash (.inl k.1), tupleKeyHash (mixKind prog w) k.2])
variable {A : Around} {E : Value → Shared → Prop} {s : Shared}
theorem pyHash_pair {k : PKey} {a : Addr} {Q : Int → Shared → Prop} (hu : A.units + 4 < cLine) (hk : IsPair prog w s.heap k a) (h : Q (pairHash prog w k) { s with toks := s.toks + (k.2.length + 3) }) :
    wpAny (model prog w) A (pyHash (.ref a)) Q E s := by
  have hT := hk.typeIs
  obtain ⟨o, items, n, t, c, ho, _, hd, hi, hk2⟩ := hk
  unfold pyHash
  first | unfold pyHashByItsType | skip
  first | refine wpAny_bind (wpAny_cRoomFor_or (.inr (by omega)) ?_) | skip
  refine wpAny_bind (wpAny_specialOf hT F.slot_tuple_hash.lookup ?_)
  show wpAny _ _ (if (some (Value.builtin "tuple.__hash__") == some Value.none) = true then _ else _) Q E s
  rw [if_neg (by rw [beq_builtin_none]; exact Bool.false_ne_true)]
  refine wpAny_bind (wpAny_specialOf hT F.slot_tuple_hash.lookup ?_)
  show wpAny _ _ (callSpecialIfBoundUnlessNone? (.ref a) "__hash__" _ >>= _) Q E s
  refine wpAny_bind (wpAny_callSpecialIfBoundUnlessNone?_slot hT F.slot_tuple_hash (wpAny_call_entry F.slot_tuple_hash hT F.entry_tuple_hash ?_ (F.args_tuple_hash_1 _)))
  show wpAny _ _ (Builtin.Tuple.tupleItemsOf (.ref a) >>= _) _ _ s
  refine wpAny_bind (wpAny_tupleItemsOf ho hd ?_)
  refine wpAny_bind ?_
  rw [← Array.forIn_toList, hi]
  refine wpAny_forIn_list _
    (fun rest (b : Array Int) s' => (rest = [Value.int k.1 t, .ref c] ∧ b.toList = [] ∧ s' = s) ∨ (rest = [.ref c] ∧ b.toList = [(mixKind prog w).hash (.inl k.1)] ∧ s' = { s with toks := s.toks + 1 }) ∨
      (rest = [] ∧ b.toList = [(mixKind prog w).hash (.inl k.1), tupleKeyHash (mixKind prog w) k.2] ∧ s' = { s with toks := s.toks + (k.2.length + 2) }))
    _ ?_ ?_ _ _ (.inl ⟨rfl, rfl, rfl⟩)
  · rintro x rest b s' (⟨e, hb, rfl⟩ | ⟨e, hb, rfl⟩ | ⟨e, _⟩)
    · cases e
      refine wpAny_bind ((mixKind prog w).pyHash (k := .inl k.1) (keyIs_int k.1 t) ?_)
      first
        | exact wpAny_pure (.inr (.inl ⟨rfl, by simp [hb], rfl⟩))
        | exact wpAny_bind (wpAny_pure (wpAny_pure (.inr (.inl ⟨rfl, by simp [hb], rfl⟩))))
    · cases e
      refine wpAny_bind (wpAny_pyHash_tuple (knd := mixKind prog w) (ks := k.2) (by show A.units + 1 < cLine; omega) hk2 ?_)
      first
        | exact wpAny_pure (.inr (.inr ⟨rfl, by simp [hb], by simp [Nat.add_assoc, Nat.add_comm, Nat.add_left_comm]⟩))
        | exact wpAny_bind (wpAny_pure (wpAny_pure (.inr (.inr ⟨rfl, by simp [hb], by simp [Nat.add_assoc, Nat.add_comm, Nat.add_left_comm]⟩))))
    · cases e
  · rintro b s' (⟨e, _⟩ | ⟨e, _⟩ | ⟨_, hb, rfl⟩)
    · cases e
    · cases e
    show wpAny _ _ (retInt (Builtin.Tuple.tupleHashOf b.toList)) _ _ _
    rw [hb]
    refine wpAny_ret_mkInt ?_
    generalize hz : Builtin.Tuple.tupleHashOf [(mixKind prog w).hash (.inl k.1), tupleKeyHash (mixKind prog w) k.2] = z
    show wpAny _ _ (if (decide (-(2 : Int) ^ 63 ≤ z) && decide (z < 2 ^ 63)) = true then _ else _) Q E _
    unfold pairHash reduceHash at h
    rw [hz] at h
    by_cases hr : (decide (-(2 : Int) ^ 63 ≤ z) && decide (z < 2 ^ 63)) = true
    · rw [if_pos hr]
      rw [if_pos hr] at h
      exact wpAny_pure (by simpa [Nat.add_assoc] using h)
    · rw [if_neg hr]
      rw [if_neg hr] at h
      exact wpAny_bind (wpAny_rule (wpAny_pure (by simpa [Nat.add_assoc] using h)))
theorem pair_eq_tree {x y : PKey} {a b : Addr} {P : Fin → Shared → Prop} (hu : A.units + 3 < cLine) (hx : IsPair prog w s.heap x a) (hy : IsPair prog w s.heap y b) (h : P (.done (.ret (.bool (decide (x = y))))) s) :
    wpAny (model prog w) A (Builtin.«tuple.__eq__» ⟨[.ref a, .ref b], []⟩) P E s := by
  have hTb := hy.typeIs
  obtain ⟨oa, xs, na, ta, ca, hoa, _, hda, hia, hka⟩ := hx
  obtain ⟨ob, ys, nb, tb, cb, hob, _, hdb, hib, hkb⟩ := hy
  have hxy : decide (x = y) = (decide (x.1 = y.1) && decide (x.2 = y.2)) := by
    obtain ⟨x1, x2⟩ := x
    obtain ⟨y1, y2⟩ := y
    by_cases e1 : x1 = y1 <;> by_cases e2 : x2 = y2 <;> simp [e1, e2]
  have hsz : (xs.size == ys.size) = true := by
    have e1 : xs.size = 2 := by rw [← Array.length_toList, hia]; rfl
    have e2 : ys.size = 2 := by rw [← Array.length_toList, hib]; rfl
    rw [e1, e2]; rfl
  show wpAny _ _ (isInstance (.ref b) (.type "tuple") >>= _) _ _ s
  refine wpAny_bind (wpAny_isInstance hTb isSubtype_tuple_tuple ?_)
  simp only [Bool.not_true, Bool.false_eq_true, if_false]
  refine wpAny_bind (wpAny_tupleItemsOf hoa hda ?_)
  refine wpAny_bind (wpAny_tupleItemsOf hob hdb ?_)
  refine wpAny_bind ?_
  refine wpAny_forIn_list _
    (fun rest r s' => r.1 = none ∧ s' = s ∧ ((rest = [(Value.int x.1 ta, Value.int y.1 tb), (Value.ref ca, Value.ref cb)]) ∨ (rest = [(Value.ref ca, Value.ref cb)] ∧ x.1 = y.1) ∨ (rest = [] ∧ x = y)))
    _ ?_ ?_ _ _ ⟨rfl, rfl, .inl (by rw [hia, hib]; rfl)⟩
  · rintro ⟨u, v⟩ rest r s' ⟨hr, rfl, e | ⟨e, e1⟩ | ⟨e, _⟩⟩
    · cases e
      refine wpAny_bind ((mixKind prog w).eqBool (a := .inl x.1) (b := .inl y.1) (keyIs_int x.1 ta) (keyIs_int y.1 tb) ?_)
      by_cases hk : x.1 = y.1
      · rw [decide_eq_true (show (Sum.inl x.1 : Key) = Sum.inl y.1 by rw [hk])]
        simp only [Bool.not_true, Bool.false_eq_true, if_false]
        exact wpAny_pure ⟨rfl, rfl, .inr (.inl ⟨by first | rfl | trivial, hk⟩)⟩
      · rw [decide_eq_false (show ¬ (Sum.inl x.1 : Key) = Sum.inl y.1 from fun z => hk (Sum.inl.inj z))]
        simp only [Bool.not_false, if_true]
        rw [hxy, decide_eq_false hk, Bool.false_and] at h
        exact wpAny_bind (wpAny_pure (wpAny_pure (wpAny_pure h)))
    · cases e
      refine wpAny_bind (wpAny_eqBool_tuple (knd := mixKind prog w) (x := x.2) (y := y.2) (by omega) hka hkb ?_)
      by_cases hk : x.2 = y.2
      · rw [decide_eq_true hk]
        simp only [Bool.not_true, Bool.false_eq_true, if_false]
        exact wpAny_pure ⟨rfl, rfl, .inr (.inr ⟨by first | rfl | trivial, Prod.ext e1 hk⟩)⟩
      · rw [decide_eq_false hk]
        simp only [Bool.not_false, if_true]
        rw [hxy, decide_eq_false hk, Bool.and_false] at h
        exact wpAny_bind (wpAny_pure (wpAny_pure (wpAny_pure h)))
    · cases e
  · rintro ⟨r1, r2⟩ s' ⟨hr, rfl, e | ⟨e, _⟩ | ⟨_, e⟩⟩
    · cases e
    · cases e
    · simp only at hr
      subst hr
      refine wpAny_pure ?_
      show P (.done (.ret (.bool (xs.size == ys.size)))) s'
      rw [hsz]
      rw [decide_eq_true e] at h
      exact h
theorem eqBool_pair {x y : PKey} {a b : Addr} {Q : Bool → Shared → Prop} (hu : A.units + 6 < cLine) (hx : IsPair prog w s.heap x a) (hy : IsPair prog w s.heap y b) (h : Q (decide (x = y)) s) :
    wpAny (model prog w) A (eqBool (.ref a) (.ref b)) Q E s := by
  unfold eqBool
  try with_reducible refine wpAny_holding ?_
  show wpAny _ _ (if (Value.ref a == Value.ref b) = true then _ else _) Q E s
  by_cases hab : (Value.ref a == Value.ref b) = true
  · rw [if_pos hab]
    have e : a = b := by have := eq_of_beq hab; injection this
    subst e
    obtain rfl := hx.inj hy
    exact wpAny_bind (wpAny_rule (wpAny_pure (by simpa using h)))
  · rw [if_neg hab]
    exact wpAny_bind (wpAny_richCompare_same_room (op := .Eq) hx.typeIs hy.typeIs F.slot_tuple_eq
      (wpAny_call_entry F.slot_tuple_eq hx.typeIs F.entry_tuple_eq (pair_eq_tree (by show A.units + 1 + 3 < cLine; omega) hx hy ⟨_, rfl, (fun e => nomatch e), wpAny_truthy_bool h⟩) (F.args_tuple_eq_2 _ _)) (by omega))
theorem quiet_tuple7 {ks : List Key} {a : Addr} {Q : Bool → Shared → Prop} (hk : IsTupleKey (mixKind prog w) s.heap ks a) (h : Q true s) : wpAny (model prog w) A (eqIsQuiet 7 (.ref a)) Q E s := by
  have hT := hk.typeIs
  obtain ⟨o, items, n, ho, _, hd, hi⟩ := hk
  unfold eqIsQuiet
  refine wpAny_bind (wpAny_specialOf hT F.slot_tuple_eq.lookup ?_)
  show wpAny _ _ (isInstance (.ref a) (.type "tuple") >>= _) _ _ s
  refine wpAny_bind (wpAny_isInstance hT isSubtype_tuple_tuple ?_)
  simp only [Bool.not_true, Bool.false_eq_true, if_false]
  refine wpAny_bind (wpAny_seqItems ho hd ?_)
  refine wpAny_bind ?_
  show wpAny _ _ (forIn items _ _) _ _ s
  rw [← Array.forIn_toList]
  refine wpAny_forIn_list _ (fun rest r s' => r.1 = none ∧ s' = s ∧ ∀ v ∈ rest, carriedByValue v = true) _ ?_ ?_ _ _ ⟨rfl, rfl, hi.byValue⟩
  · rintro v rest r s' ⟨hr, rfl, hall⟩
    rw [eqIsQuiet_byValue _ (hall v List.mem_cons_self)]
    refine wpAny_bind (wpAny_pure ?_)
    simp only [Bool.not_true, Bool.false_eq_true, if_false]
    exact wpAny_pure ⟨rfl, rfl, fun u hu' => hall u (List.mem_cons_of_mem _ hu')⟩
  · rintro ⟨r1, r2⟩ s' ⟨hr, rfl, _⟩
    simp only at hr
    subst hr
    exact wpAny_pure h
theorem quiet_pair {k : PKey} {a : Addr} {Q : Bool → Shared → Prop} (hk : IsPair prog w s.heap k a) (h : Q true s) : wpAny (model prog w) A (eqIsQuiet 8 (.ref a)) Q E s := by
  have hT := hk.typeIs
  obtain ⟨o, items, n, t, c, ho, _, hd, hi, hk2⟩ := hk
  unfold eqIsQuiet
  refine wpAny_bind (wpAny_specialOf hT F.slot_tuple_eq.lookup ?_)
  show wpAny _ _ (isInstance (.ref a) (.type "tuple") >>= _) _ _ s
  refine wpAny_bind (wpAny_isInstance hT isSubtype_tuple_tuple ?_)
  simp only [Bool.not_true, Bool.false_eq_true, if_false]
  refine wpAny_bind (wpAny_seqItems ho hd ?_)
  refine wpAny_bind ?_
  show wpAny _ _ (forIn items _ _) _ _ s
  rw [← Array.forIn_toList, hi]
  refine wpAny_forIn_list _ (fun rest r s' => r.1 = none ∧ s' = s ∧ ((rest = [Value.int k.1 t, .ref c]) ∨ (rest = [.ref c]) ∨ rest = [])) _ ?_ ?_ _ _ ⟨rfl, rfl, .inl rfl⟩
  · rintro v rest r s' ⟨hr, rfl, e | e | e⟩
    · cases e
      rw [eqIsQuiet_byValue _ (show carriedByValue (Value.int k.1 t) = true from rfl)]
      refine wpAny_bind (wpAny_pure ?_)
      simp only [Bool.not_true, Bool.false_eq_true, if_false]
      exact wpAny_pure ⟨rfl, rfl, .inr (.inl (by first | rfl | trivial))⟩
    · cases e
      refine wpAny_bind (quiet_tuple7 hk2 ?_)
      simp only [Bool.not_true, Bool.false_eq_true, if_false]
      exact wpAny_pure ⟨rfl, rfl, .inr (.inr (by first | rfl | trivial))⟩
    · cases e
  · rintro ⟨r1, r2⟩ s' ⟨hr, rfl, _⟩
    simp only at hr
    subst hr
    exact wpAny_pure h
end
def pairKind (prog : Program) (w : World) : HeapKind prog w PKey where
  is := IsPair prog w
  hash := pairHash prog w
  draws := fun k => k.2.length + 3
  room := fun A => A.units + 6 < cLine
  inj := fun hx hy => hx.inj hy
  keeps := fun x ho hd hs => x.keeps ho hd hs
  pyHash := fun hu hk h => pyHash_pair (by omega) hk h
  eqBool := fun hu hx hy h => eqBool_pair hu hx hy h
  quiet := fun hk h => quiet_pair hk h

/-- a dict whose keys are such pairs: its keys, each at its address; the values are True -/
def PDict (prog : Program) (w : World) (a : Addr) (xs : List (PKey × Addr)) : HO := .ext fun h => xs.length ≤ sizeLine ∧ (a == sysModules) = false ∧
  ∃ o es ep, h.get? a = some o ∧ o.ExactDict ∧ o.data = .dict es ep ∧ es.toList = (xs.map fun x => (x.1, x.2, Value.bool true)).map (entryOfKey (pairKind prog w)) ∧ (xs.map (·.1)).Nodup
/-- where the keys stand -/
def PairAt (H : Hp) (k : PKey) (a : Addr) : Prop := ∃ c, H a = some (.tup [.int k.1, .ref c]) ∧ H c = some (.tup (k.2.map kV))
section
variable {X : Cx} {pins : List (Addr × Obj)} {σ : L2.St} {H : Hp} {s : Shared} {a b : Addr} {xs : List (PKey × Addr)} {k : PKey}
def hasP (xs : List (PKey × Addr)) (k : PKey) : Bool := xs.any fun x => decide (x.1 = k)
/-! ### a new thing at a place that holds nothing -/
theorem ok_there {P : Program} {w : World} {H : Hp} {h : Heap} {a : Addr} : ∀ {o : HO}, ObjOk P w H h a o → ∃ ob, h.get? a = some ob
  | .lst _, x => let ⟨_, _, _, _, e⟩ := x; ⟨_, e⟩
  | .tup _, x => let ⟨_, _, _, _, e, _⟩ := x; ⟨_, e⟩
  | .dK _, x => let ⟨_, _, _, _, _, _, _, e, _⟩ := x; ⟨_, e⟩
  | .dT _, x => let ⟨_, _, _, _, _, _, _, e, _⟩ := x; ⟨_, e⟩
  | .set _ _, x => let ⟨_, _, _, _, e, _⟩ := x; ⟨_, e⟩
  | .ins _ _ _, x => let ⟨_, _, _, e, _⟩ := x; ⟨_, e⟩
  | .own _, x => x
  | .xd _, x => let ⟨_, ⟨_, _, _, e, _⟩, _⟩ := x; ⟨_, e⟩
  | .rng _ _, x => let ⟨_, _, _, e⟩ := x; ⟨_, e⟩
  | .frz _ _, x => ⟨_, x.1⟩
  | .tbl _, x => ⟨_, x⟩
  | .met _ _, x => ⟨_, x⟩
  | .ext _, x => x.2.1
theorem laid0 {h' : Heap} {o : HO} {t' : Nat} (I : Inv X pins σ H s) (k : ∀ b u, s.heap.get? b = some u → h'.get? b = some u) (hg : s.heap.get? a = none) (new : ObjOk X.prog X.w (upd H a o) h' a o) :
    H a = none ∧ Inv X pins σ (upd H a o) { s with heap := h', toks := t' } := by
  have hn : H a = none := by
    cases e : H a with
    | none => rfl
    | some u =>
      obtain ⟨ob, q⟩ := ok_there (I.hok a u e)
      rw [hg] at q; cases q
  refine ⟨hn, I.un ⟨fun b u q _ _ _ => k b u q, fun b u q _ _ _ => ⟨u.slots, k b u q⟩, fun b u q n _ => ?_, fun b u q _ => ⟨u, k b u q⟩, fun b xs q => upd_old q hn, fun b u xs q => upd_old q hn, fun b ps q => ⟨#[], by rw [upd_old q hn]; simp⟩⟩ fun b u e => ?_⟩
  · rw [upd_ne (fun z => by rw [z, hg] at q; cases q)]; exact n
  · by_cases hb : b = a
    · subst hb; rw [upd_same] at e; cases e; exact new
    · rw [upd_ne hb] at e
      exact (I.hok b u e).stay (fun c v _ q => k c v q) (fun c q => upd_old q hn) fun c xs q => upd_old q hn
/-! ### sorted(d), d with ints as keys -/
/-! ### d.update(a list of pairs) -/
end
end WB

set_option Elab.async false
set_option linter.all false
set_option maxRecDepth 100000
namespace L2
open PySem PySem.Spec PyProof.Rows
def tRaiseI (C : Addr) (fld : Str) (R : St → XK) (ta : TA) : TS := fun _ σ H => ta σ H fun vs H1 => ∃ n : Int, vs = [.int n] ∧ n.natAbs.log2 < 1920 ∧ ∀ dA, H1 dA = none → R σ (.ref C) (some dA) (upd H1 dA (.xd [(fld, .int n)]))
section
variable {X : Cx} {R : St → XK} {C : Addr} {x fld : Str} {np cpos pos : Pos} {e : Expr} {ta : TA}
theorem ps_raiseI (c : ICl X.K X.mg X.prog C fld) (hr : Room 2 X.A) (hg : Gl (X.exc R) x) (hm : X.mg x = some (.ref C)) (ha : PA (X.exc R) [e] ta)
    (hdb : (x == ("__debug__" : Str)) = false := by decide) (he : starEach [e] X.env = (false, eval e X.env) :: starEach [] X.env := by rfl) :
    PS (X.exc R) (.Raise (some (.Call (.Name x np) [e] [] cpos)) none pos) (tRaiseI C fld R ta) := by
  intro pins s σ H D I h
  obtain ⟨qn, fI, cc, cda, name, qual, params, scope, slf, par, a, b, ka, kb, p0, p1, p2, p3, p4, p5, p6, p7, p8, pa, pb, pc, pd, pj, IK, IS⟩ := id c
  obtain ⟨bm, N, nm, q, bs, sn, sub, ab, col, dd, k0, k1, k2, k3, k5, cd, hC, hmr, hcd, hcm, hV, hO, hal, hok, hin, htl⟩ := IK.cls
  have T0 := PySem.W.tail_of_in I.ok.mod.kin htl
  rw [arm_exec_Raise]
  have he' : starEach [e] (X.exc R).env = (false, eval e (X.exc R).env) :: starEach [] (X.exc R).env := he
  have hplain : (backTo cpos (starEach [e] X.env)).any (·.1) = false := by rw [he]; rfl
  refine wpAny_bind (wpAny_standAt (raiseStmt_q (C := C) (nm := nm) (q := q) (N := N) (bs := bs) (bm := bm) (hdct := true) (sn := sn) (sub := sub) (ab := ab) (col := col) (dd := dd) (k0 := k0) (k1 := k1) (k2 := k2) (k3 := k3) (k5 := k5) (newId := vnew) (T0.hasType (by decide +kernel))
    (wpAny_bind (wpAny_mono (wpAny_Call_ofName (ld_glob I hg hm ?_ hdb)) (fun v s₃ h₃ => wpAny_bind (wpAny_standAt (wpAny_pure h₃))) fun _ _ z => z))))
  have h0 := ha cpos pins s σ H _ I h
  rw [he'] at h0
  unfold callWith
  refine wpAny_bind (wpAny_holding ?_)
  rw [he']
  refine wpAny_mono (Calls.evalArgs_plain (Q := fun a s2 => ∃ n u, a = ⟨[.int n u], []⟩ ∧ ∃ H2, Inv X pins σ H2 s2 ∧ n.natAbs.log2 < 1920 ∧ ∀ dA, H2 dA = none → R σ (.ref C) (some dA) (upd H2 dA (.xd [(fld, .int n)]))) (wpAny_mono h0 (fun us s2 h2 => ?_) fun _ _ z => z)) (fun a s2 h2 => ?_) fun _ _ z => z
  · obtain ⟨vs, H2, I2, r2, n, rfl, hn, hR⟩ := h2
    cases r2 with
    | cons r r' =>
      cases r'
      obtain ⟨t, rfl⟩ := r
      exact ⟨n, t, rfl, H2, I2.unwish, hn, hR⟩
  obtain ⟨n, tk, rfl, H2, I0, hn, hR⟩ := h2
  refine wpAny_bind (wpAny_standAt ?_)
  rw [← he']
  simp only [hplain]
  have KX : X.K.In s2.heap := I0.kIn
  refine wpAny_bind (wpAny_keeperOf_exc (KX _ _ hC) ?_)
  refine wpAny_bind (icl_call c hr KX (I0.mod.nolimit.keeps I0.bk) (I0.mod.glob.keeps I0.bk) (by obtain ⟨mb, z1, z2⟩ := I0.mod.blt; exact ⟨mb, z1.keeps I0.bk, z2⟩) hn fun h1 a t dA tk1 kp na ndA nea ha1 hns => wpAny_bind (wpAny_holding (wpAny_point (wpAny_pure ?_))))
  obtain ⟨ch, cc', eh, cn⟩ := I0.hq1
  have nch : a ∉ ch := fun z => by
    obtain ⟨o, _, y, _⟩ := cc'.there z
    rw [na] at y; cases y
  refine ⟨a, t, ch, some dA, rfl, kp _ _ (KX _ _ hC), ha1, cc'.keeps fun x _ o z => kp x o z, eh, nch, fun h' sb ex => ?_⟩
  have keep : ∀ b o, s2.heap.get? b = some o → h'.get? b = some o := fun b o z => (sb.2 b fun y => by rw [y, na] at z; cases z).trans (kp b o z)
  have hnsA : h'.Ns1 dA (fun y => if y = fld then some (.int n tk) else none) := by
    obtain ⟨od, es, ep, z, r⟩ := hns
    exact ⟨od, es, ep, (sb.2 dA nea).trans z, r⟩
  obtain ⟨Hn, I3⟩ := WB.laid0 (a := dA) (o := .xd [(fld, .int n)]) (t' := tk1) I0 keep ndA ⟨_, hnsA, fun f => by
    by_cases z : f = fld
    · rw [z]
      show RelO (List.lookup fld [(fld, V.int n)]) _
      rw [if_pos rfl, List.lookup_cons, beq_self_eq_true]
      exact ⟨tk, rfl⟩
    · rw [if_neg z]
      show RelO (List.lookup f [(fld, V.int n)]) none
      rw [List.lookup_cons, beq_false_of_ne z]
      trivial⟩
  have hdA : ∃ o, h'.get? dA = some o := by
    obtain ⟨od, es, ep, z, _⟩ := hnsA
    exact ⟨_, z⟩
  have nfr : ∀ b, s2.heap.get? b = none → b ∉ frs X.stack := fun b z m => by
    obtain ⟨_, o', ho', _⟩ := I0.stack.mem m
    rw [z] at ho'; cases ho'
  have nst : ∀ b, b ≠ X.env.locals → b ∉ X.fs → b ∉ frs X.stack := fun b h1 h2 z => (List.mem_cons.mp (I0.stkSub b z)).elim h1 h2
  have inB : ∀ {b : Addr} {o : Obj}, s2.heap.get? b = some o → b ∉ frs X.stack → ∃ o', (PySem.W.hideAll h' (a :: frs X.stack)).get? b = some o' := fun {b o} z n => ⟨o, PySem.W.hideAll_get _ (keep b o z) fun m => (List.mem_cons.mp m).elim (fun y => by rw [y, na] at z; cases z) n⟩
  refine ⟨a, C, (.ref t, some dA), _, PySem.W.hideAll h' (a :: frs X.stack), σ, _, rfl, I3.pins_of fun p hp => (nomatch hp), .inl ⟨fun b o z => PySem.W.of_hideAll _ z, PySem.W.hideAll_none _ List.mem_cons_self, FunFrames_base I0.stack (fun b hb => PySem.W.hideAll_none _ (List.mem_cons_of_mem _ hb)) (fun b _ o z => keep b o z), .inl ex⟩,
    ⟨fun b u z => ?_, fun b o z hb hx => ?_, fun p hp => ?_⟩, ⟨ch, rfl, cc'.keeps fun x _ o z => keep x o z, nch, fun x m => ?_⟩, hR dA Hn⟩
  · by_cases y : b = dA
    · obtain ⟨o, z1⟩ := hdA
      exact ⟨o, by rw [y]; exact PySem.W.hideAll_get _ z1 fun m => (List.mem_cons.mp m).elim nea (nfr _ ndA)⟩
    · rw [upd_ne y] at z
      obtain ⟨o, e1⟩ : ∃ o, s2.heap.get? b = some o := (I0.hok b u z).get
      exact inB e1 fun y => by rw [I0.stkFree b y] at z; cases z
  · obtain ⟨o1, e1⟩ := I0.base.there b o z hx
    exact inB e1 (nst b (Nat.ne_of_lt (Nat.lt_of_lt_of_le (Heap.lt_size z) I0.ok.above)) hb)
  · obtain ⟨e1, n, ne, nf, d⟩ := I0.pin p (List.mem_append_left _ hp)
    exact inB e1 (nst p.1 ne nf)
  · obtain ⟨o, ws, y, yd⟩ := cc'.there m
    refine ⟨inB y fun z => ?_, ?_⟩
    · obtain ⟨_, o', ho', nf⟩ := I0.stack.mem z
      rw [y] at ho'; cases ho'
      exact nf ws yd
    · rw [upd_ne (fun z => by rw [z, ndA] at y; cases y)]; exact cn x m
end
end L2

set_option Elab.async false
set_option linter.all false
set_option maxRecDepth 100000
namespace L2
open PySem PySem.Spec PyProof.Rows
/-! ### a field of an exception that is being handled -/
structure XRd (K : PySem.W.Frag) (C : Addr) (fld : Str) : Prop where
  cls : ∃ bm N nm q bs sn sub ab col dd k0 k1 k2 k3 k5, K.lookup C = some (excClassObj nm q C N bs bm true sn sub ab col dd k0 k1 k2 k3 k5 vnew) ∧ mroIn K C = .ref C :: bm ∧ PySem.W.tailIn K vmro bm = true
  q : XQu K C vmro
  qn : quietIn K vmro fld (mroIn K C) = true
  fB : typeLookup (.type "ValueError") fld = pure none
theorem ICl.rd {K : PySem.W.Frag} {mg : Str → Option Value} {prog : Program} {C : Addr} {fld : Str} (c : ICl K mg prog C fld) (q : XQu K C vmro) : XRd K C fld := by
  obtain ⟨qn, fI, cc, cda, name, qual, params, scope, slf, par, a, b, ka, kb, p0, p1, p2, p3, p4, p5, p6, p7, p8, pa, pb, pc, pd, pj, IK, IS⟩ := c
  obtain ⟨bm, N, nm, qq, bs, sn, sub, ab, col, dd, k0, k1, k2, k3, k5, cd, hC, hmr, hcd, hcm, hV, hO, hal, hok, hin, htl⟩ := IK.cls
  exact ⟨⟨_, _, _, _, _, _, _, _, _, _, _, _, _, _, _, hC, hmr, htl⟩, q, qn, IS.fB⟩
def tExAt (K : PySem.W.Frag) (a C : Addr) (d : Option Addr) (fld : Str) (te : TE) : TE := fun σ H Q => te σ H fun x H1 => x = .ref a ∧ XRd K C fld ∧ ∃ dA fs n, d = some dA ∧ H1 dA = some (.xd fs) ∧ fs.lookup fld = some (.int n) ∧ Q (.int n) H1
theorem pe_exAt {X : Cx} {pins ex : List (Addr × Obj)} {a C : Addr} {d : Option Addr} {o : Obj} {e : Expr} {fld : Str} {pos : Pos} {te : TE} (hp : (a, o) ∈ ex) (hc : o.cls = .ref C ∧ o.dict = d ∧ ∀ c, o.data ≠ .cls c) (he : PE ((X.pinsTo pins).hand a ex) e te)
    (hb : attributeBase e fld ((X.pinsTo pins).hand a ex).env (eval e ((X.pinsTo pins).hand a ex).env) = eval e ((X.pinsTo pins).hand a ex).env) : PE ((X.pinsTo pins).hand a ex) (.Attribute e fld pos) (tExAt X.K a C d fld te) := by
  intro pins' s σ H Q I h
  refine attr_of hb (thn (he pins' s σ H _ I h) fun u s1 ⟨x, H1, I1, rx, ex', c, dA, fs, n, ed, hd, hl, q⟩ => ?_)
  subst ex'
  obtain rfl : u = Value.ref a := rx
  obtain ⟨bm, N, nm, qq, bs, sn, sub, ab, col, dd, k0, k1, k2, k3, k5, hC, hmr, htl⟩ := c.cls
  have KX : X.K.In s1.heap := I1.kIn
  obtain ⟨go, Hn, _⟩ := I1.pin (a, o) (List.mem_append_left _ (List.mem_append_right _ hp))
  have nea : dA ≠ a := fun z => by
    have y : H1 a = none := Hn
    rw [← z, hd] at y; cases y
  obtain ⟨mA, hns, hrel⟩ : ∃ mA, s1.heap.Ns1 dA mA ∧ ∀ f, RelO (fs.lookup f) (mA f) := I1.hok dA _ hd
  obtain ⟨t, hm⟩ : ∃ t, mA fld = some (.int n t) := by
    have z := hrel fld
    rw [hl] at z
    cases y : mA fld with
    | none => rw [y] at z; cases z
    | some v => rw [y] at z; obtain ⟨t, rfl⟩ := z; exact ⟨t, rfl⟩
  obtain ⟨hp, g, dr, tk, os⟩ := s1
  exact load_attrX KX vattr (KX _ _ hC) (PySem.W.tail_of_in KX htl) hmr c.q.ga c.q.gt c.qn c.fB ⟨o, go, hc.1, hc.2.2, .inr ⟨dA, hc.2.1.trans ed, nea, hns⟩⟩ hm rfl ⟨.int n, H1, I1.tok _, ⟨t, rfl⟩, q⟩
end L2

set_option Elab.async false
set_option linter.all false
set_option maxRecDepth 100000
namespace L2
open PySem PySem.Spec PyProof.Rows
/-! ### f-strings: texts and whole numbers, no format -/
abbrev TJ := Str → St → Hp → (Str → Hp → Prop) → Prop
section
variable {X : Cx} {es : List Expr} {t : TJ} {te : TE}
/-- the rest of the parts, behind out -/
def PJ (X : Cx) (es : List Expr) (t : TJ) : Prop :=
  ∀ (out : Str) (pins : List (Addr × Obj)) (s : Shared) (σ : St) (H : Hp) (Q : Str → Hp → Prop), Inv X pins σ H s → t out σ H Q → wpAny (model X.prog X.w) X.A (joinParts out (evalEach es X.env)) (EP X pins σ fun v H' => ∃ z, v = .str z ∧ Q z H') X.xe s
def tjNil : TJ := fun out _ H Q => out.length ≤ sizeLine ∧ Q out H
def tjStr (x : Str) (t : TJ) : TJ := fun out σ H Q => (out ++ x).length ≤ sizeLine ∧ t (out ++ x) σ H Q
def FmtV (v : V) (y : Str) : Prop := v = .str y ∨ ∃ n : Int, v = .int n ∧ n.natAbs.log2 < 1920 ∧ y = toString n
def tjFmt (te : TE) (t : TJ) : TJ := fun out σ H Q => te σ H fun v H1 => ∃ y, FmtV v y ∧ y.length ≤ sizeLine ∧ (out ++ y).length ≤ sizeLine ∧ t (out ++ y) σ H1 Q
theorem pj_nil : PJ X [] tjNil := fun out pins s σ H Q I h => joinParts_nil ⟨.str out, H, I.tok _, ⟨_, rfl⟩, out, rfl, h.2⟩ h.1
theorem pj_str {x : Str} {k : Nat} {p : Pos} (hr : PJ X es t) : PJ X (.Constant (.str x) k p :: es) (tjStr x t) := fun out pins s σ H Q I h =>
  joinParts_cons (Calls.Constant_str ⟨h.1, hr _ pins _ σ H Q (I.tok _) h.2⟩)
theorem pj_fmt {e : Expr} {p : Pos} (he : PE X e te) (hr : PJ X es t) : PJ X (.FormattedValue e (-1) none p :: es) (tjFmt te t) := fun out pins s σ H Q I h => by
  refine joinParts_cons (FormattedValue_plain (thn (he pins s σ H _ I h) fun u s1 ⟨v, H1, I1, rv, y, fv, ly, lo, q⟩ => ?_))
  rcases fv with rfl | ⟨n, rfl, hn, rfl⟩
  · obtain ⟨tk, rfl⟩ := rv
    exact formatField_str (fun t' tk' => ⟨lo, hr _ pins _ σ H1 Q (I1.tok _) q⟩) ly
  · obtain ⟨tk, rfl⟩ := rv
    exact formatField_int_small hn ⟨lo, hr _ pins _ σ H1 Q (I1.tok _) q⟩
def tFstr (t : TJ) : TE := fun σ H Q => t Str.empty σ H fun z H1 => Q (.str z) H1
theorem pe_fstr {v1 v2 : Expr} {rest : List Expr} {pos : Pos} (h : PJ X (v1 :: v2 :: rest) t) : PE X (.JoinedStr (v1 :: v2 :: rest) pos) (tFstr t) := fun pins s σ H Q I hw =>
  JoinedStr_many (thn (h Str.empty pins s σ H _ I hw) fun u s1 ⟨v, H1, I1, rv, z, ez, q⟩ => ⟨v, H1, I1, rv, by rw [ez]; exact q⟩)
end
end L2

set_option Elab.async false
set_option linter.all false
set_option maxRecDepth 100000
namespace L2
open PySem PySem.Spec PyProof.Rows
/-- the program's text: where its functions come from, and that its top makes no name `super` -/
class ProgOk (prog : Program) : Prop where
  file : ((prog.main.file : Str) == ("/claim/cut.py" : Str)) = true
  top : (prog.main.scope.names.lookup ("super" : Str)).isSome = false
/-- what of an own class with an own __init__ is read off -/
def icIn (K : PySem.W.Frag) (C fI : Addr) : Bool := match K.lookup C with
  | some ⟨.type "type", _, .cls k, l⟩ => (match k.mro, l.toList with
    | .ref D :: bm, [_, _, _, _, some (.builtin i), _] => D == C && i == vnew && !k.hasDel && k.hasDict && bm.contains (.type "ValueError") && bm.contains (.type "object") && (PySem.W.alongIn K "__init__" bm == some (some (.builtin "ValueError.__init__"))) && PySem.W.tailIn K vmro bm &&
        PySem.W.nsOkIn K k.ns && (PySem.W.nsIn K k.ns "__init__" == some (some (.ref fI)))
    | _, _ => false)
  | _ => false
def InitS0 (fld qual : Str) (params : Arguments) (body : List Stmt) (scope : Scope) : Prop :=
  ∃ (slf par a b : Str) (ka kb : Nat) (p0 p1 p2 p3 p4 p5 p6 p7 p8 pa pb pc pd pj : Pos), body = [.Expr (.Call (.Attribute (.Call (.Name "super" p0) [] [] p1) "__init__" p2) [.JoinedStr [.Constant (.str a) ka pa, .FormattedValue (.Name par pb) (-1) none pc, .Constant (.str b) kb pd] pj] [] p3) p4, .Assign [.Attribute (.Name slf p5) fld p6] (.Name par p7) p8] ∧
    InitS fld "__init__" qual params body scope slf par a b p2 p3
theorem icl_mk {K : PySem.W.Frag} {mg : Str → Option Value} {prog : Program} {C f cc cda : Addr} {fld qual : Str} {params : Arguments} {body : List Stmt} {scope : Scope} {od an : Option Addr} {sl w3 v3 : Array (Option Value)} {kV dc pm ct w0 v0 : Value} {w1 v1 : Option Addr} {w2 : Array Value} {tf : Tok}
    (xi : icIn K C f = true) (xs : PySem.W.mroIn K C (.ref C) = some true) (l : K.lookup f = some ⟨.type "function", od, .func (PySem.W.ksFn "__init__" qual params body scope .none kV dc pm an (.ref cda) ct cc), sl⟩) (k : PySem.W.codeIn K (.ref cda) qual = true) (lk : K.lookup cda = some ⟨w0, w1, .fields w2, w3⟩)
    (zp : (w2[2]? : Option Value) = some (.str "/claim/cut.py" tf)) (lc : K.lookup cc = some ⟨v0, v1, .cell (some (.ref C)), v3⟩) (PO : ProgOk prog) (gl : mg "super" = none) (xo : PySem.W.nsIn K PySem.cStatics "thirdparty.any" = some none) (q3 : quietIn K vmro "__setattr__" (mroIn K C) = true) (q4 : quietIn K vmro fld (mroIn K C) = true)
    (form : InitS0 fld qual params body scope) : ICl K mg prog C fld := by
  obtain ⟨slf, par, a, b, ka, kb, p0, p1, p2, p3, p4, p5, p6, p7, p8, pa, pb, pc, pd, pj, rfl, IS⟩ := form
  refine ⟨q4, f, cc, cda, "__init__", qual, params, scope, slf, par, a, b, ka, kb, p0, p1, p2, p3, p4, p5, p6, p7, p8, pa, pb, pc, pd, pj, ⟨?_, xs, ⟨_, _, _, _, _, _, _, l⟩, k, ⟨_, _, _, _, _, _, lk, zp, PO.file⟩, ⟨_, _, _, lc⟩, PO.top, gl, xo, q3⟩, IS⟩
  unfold icIn at xi
  split at xi
  · rename_i dd cd sl' ho
    split at xi
    · rename_i C' bm k0 k1 k2 k3 n k5 hm hs
      simp only [Bool.and_eq_true, beq_iff_eq, Bool.not_eq_true'] at xi
      obtain ⟨⟨⟨⟨⟨⟨⟨⟨⟨rfl, rfl⟩, hdel⟩, hdi⟩, hV⟩, hO⟩, hal⟩, htl⟩, hok⟩, hin⟩ := xi
      have hmr : mroIn K C' = .ref C' :: bm := by unfold mroIn; rw [ho]; exact hm
      have hcd : PySem.W.clsIn K C' = some cd := by unfold PySem.W.clsIn; rw [ho]
      have hm' := hm
      obtain ⟨nm, bs, mro, ns, qn, hd, sn, sub, ab, col, del⟩ := cd
      dsimp only at hm hdel hdi hok hin; subst hm hdel hdi
      obtain ⟨l'⟩ := sl'
      simp only at hs; subst hs
      exact ⟨bm, ns, nm, qn, bs, sn, sub, ab, col, dd, k0, k1, k2, k3, k5, _, ho, hmr, hcd, rfl, hV, hO, hal, hok, hin, htl⟩
    · cases xi
  · cases xi
end L2

set_option Elab.async false
set_option linter.all false
set_option maxRecDepth 100000
namespace WB
open PySem PySem.Spec PyProof.Rows L2

/-! ### what is taken -/
structure OutE where
  t : Nat
  b : Nat
  x : Letter
  f : Nat
abbrev Out := List OutE
def TkAt (H : Hp) (tu : Int) (kv : Key × V) (e : OutE) : Prop := kv.1 = Sum.inl (e.t : Int) ∧ ∃ a lv, kv.2 = .ref a ∧ H a = some (.tup [.int (e.b : Int), lv, .int (tu + (e.f : Int))]) ∧ LetAt H lv e.x
abbrev OutAt (H : Hp) (tu : Int) (kvs : List (Key × V)) (os : Out) : Prop := Paired (TkAt H tu) kvs os
theorem TkAt.keep {H H' : Hp} {tu : Int} {kv : Key × V} {e : OutE} (t : Tups H H') (h : TkAt H tu kv e) : TkAt H' tu kv e := by
  obtain ⟨h1, a, lv, h2, h3, h4⟩ := h
  exact ⟨h1, a, lv, h2, t _ _ h3, h4.keep t⟩
theorem OutAt.keep {H H' : Hp} {tu : Int} {kvs : List (Key × V)} {os : Out} (t : Tups H H') (h : OutAt H tu kvs os) : OutAt H' tu kvs os := Paired.mapP h fun _ _ z => z.keep t
theorem OutAt.keys {H : Hp} {tu : Int} : ∀ {kvs : List (Key × V)} {os : Out}, OutAt H tu kvs os → kvs.map (·.1) = (os.map fun e => (e.t : Int)).map Sum.inl
  | _, _, .nil => rfl
  | _, _, .cons h t => by
    rw [List.map_cons, List.map_cons, List.map_cons, OutAt.keys t, h.1]
def Dist (os : Out) : Prop := os.Pairwise fun a b => a.t < b.t
theorem OutAt.val {H : Hp} {tu : Int} : ∀ {kvs : List (Key × V)} {os : Out} {e : OutE}, OutAt H tu kvs os → Dist os → e ∈ os → ∃ v, valV kvs (Sum.inl (e.t : Int)) = some v ∧ TkAt H tu (Sum.inl (e.t : Int), v) e
  | _, _, _, .nil, _, h => by cases h
  | kv :: kvs, o :: os, e, .cons h t, d, he => by
    rcases List.mem_cons.mp he with rfl | he
    · refine ⟨kv.2, valV_pos h.1, ?_⟩
      rw [← h.1]
      exact h
    · have hlt := (List.pairwise_cons.mp d).1 e he
      obtain ⟨v, h1, h2⟩ := OutAt.val t (List.pairwise_cons.mp d).2 he
      refine ⟨v, ?_, h2⟩
      rw [valV_neg (by rw [h.1]; intro z; have := Sum.inl.inj z; omega)]
      exact h1
theorem OutAt.none {H : Hp} {tu : Int} {n : Int} : ∀ {kvs : List (Key × V)} {os : Out}, OutAt H tu kvs os → (∀ e ∈ os, (e.t : Int) ≠ n) → valV kvs (Sum.inl n) = Option.none
  | _, _, .nil, _ => rfl
  | kv :: kvs, o :: os, .cons h t, d => by
    rw [valV_neg (by rw [h.1]; intro z; exact d o (by simp) (Sum.inl.inj z))]
    exact OutAt.none t fun e he => d e (by simp [he])
theorem OutAt.drop {H : Hp} {tu : Int} {n : Nat} : ∀ {kvs : List (Key × V)} {os : Out}, OutAt H tu kvs os → OutAt H tu (dropK kvs (Sum.inl (n : Int))) (os.filter fun e => decide (e.t ≠ n))
  | _, _, .nil => .nil
  | kv :: kvs, o :: os, .cons h t => by
    have ih := OutAt.drop (n := n) t
    by_cases e : o.t = n
    · rw [dropK_pos (by rw [h.1, e]), List.filter_cons_of_neg (by simp [e])]
      exact ih
    · rw [dropK_neg (by rw [h.1]; intro z; have := Sum.inl.inj z; omega), List.filter_cons_of_pos (by simp [e])]
      exact .cons h ih
theorem OutAt.repl {H : Hp} {tu : Int} {e' : OutE} {v : V} (hv : TkAt H tu (Sum.inl (e'.t : Int), v) e') : ∀ {kvs : List (Key × V)} {os : Out}, OutAt H tu kvs os →
    OutAt H tu (kvs.map fun kv => if kv.1 = Sum.inl (e'.t : Int) then (kv.1, v) else kv) (os.map fun o => if o.t = e'.t then e' else o)
  | _, _, .nil => .nil
  | kv :: kvs, o :: os, .cons h t => by
    have ih := OutAt.repl hv t
    rw [List.map_cons, List.map_cons]
    by_cases e : o.t = e'.t
    · rw [if_pos (by rw [h.1, e]), if_pos e]
      refine .cons ?_ ih
      rw [h.1, e]
      exact hv
    · rw [if_neg (by rw [h.1]; intro z; have := Sum.inl.inj z; omega), if_neg e]
      exact .cons h ih
theorem OutAt.put {H : Hp} {tu : Int} {e' : OutE} {v : V} (hv : TkAt H tu (Sum.inl (e'.t : Int), v) e') {kvs : List (Key × V)} {os : Out} (h : OutAt H tu kvs os) (hm : ∃ e ∈ os, e.t = e'.t) :
    OutAt H tu (putK kvs (Sum.inl (e'.t : Int)) v) (os.map fun o => if o.t = e'.t then e' else o) := by
  have hs : kvs.any (fun kv => decide (kv.1 = Sum.inl (e'.t : Int))) = true := by
    obtain ⟨e, he, et⟩ := hm
    have : Sum.inl (e'.t : Int) ∈ kvs.map (·.1) := by
      rw [h.keys, List.map_map]
      exact List.mem_map.mpr ⟨e, he, by simp [et]⟩
    obtain ⟨kv, hkv, e2⟩ := List.mem_map.mp this
    exact List.any_eq_true.mpr ⟨kv, hkv, by simp [e2]⟩
  unfold putK
  rw [if_pos hs]
  exact h.repl hv
/-! ### the mirror of a world of boxes -/
structure BSt where
  wait : List (List Letter)
  met : List (List LKey)
  out : Out
  many : Nat
def app (w : List (List Letter)) (b : Nat) (x : Letter) : List (List Letter) := w.set b (w.getD b [] ++ [x])
def addK (m : List LKey) (k : LKey) : List LKey := if k ∈ m then m else m ++ [k]
def bput (kn : Bool) (S : BSt) (b : Nat) (k : LKey) (z : Int) : BSt :=
  { S with wait := if kn && decide (k ∈ S.met.getD b []) then S.wait else app S.wait b (k, z), met := S.met.set b (addK (S.met.getD b []) k) }
def btake (le : Nat) (S : BSt) (b : Nat) : BSt := match S.wait.getD b [] with
  | [] => S
  | x :: r => { S with wait := S.wait.set b r, out := S.out ++ [⟨S.many, b, x, le⟩], many := S.many + 1 }
def due (os : Out) : Out := os.filter fun e => decide (e.f = 1)
def old (os : Out) : Out := (os.filter fun e => decide (e.f ≠ 1)).map fun e => { e with f := e.f - 1 }
def bturn (S : BSt) : BSt := { S with wait := (due S.out).foldl (fun w e => app w e.b e.x) S.wait, out := old S.out }
def bleft (S : BSt) (b : Nat) : List Letter := S.wait.getD b [] ++ (S.out.filter fun e => decide (e.b = b)).map (·.x)
structure BSt.Ok (N : Nat) (S : BSt) : Prop where
  lw : S.wait.length = 6
  lm : S.met.length = 6
  dist : Dist S.out
  lt : ∀ e ∈ S.out, e.t < S.many
  bx : ∀ e ∈ S.out, e.b < 6
  fr : ∀ e ∈ S.out, 1 ≤ e.f
  sz : ∀ l ∈ S.wait, l.length + S.out.length ≤ N
  sm : ∀ m ∈ S.met, m.length ≤ N
  many : S.many ≤ N
  so : S.out.length ≤ N
theorem app_len (w : List (List Letter)) (b : Nat) (x : Letter) : (app w b x).length = w.length := List.length_set ..
theorem fold_len : ∀ (es : Out) (w : List (List Letter)), (es.foldl (fun w e => app w e.b e.x) w).length = w.length
  | [], _ => rfl
  | e :: es, w => by rw [List.foldl_cons, fold_len es, app_len]
theorem due_old_len : ∀ os : Out, (due os).length + (old os).length = os.length
  | [] => rfl
  | e :: os => by
    have ih := due_old_len os
    unfold due old at ih ⊢
    by_cases h : e.f = 1
    · rw [List.filter_cons_of_pos (by simp [h]), List.filter_cons_of_neg (by simp [h])]; simp at ih ⊢; omega
    · rw [List.filter_cons_of_neg (by simp [h]), List.filter_cons_of_pos (by simp [h])]; simp at ih ⊢; omega
theorem Dist.filter {os : Out} (h : Dist os) (p : OutE → Bool) : Dist (os.filter p) := List.Pairwise.filter p h
theorem old_dist {os : Out} (h : Dist os) : Dist (old os) := by
  unfold old Dist
  rw [List.pairwise_map]
  exact h.filter _
theorem mem_old {os : Out} {e : OutE} (h : e ∈ old os) : ∃ o ∈ os, o.t = e.t ∧ o.b = e.b ∧ o.x = e.x ∧ o.f ≠ 1 ∧ e.f = o.f - 1 := by
  obtain ⟨o, ho, rfl⟩ := List.mem_map.mp h
  obtain ⟨h1, h2⟩ := List.mem_filter.mp ho
  exact ⟨o, h1, rfl, rfl, rfl, of_decide_eq_true h2, rfl⟩
theorem BSt.Ok.mono {N M : Nat} {S : BSt} (h : S.Ok N) (hm : N ≤ M) : S.Ok M :=
  ⟨h.lw, h.lm, h.dist, h.lt, h.bx, h.fr, fun l hl => Nat.le_trans (h.sz l hl) hm, fun l hl => Nat.le_trans (h.sm l hl) hm, Nat.le_trans h.many hm, Nat.le_trans h.so hm⟩
/-! ### parts of a world of boxes -/
def KeepOn (l : List Addr) (H H' : Hp) : Prop := ∀ x ∈ l, ∀ o, H x = some o → H' x = some o
theorem KeepOn.of_same {H H' : Hp} (s : Same H H') (l : List Addr) : KeepOn l H H' := fun _ _ _ h => s _ _ h
theorem KeepOn.put {H : Hp} {q : Addr} {o : HO} {l : List Addr} (h : q ∉ l) : KeepOn l H (upd H q o) := fun x hx u hu => by
  rw [upd_ne (fun z => h (by rw [← z]; exact hx))]; exact hu
theorem KeepOn.trans {l : List Addr} {H H1 H2 : Hp} (a : KeepOn l H H1) (b : KeepOn l H1 H2) : KeepOn l H H2 := fun x hx o h => b x hx o (a x hx o h)
theorem KeepOn.of_fr {F l : List Addr} {H H' : Hp} (f : Fr F H H') (d : ∀ x ∈ l, x ∉ F) : KeepOn l H H' := fun x hx o h => f _ _ h (d x hx)
theorem KeepOn.sub {l m : List Addr} {H H' : Hp} (a : KeepOn l H H') (h : ∀ x ∈ m, x ∈ l) : KeepOn m H H' := fun x hx o e => a x (h x hx) o e
theorem OwnAt.on {H H' : Hp} {O : Addr} {os : List Addr} {L : List (List Letter)} (W : OwnAt H O os L) (t : Tups H H') (k : KeepOn (O :: os) H H') : OwnAt H' O os L :=
  W.keep t (fun o h => k O (by simp) o h) fun x hx o h => k x (by simp [hx]) o h
/-- one row changed -/
theorem OwnAt.row {H H' : Hp} {O : Addr} {os : List Addr} {L : List (List Letter)} (W : OwnAt H O os L) (t : Tups H H') {i : Nat} {o : Addr} (ho : os[i]? = some o) (k : KeepOn (O :: os.filter fun x => decide (x ≠ o)) H H') (hO : O ≠ o) {vs : List V} {l : List Letter}
    (h1 : H' o = some (.lst vs)) (h2 : LetsAt H' vs l) : OwnAt H' O os (L.set i l) := by
  have hi : i < L.length := by rw [W.lL, ← W.lo]; exact (List.getElem?_eq_some_iff.mp ho).1
  refine ⟨k O (by simp) _ W.hO, W.lo, by rw [List.length_set]; exact W.lL, fun j o' l' q1 q2 => ?_, W.nd⟩
  by_cases e : j = i
  · subst e
    rw [ho] at q1; cases q1
    rw [List.getElem?_set_self hi] at q2
    cases q2
    exact ⟨vs, h1, h2⟩
  · rw [List.getElem?_set_ne (Ne.symm e)] at q2
    obtain ⟨us, p1, p2⟩ := W.own _ _ _ q1 q2
    have ne : o' ≠ o := by rintro rfl; exact e (nd_ix W.nd q1 ho)
    exact ⟨us, k o' (by simp only [List.mem_cons, List.mem_filter]; exact .inr ⟨List.mem_of_getElem? q1, by simp [ne]⟩) _ p1, LetsAt.keep t p2⟩
structure KnAt (H : Hp) (O : Addr) (os : List Addr) (M : List (List LKey)) : Prop where
  hO : H O = some (.lst (os.map V.ref))
  lo : os.length = 6
  lL : M.length = 6
  kn : ∀ (i : Nat) o m, os[i]? = some o → M[i]? = some m → ∃ kvs, H o = some (.dT kvs) ∧ kvs.length ≤ m.length ∧ ∀ k, (valV kvs (kK k)).isSome = decide (k ∈ m)
  nd : os.Nodup
theorem KnAt.on {H H' : Hp} {O : Addr} {os : List Addr} {M : List (List LKey)} (W : KnAt H O os M) (k : KeepOn (O :: os) H H') : KnAt H' O os M :=
  ⟨k O (by simp) _ W.hO, W.lo, W.lL, fun i o m h1 h2 => by
    obtain ⟨kvs, h, q⟩ := W.kn i o m h1 h2
    exact ⟨kvs, k o (by simp [List.mem_of_getElem? h1]) _ h, q⟩, W.nd⟩
theorem KnAt.row {H H' : Hp} {O : Addr} {os : List Addr} {M : List (List LKey)} (W : KnAt H O os M) {i : Nat} {o : Addr} (ho : os[i]? = some o) (k : KeepOn (O :: os.filter fun x => decide (x ≠ o)) H H') (hO : O ≠ o) {kvs : List (List Key × V)} {m : List LKey}
    (h1 : H' o = some (.dT kvs)) (h2 : kvs.length ≤ m.length) (h3 : ∀ k, (valV kvs (kK k)).isSome = decide (k ∈ m)) : KnAt H' O os (M.set i m) := by
  have hi : i < M.length := by rw [W.lL, ← W.lo]; exact (List.getElem?_eq_some_iff.mp ho).1
  refine ⟨k O (by simp) _ W.hO, W.lo, by rw [List.length_set]; exact W.lL, fun j o' l' q1 q2 => ?_, W.nd⟩
  by_cases e : j = i
  · subst e
    rw [ho] at q1; cases q1
    rw [List.getElem?_set_self hi] at q2
    cases q2
    exact ⟨kvs, h1, h2, h3⟩
  · rw [List.getElem?_set_ne (Ne.symm e)] at q2
    obtain ⟨us, p1, p2⟩ := W.kn _ _ _ q1 q2
    have ne : o' ≠ o := by rintro rfl; exact e (nd_ix W.nd q1 ho)
    exact ⟨us, k o' (by simp only [List.mem_cons, List.mem_filter]; exact .inr ⟨List.mem_of_getElem? q1, by simp [ne]⟩) _ p1, p2⟩
structure BAd where
  W : Addr
  Kn : Addr
  Tk : Addr
  ws : List Addr
  ks : List Addr
abbrev BAd.all (A : BAd) (p : Addr) : List Addr := p :: A.Tk :: A.W :: A.Kn :: (A.ws ++ A.ks)
def boxF (nm : Int) (kn : Bool) (le : Nat) (W Kn Tk : Addr) (ti : Nat) (tu : Int) : List (Str × V) :=
  [("world", .int nm), ("knows", .bl kn), ("lease", .int (le : Int)), ("waiting", .ref W), ("known", .ref Kn), ("taken", .ref Tk), ("tickets", .int (ti : Int)), ("turns", .int tu)]
structure BoxAt (C : Addr) (H : Hp) (p : Addr) (A : BAd) (nm : Int) (kn : Bool) (le : Nat) (tu : Int) (S : BSt) : Prop where
  ob : ∃ dx, H p = some (.ins C dx (boxF nm kn le A.W A.Kn A.Tk S.many tu))
  w : OwnAt H A.W A.ws S.wait
  k : KnAt H A.Kn A.ks S.met
  t : ∃ kvs, H A.Tk = some (.dK kvs) ∧ OutAt H tu kvs S.out
  nd : (A.all p).Nodup
theorem BoxAt.on {C : Addr} {H H' : Hp} {p : Addr} {A : BAd} {nm : Int} {kn : Bool} {le : Nat} {tu : Int} {S : BSt} (B : BoxAt C H p A nm kn le tu S) (t : Tups H H') (k : KeepOn (A.all p) H H') : BoxAt C H' p A nm kn le tu S :=
  ⟨let ⟨dx, h⟩ := B.ob; ⟨dx, k p (by simp) _ h⟩, B.w.on t (k.sub fun x hx => by simp only [List.mem_cons, List.mem_append] at hx ⊢; rcases hx with h | h <;> simp [h]),
    B.k.on (k.sub fun x hx => by simp only [List.mem_cons, List.mem_append] at hx ⊢; rcases hx with h | h <;> simp [h]), let ⟨kvs, h, q⟩ := B.t; ⟨kvs, k A.Tk (by simp) _ h, q.keep t⟩, B.nd⟩
theorem BoxAt.same {C : Addr} {H H' : Hp} {p : Addr} {A : BAd} {nm : Int} {kn : Bool} {le : Nat} {tu : Int} {S : BSt} (B : BoxAt C H p A nm kn le tu S) (s : Same H H') : BoxAt C H' p A nm kn le tu S := B.on (Tups.of_same s) (.of_same s _)

/-! ### the law's own -/
def mK (kn : Bool) (le : Nat) (W O T : Addr) (many : Nat) : List (Key × V) :=
  [(Sum.inr "knows", .bl kn), (Sum.inr "lease", .int (le : Int)), (Sum.inr "wait", .ref W), (Sum.inr "out", .ref O), (Sum.inr "met", .ref T), (Sum.inr "many", .int (many : Int))]
structure MAd where
  W : Addr
  O : Addr
  T : Addr
  ws : List Addr
abbrev MAd.all (B : MAd) (M : Addr) : List Addr := M :: B.W :: B.O :: B.T :: B.ws
def MetAt (P : Program) (w : World) (N : Nat) (H : Hp) (T : Addr) (met : List (List LKey)) : Prop :=
  ∃ xs, H T = some (PDict P w T xs) ∧ (∀ x ∈ xs, PairAt H x.1 x.2) ∧ xs.length ≤ N ∧ ∀ (i : Nat) m, met[i]? = some m → ∀ k, hasP xs ((i : Int), kK k) = decide (k ∈ m)
theorem MetAt.on {P : Program} {w : World} {N : Nat} {H H' : Hp} {T : Addr} {met : List (List LKey)} (h : MetAt P w N H T met) (t : Tups H H') (k : ∀ o, H T = some o → H' T = some o) : MetAt P w N H' T met := by
  obtain ⟨xs, h1, h2, h3⟩ := h
  exact ⟨xs, k _ h1, fun x hx => let ⟨c, q1, q2⟩ := h2 x hx; ⟨c, t _ _ q1, t _ _ q2⟩, h3⟩
structure MAt (P : Program) (w : World) (N : Nat) (H : Hp) (M : Addr) (B : MAd) (kn : Bool) (le : Nat) (S : BSt) : Prop where
  m : H M = some (.dK (mK kn le B.W B.O B.T S.many))
  wt : OwnAt H B.W B.ws S.wait
  o : ∃ kvs, H B.O = some (.dK kvs) ∧ OutAt H 0 kvs S.out
  t : MetAt P w N H B.T S.met
  nd : (B.all M).Nodup
theorem MAt.on {P : Program} {w : World} {N : Nat} {H H' : Hp} {M : Addr} {B : MAd} {kn : Bool} {le : Nat} {S : BSt} (A : MAt P w N H M B kn le S) (t : Tups H H') (k : KeepOn (B.all M) H H') : MAt P w N H' M B kn le S :=
  ⟨k M (by simp) _ A.m, A.wt.on t (k.sub fun x hx => by simp only [List.mem_cons] at hx ⊢; rcases hx with h | h <;> simp [h]), let ⟨kvs, h, q⟩ := A.o; ⟨kvs, k B.O (by simp) _ h, q.keep t⟩, A.t.on t fun o h => k B.T (by simp) o h, A.nd⟩
section
variable {H : Hp} {M : Addr} {kn : Bool} {le : Nat} {W O T : Addr} {many : Nat}
end

/-! ### more of what is taken -/
theorem OutAt.has {H : Hp} {tu : Int} {kvs : List (Key × V)} {os : Out} (h : OutAt H tu kvs os) (d : Dist os) (t : Nat) : (valV kvs (Sum.inl (t : Int))).isSome = os.any fun e => decide (e.t = t) := by
  by_cases hm : ∃ e ∈ os, e.t = t
  · obtain ⟨e, he, rfl⟩ := hm
    obtain ⟨v, hv, _⟩ := h.val d he
    rw [hv]
    symm
    exact List.any_eq_true.mpr ⟨e, he, by simp⟩
  · rw [h.none fun e he z => hm ⟨e, he, by omega⟩]
    symm
    rw [Option.isSome_none, List.any_eq_false]
    intro e he z
    exact hm ⟨e, he, of_decide_eq_true z⟩
/-! ### the law's turn -/
/-- a world of boxes, the law's own beside it, the dice -/
structure DeedAt (P : Program) (w : World) (C : Addr) (N : Nat) (H : Hp) (d p M : Addr) (A : BAd) (B : MAd) (kn : Bool) (le : Nat) (S : BSt) : Prop where
  dice : ∃ xs, H d = some (.lst xs) ∧ DiceL xs
  box : ∃ tu, BoxAt C H p A 3 kn le tu S
  own : MAt P w N H M B kn le S
  ok : S.Ok N
  dA : d ∉ A.all p
  dB : d ∉ B.all M
  AB : ∀ x ∈ A.all p, x ∉ B.all M
section
variable {P : Program} {w : World} {C : Addr} {N : Nat} {H H' : Hp} {d p M : Addr} {A : BAd} {B : MAd} {kn : Bool} {le : Nat} {S S' : BSt}
theorem DeedAt.roll (G : DeedAt P w C N H d p M A B kn le S) {ys : List V} (h : DiceL ys) : DeedAt P w C N (upd H d (.lst ys)) d p M A B kn le S ∧ Tups H (upd H d (.lst ys)) := by
  obtain ⟨xs, hd, _⟩ := G.dice
  have t : Tups H (upd H d (.lst ys)) := fun b xs hb => by rw [upd_ne (ne_of hb hd (by intro z; cases z))]; exact hb
  obtain ⟨tu, b⟩ := G.box
  exact ⟨⟨⟨ys, upd_same, h⟩, ⟨tu, b.on t (.put G.dA)⟩, G.own.on t (.put G.dB), G.ok, G.dA, G.dB, G.AB⟩, t⟩
theorem DeedAt.key (G : DeedAt P w C N H d p M A B kn le S) {Q : VK}
    (k : ∀ (c : LKey) q H', keyOk c → DeedAt P w C N H' d p M A B kn le S → Tups H H' → Fr [d] H H' → KeyAt H' (.ref q) c → Q (.ref q) H') : KeyP [V.ref d] H Q := by
  obtain ⟨xs, hd, q⟩ := G.dice
  refine ⟨d, xs, rfl, hd, q, fun c ys z ok D hz => ?_⟩
  have hz' : (upd H d (.lst ys)) z = none := by rw [upd_ne (ne_of_none hd hz).symm]; exact hz
  obtain ⟨G1, t1⟩ := G.roll D
  obtain ⟨tu, b⟩ := G1.box
  have s : Same (upd H d (.lst ys)) (upd (upd H d (.lst ys)) z (.tup (kL c))) := Same.upd hz'
  obtain ⟨xs1, hd1, q1⟩ := G1.dice
  exact k c z _ ok ⟨⟨xs1, s _ _ hd1, q1⟩, ⟨tu, b.same s⟩, G1.own.on (Tups.of_same s) (.of_same s _), G1.ok, G1.dA, G1.dB, G1.AB⟩ (fun b xs hb => s _ _ (t1 b xs hb)) ((Fr.put (by simp)).trans (Fr.same s _)) ⟨z, rfl, upd_same⟩
theorem DeedAt.grow (G : DeedAt P w C N H d p M A B kn le S) (s : Same H H') : DeedAt P w C N H' d p M A B kn le S := by
  obtain ⟨xs, hd, q⟩ := G.dice
  obtain ⟨tu, b⟩ := G.box
  exact ⟨⟨xs, s _ _ hd, q⟩, ⟨tu, b.same s⟩, G.own.on (Tups.of_same s) (.of_same s _), G.ok, G.dA, G.dB, G.AB⟩
end

/-! ### both sides -/
structure SideB where
  p : Addr
  A : BAd
  M : Addr
  B : MAd
  kn : Bool
  le : Nat
  T : Addr
abbrev SideB.wo (S : SideB) : List Addr := S.A.all S.p
abbrev SideB.ow (S : SideB) : List Addr := S.B.all S.M
structure SBAt (P : Program) (w : World) (C : Addr) (N : Nat) (H : Hp) (S : SideB) (st : BSt) : Prop where
  box : ∃ tu, BoxAt C H S.p S.A 3 S.kn S.le tu st
  own : MAt P w N H S.M S.B S.kn S.le st
  ok : st.Ok N
  hT : H S.T = some (.tup [.ref S.p, .ref S.M])
structure GB (P : Program) (w : World) (C : Addr) (N : Nat) (lab : Addr → Nat) (d SD : Addr) (Ss : List SideB) (Sts : List BSt) (H : Hp) : Prop where
  dice : ∃ xs, H d = some (.lst xs) ∧ DiceL xs
  sd : H SD = some (.lst (Ss.map fun S => V.ref S.T))
  at_ : ∀ (j : Nat) S st, Ss[j]? = some S → Sts[j]? = some st → SBAt P w C N H S st
  len : Sts.length = Ss.length
  ld : lab d = 1
  lsd : lab SD = 2
  lfo : ∀ (j : Nat) S, Ss[j]? = some S → (∀ x ∈ S.wo, lab x = 3 + 2 * j) ∧ (∀ x ∈ S.ow, lab x = 4 + 2 * j) ∧ 1 ≤ S.le
section
variable {P : Program} {w : World} {C : Addr} {N : Nat} {lab : Addr → Nat} {d SD : Addr} {Ss : List SideB} {Sts : List BSt} {H H' : Hp}
theorem SBAt.on {S : SideB} {st : BSt} (G : SBAt P w C N H S st) (t : Tups H H') (k1 : KeepOn S.wo H H') (k2 : KeepOn S.ow H H') : SBAt P w C N H' S st :=
  ⟨let ⟨tu, b⟩ := G.box; ⟨tu, b.on t k1⟩, G.own.on t k2, G.ok, t _ _ G.hT⟩
theorem GB.grow (G : GB P w C N lab d SD Ss Sts H) (s : Same H H') : GB P w C N lab d SD Ss Sts H' :=
  ⟨let ⟨xs, h, q⟩ := G.dice; ⟨xs, s _ _ h, q⟩, s _ _ G.sd, fun j S st h1 h2 => (G.at_ j S st h1 h2).on (Tups.of_same s) (.of_same s _) (.of_same s _), G.len, G.ld, G.lsd, G.lfo⟩
end
end WB

set_option Elab.async false
set_option linter.all false
set_option maxRecDepth 100000
namespace WB
open PySem PySem.Spec PyProof.Rows PySem.W PySem.Calls PyProof.V L2
section
variable {prog : Program} {w : World} {A : Around} {E : Value → Shared → Prop} {s : Shared} {KT : Type} [DecidableEq KT] {knd : KeyKind prog w KT} {kvs : List (KT × Value)} {ep : Nat} {d : Addr} {ch : List Addr}
end
end WB
namespace WB
open PySem PySem.Spec PyProof.Rows L2
section
variable {X : Cx} {pins : List (Addr × Obj)} {σ : L2.St} {H : Hp} {s : Shared} {a b : Addr}
end
end WB
namespace L2
open PySem PySem.Spec PyProof.Rows
end L2

set_option Elab.async false
set_option linter.all false
set_option maxRecDepth 100000
namespace WB
open PySem PySem.Spec PyProof.Rows L2

/-! ### comprehensions whose turns leave all as it was -/
section
variable {K : PySem.W.Frag} {a : Addr} {xs : List V} {g : TG} {tt : TT} {te : TE} {vs : List Nat} {σ : L2.St} {H1 : Hp} {D : Addr} {Qd : Hp → Prop}
theorem take_fm {α β : Type} {f : α → Option β} {xs : List α} {i : Nat} {x : α} (h : xs[i]? = some x) : (xs.take (i + 1)).filterMap f = (xs.take i).filterMap f ++ (match f x with | some y => [y] | none => []) := by
  rw [List.take_succ, h, List.filterMap_append]
  simp only [Option.toList, List.filterMap_cons, List.filterMap_nil]
  cases f x <;> rfl
theorem lc_fmL (f : V → Option V) (hD : H1 D = none) (hS : SqL K H1 a xs) (hlen : xs.length ≤ 100000)
    (hs : ∀ (i : Nat) (x : V) (H : Hp) (R : VK) (N : Hp → Prop), xs[i]? = some x → Same H1 H → (∀ y, f x = some y → ∀ H4, Same H H4 → R y H4) → (f x = none → ∀ H4, Same H H4 → N H4) →
      g x (wipe σ vs) H fun σ2 H2 => wipe σ2 vs = wipe σ vs ∧ tt σ2 H2 fun b H3 => if b = true then te σ2 H3 R else N H3)
    (hd : ∀ H', Same H1 H' → H' D = some (.lst (xs.filterMap f)) → Qd H') :
    ∃ W : Nat → Nat → Hp → Prop, (∃ m, W 0 m (upd H1 D (.lst []))) ∧ ∀ i m H, W i m H →
      ((Itl K a).stop i H ∧ Qd H) ∨ ((Itl K a).go i H ∧ ∃ Nx : Hp → Prop, (∀ H', Nx H' → ∃ m', m' < m ∧ W (i + 1) m' H') ∧ ∀ x H', (Itl K a).yld i H x H' → g x (wipe σ vs) H' fun σ2 H2 => wipe σ2 vs = wipe σ vs ∧ tt σ2 H2 fun b H3 =>
        if b = true then te σ2 H3 fun y H4 => ∃ acc, H4 D = some (.lst acc) ∧ acc.length < sizeLine ∧ Nx (upd H4 D (.lst (acc ++ [y]))) else Nx H3) := by
  refine lc_list (K := K) (a := a) (xs := xs) (fun i H' => Same H1 H' ∧ H' D = some (.lst ((xs.take i).filterMap f))) ⟨Same.upd hD, by rw [upd_same]; rfl⟩ (fun i H' _ z => z.1.seq hS) ?_ ?_
  · rintro i x H hi ⟨sm, hd'⟩
    have hil : i < xs.length := (List.getElem?_eq_some_iff.mp hi).1
    refine hs i x H _ _ hi sm (fun y hy H4 s4 => ?_) (fun hn H4 s4 => ?_)
    · refine ⟨_, s4 _ _ hd', ?_, fun b o e => ?_, ?_⟩
      · have h1 : ((xs.take i).filterMap f).length ≤ (xs.take i).length := List.length_filterMap_le _ _
        rw [List.length_take] at h1
        exact sz_lt (by omega)
      · rw [upd_ne (ne_of_none e hD)]; exact s4 _ _ (sm _ _ e)
      · rw [upd_same, take_fm hi, hy]
    · exact ⟨sm.trans s4, by rw [s4 _ _ hd', take_fm hi, hn]; simp⟩
  · rintro H ⟨sm, hd'⟩
    rw [List.take_length] at hd'
    exact hd H sm hd'
end
end WB

set_option Elab.async false
set_option linter.all false
set_option maxRecDepth 100000
namespace L2
open PySem PySem.Spec PyProof.Rows

/-! ### except D: .. raise -/
section
variable {X : Cx} {R : St → XK} {rH : Ends → St → XK} {hs : List ExceptHandler} {σ : St} {H : Hp} {s : Shared}
end
end L2

set_option Elab.async false
set_option linter.all false
set_option maxRecDepth 100000
namespace L2
open PySem PySem.Spec PyProof.Rows

/-! ### {k: v for x in ..} -/
section
variable {X : Cx} {pins : List (Addr × Obj)} {σ : St} {H : Hp} {s : Shared} {a : Addr} {A : Around} {E : Value → Shared → Prop} {y v : V} {u r : Value}
end
section
variable {X : Cx}
end
end L2

set_option Elab.async false
set_option linter.all false
set_option maxRecDepth 100000
namespace WB
open PySem PySem.Spec PyProof.Rows L2

/-! ### the mirror -/
/-- what comes of a call -/
inductive Oc (α : Type) where
  | ok (v : α) | cut | fallen
/-- a world -/
inductive Wd where
  | rows (kn : Bool) (L : List (List Letter))
  | boxes (kn : Bool) (le : Nat) (S : BSt)
def Wd.kn : Wd → Bool
  | .rows kn _ => kn
  | .boxes kn _ _ => kn
def Wd.sort : Wd → Str
  | .rows _ _ => "rows"
  | .boxes _ _ _ => "boxes"
def Wd.row : Wd → Nat → List Letter
  | .rows _ L, i => L.getD i []
  | .boxes _ _ _, _ => []
abbrev Tr := List (LKey × Nat)
abbrev Slot := Tr × List LKey
/-- lines' words, worlds, the book -/
structure Sy where
  w : Bool → Wd
  l : Bool → List Str
  bk : List (Nat × Slot)
  pu : Option Nat
def bset {α : Type} (f : Bool → α) (i : Bool) (x : α) : Bool → α := fun j => if j = i then x else f j
theorem bset_same {α : Type} {f : Bool → α} {i : Bool} {x : α} : bset f i x i = x := if_pos rfl
theorem bset_ne {α : Type} {f : Bool → α} {i j : Bool} {x : α} (h : j ≠ i) : bset f i x j = f j := if_neg h
/-- a word's meaning: is the call done, does it come back, with what -/
inductive Wm where
  | good | lost | deaf | fall | fin
  deriving DecidableEq
def wm (w : Str) : Wm := if w = "lost" then .lost else if w = "fall" then .fall else if w = "deaf" then .deaf else if w = "end" then .fin else .good
def Oc.map {α β : Type} (f : α → β) : Oc α → Oc β
  | .ok v => .ok (f v)
  | .cut => .cut
  | .fallen => .fallen
/-- the calls of a world -/
def wWrite (i : Nat) (k : LKey) (b : Int) : Wd → Wd × Nat
  | .rows kn L => (.rows kn (L.set i (wrL kn (L.getD i []) k b)), wrI kn (L.getD i []) k)
  | w => (w, 0)
def wPut (b : Nat) (k : LKey) (z : Int) : Wd → Wd × Unit
  | .boxes kn le S => (.boxes kn le (bput kn S b k z), ())
  | w => (w, ())
def wTake (b : Nat) : Wd → Wd × Option (Nat × Letter)
  | .boxes kn le S => (.boxes kn le (btake le S b), match S.wait.getD b [] with | [] => none | x :: _ => some (S.many, x))
  | w => (w, none)
/-- the book -/
def bkGet (b : List (Nat × Slot)) (n : Nat) : Option Slot := (b.find? fun x => decide (x.1 = n)).map (·.2)
def bkPut (b : List (Nat × Slot)) (n : Nat) (x : Slot) : List (Nat × Slot) :=
  if (b.any fun y => decide (y.1 = n)) = true then b.map (fun y => if y.1 = n then (y.1, x) else y) else b ++ [(n, x)]
def Sy.put (s : Sy) (n : Nat) (x : Slot) : Sy × Oc Unit := match s.pu with
  | some 0 => ({ s with pu := none }, .fallen)
  | some (m + 1) => ({ s with pu := some m, bk := bkPut s.bk n x }, .ok ())
  | none => ({ s with bk := bkPut s.bk n x }, .ok ())
def Sy.kept (s : Sy) (n : Nat) : Slot := (bkGet s.bk n).getD ([], [])
def trGet (t : Tr) (k : LKey) : Option Nat := (t.find? fun x => decide (x.1 = k)).map (·.2)
/-- a way: from side i's from to the other side's to, with its slot; nm: the worlds' names -/
structure Way where
  i : Bool
  fr : Nat
  to : Nat
  sl : Nat
def isDue (nm : Int) (ov : List LKey) (k : LKey) : Bool := decide (k.1 ≠ nm) && !decide (k ∈ ov)
/-- how much there is -/
def Wd.Ok (N : Nat) : Wd → Prop
  | .rows _ L => ∀ l ∈ L, l.length ≤ N
  | .boxes _ le S => S.Ok N ∧ 1 ≤ le
structure Sy.Ok (N : Nat) (s : Sy) : Prop where
  w : ∀ i, (s.w i).Ok N
  b : ∀ x ∈ s.bk, (x.2.1.length ≤ N ∧ x.2.2.length ≤ N) ∧ (x.2.1.map (·.1)).Nodup ∧ x.2.2.Nodup

/-! ### where it stands -/
inductive WAd where
  | r (A : RAd) | b (A : BAd)
def WAd.all (p : Addr) : WAd → List Addr
  | .r A => p :: A.R :: A.P :: (A.rs ++ A.ds)
  | .b A => A.all p
/-- the classes -/
structure Cl5 where
  rows : Addr
  boxes : Addr
  line : Addr
  book : Addr
  cut : Addr
  fallen : Addr
inductive WAt (c : Cl5) (H : Hp) (p : Addr) (nm : Int) : WAd → Wd → Prop where
  | rows {A : RAd} {kn : Bool} {L : List (List Letter)} : RowsAt c.rows H p A nm kn L → WAt c H p nm (.r A) (.rows kn L)
  | boxes {A : BAd} {kn : Bool} {le : Nat} {tu : Int} {S : BSt} : BoxAt c.boxes H p A nm kn le tu S → WAt c H p nm (.b A) (.boxes kn le S)
def lineF (p wl : Addr) (n : Nat) : List (Str × V) := [("world", .ref p), ("words", .ref wl), ("made", .int (n : Int))]
def bookF (sd : Addr) (pu : Option Nat) : List (Str × V) := [("slots", .ref sd), ("puts", match pu with | none => .non | some n => .int (n : Int))]
def trL (t : Tr) : List (List Key × V) := t.map fun x => (kK x.1, .int (x.2 : Int))
def ovL (o : List LKey) : List (List Key × V) := o.map fun k => (kK k, .bl true)
def SlotAt (H : Hp) (ds : List Addr) (v : V) (x : Slot) : Prop := ∃ t d1 d2, v = .ref t ∧ H t = some (.tup [.ref d1, .ref d2]) ∧ H d1 = some (.dT (trL x.1)) ∧ H d2 = some (.dT (ovL x.2)) ∧ d1 ∈ ds ∧ d2 ∈ ds
/-- addresses: worlds, lines, their words; the book, its slots, what stands in the slots -/
structure Ad where
  p : Bool → Addr
  A : Bool → WAd
  l : Bool → Addr
  wl : Bool → Addr
  b : Addr
  sd : Addr
  ds : List Addr
def Ad.lin (a : Ad) : List Addr := [a.l false, a.wl false, a.l true, a.wl true, a.b, a.sd]
def Ad.own (a : Ad) : List Addr := (a.A false).all (a.p false) ++ (a.A true).all (a.p true) ++ a.lin
theorem Ad.own_w {a : Ad} {i : Bool} {x : Addr} (h : x ∈ (a.A i).all (a.p i)) : x ∈ a.own := by
  unfold Ad.own
  cases i
  · exact List.mem_append_left _ (List.mem_append_left _ h)
  · exact List.mem_append_left _ (List.mem_append_right _ h)
theorem Ad.own_l {a : Ad} {i : Bool} : a.l i ∈ a.own := by
  unfold Ad.own Ad.lin
  cases i <;> simp
theorem Ad.own_wl {a : Ad} {i : Bool} : a.wl i ∈ a.own := by
  unfold Ad.own Ad.lin
  cases i <;> simp
theorem Ad.own_b {a : Ad} : a.b ∈ a.own := by simp [Ad.own, Ad.lin]
theorem Ad.own_sd {a : Ad} : a.sd ∈ a.own := by simp [Ad.own, Ad.lin]
structure SiteAt (c : Cl5) (nm : Bool → Int) (H : Hp) (a : Ad) (s : Sy) : Prop where
  w : ∀ i, WAt c H (a.p i) (nm i) (a.A i) (s.w i)
  l : ∀ i, ∃ dx n, H (a.l i) = some (.ins c.line dx (lineF (a.p i) (a.wl i) n))
  wl : ∀ i, H (a.wl i) = some (.lst ((s.l i).map V.str)) ∧ (s.l i).length ≤ 100
  b : ∃ dx, H a.b = some (.ins c.book dx (bookF a.sd s.pu))
  k : ∃ kvs, H a.sd = some (.dK kvs) ∧ Paired (fun (kv : Key × V) (x : Nat × Slot) => kv.1 = Sum.inl (x.1 : Int) ∧ SlotAt H a.ds kv.2 x.2) kvs s.bk
  nk : (s.bk.map (·.1)).Nodup ∧ ∀ x ∈ s.bk, x.1 < 10
  nd : a.own.Nodup
  out : ∀ x ∈ a.ds, x ∉ a.own
  ds : ∀ x ∈ a.ds, H x ≠ none
/-- what moved -/
structure Mv (H H' : Hp) (a a' : Ad) : Prop where
  fr : Fr a.own H H'
  tups : Tups H H'
  dom : ∀ x, H' x = none → H x = none
  p : a'.p = a.p
  A : a'.A = a.A
  l : a'.l = a.l
  b : a'.b = a.b
  sd : a'.sd = a.sd
  wl : ∀ i, a'.wl i = a.wl i ∨ H (a'.wl i) = none
  ds : ∀ x ∈ a'.ds, x ∈ a.ds ∨ H x = none
theorem Mv.of_same {H H' : Hp} (s : Same H H') (a : Ad) : Mv H H' a a :=
  ⟨Fr.same s _, Tups.of_same s, fun _ h => s.free h, rfl, rfl, rfl, rfl, rfl, fun _ => .inl rfl, fun _ h => .inl h⟩
theorem Mv.own {H H' : Hp} {a a' : Ad} (m : Mv H H' a a') {x : Addr} (h : x ∈ a'.own) : x ∈ a.own ∨ H x = none := by
  unfold Ad.own Ad.lin at h
  rw [m.p, m.A, m.l, m.b, m.sd] at h
  simp only [List.mem_append, List.mem_cons, List.not_mem_nil, or_false] at h
  rcases h with (h | h) | (h | h | h | h | h | h)
  · exact .inl (Ad.own_w (i := false) h)
  · exact .inl (Ad.own_w (i := true) h)
  · exact .inl (h ▸ Ad.own_l)
  · rcases m.wl false with z | z
    · exact .inl (by rw [h, z]; exact Ad.own_wl)
    · exact .inr (by rw [h]; exact z)
  · exact .inl (h ▸ Ad.own_l)
  · rcases m.wl true with z | z
    · exact .inl (by rw [h, z]; exact Ad.own_wl)
    · exact .inr (by rw [h]; exact z)
  · exact .inl (h ▸ Ad.own_b)
  · exact .inl (h ▸ Ad.own_sd)
theorem Mv.trans {H H1 H2 : Hp} {a a1 a2 : Ad} (m : Mv H H1 a a1) (n : Mv H1 H2 a1 a2) : Mv H H2 a a2 where
  fr := fun b o h nb => n.fr b o (m.fr b o h nb) fun z => (m.own z).elim nb fun q => by rw [h] at q; cases q
  tups := fun b xs h => n.tups b xs (m.tups b xs h)
  dom := fun x h => m.dom x (n.dom x h)
  p := n.p.trans m.p
  A := n.A.trans m.A
  l := n.l.trans m.l
  b := n.b.trans m.b
  sd := n.sd.trans m.sd
  wl := fun i => (n.wl i).elim (fun z => z ▸ m.wl i) fun z => .inr (m.dom _ z)
  ds := fun x h => (n.ds x h).elim (m.ds x) fun z => .inr (m.dom _ z)
/-- what is no part of the site -/
def Off (H : Hp) (a : Ad) (x : Addr) : Prop := H x ≠ none ∧ x ∉ a.own ∧ x ∉ a.ds
theorem Mv.off {H H' : Hp} {a a' : Ad} (m : Mv H H' a a') {x : Addr} (h : Off H a x) : Off H' a' x ∧ ∀ o, H x = some o → H' x = some o := by
  have k : ∀ o, H x = some o → H' x = some o := fun o e => m.fr x o e h.2.1
  refine ⟨⟨fun z => h.1 (m.dom x z), fun z => (m.own z).elim h.2.1 h.1, fun z => (m.ds x z).elim h.2.2 h.1⟩, k⟩
/-! ### it stays -/
theorem RowsAt.on2 {C : Addr} {H H' : Hp} {p : Addr} {A : RAd} {nm : Int} {kn : Bool} {L : List (List Letter)} (W : RowsAt C H p A nm kn L) (t : Tups H H') (k : KeepOn (p :: A.R :: A.P :: (A.rs ++ A.ds)) H H') : RowsAt C H' p A nm kn L where
  ob := let ⟨dx, h⟩ := W.ob; ⟨dx, k p (by simp) _ h⟩
  hR := k A.R (by simp) _ W.hR
  hP := k A.P (by simp) _ W.hP
  lr := W.lr
  ld := W.ld
  lL := W.lL
  row := fun i r l h1 h2 => by
    obtain ⟨vs, h, q⟩ := W.row i r l h1 h2
    have hm := List.mem_of_getElem? h1
    exact ⟨vs, k r (by simp [hm]) _ h, LetsAt.keep t q⟩
  plc := fun i d l h1 h2 => by
    obtain ⟨kvs, h, q⟩ := W.plc i d l h1 h2
    have hm := List.mem_of_getElem? h1
    exact ⟨kvs, k d (by simp [hm]) _ h, q⟩
  nd := W.nd
  out := W.out
theorem WAt.on {c : Cl5} {H H' : Hp} {p : Addr} {nm : Int} {A : WAd} {W : Wd} (h : WAt c H p nm A W) (t : Tups H H') (k : KeepOn (A.all p) H H') : WAt c H' p nm A W := by
  cases h with
  | rows h => exact .rows (RowsAt.on2 h t k)
  | boxes h => exact .boxes (h.on t k)
theorem SlotAt.on {H H' : Hp} {ds : List Addr} {v : V} {x : Slot} (h : SlotAt H ds v x) (t : Tups H H') (k : KeepOn ds H H') : SlotAt H' ds v x := by
  obtain ⟨q, d1, d2, e, h1, h2, h3, m1, m2⟩ := h
  exact ⟨q, d1, d2, e, t _ _ h1, k _ m1 _ h2, k _ m2 _ h3, m1, m2⟩
section
variable {c : Cl5} {nm : Bool → Int} {H H' : Hp} {a : Ad} {s : Sy}
theorem SiteAt.on (S : SiteAt c nm H a s) (t : Tups H H') (k : KeepOn (a.own ++ a.ds) H H') : SiteAt c nm H' a s where
  w := fun i => (S.w i).on t (k.sub fun x h => List.mem_append_left _ (Ad.own_w h))
  l := fun i => let ⟨dx, n, h⟩ := S.l i; ⟨dx, n, k _ (List.mem_append_left _ Ad.own_l) _ h⟩
  wl := fun i => ⟨k _ (List.mem_append_left _ Ad.own_wl) _ (S.wl i).1, (S.wl i).2⟩
  b := let ⟨dx, h⟩ := S.b; ⟨dx, k _ (List.mem_append_left _ Ad.own_b) _ h⟩
  k := let ⟨kvs, h, q⟩ := S.k; ⟨kvs, k _ (List.mem_append_left _ Ad.own_sd) _ h, Paired.mapP q fun _ _ z => ⟨z.1, z.2.on t (k.sub fun x h => List.mem_append_right _ h)⟩⟩
  nk := S.nk
  nd := S.nd
  out := S.out
  ds := fun x h => by
    cases e : H x with
    | none => exact absurd e (S.ds x h)
    | some o => rw [k x (List.mem_append_right _ h) o e]; simp
theorem SiteAt.same (S : SiteAt c nm H a s) (e : Same H H') : SiteAt c nm H' a s := S.on (Tups.of_same e) (.of_same e _)
/-- other things change -/
theorem SiteAt.fr (S : SiteAt c nm H a s) {F : List Addr} (f : Fr F H H') (t : Tups H H') (hF : ∀ x ∈ F, x ∉ a.own ∧ x ∉ a.ds) : SiteAt c nm H' a s :=
  S.on t (KeepOn.of_fr f fun x h z => (List.mem_append.mp h).elim (hF x z).1 (hF x z).2)
end
end WB

set_option Elab.async false
set_option linter.all false
set_option maxRecDepth 100000
namespace WB
open PySem PySem.Spec PyProof.Rows L2

section
variable {c : Cl5} {nm : Bool → Int} {H H' : Hp} {a : Ad} {s : Sy}
theorem SiteAt.lin (S : SiteAt c nm H a s) : a.lin.Nodup := (List.nodup_append.mp S.nd).2.1
theorem SiteAt.lne (S : SiteAt c nm H a s) {i j : Bool} (h : j ≠ i) : a.l j ≠ a.l i ∧ a.wl j ≠ a.wl i ∧ a.l j ≠ a.wl i ∧ a.wl j ≠ a.l i := by
  have n := S.lin
  unfold Ad.lin at n
  simp only [List.nodup_cons, List.mem_cons, List.not_mem_nil, or_false, not_or] at n
  obtain ⟨⟨n1, n2, n3, n4, n5⟩, ⟨n6, n7, n8, n9⟩, ⟨n10, n11, n12⟩, ⟨n13, n14⟩, n15⟩ := n
  cases i <;> cases j
  · exact absurd rfl h
  · exact ⟨Ne.symm n2, Ne.symm n7, Ne.symm n6, Ne.symm n3⟩
  · exact ⟨n2, n7, n3, n6⟩
  · exact absurd rfl h
end

/-! ### what a call must keep -/
/-- a call's promise, by the mirror's outcome -/
def Run (c : Cl5) (nm : Bool → Int) (H : Hp) (a : Ad) {α : Type} (r : Sy × Oc α) (q : α → Ad → Hp → Prop) (E : XK) : Prop := match r.2 with
  | .ok v => ∀ H' a', SiteAt c nm H' a' r.1 → Mv H H' a a' → q v a' H'
  | .cut => ∀ H' a', SiteAt c nm H' a' r.1 → Mv H H' a a' → E (.ref c.cut) none H'
  | .fallen => ∀ H' a', SiteAt c nm H' a' r.1 → Mv H H' a a' → E (.ref c.fallen) none H'
section
variable {c : Cl5} {nm : Bool → Int} {H H1 : Hp} {a a1 : Ad} {α β : Type} {r : Sy × Oc α} {E E' : XK}
theorem Run.mono {q q' : α → Ad → Hp → Prop} (k : Run c nm H a r q E) (h : ∀ v a' H', r.2 = .ok v → SiteAt c nm H' a' r.1 → Mv H H' a a' → q v a' H' → q' v a' H') : Run c nm H a r q' E := by
  obtain ⟨s, o⟩ := r
  cases o with
  | ok v => exact fun H' a' S n => h v a' H' rfl S n (k H' a' S n)
  | cut => exact k
  | fallen => exact k
end
section
variable {s : Sy} {i : Bool} {w : Str} {ws : List Str}
end
theorem RowsAt.all {C : Addr} {H : Hp} {p : Addr} {A : RAd} {nm : Int} {kn : Bool} {L : List (List Letter)} (W : RowsAt C H p A nm kn L) : ∀ x ∈ A.rs ++ A.ds, (∃ vs, H x = some (.lst vs)) ∨ ∃ kvs, H x = some (.dT kvs) := fun x hx => by
  rcases List.mem_append.mp hx with h | h
  · obtain ⟨i, hi, e⟩ := List.mem_iff_getElem.mp h
    have hL : i < L.length := by rw [W.lL, ← W.lr]; exact hi
    obtain ⟨vs, q, _⟩ := W.row i x _ (by rw [List.getElem?_eq_getElem hi, e]) (List.getElem?_eq_getElem hL)
    exact .inl ⟨vs, q⟩
  · obtain ⟨i, hi, e⟩ := List.mem_iff_getElem.mp h
    have hL : i < L.length := by rw [W.lL, ← W.ld]; exact hi
    obtain ⟨vs, q, _⟩ := W.plc i x _ (by rw [List.getElem?_eq_getElem hi, e]) (List.getElem?_eq_getElem hL)
    exact .inr ⟨vs, q⟩
theorem Mv.refl (H : Hp) (a : Ad) : Mv H H a a := Mv.of_same (Same.refl H) a
end WB

set_option Elab.async false
set_option linter.all false
set_option maxRecDepth 100000
namespace WB
open PySem PySem.Spec PyProof.Rows L2
/-! ### how much there is, call by call -/
theorem Wd.Ok.mono {N M : Nat} {w : Wd} (h : w.Ok N) (l : N ≤ M) : w.Ok M := by
  cases w with
  | rows kn L => exact fun x hx => Nat.le_trans (h x hx) l
  | boxes kn le S => exact ⟨h.1.mono l, h.2⟩
theorem Sy.Ok.mono {N M : Nat} {s : Sy} (h : s.Ok N) (l : N ≤ M) : s.Ok M := ⟨fun i => (h.w i).mono l, fun x hx => ⟨⟨Nat.le_trans (h.b x hx).1.1 l, Nat.le_trans (h.b x hx).1.2 l⟩, (h.b x hx).2⟩⟩
section
variable {c : Cl5} {nm : Bool → Int} {H H' : Hp} {a : Ad} {s : Sy} {i : Bool}
/-! ### a world's part -/
end
/-! ### copies -/
end WB

set_option Elab.async false
set_option linter.all false
set_option maxRecDepth 100000
namespace WB
open PySem PySem.Spec PyProof.Rows L2
/-! ### the book -/
section
variable {F : V → Slot → Prop} {n : Nat}
abbrev BkAt (F : V → Slot → Prop) (kvs : List (Key × V)) (b : List (Nat × Slot)) : Prop := Paired (fun (kv : Key × V) (x : Nat × Slot) => kv.1 = Sum.inl (x.1 : Int) ∧ F kv.2 x.2) kvs b
theorem inl_ne {x n : Nat} (h : x ≠ n) : (Sum.inl (x : Int) : Key) ≠ Sum.inl (n : Int) := fun z => h (by have := Sum.inl.inj z; omega)
theorem BkAt.none : ∀ {kvs : List (Key × V)} {b : List (Nat × Slot)}, BkAt F kvs b → bkGet b n = Option.none → valV kvs (Sum.inl (n : Int)) = Option.none
  | _, _, .nil, _ => rfl
  | kv :: kvs, x :: b, .cons h t, g => by
    unfold bkGet at g
    by_cases e : x.1 = n
    · rw [List.find?_cons_of_pos (by simpa using e)] at g; cases g
    · rw [List.find?_cons_of_neg (by simpa using e)] at g
      rw [valV_neg (by rw [h.1]; exact inl_ne e)]
      exact BkAt.none t g
theorem BkAt.any : ∀ {kvs : List (Key × V)} {b : List (Nat × Slot)}, BkAt F kvs b → (kvs.any fun kv => decide (kv.1 = Sum.inl (n : Int))) = b.any fun y => decide (y.1 = n)
  | _, _, .nil => rfl
  | kv :: kvs, x :: b, .cons h t => by
    rw [List.any_cons, List.any_cons, BkAt.any t, h.1]
    congr 1
    by_cases e : x.1 = n
    · simp [e]
    · have := inl_ne e; simp [e, this]
theorem BkAt.repl {v : V} {y : Slot} (hv : F v y) : ∀ {kvs : List (Key × V)} {b : List (Nat × Slot)}, BkAt F kvs b →
    BkAt F (kvs.map fun kv => if kv.1 = Sum.inl (n : Int) then (kv.1, v) else kv) (b.map fun x => if x.1 = n then (x.1, y) else x)
  | _, _, .nil => .nil
  | kv :: kvs, x :: b, .cons h t => by
    have ih := BkAt.repl hv t
    rw [List.map_cons, List.map_cons]
    by_cases e : x.1 = n
    · rw [if_pos (by rw [h.1, e]), if_pos e]
      exact .cons ⟨h.1, hv⟩ ih
    · rw [if_neg (by rw [h.1]; exact inl_ne e), if_neg e]
      exact .cons h ih
theorem BkAt.put {v : V} {y : Slot} (hv : F v y) {kvs : List (Key × V)} {b : List (Nat × Slot)} (h : BkAt F kvs b) : BkAt F (putK kvs (Sum.inl (n : Int)) v) (bkPut b n y) := by
  unfold putK bkPut
  rw [h.any]
  split
  · exact h.repl hv
  · exact Paired.app h (.cons ⟨rfl, hv⟩ .nil)
end
section
variable {c : Cl5} {nm : Bool → Int} {H H' : Hp} {a : Ad} {s : Sy}
end
end WB

set_option Elab.async false
set_option linter.all false
set_option maxRecDepth 100000
namespace WB
open PySem PySem.Spec PyProof.Rows L2
/-! ### a carrier -/
def carF (ad : Ad) (y : Way) : List (Str × V) := [("source", .ref (ad.l y.i)), ("start", .int (y.fr : Int)), ("target", .ref (ad.l (!y.i))), ("goal", .int (y.to : Int)), ("book", .ref ad.b), ("slot", .int (y.sl : Int))]
structure CarAt (C : Addr) (H : Hp) (ad : Ad) (x : Addr) (y : Way) : Prop where
  ob : ∃ dx, H x = some (.ins C dx (carF ad y))
  off : Off H ad x
  fr : y.fr < 6
  to : y.to < 6
  sl : y.sl < 10
theorem CarAt.mv {C : Addr} {H H' : Hp} {ad ad' : Ad} {x : Addr} {y : Way} (h : CarAt C H ad x y) (m : Mv H H' ad ad') : CarAt C H' ad' x y := by
  obtain ⟨dx, e⟩ := h.ob
  have := m.off h.off
  refine ⟨⟨dx, ?_⟩, this.1, h.fr, h.to, h.sl⟩
  have e2 : carF ad' y = carF ad y := by unfold carF; rw [m.l, m.b]
  rw [e2]; exact this.2 _ e
theorem CarAt.same {C : Addr} {H H' : Hp} {ad : Ad} {x : Addr} {y : Way} (h : CarAt C H ad x y) (e : Same H H') : CarAt C H' ad x y := h.mv (Mv.of_same e ad)
theorem addK_nd {o : List LKey} (h : o.Nodup) (k : LKey) : (addK o k).Nodup := by
  unfold addK; split
  · exact h
  · rename_i hk
    exact List.nodup_append.mpr ⟨h, by simp, fun x hx y hy z => hk (by have : y = k := by simpa using hy
                                                                       rw [← this, ← z]; exact hx)⟩
end WB

set_option Elab.async false
set_option linter.all false
set_option maxRecDepth 100000
namespace WB
open PySem PySem.Spec PyProof.Rows L2
end WB

set_option Elab.async false
set_option linter.all false
set_option maxRecDepth 100000
namespace WB
open PySem PySem.Spec PyProof.Rows L2
/-! ### keys as data -/
/-! ### what letters there are -/
def LetOk (x : Letter) : Prop := keyOk x.1 ∧ 0 ≤ x.2 ∧ x.2 ≤ 999
def Wd.Good : Wd → Prop
  | .rows _ L => ∀ l ∈ L, ∀ x ∈ l, LetOk x
  | .boxes _ _ S => (∀ l ∈ S.wait, ∀ x ∈ l, LetOk x) ∧ ∀ e ∈ S.out, LetOk e.x
def Sy.Good (s : Sy) : Prop := ∀ i, (s.w i).Good
/-! ### a letter is brought -/
end WB
namespace WB
open PySem PySem.Spec PyProof.Rows L2
theorem bnot_ne (i : Bool) : i ≠ !i := by cases i <;> decide
end WB

set_option Elab.async false
set_option linter.all false
set_option maxRecDepth 100000
namespace L2
open PySem PySem.Spec PyProof.Rows

/-! ### d.setdefault(k, x), k a tuple -/
section
variable {prog : Program} {w : World} {K : Type} [DecidableEq K] {knd : HeapKind prog w K} {A : Around} {E : Value → Shared → Prop} {s : Shared} {d a : Addr} {k : K} {xs : List (K × Addr × Value)} {v : Value}
end
section
variable {X : Cx} {o e f : Expr} {apos cpos : Pos} {td ty tx : TE}
end
/-! ### l.count(x) -/
section
variable {X : Cx}
end
/-! ### within comprehensions and handlers: K written out -/
section
variable {X : Cx} {K : PySem.W.Frag} {o e value : Expr} {es : List Expr} {to ta tv : TE} {t : TA} {name f : Str} {apos cpos pos pos' : Pos} {T id : String} {r : V → List V → Hp → VK → Prop}
theorem pe_bmK (hK : X.K = K) (pa : PlainAttrs T) (slot : Slot T name id) (hty : typeOf (.builtin id) = pure (.type "method_descriptor")) (hm : MtR X id r) (ho : PE X o to) (ha : PA X (e :: es) t)
    (h1 : attributeBase o name X.env (eval o X.env) = eval o X.env := by rfl)
    (h2 : ((backTo cpos (starEach (e :: es) X.env)).all (fun x => !x.1) && (backToKw cpos (keywordEach [] X.env)).all (fun x => x.1.isSome)
      && decide ((e :: es).length + ([] : List Keyword).length + (if ([] : List Keyword).isEmpty then 0 else 1) < 30)) = true := by rfl)
    (h3 : (apos.endLine == cpos.line) = true := by rfl) (h4 : starEach (e :: es) X.env = (false, eval e X.env) :: starEach es X.env := by rfl) (h5 : (backTo cpos (starEach es X.env)).any (·.1) = false := by rfl) :
    PE X (.Call (.Attribute o name apos) (e :: es) [] cpos) (tBM K T r to t) := by
  subst hK
  exact pe_bm pa slot hty hm ho ha h1 h2 h3 h4 h5
end
end L2

set_option Elab.async false
set_option linter.all false
set_option maxRecDepth 100000
namespace L2
open PySem PySem.Spec PyProof.Rows
/-- [.. for i, x in enumerate(l)] -/
theorem lc_enum {K : PySem.W.Frag} {a : Addr} {xs : List V} {g : TG} {tt : TT} {te : TE} {vs : List Nat} {σ : St} {H1 : Hp} {D : Addr} {Qd : Hp → Prop} (Pv : Nat → Hp → Prop) (h0 : Pv 0 (upd H1 D (.lst []))) (hl : ∀ i H, i ≤ xs.length → Pv i H → SqL K H a xs)
    (hs : ∀ i x T H, xs[i]? = some x → Pv i H → H T = none → g (.ref T) (wipe σ vs) (upd H T (.tup [.int (i : Nat), x])) fun σ2 H2 => wipe σ2 vs = wipe σ vs ∧ tt σ2 H2 fun b H3 =>
      if b = true then te σ2 H3 fun y H4 => ∃ acc, H4 D = some (.lst acc) ∧ acc.length < sizeLine ∧ Pv (i + 1) (upd H4 D (.lst (acc ++ [y]))) else Pv (i + 1) H3) (hd : ∀ H, Pv xs.length H → Qd H) :
    ∃ W : Nat → Nat → Hp → Prop, (∃ m, W 0 m (upd H1 D (.lst []))) ∧ ∀ i m H, W i m H →
      ((Ite K a).stop i H ∧ Qd H) ∨ ((Ite K a).go i H ∧ ∃ Nx : Hp → Prop, (∀ H', Nx H' → ∃ m', m' < m ∧ W (i + 1) m' H') ∧ ∀ x H', (Ite K a).yld i H x H' → g x (wipe σ vs) H' fun σ2 H2 => wipe σ2 vs = wipe σ vs ∧ tt σ2 H2 fun b H3 =>
        if b = true then te σ2 H3 fun y H4 => ∃ acc, H4 D = some (.lst acc) ∧ acc.length < sizeLine ∧ Nx (upd H4 D (.lst (acc ++ [y]))) else Nx H3) := by
  refine ⟨fun i m H => m = xs.length - i ∧ i ≤ xs.length ∧ Pv i H, ⟨xs.length, by simp, Nat.zero_le _, h0⟩, ?_⟩
  rintro i m H ⟨rfl, hi, p⟩
  have q := hl i H hi p
  by_cases lt : i < xs.length
  · refine .inr ⟨⟨xs, xs[i], q, by simp [lt]⟩, Pv (i + 1), fun H' p' => ⟨xs.length - (i + 1), by omega, rfl, lt, p'⟩, fun x H' y => ?_⟩
    obtain ⟨T, z, rfl, hT, rfl, y⟩ := y
    exact hs i z T H (y xs q) p hT
  · have e : i = xs.length := by omega
    subst e
    exact .inl ⟨⟨xs, q, Nat.le_refl _⟩, hd H p⟩
end L2
namespace WB
open PySem PySem.Spec PyProof.Rows L2
/-! ### ways -/
abbrev Wy := Bool × Nat × Nat
def wyS (i : Bool) : Str := if i = true then "back" else "over"
def WyAt (H : Hp) (v : V) (w : Wy) : Prop := ∃ t, v = .ref t ∧ H t = some (.tup [.str (wyS w.1), .int (w.2.1 : Int), .int (w.2.2 : Int)])
theorem WyAt.keep {H H' : Hp} {v : V} {w : Wy} (h : WyAt H v w) (t : Tups H H') : WyAt H' v w := let ⟨q, e, z⟩ := h; ⟨q, e, t _ _ z⟩
abbrev WysAt (H : Hp) (vs : List V) (ws : List Wy) : Prop := Paired (WyAt H) vs ws
theorem WysAt.keep {H H' : Hp} {vs : List V} {ws : List Wy} (h : WysAt H vs ws) (t : Tups H H') : WysAt H' vs ws := Paired.mapP h fun _ _ z => z.keep t
def dirS (ws : List Wy) (i : Bool) : List Nat := (ws.filter fun w => decide (w.1 = i)).map (·.2.1)
def dirG (ws : List Wy) (i : Bool) : List Nat := (ws.filter fun w => decide (w.1 = i)).map (·.2.2)
structure WaysOk (so : Bool → Str) (ws : List Wy) : Prop where
  lo : 1 ≤ ws.length
  hi : ws.length ≤ 6
  row : ∀ w ∈ ws, w.2.1 < 6 ∧ w.2.2 < 6
  st : ∀ i, (dirS ws i).Nodup
  go : ∀ i, (dirG ws i).Nodup
  ring : ∀ i, so i = "boxes" → ∀ r ∈ dirS ws i, r ∉ dirG ws (!i)
/-! ### a bridge -/
structure BrAt (C CC : Addr) (H : Hp) (ad : Ad) (p : Addr) (bl : List Addr) (ws : List Wy) (fl : Bool) : Prop where
  ob : ∃ (dx cl : Addr) (xs : List Addr), bl = cl :: xs ∧ H p = some (.ins C dx [("carriers", .ref cl), ("fallen", .bl fl)]) ∧ H cl = some (.lst (xs.map V.ref)) ∧ xs.length = ws.length ∧ Off H ad cl ∧ p ∉ xs ∧
    ∀ (n : Nat) x w, xs[n]? = some x → ws[n]? = some w → CarAt CC H ad x ⟨w.1, w.2.1, w.2.2, n⟩
  off : Off H ad p
theorem BrAt.mv {C CC : Addr} {H H' : Hp} {ad ad' : Ad} {p : Addr} {bl : List Addr} {ws : List Wy} {fl : Bool} (h : BrAt C CC H ad p bl ws fl) (m : Mv H H' ad ad') : BrAt C CC H' ad' p bl ws fl := by
  obtain ⟨dx, cl, xs, e0, h1, h2, h3, h4, h6, h5⟩ := h.ob
  exact ⟨⟨dx, cl, xs, e0, (m.off h.off).2 _ h1, (m.off h4).2 _ h2, h3, (m.off h4).1, h6, fun n x w e1 e2 => (h5 n x w e1 e2).mv m⟩, (m.off h.off).1⟩
theorem BrAt.same {C CC : Addr} {H H' : Hp} {ad : Ad} {p : Addr} {bl : List Addr} {ws : List Wy} {fl : Bool} (h : BrAt C CC H ad p bl ws fl) (s : Same H H') : BrAt C CC H' ad p bl ws fl := h.mv (Mv.of_same s ad)
/-- other things change, that are no part of the site nor of the bridge -/
theorem Off.put {H : Hp} {ad : Ad} {x q : Addr} {o : HO} (h : Off H ad x) : Off (upd H q o) ad x := ⟨fun z => by
  by_cases e : x = q
  · subst e; rw [upd_same] at z; cases z
  · rw [upd_ne e] at z; exact h.1 z, h.2⟩
theorem CarAt.put {CC : Addr} {H : Hp} {ad : Ad} {x q : Addr} {y : Way} {o : HO} (h : CarAt CC H ad x y) (n : x ≠ q) : CarAt CC (upd H q o) ad x y :=
  ⟨let ⟨dx, e⟩ := h.ob; ⟨dx, by rw [upd_ne n]; exact e⟩, h.off.put, h.fr, h.to, h.sl⟩
end WB

set_option Elab.async false
set_option linter.all false
set_option maxRecDepth 100000
namespace WB
open PySem PySem.Spec PyProof.Rows L2
/-! ### a law's site: a dict of worlds, lines, a book, ways, counts, what was sent, a bridge -/
structure LsA where
  s : Addr
  wl : Addr
  ll : Addr
  yl : Addr
  se : Addr
  br : Addr
  bl : List Addr
  sl : List Addr
def LsA.out (e : LsA) : List Addr := e.s :: e.wl :: e.ll :: e.yl :: e.se :: e.sl
def LsA.all (e : LsA) : List Addr := e.out ++ e.br :: e.bl
theorem LsA.sub {e : LsA} {x : Addr} (h : x ∈ e.out) : x ∈ e.all := List.mem_append_left _ h
abbrev SentM := Nat → Nat → Option (Addr × List LKey)
def sentK (i j : Nat) : List Key := [Sum.inl (i : Int), Sum.inl (j : Int)]
structure SentAt (H : Hp) (se : Addr) (sl : List Addr) (m : SentM) (N : Nat) : Prop where
  d : ∃ kvs, H se = some (.dT kvs) ∧ kvs.length ≤ N ∧ ∀ i j, (valV kvs (sentK i j) = none ∧ m i j = none) ∨ ∃ q l vs, valV kvs (sentK i j) = some (.ref q) ∧ m i j = some (q, l) ∧ q ∈ sl ∧ H q = some (.lst vs) ∧ Paired (KeyAt H) vs l ∧ l.length ≤ N
  inj : ∀ i j i' j' q l l', m i j = some (q, l) → m i' j' = some (q, l') → i = i' ∧ j = j'
theorem SentAt.on {H H' : Hp} {se : Addr} {sl : List Addr} {m : SentM} {N M : Nat} (h : SentAt H se sl m N) (t : Tups H H') (k : KeepOn (se :: sl) H H') (hm : N ≤ M) : SentAt H' se sl m M := by
  obtain ⟨kvs, h1, h2, h3⟩ := h.d
  refine ⟨⟨kvs, k _ (by simp) _ h1, Nat.le_trans h2 hm, fun i j => (h3 i j).imp id fun ⟨q, l, vs, e1, e2, e3, e4, e5, e6⟩ => ⟨q, l, vs, e1, e2, e3, k _ (by simp [e3]) _ e4, Paired.mapP e5 fun _ _ z => z.keep t, Nat.le_trans e6 hm⟩⟩, h.inj⟩
def ls7 (ad : Ad) (e : LsA) (f n : Nat) : List (Key × V) := [(Sum.inr "worlds", .ref e.wl), (Sum.inr "lines", .ref e.ll), (Sum.inr "book", .ref ad.b), (Sum.inr "ways", .ref e.yl), (Sum.inr "failed", .int (f : Int)), (Sum.inr "sent", .ref e.se), (Sum.inr "number", .int (n : Int))]
abbrev brK (br : Addr) : List (Key × V) := [(Sum.inr "bridge", .ref br)]
/-- all that a law keeps of a site -/
structure Ls where
  ad : Ad
  e : LsA
  s : Sy
  f : Nat
  n : Nat
  m : SentM
/-- all but the bridge -/
structure LsB (c : Cl5) (nm : Bool → Int) (ws : List Wy) (N : Nat) (H : Hp) (x : Ls) (tail : List (Key × V)) : Prop where
  site : SiteAt c nm H x.ad x.s
  ok : x.s.Ok N
  gd : x.s.Good
  ds : H x.e.s = some (.dK (ls7 x.ad x.e x.f x.n ++ tail))
  hw : H x.e.wl = some (.lst [.ref (x.ad.p false), .ref (x.ad.p true)])
  hl : H x.e.ll = some (.lst [.ref (x.ad.l false), .ref (x.ad.l true)])
  hy : ∃ us, H x.e.yl = some (.lst us) ∧ WysAt H us ws
  sent : SentAt H x.e.se x.e.sl x.m N
  ways : WaysOk (fun i => (x.s.w i).sort) ws
  ne : nm false ≠ nm true
  off : ∀ y ∈ x.e.out, Off H x.ad y
  nd : x.e.wl ∉ x.e.sl ∧ x.e.ll ∉ x.e.sl ∧ x.e.yl ∉ x.e.sl ∧ x.e.s ∉ x.e.sl ∧ x.e.se ∉ x.e.sl
structure LsAt (c : Cl5) (C CC : Addr) (nm : Bool → Int) (ws : List Wy) (N : Nat) (H : Hp) (x : Ls) : Prop where
  b : LsB c nm ws N H x (brK x.e.br)
  br : BrAt C CC H x.ad x.e.br x.e.bl ws false
  nb : ∀ y ∈ x.e.br :: x.e.bl, y ∉ x.e.sl
section
variable {c : Cl5} {C CC : Addr} {nm : Bool → Int} {ws : List Wy} {N M : Nat} {H H' : Hp} {x : Ls} {tail : List (Key × V)}
theorem Off.fr {ad : Ad} {F : List Addr} {y : Addr} (h : Off H ad y) (f : Fr F H H') (n : y ∉ F) : Off H' ad y := by
  refine ⟨fun z => ?_, h.2⟩
  cases e : H y with
  | none => exact h.1 e
  | some o => rw [f _ _ e n] at z; cases z
theorem BrAt.fr {ad : Ad} {p : Addr} {bl : List Addr} {fl : Bool} {F : List Addr} (h : BrAt C CC H ad p bl ws fl) (f : Fr F H H') (n : ∀ y ∈ p :: bl, y ∉ F) : BrAt C CC H' ad p bl ws fl := by
  obtain ⟨dx, cl, xs, e0, h1, h2, h3, h4, h6, h5⟩ := h.ob
  have n1 := n p (by simp)
  have n2 := n cl (by simp [e0])
  refine ⟨⟨dx, cl, xs, e0, f _ _ h1 n1, f _ _ h2 n2, h3, h4.fr f n2, h6, fun i y w e1 e2 => ?_⟩, h.off.fr f n1⟩
  have C := h5 i y w e1 e2
  have n3 := n y (by simp [e0, List.mem_of_getElem? e1])
  obtain ⟨d, g⟩ := C.ob
  exact ⟨⟨d, f _ _ g n3⟩, C.off.fr f n3, C.fr, C.to, C.sl⟩
/-- other things change -/
theorem LsB.fr (L : LsB c nm ws N H x tail) {F : List Addr} (f : Fr F H H') (t : Tups H H') (hF : ∀ y ∈ F, y ∉ x.ad.own ∧ y ∉ x.ad.ds ∧ y ∉ x.e.out) : LsB c nm ws N H' x tail := by
  have nF : ∀ y ∈ x.e.out, y ∉ F := fun y hy z => (hF y z).2.2 hy
  have kp : KeepOn x.e.out H H' := KeepOn.of_fr f nF
  refine ⟨L.site.fr f t fun y hy => ⟨(hF y hy).1, (hF y hy).2.1⟩, L.ok, L.gd, kp _ (by simp [LsA.out]) _ L.ds, kp _ (by simp [LsA.out]) _ L.hw, kp _ (by simp [LsA.out]) _ L.hl, ?_, L.sent.on t (kp.sub fun y hy => ?_) (Nat.le_refl _), L.ways, L.ne, fun y hy => (L.off y hy).fr f (nF y hy), L.nd⟩
  · obtain ⟨us, h1, h2⟩ := L.hy
    exact ⟨us, kp _ (by simp [LsA.out]) _ h1, h2.keep t⟩
  · rcases List.mem_cons.mp hy with rfl | hy
    · simp [LsA.out]
    · simp [LsA.out, hy]
theorem LsAt.fr (L : LsAt c C CC nm ws N H x) {F : List Addr} (f : Fr F H H') (t : Tups H H') (hF : ∀ y ∈ F, y ∉ x.ad.own ∧ y ∉ x.ad.ds ∧ y ∉ x.e.all) : LsAt c C CC nm ws N H' x :=
  ⟨L.b.fr f t fun y hy => ⟨(hF y hy).1, (hF y hy).2.1, fun z => (hF y hy).2.2 (LsA.sub z)⟩, L.br.fr f fun y hy z => (hF y z).2.2 (List.mem_append_right _ hy), L.nb⟩
theorem LsAt.same (L : LsAt c C CC nm ws N H x) (s : Same H H') : LsAt c C CC nm ws N H' x := L.fr (F := []) (Fr.same s _) (Tups.of_same s) (fun y hy => nomatch hy)
theorem LsB.same (L : LsB c nm ws N H x tail) (s : Same H H') : LsB c nm ws N H' x tail := L.fr (F := []) (Fr.same s _) (Tups.of_same s) (fun y hy => nomatch hy)
theorem LsAt.mono (L : LsAt c C CC nm ws N H x) (h : N ≤ M) : LsAt c C CC nm ws M H x :=
  ⟨⟨L.b.site, L.b.ok.mono h, L.b.gd, L.b.ds, L.b.hw, L.b.hl, L.b.hy, L.b.sent.on (fun _ _ h => h) (.of_same (Same.refl H) _) h, L.b.ways, L.b.ne, L.b.off, L.b.nd⟩, L.br, L.nb⟩
end
/-- what is free of it: the law's own things -/
def Free (H : Hp) (x : Ls) (y : Addr) : Prop := Off H x.ad y ∧ y ∉ x.e.all
/-- what moved, for a law -/
structure Lv (H H' : Hp) (x x' : Ls) : Prop where
  free : ∀ y, Free H x y → Free H' x' y ∧ ∀ o, H y = some o → H' y = some o
  tups : Tups H H'
  s : x'.e.s = x.e.s
theorem Lv.trans {H H1 H2 : Hp} {x x1 x2 : Ls} (a : Lv H H1 x x1) (b : Lv H1 H2 x1 x2) : Lv H H2 x x2 :=
  ⟨fun y h => let z := a.free y h; let w := b.free y z.1; ⟨w.1, fun o e => w.2 o (z.2 o e)⟩, fun p xs h => b.tups _ _ (a.tups _ _ h), b.s.trans a.s⟩
theorem Lv.of_mv {H H' : Hp} {x : Ls} {ad' : Ad} {s' : Sy} (m : Mv H H' x.ad ad') : Lv H H' x { x with ad := ad', s := s' } :=
  ⟨fun y h => let z := m.off h.1; ⟨⟨z.1, h.2⟩, z.2⟩, m.tups, rfl⟩
theorem Lv.of_same {H H' : Hp} {x : Ls} (s : Same H H') : Lv H H' x x := Lv.of_mv (s' := x.s) (Mv.of_same s x.ad)
theorem Free.put {H : Hp} {x : Ls} {y q : Addr} {o : HO} (h : Free H x y) : Free (upd H q o) x y := ⟨h.1.put, h.2⟩
/-- the dice -/
structure DiAt (H : Hp) (x : Ls) (d : Addr) : Prop where
  di : ∃ xs, H d = some (.lst xs) ∧ DiceL xs
  fr : Free H x d
theorem DiAt.lv {H H' : Hp} {x x' : Ls} {d : Addr} (D : DiAt H x d) (l : Lv H H' x x') : DiAt H' x' d :=
  let z := l.free d D.fr
  ⟨let ⟨xs, e, h⟩ := D.di; ⟨xs, z.2 _ e, h⟩, z.1⟩
section
variable {c : Cl5} {C CC : Addr} {nm : Bool → Int} {ws : List Wy} {N M : Nat} {H H' : Hp} {x : Ls} {tail : List (Key × V)} {d : Addr}
/-- a thing that is free changes -/
theorem LsAt.put (L : LsAt c C CC nm ws N H x) {q : Addr} {o : HO} {xs : List V} (hq : Free H x q) (e : H q = some (.lst xs)) : LsAt c C CC nm ws N (upd H q o) x :=
  L.fr (F := [q]) (Fr.put (by simp)) (fun b us h => by rw [upd_ne (fun z => by rw [z, e] at h; cases h)]; exact h) fun y hy => by
    simp at hy; subst hy; exact ⟨hq.1.2.1, hq.1.2.2, hq.2⟩
theorem DiAt.same (D : DiAt H x d) (s : Same H H') : DiAt H' x d := D.lv (Lv.of_same s)
end
theorem Fr.drop {F G : List Addr} {H H' : Hp} (f : Fr F H H') (h : ∀ y ∈ F, y ∉ G → H y = none) : Fr G H H' := fun b o e n => f b o e fun z => by rw [h b z n] at e; cases e
section
variable {c : Cl5} {C CC : Addr} {nm : Bool → Int} {ws : List Wy} {N : Nat} {H : Hp} {x : Ls} {tail : List (Key × V)}
end
/-! ### sorts stay -/
def Sort2 (s s' : Sy) : Prop := ∀ i, (s'.w i).sort = (s.w i).sort ∧ (s'.w i).kn = (s.w i).kn
theorem Sort2.refl (s : Sy) : Sort2 s s := fun _ => ⟨rfl, rfl⟩
theorem Sort2.trans {s1 s2 s3 : Sy} (a : Sort2 s1 s2) (b : Sort2 s2 s3) : Sort2 s1 s3 := fun i => ⟨(b i).1.trans (a i).1, (b i).2.trans (a i).2⟩
end WB

set_option Elab.async false
set_option linter.all false
set_option maxRecDepth 100000
namespace WB
open PySem PySem.Spec PyProof.Rows L2
/-! ### sorted, of keys -/
section
variable {X : Cx}
theorem Paired.pw {α β : Type} {R : α → β → Prop} {S : α → α → Prop} {T : β → β → Prop} (h : ∀ a b x y, R a x → R b y → S a b → T x y) : ∀ {l : List α} {m : List β}, Paired R l m → l.Pairwise S → m.Pairwise T
  | _, _, .nil, _ => .nil
  | _, _, .cons r g, p => by
    obtain ⟨p1, p2⟩ := List.pairwise_cons.mp p
    refine List.pairwise_cons.mpr ⟨fun y hy => ?_, Paired.pw h g p2⟩
    have key : ∀ {l : List α} {m : List β}, Paired R l m → ∀ {y}, y ∈ m → ∃ x, x ∈ l ∧ R x y := by
      intro l m g
      induction g with
      | nil => intro y hy; cases hy
      | cons h g ih =>
        intro y hy
        rcases List.mem_cons.mp hy with rfl | hy
        · exact ⟨_, by simp, h⟩
        · obtain ⟨x, h1, h2⟩ := ih hy; exact ⟨x, by simp [h1], h2⟩
    obtain ⟨x, h1, h2⟩ := key g hy
    exact h _ _ _ _ r h2 (p1 x h1)
end
end WB

set_option Elab.async false
set_option linter.all false
set_option maxRecDepth 100000
namespace WB
open PySem PySem.Spec PyProof.Rows PySem.W PySem.Calls PyProof.V L2
open PySem.SeqAt
open PySem.AutoSeq1 (wpAny_loadPart')
open PySem.MeetsSeq PySem.MeetsSeq2 PySem.MeetsSeq3
/-! ### xs < ys of lists of ints -/
section
variable {prog : Program} {w : World} {A : Around} {E : Value → Shared → Prop} {s : Shared}
end
end WB

set_option Elab.async false
set_option linter.all false
set_option maxRecDepth 100000
namespace WB
open PySem PySem.Spec PyProof.Rows PySem.W PySem.Calls PyProof.V L2
section
variable {prog : Program} {w : World} {A : Around} {R : Result → Shared → Prop} {I : Addr} {fp wr : List Addr} {n : Nat} {P : Nat → Value → Prop} {St : Nat → Heap → Prop}
end
section
variable {prog : Program} {w : World} {A : Around} {E : Value → Shared → Prop} {s : Shared} {ch : List Addr}
end
end WB
namespace L2
open PySem PySem.Spec PyProof.Rows WB
section
variable {X : Cx}
end
end L2

set_option Elab.async false
set_option linter.all false
set_option maxRecDepth 100000
namespace L2
open PySem PySem.Spec PyProof.Rows
/-! ### a def whose parameters are captured by what it tells: their cells are frozen for good, from the entry on -/
section
variable {pins : List (Addr × Obj)} {σ : L2.St} {s : Shared}
end
end L2

set_option Elab.async false
set_option linter.all false
set_option maxRecDepth 100000
namespace WB
open PySem PySem.Spec PyProof.Rows L2

/-! ### kinds of worlds -/
def KindL (H : Hp) (xs : List V) : Prop := xs.length = 2 → ∃ s v t, xs = [.str s, v] ∧ TyS H v t
theorem TyS.same {H H' : Hp} (s : Same H H') {v : V} {t : String} (h : TyS H v t) : TyS H' v t := by
  cases h with
  | non => exact .non
  | bl x => exact .bl x
  | int i => exact .int i
  | str x => exact .str x
  | lst e => exact .lst (s _ _ e)
  | frz e => exact .frz (s _ _ e)
  | tup e => exact .tup (s _ _ e)
  | dK e => exact .dK (s _ _ e)
  | dT e => exact .dT (s _ _ e)
theorem KindL.same {H H' : Hp} (s : Same H H') {xs : List V} (h : KindL H xs) : KindL H' xs := fun z => let ⟨a, v, t, e, ty⟩ := h z; ⟨a, v, t, e, ty.same s⟩
/-- None, or a list that is new since H -/
def NewL (H H' : Hp) (v : V) (n : Nat) : Prop := v = .non ∨ ∃ l xs, v = .ref l ∧ H l = none ∧ H' l = some (.lst xs) ∧ xs.length ≤ n
theorem NewL.mono {H H' : Hp} {v : V} {n m : Nat} (h : NewL H H' v n) (z : n ≤ m) : NewL H H' v m := h.imp id fun ⟨l, xs, e, a, b, c⟩ => ⟨l, xs, e, a, b, Nat.le_trans c z⟩
theorem NewL.app {H H' : Hp} {v : V} {n : Nat} {l t : Addr} {xs : List V} {o : HO} (h : NewL H H' v n) (hl : H' l = some (.lst xs)) (hlen : xs.length ≤ n) (ht : H' t = none) : NewL H (upd (upd H' t o) l (.lst (xs ++ [.ref t]))) v (n + 1) := by
  rcases h with h | ⟨l1, ys, e, a, b, c⟩
  · exact .inl h
  · by_cases z : l1 = l
    · subst z
      exact .inr ⟨l1, _, e, a, upd_same, by rw [List.length_append]; simp; exact hlen⟩
    · exact .inr ⟨l1, ys, e, a, by rw [upd_ne z, upd_ne (ne_of_none b ht)]; exact b, by omega⟩
theorem cellv {H : Hp} {c : Addr} {o : Obj} {u : Value} {v : V} (_ : H c = none) (d : o.data = .cell (some u)) (r : RelV v u) : CellV (upd H c (.frz o (.own c))) c v := ⟨o, u, upd_same, d, r⟩
theorem lockS {H : Hp} {c : Addr} (o : Obj) (h : H c = none) : Same H (upd H c (.frz o (.own c))) := Same.upd h
/-- what is frozen, and tuples, stay -/
def FT (H H' : Hp) : Prop := (∀ b o u, H b = some (.frz o u) → H' b = some (.frz o u)) ∧ ∀ b xs, H b = some (.tup xs) → H' b = some (.tup xs)
theorem FT.trans {H H1 H2 : Hp} (a : FT H H1) (b : FT H1 H2) : FT H H2 := ⟨fun c o u e => b.1 c o u (a.1 c o u e), fun c xs e => b.2 c xs (a.2 c xs e)⟩
theorem FT.of_same {H H' : Hp} (s : Same H H') : FT H H' := ⟨fun _ _ _ e => s _ _ e, fun _ _ e => s _ _ e⟩
theorem FT.of_grow {H H' : Hp} {T : Addr} {q : Str} (g : Grow T H H') (h : TabOk H T q) : FT H H' := by
  obtain ⟨ps, hp, _⟩ := h
  exact ⟨fun b o u e => g _ _ (fun z => by rw [z, hp] at e; cases e) e, fun b xs e => g _ _ (fun z => by rw [z, hp] at e; cases e) e⟩
def sp_law (K : PySem.W.Frag) (tabs : Tabs) : Sp := fun vs H Q _ => ∃ (a : Addr) (ns : List Int), vs = [.ref a] ∧ SqL K H a (ns.map V.int) ∧ ns.length ≤ 63 ∧ TabsH tabs H ∧ ∀ H', Q (.bl true) H'
theorem sp_law_start {K : PySem.W.Frag} {tabs : Tabs} {H : Hp} {a : Addr} {ns : List Int} (hl : ns.length ≤ 63) (hO : OnlyT tabs H) (hT : TabsH tabs H) (hS : SqL K H a (ns.map V.int)) : sp_law K tabs [.ref a] H (fun v _ => v = .bl true) (fun _ _ _ => False) := ⟨a, ns, rfl, hS, hl, hT, fun _ => rfl⟩
end WB

set_option Elab.async false
set_option linter.all false
set_option maxRecDepth 100000
namespace WB
open PySem PySem.Spec PyProof.Rows L2
/-! ### isinstance of tuples that the top has made -/
section
variable {X : Cx}
end
end WB


set_option Elab.async false
set_option linter.all false
set_option maxRecDepth 100000
namespace L2
open PySem PySem.Spec PyProof.Rows
end L2

set_option Elab.async false
set_option linter.all false
set_option maxRecDepth 100000
namespace WB
open PySem PySem.Spec PyProof.Rows L2
/-! ### what a law does to its site -/
/-- as Lv, but for the dice -/
structure LvD (d : Addr) (H H' : Hp) (x x' : Ls) : Prop where
  free : ∀ y, Free H x y → Free H' x' y ∧ (y ≠ d → ∀ o, H y = some o → H' y = some o)
  tups : Tups H H'
  s : x'.e.s = x.e.s
theorem Lv.d {H H' : Hp} {x x' : Ls} (l : Lv H H' x x') (d : Addr) : LvD d H H' x x' := ⟨fun y h => ⟨(l.free y h).1, fun _ => (l.free y h).2⟩, l.tups, l.s⟩
theorem LvD.trans {d : Addr} {H H1 H2 : Hp} {x x1 x2 : Ls} (a : LvD d H H1 x x1) (b : LvD d H1 H2 x1 x2) : LvD d H H2 x x2 :=
  ⟨fun y h => let z := a.free y h; let w := b.free y z.1; ⟨w.1, fun n o e => w.2 n o (z.2 n o e)⟩, fun p xs h => b.tups _ _ (a.tups _ _ h), b.s.trans a.s⟩
section
variable {c : Cl5} {C CC : Addr} {nm : Bool → Int} {ws : List Wy} {N M : Nat} {H H' : Hp} {x : Ls} {d : Addr}
/-! ### what was sent -/
theorem lst_tups {q : Addr} {xs : List V} {o : HO} (h : H q = some (.lst xs)) : Tups H (upd H q o) := fun p us e => by rw [upd_ne (fun z => by rw [z, h] at e; cases e)]; exact e
end
/-! ### a law writes a letter -/
def bodyOf (k : LKey) : Int := k.2.2 * 7 % 1000
def Sy.wrote (s : Sy) (i : Bool) (r : Nat) (k : LKey) : Sy := match s.w i with
  | .rows _ _ => { s with w := bset s.w i (wWrite r k (bodyOf k) (s.w i)).1 }
  | .boxes _ _ _ => { s with w := bset s.w i (wPut r k (bodyOf k) (s.w i)).1 }
def sideN (i : Bool) : Nat := if i = true then 1 else 0
/-- all letters of a row or box -/
def Wd.letsAt (r : Nat) : Wd → List Letter
  | .rows _ L => L.getD r []
  | .boxes _ _ S => bleft S r
def Wd.outs : Wd → Nat
  | .rows _ _ => 0
  | .boxes _ _ S => S.out.length
/-- turns -/
def wTurn : Wd → Wd
  | .rows kn L => .rows kn L
  | .boxes kn le S => .boxes kn le (bturn S)
def wTurns : Nat → Wd → Wd
  | 0, W => W
  | n + 1, W => wTurns n (wTurn W)
end WB

set_option Elab.async false
set_option linter.all false
set_option maxRecDepth 100000
namespace WB
open PySem PySem.Spec PyProof.Rows L2
/-! ### turns -/
/-- some turns of each world -/
def Sy.tn (s : Sy) (t : Bool → Nat) : Sy := { s with w := fun i => wTurns (t i) (s.w i) }
/-! ### at rest -/
section
variable (nm : Bool → Int) (ws : List Wy)
end
section
variable {nm : Bool → Int} {ws : List Wy} {N : Nat} {P : Sy → Prop}
end
end WB
namespace WB
open PySem PySem.Spec PyProof.Rows L2
end WB
namespace WB
open PySem PySem.Spec PyProof.Rows L2
def la (l : Bool → List Str) : Nat → Bool → List Str
  | 0 => l
  | 1 => bset l false []
  | _ + 2 => fun _ => []
end WB
namespace WB
open PySem PySem.Spec PyProof.Rows L2
theorem Lv.put {H H1 : Hp} {x x1 : Ls} {D : Addr} {xs : List V} {o : HO} (l : Lv H H1 x x1) (hD : ∀ y, Free H x y → y ≠ D) (e : H1 D = some (.lst xs)) : Lv H (upd H1 D o) x x1 :=
  ⟨fun y h => ⟨(l.free y h).1.put, fun ob eb => by rw [upd_ne (hD y h)]; exact (l.free y h).2 ob eb⟩, fun b us h => by
    have := l.tups _ _ h
    rw [upd_ne (fun z => by rw [z, e] at this; cases this)]; exact this, l.s⟩
end WB

set_option Elab.async false
set_option linter.all false
set_option maxRecDepth 100000
namespace WB
open PySem PySem.Spec PyProof.Rows L2
/-! ### new worlds -/
def b00 : BSt := ⟨List.replicate 6 [], List.replicate 6 [], [], 0⟩
theorem b00_ok : b00.Ok 0 := ⟨rfl, rfl, List.Pairwise.nil, (fun e h => nomatch h), (fun e h => nomatch h), (fun e h => nomatch h), fun l h => by rw [List.eq_of_mem_replicate h]; exact Nat.le_refl _, fun l h => by rw [List.eq_of_mem_replicate h]; exact Nat.le_refl _, Nat.le_refl _, Nat.le_refl _⟩
inductive NewW (so : Str) (kn : Bool) : Wd → Prop
  | rows : so = "rows" → NewW so kn (.rows kn (List.replicate 6 []))
  | boxes (le : Nat) : so = "boxes" → 1 ≤ le → le ≤ 5 → NewW so kn (.boxes kn le b00)
theorem NewW.ok {so : Str} {kn : Bool} {W : Wd} (h : NewW so kn W) : W.Ok 0 ∧ W.Good ∧ W.sort = so := by
  cases h with
  | rows e => exact ⟨(fun l h => by rw [List.eq_of_mem_replicate h]; exact Nat.le_refl _), (fun l h x hx => by rw [List.eq_of_mem_replicate h] at hx; cases hx), e.symm⟩
  | boxes le e h1 h2 => exact ⟨⟨b00_ok, h1⟩, ⟨(fun l h x hx => by rw [List.eq_of_mem_replicate h] at hx; cases hx), fun e h => nomatch h⟩, e.symm⟩
def nm45 (i : Bool) : Int := if i = true then 5 else 4
/-- two things by side -/
def by2 {α : Type} (x y : α) : Bool → α := fun i => if i = true then y else x
/-- the worlds are made -/
structure WNew (c : Cl5) (H H' : Hp) (so : Str) (nm : Int) (p : Addr) (A : WAd) (kn : Bool) (W : Wd) : Prop where
  w : WAt c H' p nm A W
  n : NewW so kn W
  fr : ∀ y ∈ A.all p, H y = none
theorem WNew.same {c : Cl5} {H H' H2 : Hp} {so : Str} {nm : Int} {p : Addr} {A : WAd} {kn : Bool} {W : Wd} (h : WNew c H H' so nm p A kn W) (s : Same H' H2) : WNew c H H2 so nm p A kn W := ⟨h.w.on (Tups.of_same s) (.of_same s _), h.n, h.fr⟩
/-- lines over them -/
structure L2New (c : Cl5) (H : Hp) (p : Addr) (l q : Addr) : Prop where
  l : ∃ dx, H l = some (.ins c.line dx (lineF p q 0))
  q : H q = some (.lst [])
theorem L2New.same {c : Cl5} {H H' : Hp} {p l q : Addr} (h : L2New c H p l q) (s : Same H H') : L2New c H' p l q := ⟨let ⟨dx, e⟩ := h.l; ⟨dx, s _ _ e⟩, s _ _ h.q⟩
end WB

set_option Elab.async false
set_option linter.all false
set_option maxRecDepth 100000
namespace WB
open PySem PySem.Spec PyProof.Rows L2
/-! ### nothing fails -/
theorem getD_set {α : Type} {l : List (List α)} {r : Nat} {x : List α} (h : r < l.length) : (l.set r x).getD r [] = x := by
  rw [List.getD_eq_getElem?_getD, List.getElem?_set_self h]; rfl
theorem bput_new {kn : Bool} {S : BSt} {r : Nat} {k : LKey} {z : Int} (h : k ∉ S.met.getD r []) : bput kn S r k z = { S with wait := app S.wait r (k, z), met := S.met.set r (S.met.getD r [] ++ [k]) } := by
  unfold bput addK
  rw [if_neg h]
  have : (kn && decide (k ∈ S.met.getD r [])) = false := by rw [decide_eq_false h, Bool.and_false]
  rw [this]; rfl
end WB

set_option Elab.async false
set_option linter.all false
set_option maxRecDepth 100000
namespace WB
open PySem PySem.Spec PyProof.Rows L2
/-! ### k10: two rows, both ways -/
theorem nd_len10 : ∀ {l m : List LKey}, l.Nodup → (∀ k ∈ l, k ∈ m) → l.length ≤ m.length
  | [], _, _, _ => Nat.zero_le _
  | a :: l, m, nd, h => by
    obtain ⟨n1, n2⟩ := List.nodup_cons.mp nd
    have ha : a ∈ m := h a (by simp)
    have := nd_len10 (m := m.erase a) n2 fun k hk => (List.mem_erase_of_ne (a := k) (b := a) (fun z => n1 (z ▸ hk))).mpr (h k (by simp [hk]))
    rw [List.length_erase_of_mem ha] at this
    have : 0 < m.length := List.length_pos_of_mem ha
    simp only [List.length_cons]; omega
theorem bkPut_mem {b : List (Nat × Slot)} {n : Nat} {x : Slot} {y : Nat × Slot} (h : y ∈ bkPut b n x) : y ∈ b ∨ y = (n, x) := by
  unfold bkPut at h
  split at h
  · obtain ⟨z, hz, e⟩ := List.mem_map.mp h
    by_cases e2 : z.1 = n
    · rw [if_pos e2] at e; exact .inr (by rw [← e, e2])
    · rw [if_neg e2] at e; exact .inl (e ▸ hz)
  · rcases List.mem_append.mp h with h | h
    · exact .inl h
    · exact .inr (List.mem_singleton.mp h)
def rr (i : Bool) : Nat := if i = true then 5 else 3
def Sy.ky (s : Sy) (i : Bool) : List LKey := ((s.w i).letsAt (rr i)).map (·.1)
def RowW (i : Bool) : Wd → Prop
  | .rows _ L => L.length = 6 ∧ ∀ r, r ≠ rr i → L.getD r [] = []
  | .boxes _ _ _ => False
structure K10 (s : Sy) (A : Bool → List LKey) : Prop where
  rows : ∀ i, RowW i (s.w i)
  nd : ∀ i, (s.ky i).Nodup
  own : ∀ i, ∀ k ∈ A i, k ∈ s.ky i
  all : ∀ i, ∀ k ∈ s.ky i, k ∈ A false ++ A true
  nda : (A false ++ A true).Nodup
  nm : ∀ i, ∀ k ∈ A i, k.1 ≠ nm45 (!i)
  bk : ∀ x ∈ s.bk, ∃ i, x.1 = sideN i ∧ x.2.1 = [] ∧ x.2.2.Nodup ∧ ∀ k ∈ x.2.2, k ∈ s.ky (!i)
section
variable {s s' : Sy} {A : Bool → List LKey}
theorem K10.of (K : K10 s A) (hw : s'.w = s.w) (hb : s'.bk = s.bk) : K10 s' A := by
  have e : ∀ i, s'.ky i = s.ky i := fun i => by unfold Sy.ky; rw [hw]
  refine ⟨fun i => by rw [hw]; exact K.rows i, fun i => by rw [e]; exact K.nd i, fun i => by rw [e]; exact K.own i, fun i => by rw [e]; exact K.all i, K.nda, K.nm, fun x hx => ?_⟩
  rw [hb] at hx
  obtain ⟨i, h1, h2, h3, h4⟩ := K.bk x hx
  exact ⟨i, h1, h2, h3, by rw [e]; exact h4⟩
theorem sideN_inj {i j : Bool} (h : sideN i = sideN j) : i = j := by cases i <;> cases j <;> first | rfl | cases h
theorem K10.kept (K : K10 s A) (i : Bool) : (s.kept (sideN i)).1 = [] ∧ (s.kept (sideN i)).2.Nodup ∧ ∀ k ∈ (s.kept (sideN i)).2, k ∈ s.ky (!i) := by
  unfold Sy.kept bkGet
  cases e : (s.bk.find? fun x => decide (x.1 = sideN i)) with
  | none => exact ⟨rfl, List.nodup_nil, fun k hk => nomatch hk⟩
  | some x =>
    obtain ⟨j, h1, h2, h3, h4⟩ := K.bk x (List.mem_of_find?_eq_some e)
    have h5 : x.1 = sideN i := by simpa using List.find?_some e
    rw [sideN_inj (h1.symm.trans h5)] at h4
    exact ⟨h2, h3, h4⟩
theorem K10.klen (K : K10 s A) (i : Bool) : (s.ky i).length ≤ (A false ++ A true).length := nd_len10 (K.nd i) (K.all i)
theorem K10.ok (K : K10 s A) : s.Ok (A false ++ A true).length := by
  refine ⟨fun i => ?_, fun x hx => ?_⟩
  · have h := K.rows i
    have hl := K.klen i
    unfold Sy.ky at hl
    cases e : s.w i with
    | boxes kn le S => rw [e] at h; cases h
    | rows kn L =>
      rw [e] at h hl
      intro l hm
      obtain ⟨r, hr, rfl⟩ := List.mem_iff_getElem.mp hm
      have eg : L.getD r [] = L[r] := by rw [List.getD_eq_getElem?_getD, List.getElem?_eq_getElem hr]; rfl
      by_cases z : r = rr i
      · subst z
        have hl : ((L.getD (rr i) []).map (·.1)).length ≤ _ := hl
        rw [eg, List.length_map] at hl; exact hl
      · rw [← eg, h.2 r z]; exact Nat.zero_le _
  · obtain ⟨i, h1, h2, h3, h4⟩ := K.bk x hx
    refine ⟨⟨by rw [h2]; exact Nat.zero_le _, nd_len10 h3 fun k hk => K.all _ k (h4 k hk)⟩, by rw [h2]; exact List.nodup_nil, h3⟩
theorem mem_addK {l : List LKey} {k j : LKey} : j ∈ addK l k ↔ j ∈ l ∨ j = k := by
  unfold addK
  split
  · rename_i h; exact ⟨.inl, fun z => z.elim id fun z => z ▸ h⟩
  · simp
theorem ky_set {s : Sy} {i : Bool} {W : Wd} {l : Bool → List Str} : (Sy.ky { s with l := l, w := bset s.w i W } i = (W.letsAt (rr i)).map (·.1)) ∧ Sy.ky { s with l := l, w := bset s.w i W } (!i) = s.ky (!i) := by
  refine ⟨?_, ?_⟩
  · show ((bset s.w i W i).letsAt (rr i)).map (·.1) = _; rw [bset_same]
  · show ((bset s.w i W (!i)).letsAt (rr (!i))).map (·.1) = _; rw [bset_ne (Ne.symm (bnot_ne i))]; rfl
theorem bool_or (i j : Bool) : j = i ∨ j = !i := by cases i <;> cases j <;> simp
/-- a row gets a letter of the two -/
theorem K10.put (K : K10 s A) {i : Bool} {W : Wd} {k : LKey} (l : Bool → List Str) (hW : RowW i W) (he : (W.letsAt (rr i)).map (·.1) = addK (s.ky i) k) (hk : k ∈ A false ++ A true) : K10 { s with l := l, w := bset s.w i W } A := by
  obtain ⟨e1, e2⟩ := ky_set (s := s) (i := i) (W := W) (l := l)
  rw [he] at e1
  have sub : ∀ j k', k' ∈ s.ky j → k' ∈ Sy.ky { s with l := l, w := bset s.w i W } j := fun j k' h => by
    rcases bool_or i j with rfl | rfl
    · rw [e1]; exact mem_addK.mpr (.inl h)
    · rw [e2]; exact h
  refine ⟨fun j => ?_, fun j => ?_, fun j k' h => sub j k' (K.own j k' h), fun j k' h => ?_, K.nda, K.nm, fun x hx => ?_⟩
  · rcases bool_or i j with rfl | rfl
    · show RowW j (bset s.w j W j); rw [bset_same]; exact hW
    · show RowW _ (bset s.w i W (!i)); rw [bset_ne (Ne.symm (bnot_ne i))]; exact K.rows _
  · rcases bool_or i j with rfl | rfl
    · rw [e1]; exact addK_nd (K.nd _) _
    · rw [e2]; exact K.nd _
  · rcases bool_or i j with rfl | rfl
    · rw [e1] at h; exact (mem_addK.mp h).elim (K.all _ k') fun z => z ▸ hk
    · rw [e2] at h; exact K.all _ k' h
  · obtain ⟨j, h1, h2, h3, h4⟩ := K.bk x hx
    exact ⟨j, h1, h2, h3, fun k' hk' => sub _ k' (h4 k' hk')⟩
/-- a letter is kept as over -/
theorem K10.over (K : K10 s A) {i : Bool} {k : LKey} (hk : k ∈ s.ky (!i)) (hw : s'.w = s.w) (hb : s'.bk = s.bk ∨ s'.bk = bkPut s.bk (sideN i) ((s.kept (sideN i)).1, addK (s.kept (sideN i)).2 k)) : K10 s' A := by
  have e : ∀ i, s'.ky i = s.ky i := fun i => by unfold Sy.ky; rw [hw]
  rcases hb with hb | hb
  · exact K.of hw hb
  refine ⟨fun i => by rw [hw]; exact K.rows i, fun i => by rw [e]; exact K.nd i, fun i => by rw [e]; exact K.own i, fun i => by rw [e]; exact K.all i, K.nda, K.nm, fun x hx => ?_⟩
  rw [hb] at hx
  rcases bkPut_mem hx with hx | rfl
  · obtain ⟨i, h1, h2, h3, h4⟩ := K.bk x hx
    exact ⟨i, h1, h2, h3, by rw [e]; exact h4⟩
  · obtain ⟨k1, k2, k3⟩ := K.kept i
    exact ⟨i, rfl, k1, addK_nd k2 _, fun j hj => by rw [e]; exact (mem_addK.mp hj).elim (k3 j) fun z => z ▸ hk⟩
end
end WB

set_option Elab.async false
set_option linter.all false
set_option maxRecDepth 100000
namespace WB
open PySem PySem.Spec PyProof.Rows L2
/-! ### troubles -/
section
variable {c : Cl5} {C CC : Addr} {nm : Bool → Int} {ws : List Wy} {N : Nat} {H H' : Hp} {x : Ls} {d : Addr}
end
section
variable {c : Cl5} {C CC : Addr} {nm : Bool → Int} {ws : List Wy} {N : Nat} {H H' : Hp} {x : Ls} {d : Addr}
end
theorem addK_yes {l : List LKey} {k : LKey} (h : k ∈ l) : addK l k = l := by unfold addK; rw [if_pos h]
theorem addK_no {l : List LKey} {k : LKey} (h : k ∉ l) : addK l k = l ++ [k] := by unfold addK; rw [if_neg h]
section
variable {c : Cl5} {C CC : Addr} {nm : Bool → Int} {ws : List Wy} {N : Nat} {H H' : Hp} {x : Ls} {d : Addr}
end
/-- what a trouble does -/
inductive TrR (s : Sy) (f : Nat) : Sy → Nat → Prop
  | book (m : Nat) : m < 4 → TrR s f { s with pu := some m } (f + 1)
  | anew : TrR s f s (f + 1)
  | line (i : Bool) (ws : List Str) : ws.length ≤ 4 → TrR s f { s with l := bset s.l i ws } (f + (ws.filter fun w : Str => !decide (w = ("good" : Str))).length)
theorem TrR.keep {s s' : Sy} {f f' : Nat} (h : TrR s f s' f') : s'.w = s.w ∧ s'.bk = s.bk := by cases h <;> exact ⟨rfl, rfl⟩
end WB

set_option Elab.async false
set_option linter.all false
set_option maxRecDepth 100000
namespace WB
open PySem PySem.Spec PyProof.Rows L2
/-! ### k05: from a row to a row -/
def letOf (k : LKey) : Letter := (k, bodyOf k)
/-- a world with one row in use -/
def RowR (r : Nat) (ks : List LKey) (W : Wd) : Prop := ∃ kn L, W = .rows kn L ∧ L.length = 6 ∧ L.getD r [] = ks.map letOf ∧ ∀ j, j ≠ r → L.getD j [] = []
theorem RowR.ok {r : Nat} {ks : List LKey} {W : Wd} (h : RowR r ks W) : W.Ok ks.length := by
  obtain ⟨kn, L, rfl, h1, h2, h3⟩ := h
  intro l hm
  obtain ⟨j, hj, rfl⟩ := List.mem_iff_getElem.mp hm
  have eg : L.getD j [] = L[j] := by rw [List.getD_eq_getElem?_getD, List.getElem?_eq_getElem hj]; rfl
  by_cases z : j = r
  · subst z; rw [← eg, h2, List.length_map]; exact Nat.le_refl _
  · rw [← eg, h3 j z]; exact Nat.zero_le _
def due5 (A : List LKey) : List LKey := A.filter fun k => decide (k.1 ≠ 5)
structure K05 (s : Sy) (A B ky : List LKey) (m o : Nat) : Prop where
  src : RowR 1 A (s.w false)
  tgt : RowR 2 ky (s.w true)
  nd : ky.Nodup
  nab : (A ++ B).Nodup
  own : ∀ k ∈ B, k ∈ ky
  all : ∀ k ∈ ky, k ∈ due5 A ∨ k ∈ B
  ord : ky.filter (fun k => decide (k ∈ due5 A)) = (due5 A).take m
  om : o ≤ m ∧ m ≤ o + 1 ∧ m ≤ (due5 A).length
  bk : (s.bk = [] ∧ o = 0) ∨ s.bk = [(0, ([], (due5 A).take o))]
section
variable {s s' : Sy} {A B ky : List LKey} {m o : Nat}
theorem K05.of (K : K05 s A B ky m o) (hw : s'.w = s.w) (hb : s'.bk = s.bk) : K05 s' A B ky m o :=
  ⟨by rw [hw]; exact K.src, by rw [hw]; exact K.tgt, K.nd, K.nab, K.own, K.all, K.ord, K.om, by rw [hb]; exact K.bk⟩
theorem K05.kept (K : K05 s A B ky m o) : s.kept 0 = ([], (due5 A).take o) := by
  unfold Sy.kept bkGet
  rcases K.bk with ⟨e, rfl⟩ | e
  · rw [e]; rfl
  · rw [e]; rfl
theorem K05.ndA (K : K05 s A B ky m o) : A.Nodup ∧ (due5 A).Nodup := ⟨(List.nodup_append.mp K.nab).1, (List.nodup_append.mp K.nab).1.sublist List.filter_sublist⟩
theorem due5_sub {A : List LKey} {k : LKey} (h : k ∈ due5 A) : k ∈ A ∧ k.1 ≠ 5 := by
  unfold due5 at h; simpa using h
theorem K05.len (K : K05 s A B ky m o) : ky.length ≤ A.length + B.length := by
  rw [← List.length_append]
  exact nd_len10 K.nd fun k hk => (K.all k hk).elim (fun z => List.mem_append_left _ (due5_sub z).1) fun z => List.mem_append_right _ z
theorem K05.ok (K : K05 s A B ky m o) : s.Ok (A.length + B.length) := by
  refine ⟨fun i => ?_, fun x hx => ?_⟩
  · cases i
    · exact K.src.ok.mono (by omega)
    · exact K.tgt.ok.mono K.len
  · rcases K.bk with ⟨e, _⟩ | e
    · rw [e] at hx; cases hx
    · rw [e] at hx
      rw [List.mem_singleton.mp hx]
      refine ⟨⟨Nat.zero_le _, ?_⟩, List.nodup_nil, K.ndA.2.sublist (List.take_sublist _ _)⟩
      have h1 := List.length_filter_le (fun k : LKey => decide (k.1 ≠ 5)) A
      have h2 : ((due5 A).take o).length ≤ (due5 A).length := by rw [List.length_take]; omega
      have h3 : (due5 A).length ≤ A.length := h1
      show ((due5 A).take o).length ≤ _
      omega
theorem find_take : ∀ {l : List LKey} (o : Nat), l.Nodup → l.find? (fun k => !decide (k ∈ l.take o)) = l[o]?
  | [], o, _ => by simp
  | a :: l, 0, _ => by simp
  | a :: l, o + 1, nd => by
    obtain ⟨n1, n2⟩ := List.nodup_cons.mp nd
    rw [List.take_succ_cons, List.find?_cons_of_neg (by simp), List.getElem?_cons_succ, ← find_take o n2]
    have : ∀ x ∈ l, (!decide (x ∈ a :: l.take o)) = !decide (x ∈ l.take o) := fun x hx => by
      have : x ≠ a := fun z => n1 (z ▸ hx)
      simp [this]
    clear nd n1 n2
    generalize l.take o = t at this
    induction l with
    | nil => rfl
    | cons y l ih =>
      have hy := this y (by simp)
      by_cases c : (!decide (y ∈ t)) = true
      · rw [List.find?_cons_of_pos (by rw [hy]; exact c), List.find?_cons_of_pos (p := fun k => !decide (k ∈ t)) c]
      · rw [List.find?_cons_of_neg (by rw [hy]; exact c), List.find?_cons_of_neg (p := fun k => !decide (k ∈ t)) c]
        exact ih fun x hx => this x (by simp [hx])
theorem nd_take {l : List LKey} {o : Nat} {k : LKey} (nd : l.Nodup) (h : l[o]? = some k) : k ∉ l.take o := fun z => by
  have nd' : (l.take o ++ l.drop o).Nodup := by rw [List.take_append_drop]; exact nd
  have hk : k ∈ l.drop o := List.mem_of_getElem? (i := 0) (by rw [List.getElem?_drop]; simpa using h)
  exact (List.nodup_append.mp nd').2.2 k z k hk rfl
/-- the first that is due -/
theorem K05.first (K : K05 s A B ky m o) : (A.map letOf).find? (fun x : Letter => isDue 5 (s.kept 0).2 x.1) = ((due5 A)[o]?).map letOf := by
  rw [K.kept, ← find_take o K.ndA.2, List.find?_map]
  congr 1
  show List.find? (fun k => isDue 5 ((due5 A).take o) k) A = _
  generalize (due5 A).take o = t
  unfold due5
  rw [List.find?_filter]
  congr 1
  funext k
  unfold isDue
  by_cases h1 : k.1 = 5 <;> by_cases h2 : k ∈ t <;> simp [h1, h2]
theorem due5_at {A : List LKey} {o : Nat} {k : LKey} (h : (due5 A)[o]? = some k) : (due5 A).take (o + 1) = (due5 A).take o ++ [k] := by
  rw [List.take_succ, h]; rfl
/-- the next letter is in its row -/
theorem K05.wrote1 (K : K05 s A B ky m o) {k : LKey} (hk : (due5 A)[o]? = some k) {W : Wd} (l : Bool → List Str) (hW : RowR 2 (addK ky k) W) : K05 { s with l := l, w := bset s.w true W } A B (addK ky k) (o + 1) o := by
  have hd : k ∈ due5 A := List.mem_of_getElem? hk
  have ho := (List.getElem?_eq_some_iff.mp hk).1
  refine ⟨?_, ?_, addK_nd K.nd _, K.nab, fun j hj => mem_addK.mpr (.inl (K.own j hj)), fun j hj => (mem_addK.mp hj).elim (K.all j) fun z => .inl (z ▸ hd), ?_, ⟨by omega, by omega, by omega⟩, K.bk⟩
  · show RowR 1 A (bset s.w true W false); rw [bset_ne (by decide)]; exact K.src
  · show RowR 2 _ (bset s.w true W true); rw [bset_same]; exact hW
  · rw [due5_at hk]
    have om := K.om
    have or := K.ord
    rcases (show m = o ∨ m = o + 1 by omega) with rfl | rfl
    · have nk : k ∉ ky := fun z => by
        have : k ∈ (due5 A).take m := by rw [← or]; exact List.mem_filter.mpr ⟨z, decide_eq_true hd⟩
        exact nd_take K.ndA.2 hk this
      unfold addK
      rw [if_neg nk, List.filter_append, or]
      simp [hd]
    · have yk : k ∈ ky := by
        have : k ∈ ky.filter (fun k => decide (k ∈ due5 A)) := by rw [or, due5_at hk]; simp
        exact (List.mem_filter.mp this).1
      unfold addK
      rw [if_pos yk, or, due5_at hk]
/-- it is kept as over -/
theorem K05.over (K : K05 s A B ky (o + 1) o) {k : LKey} (hk : (due5 A)[o]? = some k) (hw : s'.w = s.w) (hb : s'.bk = bkPut s.bk 0 ((s.kept 0).1, addK (s.kept 0).2 k)) : K05 s' A B ky (o + 1) (o + 1) := by
  have ho := (List.getElem?_eq_some_iff.mp hk).1
  have nk : k ∉ (due5 A).take o := nd_take K.ndA.2 hk
  refine ⟨by rw [hw]; exact K.src, by rw [hw]; exact K.tgt, K.nd, K.nab, K.own, K.all, K.ord, ⟨by omega, by omega, K.om.2.2⟩, .inr ?_⟩
  rw [hb, K.kept, due5_at hk]
  show bkPut s.bk 0 ([], addK ((due5 A).take o) k) = _
  unfold addK
  rw [if_neg nk]
  rcases K.bk with ⟨e, _⟩ | e
  · rw [e]; rfl
  · rw [e]; rfl
/-- what steps do -/
def Inv05 (A B : List LKey) (s : Sy) : Prop := ∃ ky m o, K05 s A B ky m o
end
end WB

set_option Elab.async false
set_option linter.all false
set_option maxRecDepth 100000
namespace WB
open PySem PySem.Spec PyProof.Rows L2
/-! ### k05: all is well again -/
section
variable {s s' : Sy} {A B ky : List LKey} {m o : Nat}
theorem RowR.len {r : Nat} {ks : List LKey} {W : Wd} (h : RowR r ks W) (j : Nat) : (W.letsAt j).length ≤ ks.length := by
  obtain ⟨kn, L, rfl, h1, h2, h3⟩ := h
  show (L.getD j []).length ≤ _
  by_cases z : j = r
  · subst z; rw [h2, List.length_map]; exact Nat.le_refl _
  · rw [h3 j z]; exact Nat.zero_le _
theorem K05.start (h : ∀ i, ∃ kn, s.w i = .rows kn (List.replicate 6 [])) (hb : s.bk = []) : K05 s [] [] [] 0 0 := by
  have row : ∀ i r, RowR r [] (s.w i) := fun i r => by
    obtain ⟨kn, e⟩ := h i
    refine ⟨kn, _, e, rfl, ?_, fun j _ => ?_⟩
    · rw [List.getD_eq_getElem?_getD, List.getElem?_replicate]; split <;> rfl
    · rw [List.getD_eq_getElem?_getD, List.getElem?_replicate]; split <;> rfl
  exact ⟨row _ _, row _ _, List.nodup_nil, List.nodup_nil, (fun k hk => nomatch hk), (fun k hk => nomatch hk), rfl, ⟨Nat.le_refl _, by omega, Nat.zero_le _⟩, .inl ⟨hb, rfl⟩⟩
end
end WB

set_option Elab.async false
set_option linter.all false
set_option maxRecDepth 100000
namespace WB
open PySem PySem.Spec PyProof.Rows L2
def sentL (m : SentM) (i r : Nat) : List LKey := ((m i r).map (·.2)).getD []
/-- what k05 keeps; c: how much has been written at most -/
structure I05 (x : Ls) (c : Nat) (A B : List LKey) : Prop where
  k : Inv05 A B x.s
  sa : A = sentL x.m 0 1
  sb : B = sentL x.m 1 2
  num : ∀ k ∈ A ++ B, k.2.2 ≤ (x.n : Int)
  nn : x.n ≤ c
  t : A.length + B.length ≤ c
theorem I05.keep {x x' : Ls} {c : Nat} {A B : List LKey} (I : I05 x c A B) (K : Inv05 A B x'.s) (hn : x'.n = x.n) (hm : x'.m = x.m) : I05 x' c A B :=
  ⟨K, by rw [hm]; exact I.sa, by rw [hm]; exact I.sb, by rw [hn]; exact I.num, by rw [hn]; exact I.nn, I.t⟩
theorem I05.mono {x : Ls} {c c' : Nat} {A B : List LKey} (I : I05 x c A B) (h : c ≤ c') : I05 x c' A B := ⟨I.k, I.sa, I.sb, I.num, Nat.le_trans I.nn h, Nat.le_trans I.t h⟩
theorem I05.new {x : Ls} {c : Nat} {A B : List LKey} (I : I05 x c A B) (own v : Int) : (own, v, ((x.n + 1 : Nat) : Int)) ∉ A ++ B := fun z => by
  have := I.num _ z; dsimp only at this; omega
end WB

set_option Elab.async false
set_option linter.all false
set_option maxRecDepth 100000
namespace WB
open PySem PySem.Spec PyProof.Rows L2
/-! ### a world of boxes with one box in use -/
def okey (os : Out) : List LKey := os.map fun e => e.x.1
structure BoxS (r : Nat) (S : BSt) (A wt : List LKey) (os : Out) (c : Nat) : Prop where
  lw : S.wait.length = 6
  lm : S.met.length = 6
  wq : S.wait.getD r [] = wt.map letOf
  w0 : ∀ j, j ≠ r → S.wait.getD j [] = []
  oq : S.out = os
  dist : Dist os
  oe : ∀ e ∈ os, e.t < S.many ∧ e.b = r ∧ 1 ≤ e.f ∧ e.x = letOf e.x.1
  met : ∀ k ∈ S.met.getD r [], k ∈ A
  mnd : (S.met.getD r []).Nodup
  m0 : ∀ j, j ≠ r → S.met.getD j [] = []
  om : os.length ≤ S.many
  mc : S.many ≤ c
section
variable {r : Nat} {S : BSt} {A wt : List LKey} {os : Out} {c : Nat}
theorem all_getD {α : Type} {L : List (List α)} {r : Nat} {P : List α → Prop} (h1 : P (L.getD r [])) (h0 : P []) (h : ∀ j, j ≠ r → L.getD j [] = []) : ∀ l ∈ L, P l := fun l hm => by
  obtain ⟨j, hj, rfl⟩ := List.mem_iff_getElem.mp hm
  have eg : L.getD j [] = L[j] := by rw [List.getD_eq_getElem?_getD, List.getElem?_eq_getElem hj]; rfl
  by_cases z : j = r
  · subst z; rw [← eg]; exact h1
  · rw [← eg, h j z]; exact h0
theorem BoxS.left (h : BoxS r S A wt os c) : bleft S r = (wt ++ okey os).map letOf := by
  unfold bleft
  rw [h.wq, h.oq, List.map_append]
  congr 1
  have : os.filter (fun e => decide (e.b = r)) = os := List.filter_eq_self.mpr fun e he => decide_eq_true (h.oe e he).2.1
  rw [this]
  unfold okey
  rw [List.map_map]
  exact List.map_congr_left fun e he => (h.oe e he).2.2.2
theorem BoxS.left0 (h : BoxS r S A wt os c) {j : Nat} (hj : j ≠ r) : bleft S j = [] := by
  unfold bleft
  rw [h.w0 j hj, h.oq]
  have : os.filter (fun e => decide (e.b = j)) = [] := List.filter_eq_nil_iff.mpr fun e he z => hj ((of_decide_eq_true z).symm.trans (h.oe e he).2.1)
  rw [this]; rfl
theorem BoxS.ok (h : BoxS r S A wt os c) (hr : r < 6) {N : Nat} (h1 : wt.length + os.length ≤ N) (h2 : A.length ≤ N) (h3 : c ≤ N) : S.Ok N where
  lw := h.lw
  lm := h.lm
  dist := by rw [h.oq]; exact h.dist
  lt := fun e he => (h.oe e (h.oq ▸ he)).1
  bx := fun e he => by rw [(h.oe e (h.oq ▸ he)).2.1]; exact hr
  fr := fun e he => (h.oe e (h.oq ▸ he)).2.2.1
  sz := by
    rw [h.oq]
    exact all_getD (r := r) (by rw [h.wq, List.length_map]; exact h1) (by show 0 + _ ≤ N; omega) h.w0
  sm := all_getD (r := r) (P := fun m => m.length ≤ N) (Nat.le_trans (nd_len10 h.mnd h.met) h2) (Nat.zero_le _) h.m0
  many := Nat.le_trans h.mc h3
  so := by rw [h.oq]; omega
theorem BoxS.take (h : BoxS r S A wt os c) (hr : r < 6) {k : LKey} {w' : List LKey} (e : wt = k :: w') {le : Nat} (hle : 1 ≤ le) : S.wait.getD r [] = letOf k :: w'.map letOf ∧ BoxS r (btake le S r) A w' (os ++ [⟨S.many, r, letOf k, le⟩]) (c + 1) := by
  have ew : S.wait.getD r [] = letOf k :: w'.map letOf := by rw [h.wq, e]; rfl
  refine ⟨ew, ?_⟩
  unfold btake
  rw [ew]
  refine ⟨by show (S.wait.set r _).length = 6; rw [List.length_set]; exact h.lw, h.lm, getD_set (by rw [h.lw]; exact hr), fun j hj => ?_, by show S.out ++ _ = _; rw [h.oq], ?_, fun e he => ?_, h.met, h.mnd, h.m0, ?_, by show S.many + 1 ≤ c + 1; have := h.mc; omega⟩
  · show (S.wait.set r _).getD j [] = []
    rw [List.getD_eq_getElem?_getD, List.getElem?_set_ne (Ne.symm hj), ← List.getD_eq_getElem?_getD]; exact h.w0 j hj
  · unfold Dist
    rw [List.pairwise_append]
    refine ⟨h.dist, List.pairwise_singleton _ _, fun a ha b hb => ?_⟩
    rw [List.mem_singleton.mp hb]
    exact (h.oe a ha).1
  · show e.t < S.many + 1 ∧ _
    rcases List.mem_append.mp he with he | he
    · obtain ⟨a, b, d, f⟩ := h.oe e he; exact ⟨by omega, b, d, f⟩
    · rw [List.mem_singleton.mp he]; exact ⟨by simp only; omega, rfl, hle, rfl⟩
  · show (os ++ _).length ≤ S.many + 1
    rw [List.length_append]; have := h.om; simp only [List.length_singleton]; omega
theorem BoxS.put (h : BoxS r S A wt os c) (hr : r < 6) {k : LKey} (hk : k ∉ S.met.getD r []) (kn : Bool) {A' : List LKey} (hA : ∀ j, j ∈ A ∨ j = k → j ∈ A') : BoxS r (bput kn S r k (bodyOf k)) A' (wt ++ [k]) os c := by
  rw [bput_new hk]
  refine ⟨by show (app S.wait r _).length = 6; rw [app_len]; exact h.lw, by show (S.met.set r _).length = 6; rw [List.length_set]; exact h.lm, ?_, fun j hj => ?_, h.oq, h.dist, h.oe, ?_, ?_, fun j hj => ?_, h.om, h.mc⟩
  · show (app S.wait r _).getD r [] = _
    unfold app
    rw [getD_set (by rw [h.lw]; exact hr), h.wq, List.map_append]; rfl
  · show (app S.wait r _).getD j [] = []
    unfold app
    rw [List.getD_eq_getElem?_getD, List.getElem?_set_ne (Ne.symm hj), ← List.getD_eq_getElem?_getD]; exact h.w0 j hj
  · show ∀ j ∈ (S.met.set r _).getD r [], j ∈ A'
    rw [getD_set (by rw [h.lm]; exact hr)]
    intro j hj
    exact hA j ((List.mem_append.mp hj).imp (h.met j) List.mem_singleton.mp)
  · show ((S.met.set r _).getD r []).Nodup
    rw [getD_set (by rw [h.lm]; exact hr), ← addK_no hk]
    exact addK_nd h.mnd _
  · show (S.met.set r _).getD j [] = []
    rw [List.getD_eq_getElem?_getD, List.getElem?_set_ne (Ne.symm hj), ← List.getD_eq_getElem?_getD]; exact h.m0 j hj
theorem fold_app : ∀ (es : Out) (w : List (List Letter)) {ks : List LKey}, (∀ e ∈ es, e.b = r ∧ e.x = letOf e.x.1) → r < w.length → w.getD r [] = ks.map letOf → (∀ j, j ≠ r → w.getD j [] = []) →
    (es.foldl (fun w e => app w e.b e.x) w).getD r [] = (ks ++ okey es).map letOf ∧ ∀ j, j ≠ r → (es.foldl (fun w e => app w e.b e.x) w).getD j [] = []
  | [], w, ks, _, _, h1, h2 => ⟨by show w.getD r [] = (ks ++ []).map letOf; rw [List.append_nil]; exact h1, h2⟩
  | e :: es, w, ks, he, hr, h1, h2 => by
    obtain ⟨q1, q2⟩ := he e (by simp)
    have := fold_app es (app w e.b e.x) (ks := ks ++ [e.x.1]) (fun e' h' => he e' (by simp [h'])) (by rw [app_len]; exact hr) ?_ ?_
    · rw [List.foldl_cons]
      have e2 : ks ++ [e.x.1] ++ okey es = ks ++ okey (e :: es) := by rw [List.append_assoc]; rfl
      rw [e2] at this; exact this
    · rw [q1]; unfold app; rw [getD_set hr, h1, List.map_append]; congr 1; rw [q2]; rfl
    · intro j hj
      rw [q1]; unfold app
      rw [List.getD_eq_getElem?_getD, List.getElem?_set_ne (Ne.symm hj), ← List.getD_eq_getElem?_getD]; exact h2 j hj
theorem BoxS.turn (h : BoxS r S A wt os c) (hr : r < 6) : BoxS r (bturn S) A (wt ++ okey (due os)) (old os) c := by
  have hd : ∀ e ∈ due os, e ∈ os := fun e he => (List.mem_filter.mp he).1
  have fa := fold_app (r := r) (due os) S.wait (fun e he => ⟨(h.oe e (hd e he)).2.1, (h.oe e (hd e he)).2.2.2⟩) (by rw [h.lw]; exact hr) h.wq h.w0
  refine ⟨by show (List.foldl _ S.wait (due S.out)).length = 6; rw [fold_len]; exact h.lw, h.lm, by show (List.foldl _ S.wait (due S.out)).getD r [] = _; rw [h.oq]; exact fa.1, fun j hj => by show (List.foldl _ S.wait (due S.out)).getD j [] = _; rw [h.oq]; exact fa.2 j hj, by show old S.out = _; rw [h.oq], old_dist h.dist, fun e he => ?_, h.met, h.mnd, h.m0, ?_, h.mc⟩
  · obtain ⟨o, ho, e1, e2, e3, e4, e5⟩ := mem_old he
    obtain ⟨a, b, d, f⟩ := h.oe o ho
    exact ⟨by rw [← e1]; exact a, by rw [← e2]; exact b, by omega, by rw [← e3]; exact f⟩
  · have := due_old_len os
    have := h.om
    show (old os).length ≤ S.many
    omega
theorem okey_turn : ∀ os : Out, (okey os).Perm (okey (due os) ++ okey (old os))
  | [] => List.Perm.nil
  | e :: os => by
    have ih := okey_turn os
    unfold due old okey at ih ⊢
    by_cases h : e.f = 1
    · rw [List.filter_cons_of_pos (by simp [h]), List.filter_cons_of_neg (by simp [h])]
      exact List.Perm.cons _ ih
    · rw [List.filter_cons_of_neg (by simp [h]), List.filter_cons_of_pos (by simp [h])]
      simp only [List.map_cons]
      exact (List.Perm.cons _ ih).trans List.perm_middle.symm
theorem old_f {os : Out} {m : Nat} (h : ∀ e ∈ os, e.f ≤ m + 1) : ∀ e ∈ old os, e.f ≤ m := fun e he => by
  obtain ⟨o, ho, _, _, _, _, e5⟩ := mem_old he
  have := h o ho
  omega
end
/-! ### k07: from a box to a row -/
def BoxR (r : Nat) (W : Wd) (A wt : List LKey) (os : Out) (c : Nat) : Prop := ∃ kn le S, W = .boxes kn le S ∧ 1 ≤ le ∧ le ≤ 5 ∧ BoxS r S A wt os c
structure K07 (s : Sy) (A B ky ov wt : List LKey) (os : Out) (c : Nat) : Prop where
  src : BoxR 1 (s.w false) A wt os c
  tgt : RowR 2 ky (s.w true)
  nd : ky.Nodup
  nab : (A ++ B).Nodup
  own : ∀ k ∈ B, k ∈ ky
  all : ∀ k ∈ ky, k ∈ due5 A ∨ k ∈ B
  lnd : (wt ++ okey os).Nodup
  lsub : ∀ k ∈ wt ++ okey os, k ∈ A
  gone : ∀ k ∈ due5 A, k ∈ wt ++ okey os ∨ k ∈ ky
  f5 : ∀ e ∈ os, e.f ≤ 5
  bk : (s.bk = [] ∧ ov = []) ∨ s.bk = [(0, ([], ov))]
  ovn : ov.Nodup
  ovs : ∀ k ∈ ov, k ∈ ky ∧ k ∈ due5 A
section
variable {s s' : Sy} {A B ky ov wt : List LKey} {os : Out} {c : Nat}
theorem K07.of (K : K07 s A B ky ov wt os c) (hw : s'.w = s.w) (hb : s'.bk = s.bk) : K07 s' A B ky ov wt os c :=
  ⟨by rw [hw]; exact K.src, by rw [hw]; exact K.tgt, K.nd, K.nab, K.own, K.all, K.lnd, K.lsub, K.gone, K.f5, by rw [hb]; exact K.bk, K.ovn, K.ovs⟩
theorem K07.kept (K : K07 s A B ky ov wt os c) : s.kept 0 = ([], ov) := by
  unfold Sy.kept bkGet
  rcases K.bk with ⟨e, rfl⟩ | e
  · rw [e]; rfl
  · rw [e]; rfl
theorem K07.len (K : K07 s A B ky ov wt os c) : ky.length ≤ A.length + B.length ∧ wt.length + os.length ≤ A.length ∧ ov.length ≤ A.length := by
  refine ⟨?_, ?_, nd_len10 K.ovn fun k hk => (due5_sub (K.ovs k hk).2).1⟩
  · rw [← List.length_append]
    exact nd_len10 K.nd fun k hk => (K.all k hk).elim (fun z => List.mem_append_left _ (due5_sub z).1) fun z => List.mem_append_right _ z
  · have := nd_len10 K.lnd K.lsub
    rw [List.length_append] at this
    unfold okey at this
    rw [List.length_map] at this
    exact this
theorem K07.ok (K : K07 s A B ky ov wt os c) : s.Ok (A.length + B.length + c) := by
  obtain ⟨l1, l2, l3⟩ := K.len
  refine ⟨fun i => ?_, fun x hx => ?_⟩
  · cases i
    · obtain ⟨kn, le, S, e, h1, h2, h⟩ := K.src
      rw [e]
      exact ⟨h.ok (by decide) (by omega) (by omega) (by omega), h1⟩
    · exact K.tgt.ok.mono (by omega)
  · rcases K.bk with ⟨e, _⟩ | e
    · rw [e] at hx; cases hx
    · rw [e] at hx
      rw [List.mem_singleton.mp hx]
      exact ⟨⟨Nat.zero_le _, by show ov.length ≤ _; omega⟩, List.nodup_nil, K.ovn⟩
theorem K07.over (K : K07 s A B ky ov wt os c) {k : LKey} (hk : k ∈ ky) (hd : k ∈ due5 A) (hw : s'.w = s.w) (hb : s'.bk = bkPut s.bk 0 ((s.kept 0).1, addK (s.kept 0).2 k)) : K07 s' A B ky (addK ov k) wt os c := by
  refine ⟨by rw [hw]; exact K.src, by rw [hw]; exact K.tgt, K.nd, K.nab, K.own, K.all, K.lnd, K.lsub, K.gone, K.f5, .inr ?_, addK_nd K.ovn _, fun j hj => (mem_addK.mp hj).elim (K.ovs j) fun z => z ▸ ⟨hk, hd⟩⟩
  rw [hb, K.kept]
  show bkPut s.bk 0 ([], addK ov k) = _
  rcases K.bk with ⟨e, _⟩ | e
  · rw [e]; rfl
  · rw [e]; rfl
theorem K07.src' (K : K07 s A B ky ov wt os c) {W : Wd} (l : Bool → List Str) {w' : List LKey} {os' : Out} {c' : Nat} (h : BoxR 1 W A w' os' c') (hn : (w' ++ okey os').Nodup) (hs : ∀ k ∈ w' ++ okey os', k ∈ wt ++ okey os) (hg : ∀ k ∈ wt ++ okey os, k ∈ w' ++ okey os' ∨ k ∈ ky ∨ k ∉ due5 A) (h5 : ∀ e ∈ os', e.f ≤ 5) : K07 { s with l := l, w := bset s.w false W } A B ky ov w' os' c' := by
  refine ⟨?_, ?_, K.nd, K.nab, K.own, K.all, hn, fun k hk => K.lsub k (hs k hk), fun k hk => ?_, h5, K.bk, K.ovn, K.ovs⟩
  · show BoxR 1 (bset s.w false W false) A w' os' c'; rw [bset_same]; exact h
  · show RowR 2 ky (bset s.w false W true); rw [bset_ne (by decide)]; exact K.tgt
  · rcases K.gone k hk with z | z
    · rcases hg k z with y | y | y
      · exact .inl y
      · exact .inr y
      · exact absurd hk y
    · exact .inr z
def Inv07 (A B : List LKey) (c : Nat) (s : Sy) : Prop := ∃ ky ov wt os, K07 s A B ky ov wt os c
theorem BoxR.mono {r : Nat} {W : Wd} {c c' : Nat} (h : BoxR r W A wt os c) (hc : c ≤ c') : BoxR r W A wt os c' := by
  obtain ⟨kn, le, S, e, h1, h2, h⟩ := h
  exact ⟨kn, le, S, e, h1, h2, ⟨h.lw, h.lm, h.wq, h.w0, h.oq, h.dist, h.oe, h.met, h.mnd, h.m0, h.om, Nat.le_trans h.mc hc⟩⟩
theorem K07.mono {c' : Nat} (K : K07 s A B ky ov wt os c) (h : c ≤ c') : K07 s A B ky ov wt os c' :=
  ⟨K.src.mono h, K.tgt, K.nd, K.nab, K.own, K.all, K.lnd, K.lsub, K.gone, K.f5, K.bk, K.ovn, K.ovs⟩
end
end WB

set_option Elab.async false
set_option linter.all false
set_option maxRecDepth 100000
namespace WB
open PySem PySem.Spec PyProof.Rows L2
section
variable {s s' : Sy} {A B ky ov wt : List LKey} {os : Out} {c : Nat}
theorem K07.take (K : K07 s A B ky ov wt os c) (l : Bool → List Str) : (wt = [] ∧ wTake 1 (s.w false) = (s.w false, none)) ∨ ∃ k w' t e, wt = k :: w' ∧ (wTake 1 (s.w false)).2 = some (t, letOf k) ∧ e.t = t ∧ e.x = letOf k ∧ (∀ z ∈ os, z.t ≠ t) ∧ K07 { s with l := l, w := bset s.w false (wTake 1 (s.w false)).1 } A B ky ov w' (os ++ [e]) (c + 1) := by
  obtain ⟨kn, le, S, e, h1, h2, hb⟩ := K.src
  cases hw : wt with
  | nil =>
    subst hw
    have e0 : S.wait.getD 1 [] = [] := hb.wq
    refine .inl ⟨rfl, ?_⟩
    rw [e]
    show (Wd.boxes kn le (btake le S 1), match S.wait.getD 1 [] with | [] => none | x :: _ => some (S.many, x)) = _
    unfold btake
    rw [e0]
  | cons k w' =>
    obtain ⟨ew, hb'⟩ := hb.take (by decide) hw h1
    refine .inr ⟨k, w', S.many, ⟨S.many, 1, letOf k, le⟩, rfl, ?_, rfl, rfl, (fun z hz y => by have := (hb.oe z hz).1; omega), ?_⟩
    · rw [e]
      show (match S.wait.getD 1 [] with | [] => none | x :: _ => some (S.many, x)) = _
      rw [ew]
    · subst hw
      have pm : (w' ++ okey (os ++ [⟨S.many, 1, letOf k, le⟩])).Perm (k :: w' ++ okey os) := by
        unfold okey
        rw [List.map_append, ← List.append_assoc]
        exact List.perm_append_singleton _ _
      refine K.src' l ⟨kn, le, btake le S 1, by rw [e]; rfl, h1, h2, hb'⟩ (pm.nodup_iff.mpr K.lnd) (fun k hk => pm.mem_iff.mp hk) (fun k hk => .inl (pm.mem_iff.mpr hk)) fun e he => ?_
      rcases List.mem_append.mp he with z | z
      · exact K.f5 e z
      · rw [List.mem_singleton.mp z]; exact h2
end
end WB

set_option Elab.async false
set_option linter.all false
set_option maxRecDepth 100000
namespace WB
open PySem PySem.Spec PyProof.Rows L2
section
variable {s s' : Sy} {A B ky ov wt : List LKey} {os : Out} {c : Nat}
/-! ### turns -/
theorem tn_succ (s : Sy) (n : Nat) : s.tn (fun _ => n + 1) = Sy.tn { s with w := fun i => wTurn (s.w i) } fun _ => n := rfl
theorem K07.f0 (K : K07 s A B ky ov wt os c) (h : ∀ e ∈ os, e.f ≤ 0) : os = [] := by
  obtain ⟨kn, le, S, e, h1, h2, hb⟩ := K.src
  refine List.eq_nil_iff_forall_not_mem.mpr fun e he => ?_
  have := h e he
  have := (hb.oe e he).2.2.1
  omega
/-! ### all is well again -/
/-! ### letters are written -/
theorem getD_rep {α : Type} (n j : Nat) : (List.replicate n ([] : List α)).getD j [] = [] := by
  rw [List.getD_eq_getElem?_getD, List.getElem?_replicate]; split <;> rfl
theorem b00_box (r : Nat) : BoxS r b00 [] [] [] 0 :=
  ⟨rfl, rfl, getD_rep 6 r, fun j _ => getD_rep 6 j, rfl, List.Pairwise.nil, (fun e h => nomatch h), (fun k hk => by rw [show b00.met.getD r [] = [] from getD_rep 6 r] at hk; cases hk), by rw [show b00.met.getD r [] = [] from getD_rep 6 r]; exact List.nodup_nil, fun j _ => getD_rep 6 j, Nat.le_refl _, Nat.le_refl _⟩
theorem row_new (kn : Bool) (r : Nat) : RowR r [] (.rows kn (List.replicate 6 [])) := ⟨kn, _, rfl, rfl, getD_rep 6 r, fun j _ => getD_rep 6 j⟩
theorem K07.start {kn : Bool → Bool} (h : ∀ i, NewW (by2 "boxes" "rows" i) (kn i) (s.w i)) (hb : s.bk = []) : K07 s [] [] [] [] [] [] 0 := by
  have h0 : BoxR 1 (s.w false) [] [] [] 0 := by
    have z := h false
    generalize s.w false = W at z
    cases z with
    | rows e => exact absurd e (by decide)
    | boxes le e h1 h2 => exact ⟨_, le, _, rfl, h1, h2, b00_box 1⟩
  have h1 : RowR 2 [] (s.w true) := by
    have z := h true
    generalize s.w true = W at z
    cases z with
    | rows e => exact row_new _ _
    | boxes le e h1 h2 => exact absurd e (by decide)
  exact ⟨h0, h1, List.nodup_nil, List.nodup_nil, (fun k hk => nomatch hk), (fun k hk => nomatch hk), List.nodup_nil, (fun k hk => nomatch hk), (fun k hk => nomatch hk), (fun e he => nomatch he), .inl ⟨hb, rfl⟩, List.nodup_nil, fun k hk => nomatch hk⟩
end
/-- what k07 keeps; c: how much has been written at most; d: how many steps there were -/
structure I07 (x : Ls) (c d : Nat) (A B : List LKey) : Prop where
  k : Inv07 A B d x.s
  sa : A = sentL x.m 0 1
  sb : B = sentL x.m 1 2
  num : ∀ k ∈ A ++ B, k.2.2 ≤ (x.n : Int)
  nn : x.n ≤ c
  t : A.length + B.length ≤ c
theorem I07.keep {x x' : Ls} {c d d' : Nat} {A B : List LKey} (I : I07 x c d A B) (K : Inv07 A B d' x'.s) (hn : x'.n = x.n) (hm : x'.m = x.m) : I07 x' c d' A B :=
  ⟨K, by rw [hm]; exact I.sa, by rw [hm]; exact I.sb, by rw [hn]; exact I.num, by rw [hn]; exact I.nn, I.t⟩
theorem I07.mono {x : Ls} {c c' d d' : Nat} {A B : List LKey} (I : I07 x c d A B) (h : c ≤ c') (h' : d ≤ d') : I07 x c' d' A B :=
  ⟨let ⟨_, _, _, _, K⟩ := I.k; ⟨_, _, _, _, K.mono h'⟩, I.sa, I.sb, I.num, Nat.le_trans I.nn h, Nat.le_trans I.t h⟩
theorem I07.new {x : Ls} {c d : Nat} {A B : List LKey} (I : I07 x c d A B) (own v : Int) : (own, v, ((x.n + 1 : Nat) : Int)) ∉ A ++ B := fun z => by
  have := I.num _ z; dsimp only at this; omega
end WB

set_option Elab.async false
set_option linter.all false
set_option maxRecDepth 100000
namespace WB
open PySem PySem.Spec PyProof.Rows L2
/-! ### what may still fail -/
def nbW (l : List Str) : Nat := (l.filter fun w => decide (wm w ≠ .good)).length
def pzO : Option Nat → Nat
  | none => 0
  | some _ => 1
def Sy.phi (s : Sy) : Nat := nbW (s.l false) + nbW (s.l true) + pzO s.pu
/-! ### tries -/
def triesOf (t : Tr) (k : LKey) : Nat := (trGet t k).getD 0
/-! ### a box that is a goal -/
def putQ (kn : Bool) (ky : List LKey) (k : LKey) : List LKey := if kn = true then addK ky k else ky ++ [k]
def cntK (ky : List LKey) (k : LKey) : Nat := ky.countP fun z => decide (z = k)
def TBox (W : Wd) (kn : Bool) (ky : List LKey) : Prop := ∃ le S, W = .boxes kn le S ∧ 1 ≤ le ∧ BoxS 2 S ky ky [] 0 ∧ (∀ k ∈ ky, k ∈ S.met.getD 2 []) ∧ (kn = true → ky.Nodup)
section
variable {W : Wd} {kn : Bool} {ky : List LKey}
theorem TBox.lets (h : TBox W kn ky) : W.letsAt 2 = ky.map letOf ∧ W.outs = 0 ∧ W.kn = kn := by
  obtain ⟨le, S, rfl, _, hb, _⟩ := h
  refine ⟨?_, ?_, rfl⟩
  · show bleft S 2 = _
    rw [hb.left]
    show ((ky ++ []).map letOf) = _
    rw [List.append_nil]
  · show S.out.length = 0; rw [hb.oq]; rfl
theorem TBox.len (h : TBox W kn ky) (r : Nat) : (W.letsAt r).length ≤ ky.length := by
  by_cases e : r = 2
  · subst e; rw [h.lets.1, List.length_map]; exact Nat.le_refl _
  · obtain ⟨le, S, rfl, _, hb, _⟩ := h
    show (bleft S r).length ≤ _
    rw [hb.left0 e]; exact Nat.zero_le _
theorem TBox.ok (h : TBox W kn ky) {N : Nat} (hN : ky.length ≤ N) : W.Ok N := by
  obtain ⟨le, S, rfl, h1, hb, hm, hn⟩ := h
  exact ⟨hb.ok (by decide) (by simpa using hN) hN (Nat.zero_le _), h1⟩
theorem set_getD {α : Type} {l : List (List α)} {r : Nat} (h : r < l.length) : l.set r (l.getD r []) = l := by
  rw [List.getD_eq_getElem?_getD, List.getElem?_eq_getElem h]
  exact List.set_getElem_self h
theorem TBox.put (h : TBox W kn ky) (k : LKey) : TBox (wPut 2 k (bodyOf k) W).1 kn (putQ kn ky k) := by
  obtain ⟨le, S, rfl, h1, hb, hm, hn⟩ := h
  show TBox (.boxes kn le (bput kn S 2 k (bodyOf k))) kn (putQ kn ky k)
  by_cases hk : k ∈ S.met.getD 2 []
  · have kky : k ∈ ky := hb.met k hk
    have em : S.met.set 2 (addK (S.met.getD 2 []) k) = S.met := by rw [addK_yes hk]; exact set_getD (by rw [hb.lm]; decide)
    cases kn with
    | true =>
      have eS : bput true S 2 k (bodyOf k) = S := by
        unfold bput
        rw [em, decide_eq_true hk]; rfl
      have ek : putQ true ky k = ky := by unfold putQ; rw [if_pos rfl, addK_yes kky]
      rw [eS, ek]; exact ⟨le, S, rfl, h1, hb, hm, hn⟩
    | false =>
      have eS : bput false S 2 k (bodyOf k) = { S with wait := app S.wait 2 (k, bodyOf k) } := by
        unfold bput
        rw [em]; rfl
      have ek : putQ false ky k = ky ++ [k] := rfl
      rw [eS, ek]
      refine ⟨le, _, rfl, h1, ⟨by show (app S.wait 2 _).length = 6; rw [app_len]; exact hb.lw, hb.lm, ?_, fun j hj => ?_, hb.oq, hb.dist, hb.oe, fun j hj => List.mem_append_left _ (hb.met j hj), hb.mnd, hb.m0, hb.om, hb.mc⟩, fun j hj => ?_, fun z => nomatch z⟩
      · show (app S.wait 2 _).getD 2 [] = _
        unfold app
        rw [getD_set (by rw [hb.lw]; decide), hb.wq, List.map_append]; rfl
      · show (app S.wait 2 _).getD j [] = []
        unfold app
        rw [List.getD_eq_getElem?_getD, List.getElem?_set_ne (Ne.symm hj), ← List.getD_eq_getElem?_getD]; exact hb.w0 j hj
      · exact (List.mem_append.mp hj).elim (hm j) fun z => by rw [List.mem_singleton.mp z]; exact hk
  · have kky : k ∉ ky := fun z => hk (hm k z)
    have ek : putQ kn ky k = ky ++ [k] := by unfold putQ; split; exact addK_no kky; rfl
    rw [ek]
    refine ⟨le, _, rfl, h1, hb.put (by decide) hk kn fun j hj => hj.elim (fun z => List.mem_append_left _ z) fun z => z ▸ List.mem_append_right _ (by simp), fun j hj => ?_, fun z => ?_⟩
    · rw [bput_new hk]
      show j ∈ (S.met.set 2 _).getD 2 []
      rw [getD_set (by rw [hb.lm]; decide)]
      exact (List.mem_append.mp hj).elim (fun z => List.mem_append_left _ (hm j z)) fun z => List.mem_append_right _ z
    · rw [← addK_no kky]; exact addK_nd (hn z) _
end
end WB

set_option Elab.async false
set_option linter.all false
set_option maxRecDepth 100000
namespace WB
open PySem PySem.Spec PyProof.Rows L2
/-- the goal's side: c: how often something was put there at most; p: how much may still fail; h: the letter in hand -/
structure T8 (s : Sy) (A B ky : List LKey) (tr : Tr) (ov : List LKey) (kn : Bool) (c f p : Nat) (h : Option LKey) : Prop where
  tgt : TBox (s.w true) kn ky
  own : ∀ k ∈ B, k ∈ ky
  all : ∀ k ∈ ky, k ∈ due5 A ∨ k ∈ B
  bk : (s.bk = [] ∧ tr = [] ∧ ov = []) ∨ s.bk = [(0, (tr, ov))]
  ovn : ov.Nodup
  ovs : ∀ k ∈ ov, k ∈ ky ∧ k ∈ due5 A
  trn : (tr.map (·.1)).Nodup
  trs : ∀ z ∈ tr, z.1 ∈ due5 A
  trk : kn = true → tr = []
  cnt : kn = false → ∀ k ∈ due5 A, cntK ky k ≤ triesOf tr k
  kl : ky.length ≤ B.length + c
  ph : p ≤ f
  fl : ∀ k, k ∉ ov → some k ≠ h → triesOf tr k + p ≤ f
  fl1 : ∀ k, triesOf tr k + p ≤ f + 1
section
variable {s s' : Sy} {A B ky ov : List LKey} {tr : Tr} {kn : Bool} {c f p : Nat} {h : Option LKey}
theorem T8.of (T : T8 s A B ky tr ov kn c f p h) (hw : s'.w true = s.w true) (hb : s'.bk = s.bk) : T8 s' A B ky tr ov kn c f p h :=
  ⟨by rw [hw]; exact T.tgt, T.own, T.all, by rw [hb]; exact T.bk, T.ovn, T.ovs, T.trn, T.trs, T.trk, T.cnt, T.kl, T.ph, T.fl, T.fl1⟩
theorem T8.less {c' p' : Nat} (T : T8 s A B ky tr ov kn c f p h) (hc : c ≤ c') (hp : p' ≤ p) : T8 s A B ky tr ov kn c' f p' h :=
  ⟨T.tgt, T.own, T.all, T.bk, T.ovn, T.ovs, T.trn, T.trs, T.trk, T.cnt, Nat.le_trans T.kl (by omega), Nat.le_trans hp T.ph, fun k a b => by have := T.fl k a b; omega, fun k => by have := T.fl1 k; omega⟩
theorem T8.kept (T : T8 s A B ky tr ov kn c f p h) : s.kept 0 = (tr, ov) := by
  unfold Sy.kept bkGet
  rcases T.bk with ⟨e, rfl, rfl⟩ | e
  · rw [e]; rfl
  · rw [e]; rfl
end
end WB

set_option Elab.async false
set_option linter.all false
set_option maxRecDepth 100000
namespace WB
open PySem PySem.Spec PyProof.Rows L2
/-- the start's side: a box -/
structure S8 (s : Sy) (A ky wt : List LKey) (os : Out) (c : Nat) : Prop where
  src : BoxR 1 (s.w false) A wt os c
  lnd : (wt ++ okey os).Nodup
  lsub : ∀ k ∈ wt ++ okey os, k ∈ A
  gone : ∀ k ∈ due5 A, k ∈ wt ++ okey os ∨ k ∈ ky
  f5 : ∀ e ∈ os, e.f ≤ 5
section
variable {s s' : Sy} {A B ky ov wt : List LKey} {tr : Tr} {os : Out} {kn : Bool} {c f p : Nat}
theorem S8.of {ky' : List LKey} (S : S8 s A ky wt os c) (hw : s'.w false = s.w false) (hk : ∀ j ∈ ky, j ∈ ky') : S8 s' A ky' wt os c :=
  ⟨by rw [hw]; exact S.src, S.lnd, S.lsub, fun k h => (S.gone k h).imp id (hk k), S.f5⟩
theorem S8.mono {c' : Nat} (S : S8 s A ky wt os c) (h : c ≤ c') : S8 s A ky wt os c' := ⟨S.src.mono h, S.lnd, S.lsub, S.gone, S.f5⟩
theorem S8.len (S : S8 s A ky wt os c) : wt.length + os.length ≤ A.length := by
  have := nd_len10 S.lnd S.lsub
  rw [List.length_append] at this
  unfold okey at this
  rw [List.length_map] at this
  exact this
theorem S8.set (S : S8 s A ky wt os c) {W : Wd} {w' : List LKey} {os' : Out} {c' : Nat} (h : BoxR 1 W A w' os' c') (hw : s'.w false = W) (hn : (w' ++ okey os').Nodup) (hs : ∀ k ∈ w' ++ okey os', k ∈ wt ++ okey os) (hg : ∀ k ∈ wt ++ okey os, k ∈ w' ++ okey os' ∨ k ∈ ky ∨ k ∉ due5 A) (h5 : ∀ e ∈ os', e.f ≤ 5) : S8 s' A ky w' os' c' := by
  refine ⟨by rw [hw]; exact h, hn, fun k hk => S.lsub k (hs k hk), fun k hk => ?_, h5⟩
  rcases S.gone k hk with z | z
  · rcases hg k z with y | y | y
    · exact .inl y
    · exact .inr y
    · exact absurd hk y
  · exact .inr z
theorem S8.take (S : S8 s A ky wt os c) : (wt = [] ∧ wTake 1 (s.w false) = (s.w false, none)) ∨ ∃ k w' t e, wt = k :: w' ∧ (wTake 1 (s.w false)).2 = some (t, letOf k) ∧ e.t = t ∧ e.x = letOf k ∧ (∀ z ∈ os, z.t ≠ t) ∧ k ∈ A ∧ ∀ s' : Sy, s'.w false = (wTake 1 (s.w false)).1 → S8 s' A ky w' (os ++ [e]) (c + 1) := by
  obtain ⟨kn, le, S', e, h1, h2, hb⟩ := S.src
  cases hw : wt with
  | nil =>
    subst hw
    have e0 : S'.wait.getD 1 [] = [] := hb.wq
    refine .inl ⟨rfl, ?_⟩
    rw [e]
    show (Wd.boxes kn le (btake le S' 1), match S'.wait.getD 1 [] with | [] => none | x :: _ => some (S'.many, x)) = _
    unfold btake
    rw [e0]
  | cons k w' =>
    obtain ⟨ew, hb'⟩ := hb.take (by decide) hw h1
    refine .inr ⟨k, w', S'.many, ⟨S'.many, 1, letOf k, le⟩, rfl, ?_, rfl, rfl, (fun z hz y => by have := (hb.oe z hz).1; omega), S.lsub k (by rw [hw]; simp), fun s' hs' => ?_⟩
    · rw [e]
      show (match S'.wait.getD 1 [] with | [] => none | x :: _ => some (S'.many, x)) = _
      rw [ew]
    · subst hw
      have pm : (w' ++ okey (os ++ [⟨S'.many, 1, letOf k, le⟩])).Perm (k :: w' ++ okey os) := by
        unfold okey
        rw [List.map_append, ← List.append_assoc]
        exact List.perm_append_singleton _ _
      refine S.set (W := .boxes kn le (btake le S' 1)) ⟨kn, le, btake le S' 1, rfl, h1, h2, hb'⟩ (by rw [hs', e]; rfl) (pm.nodup_iff.mpr S.lnd) (fun k hk => pm.mem_iff.mp hk) (fun k hk => .inl (pm.mem_iff.mpr hk)) fun e he => ?_
      rcases List.mem_append.mp he with z | z
      · exact S.f5 e z
      · rw [List.mem_singleton.mp z]; exact h2
/-! ### k08: from a box to a box -/
def Inv08 (A B : List LKey) (kn : Bool) (f c : Nat) (s : Sy) : Prop := ∃ ky tr ov wt os p, S8 s A ky wt os c ∧ T8 s A B ky tr ov kn c f p none ∧ s.phi ≤ p
theorem Inv08.mono {c' : Nat} (h : Inv08 A B kn f c s) (hc : c ≤ c') : Inv08 A B kn f c' s := by
  obtain ⟨ky, tr, ov, wt, os, p, a, b, d⟩ := h
  exact ⟨ky, tr, ov, wt, os, p, a.mono hc, b.less hc (Nat.le_refl _), d⟩
theorem S8.f0 (S : S8 s A ky wt os c) (h : ∀ e ∈ os, e.f ≤ 0) : os = [] := by
  obtain ⟨kn, le, S', e, h1, h2, hb⟩ := S.src
  refine List.eq_nil_iff_forall_not_mem.mpr fun e he => ?_
  have := h e he
  have := (hb.oe e he).2.2.1
  omega
end
end WB

set_option Elab.async false
set_option linter.all false
set_option maxRecDepth 100000
namespace WB
open PySem PySem.Spec PyProof.Rows L2
section
variable {s s' : Sy} {A B ky ov wt : List LKey} {tr : Tr} {os : Out} {kn : Bool} {c f p : Nat}
/-! ### all is well again -/
/-! ### letters are written -/
/-! ### a trouble -/
theorem tbox_new (le : Nat) (h : 1 ≤ le) : TBox (.boxes kn le b00) kn [] := ⟨le, b00, rfl, h, b00_box 2, (fun k hk => nomatch hk), fun _ => List.nodup_nil⟩
theorem T8.start (h : TBox (s.w true) kn []) (hb : s.bk = []) : T8 s [] [] [] [] [] kn 0 0 0 none :=
  ⟨h, (fun k hk => nomatch hk), (fun k hk => nomatch hk), .inl ⟨hb, rfl, rfl⟩, List.nodup_nil, (fun k hk => nomatch hk), List.nodup_nil, (fun k hk => nomatch hk), fun _ => rfl, (fun _ k hk => nomatch hk), Nat.le_refl _, Nat.le_refl _, fun k _ _ => Nat.le_refl _, fun k => Nat.zero_le _⟩
end
/-- what k08 keeps -/
structure I08 (x : Ls) (c d : Nat) (kn : Bool) (A B : List LKey) : Prop where
  k : Inv08 A B kn x.f d x.s
  sa : A = sentL x.m 0 1
  sb : B = sentL x.m 1 2
  num : ∀ k ∈ A ++ B, k.2.2 ≤ (x.n : Int)
  nn : x.n ≤ c
  t : A.length + B.length ≤ c
  dj : ∀ k ∈ A, k ∉ B
section
variable {x x' : Ls} {c d : Nat} {kn : Bool} {A B : List LKey}
theorem I08.keep {d' : Nat} (I : I08 x c d kn A B) (K : Inv08 A B kn x'.f d' x'.s) (hn : x'.n = x.n) (hm : x'.m = x.m) : I08 x' c d' kn A B :=
  ⟨K, by rw [hm]; exact I.sa, by rw [hm]; exact I.sb, by rw [hn]; exact I.num, by rw [hn]; exact I.nn, I.t, I.dj⟩
theorem I08.mono {c' d' : Nat} (I : I08 x c d kn A B) (h : c ≤ c') (h' : d ≤ d') : I08 x c' d' kn A B :=
  ⟨I.k.mono h', I.sa, I.sb, I.num, Nat.le_trans I.nn h, Nat.le_trans I.t h, I.dj⟩
theorem I08.new (I : I08 x c d kn A B) (own v : Int) : (own, v, ((x.n + 1 : Nat) : Int)) ∉ A ++ B := fun z => by
  have := I.num _ z; dsimp only at this; omega
end
end WB

set_option Elab.async false
set_option linter.all false
set_option maxRecDepth 100000
namespace WB
open PySem PySem.Spec PyProof.Rows L2
section
variable {c : Cl5} {C CC : Addr} {nm : Bool → Int} {ws : List Wy} {N : Nat} {H H' : Hp} {x : Ls}
end
section
variable {s : Sy} {A B ky ov tk ks : List LKey} {tr : Tr} {kn : Bool} {c f p : Nat}
end
end WB

set_option Elab.async false
set_option linter.all false
set_option maxRecDepth 100000
namespace WB
open PySem PySem.Spec PyProof.Rows L2
/-! ### k06: from a row to a box -/
def fst1 (l : List LKey) : List LKey := l.foldl addK []
theorem fst1_app (l : List LKey) (k : LKey) : fst1 (l ++ [k]) = addK (fst1 l) k := by unfold fst1; rw [List.foldl_append]; rfl
theorem fold_mem : ∀ (l acc : List LKey) (j : LKey), j ∈ l.foldl addK acc ↔ j ∈ acc ∨ j ∈ l
  | [], acc, j => by simp
  | k :: l, acc, j => by
    rw [List.foldl_cons, fold_mem l, mem_addK, List.mem_cons]
    constructor
    · rintro ((h | h) | h)
      · exact .inl h
      · exact .inr (.inl h)
      · exact .inr (.inr h)
    · rintro (h | h | h)
      · exact .inl (.inl h)
      · exact .inl (.inr h)
      · exact .inr h
theorem mem_fst1 {l : List LKey} {j : LKey} : j ∈ fst1 l ↔ j ∈ l := by unfold fst1; rw [fold_mem]; simp
theorem fst1_put (kn : Bool) (ky : List LKey) (k : LKey) : fst1 (putQ kn ky k) = addK (fst1 ky) k := by
  unfold putQ
  split
  · unfold addK
    split
    · rename_i h; rw [if_pos (mem_fst1.mpr h)]
    · rename_i h; rw [if_neg (fun z => h (mem_fst1.mp z)), fst1_app, addK_no (fun z => h (mem_fst1.mp z))]
  · exact fst1_app ky k
structure K06 (s : Sy) (A B ky : List LKey) (tr : Tr) (kn : Bool) (c f p m o : Nat) : Prop where
  src : RowR 1 A (s.w false)
  td : T8 s A B ky tr ((due5 A).take o) kn c f p none
  nda : A.Nodup
  ord : (fst1 ky).filter (fun k => decide (k ∈ due5 A)) = (due5 A).take m
  om : o ≤ m ∧ m ≤ o + 1 ∧ m ≤ (due5 A).length
section
variable {s s' : Sy} {A B ky : List LKey} {tr : Tr} {kn : Bool} {c f p m o : Nat}
theorem K06.nd5 (K : K06 s A B ky tr kn c f p m o) : (due5 A).Nodup := K.nda.sublist List.filter_sublist
theorem K06.first (K : K06 s A B ky tr kn c f p m o) : (A.map letOf).find? (fun x : Letter => isDue 5 (s.kept 0).2 x.1) = ((due5 A)[o]?).map letOf := by
  rw [K.td.kept, ← find_take o K.nd5, List.find?_map]
  congr 1
  show List.find? (fun k => isDue 5 ((due5 A).take o) k) A = _
  generalize (due5 A).take o = t
  unfold due5
  rw [List.find?_filter]
  congr 1
  funext k
  unfold isDue
  by_cases h1 : k.1 = 5 <;> by_cases h2 : k ∈ t <;> simp [h1, h2]
theorem K06.put (K : K06 s A B ky tr kn c f p m o) {k : LKey} (hk : (due5 A)[o]? = some k) : (fst1 (putQ kn ky k)).filter (fun k => decide (k ∈ due5 A)) = (due5 A).take (o + 1) := by
  have hd : k ∈ due5 A := List.mem_of_getElem? hk
  rw [fst1_put, due5_at hk]
  have om := K.om
  have or := K.ord
  rcases (show m = o ∨ m = o + 1 by omega) with rfl | rfl
  · have nk : k ∉ fst1 ky := fun z => by
      have : k ∈ (due5 A).take m := by rw [← or]; exact List.mem_filter.mpr ⟨z, decide_eq_true hd⟩
      exact nd_take K.nd5 hk this
    rw [addK_no nk, List.filter_append, or]
    simp [hd]
  · have yk : k ∈ fst1 ky := by
      have : k ∈ (fst1 ky).filter (fun k => decide (k ∈ due5 A)) := by rw [or, due5_at hk]; simp
      exact (List.mem_filter.mp this).1
    rw [addK_yes yk, or, due5_at hk]
def Inv06 (A B : List LKey) (kn : Bool) (f c : Nat) (s : Sy) : Prop := ∃ ky tr p m o, K06 s A B ky tr kn c f p m o ∧ s.phi ≤ p
theorem Inv06.mono {c' : Nat} (h : Inv06 A B kn f c s) (hc : c ≤ c') : Inv06 A B kn f c' s := by
  obtain ⟨ky, tr, p, m, o, K, d⟩ := h
  exact ⟨ky, tr, p, m, o, ⟨K.src, K.td.less hc (Nat.le_refl _), K.nda, K.ord, K.om⟩, d⟩
theorem K06.of (K : K06 s A B ky tr kn c f p m o) (hw : s'.w = s.w) (hb : s'.bk = s.bk) : K06 s' A B ky tr kn c f p m o :=
  ⟨by rw [hw]; exact K.src, K.td.of (by rw [hw]) hb, K.nda, K.ord, K.om⟩
theorem K06.ok (K : K06 s A B ky tr kn c f p m o) : s.Ok (A.length + B.length + c) := by
  have T := K.td
  have l2 := T.kl
  have l3 : ((due5 A).take o).length ≤ A.length := nd_len10 T.ovn fun k hk => (due5_sub (T.ovs k hk).2).1
  have l4 : tr.length ≤ A.length := by
    have := nd_len10 T.trn fun k hk => by
      obtain ⟨z, hz, rfl⟩ := List.mem_map.mp hk
      exact (due5_sub (T.trs z hz)).1
    rw [List.length_map] at this
    exact this
  refine ⟨fun i => ?_, fun x hx => ?_⟩
  · cases i
    · exact K.src.ok.mono (by omega)
    · exact T.tgt.ok (by omega)
  · rcases T.bk with ⟨e, _⟩ | e
    · rw [e] at hx; cases hx
    · rw [e] at hx
      rw [List.mem_singleton.mp hx]
      exact ⟨⟨by show tr.length ≤ _; omega, by show ((due5 A).take o).length ≤ _; omega⟩, T.trn, T.ovn⟩
/-! ### all is well again -/
/-! ### letters are written -/
end
/-- what k06 keeps -/
structure I06 (x : Ls) (c d : Nat) (kn : Bool) (A B : List LKey) : Prop where
  k : Inv06 A B kn x.f d x.s
  sa : A = sentL x.m 0 1
  sb : B = sentL x.m 1 2
  num : ∀ k ∈ A ++ B, k.2.2 ≤ (x.n : Int)
  nn : x.n ≤ c
  t : A.length + B.length ≤ c
  dj : ∀ k ∈ A, k ∉ B
section
variable {x x' : Ls} {c d : Nat} {kn : Bool} {A B : List LKey}
theorem I06.keep {d' : Nat} (I : I06 x c d kn A B) (K : Inv06 A B kn x'.f d' x'.s) (hn : x'.n = x.n) (hm : x'.m = x.m) : I06 x' c d' kn A B :=
  ⟨K, by rw [hm]; exact I.sa, by rw [hm]; exact I.sb, by rw [hn]; exact I.num, by rw [hn]; exact I.nn, I.t, I.dj⟩
theorem I06.mono {c' d' : Nat} (I : I06 x c d kn A B) (h : c ≤ c') (h' : d ≤ d') : I06 x c' d' kn A B :=
  ⟨I.k.mono h', I.sa, I.sb, I.num, Nat.le_trans I.nn h, Nat.le_trans I.t h, I.dj⟩
theorem I06.new (I : I06 x c d kn A B) (own v : Int) : (own, v, ((x.n + 1 : Nat) : Int)) ∉ A ++ B := fun z => by
  have := I.num _ z; dsimp only at this; omega
end
end WB

set_option Elab.async false
set_option linter.all false
set_option maxRecDepth 100000
namespace WB
open PySem PySem.Spec PyProof.Rows L2
/-! ### any goal, any rows -/
def TBx (to : Nat) (W : Wd) (kn : Bool) (ky : List LKey) : Prop := ∃ le S, W = .boxes kn le S ∧ 1 ≤ le ∧ BoxS to S ky ky [] 0 ∧ (∀ k ∈ ky, k ∈ S.met.getD to []) ∧ (kn = true → ky.Nodup)
section
variable {to : Nat} {W : Wd} {kn : Bool} {ky : List LKey}
theorem TBx.lets (h : TBx to W kn ky) : W.letsAt to = ky.map letOf ∧ W.outs = 0 ∧ W.kn = kn := by
  obtain ⟨le, S, rfl, _, hb, _⟩ := h
  refine ⟨?_, ?_, rfl⟩
  · show bleft S to = _
    rw [hb.left]
    show ((ky ++ []).map letOf) = _
    rw [List.append_nil]
  · show S.out.length = 0; rw [hb.oq]; rfl
theorem TBx.len (h : TBx to W kn ky) (r : Nat) : (W.letsAt r).length ≤ ky.length := by
  by_cases e : r = to
  · subst e; rw [h.lets.1, List.length_map]; exact Nat.le_refl _
  · obtain ⟨le, S, rfl, _, hb, _⟩ := h
    show (bleft S r).length ≤ _
    rw [hb.left0 e]; exact Nat.zero_le _
theorem TBx.ok (h : TBx to W kn ky) (ht : to < 6) {N : Nat} (hN : ky.length ≤ N) : W.Ok N := by
  obtain ⟨le, S, rfl, h1, hb, hm, hn⟩ := h
  exact ⟨hb.ok ht (by simpa using hN) hN (Nat.zero_le _), h1⟩
theorem set_getDx {α : Type} {l : List (List α)} {r : Nat} (h : r < l.length) : l.set r (l.getD r []) = l := by
  rw [List.getD_eq_getElem?_getD, List.getElem?_eq_getElem h]
  exact List.set_getElem_self h
theorem TBx.put (h : TBx to W kn ky) (ht : to < 6) (k : LKey) : TBx to (wPut to k (bodyOf k) W).1 kn (putQ kn ky k) := by
  obtain ⟨le, S, rfl, h1, hb, hm, hn⟩ := h
  show TBx to (.boxes kn le (bput kn S to k (bodyOf k))) kn (putQ kn ky k)
  by_cases hk : k ∈ S.met.getD to []
  · have kky : k ∈ ky := hb.met k hk
    have em : S.met.set to (addK (S.met.getD to []) k) = S.met := by rw [addK_yes hk]; exact set_getDx (by rw [hb.lm]; exact ht)
    cases kn with
    | true =>
      have eS : bput true S to k (bodyOf k) = S := by
        unfold bput
        rw [em, decide_eq_true hk]; rfl
      have ek : putQ true ky k = ky := by unfold putQ; rw [if_pos rfl, addK_yes kky]
      rw [eS, ek]; exact ⟨le, S, rfl, h1, hb, hm, hn⟩
    | false =>
      have eS : bput false S to k (bodyOf k) = { S with wait := app S.wait to (k, bodyOf k) } := by
        unfold bput
        rw [em]; rfl
      have ek : putQ false ky k = ky ++ [k] := rfl
      rw [eS, ek]
      refine ⟨le, _, rfl, h1, ⟨by show (app S.wait to _).length = 6; rw [app_len]; exact hb.lw, hb.lm, ?_, fun j hj => ?_, hb.oq, hb.dist, hb.oe, fun j hj => List.mem_append_left _ (hb.met j hj), hb.mnd, hb.m0, hb.om, hb.mc⟩, fun j hj => ?_, fun z => nomatch z⟩
      · show (app S.wait to _).getD to [] = _
        unfold app
        rw [getD_set (by rw [hb.lw]; exact ht), hb.wq, List.map_append]; rfl
      · show (app S.wait to _).getD j [] = []
        unfold app
        rw [List.getD_eq_getElem?_getD, List.getElem?_set_ne (Ne.symm hj), ← List.getD_eq_getElem?_getD]; exact hb.w0 j hj
      · exact (List.mem_append.mp hj).elim (hm j) fun z => by rw [List.mem_singleton.mp z]; exact hk
  · have kky : k ∉ ky := fun z => hk (hm k z)
    have ek : putQ kn ky k = ky ++ [k] := by unfold putQ; split; exact addK_no kky; rfl
    rw [ek]
    refine ⟨le, _, rfl, h1, hb.put ht hk kn fun j hj => hj.elim (fun z => List.mem_append_left _ z) fun z => z ▸ List.mem_append_right _ (by simp), fun j hj => ?_, fun z => ?_⟩
    · rw [bput_new hk]
      show j ∈ (S.met.set to _).getD to []
      rw [getD_set (by rw [hb.lm]; exact ht)]
      exact (List.mem_append.mp hj).elim (fun z => List.mem_append_left _ (hm j z)) fun z => List.mem_append_right _ z
    · rw [← addK_no kky]; exact addK_nd (hn z) _
theorem TBx.turn (h : TBx to W kn ky) : wTurn W = W := by
  obtain ⟨le, S, rfl, h1, hb, hm, hn⟩ := h
  show Wd.boxes kn le (bturn S) = _
  have : bturn S = S := by
    unfold bturn
    have e := hb.oq
    rw [e]
    show ({ S with wait := S.wait, out := [] } : BSt) = S
    rw [← e]
  rw [this]

/-- a goal of any sort; q: nothing comes twice there -/
def TgW (to : Nat) (W : Wd) (q : Bool) (ky : List LKey) : Prop := TBx to W q ky ∨ (q = true ∧ RowR to ky W ∧ ky.Nodup)
theorem TgW.len (h : TgW to W kn ky) (r : Nat) : (W.letsAt r).length ≤ ky.length := by
  rcases h with h | ⟨_, h, _⟩
  · exact h.len r
  · exact h.len r
theorem TgW.ok (h : TgW to W kn ky) (ht : to < 6) {N : Nat} (hN : ky.length ≤ N) : W.Ok N := by
  rcases h with h | ⟨_, h, _⟩
  · exact h.ok ht hN
  · exact h.ok.mono hN
theorem TgW.turn (h : TgW to W kn ky) : wTurn W = W := by
  rcases h with h | ⟨_, h, _⟩
  · exact h.turn
  · obtain ⟨kn, L, rfl, _⟩ := h; rfl
theorem TgW.nd (h : TgW to W kn ky) (hq : kn = true) : ky.Nodup := by
  rcases h with ⟨_, _, _, _, _, _, h⟩ | ⟨_, _, h⟩
  · exact h hq
  · exact h
end
end WB

set_option Elab.async false
set_option linter.all false
set_option maxRecDepth 100000
namespace WB
open PySem PySem.Spec PyProof.Rows L2
/-- the goal's side: c: how often something was put there at most; p: how much may still fail; h: the letter in hand -/
structure T9 (to : Nat) (s : Sy) (A B ky : List LKey) (tr : Tr) (ov : List LKey) (kn : Bool) (c f p : Nat) (h : Option LKey) : Prop where
  lt : to < 6
  tgt : TgW to (s.w true) kn ky
  own : ∀ k ∈ B, k ∈ ky
  all : ∀ k ∈ ky, k ∈ due5 A ∨ k ∈ B
  bk : (s.bk = [] ∧ tr = [] ∧ ov = []) ∨ s.bk = [(0, (tr, ov))]
  ovn : ov.Nodup
  ovs : ∀ k ∈ ov, k ∈ ky ∧ k ∈ due5 A
  trn : (tr.map (·.1)).Nodup
  trs : ∀ z ∈ tr, z.1 ∈ due5 A
  trk : kn = true → tr = []
  cnt : kn = false → ∀ k ∈ due5 A, cntK ky k ≤ triesOf tr k
  kl : ky.length ≤ B.length + c
  ph : p ≤ f
  fl : ∀ k, k ∉ ov → some k ≠ h → triesOf tr k + p ≤ f
  fl1 : ∀ k, triesOf tr k + p ≤ f + 1
section
variable {fr to : Nat} {s s' : Sy} {A B ky ov : List LKey} {tr : Tr} {kn : Bool} {c f p : Nat} {h : Option LKey}
theorem T9.of (T : T9 to s A B ky tr ov kn c f p h) (hw : s'.w true = s.w true) (hb : s'.bk = s.bk) : T9 to s' A B ky tr ov kn c f p h :=
  ⟨T.lt, by rw [hw]; exact T.tgt, T.own, T.all, by rw [hb]; exact T.bk, T.ovn, T.ovs, T.trn, T.trs, T.trk, T.cnt, T.kl, T.ph, T.fl, T.fl1⟩
theorem T9.less {c' p' : Nat} (T : T9 to s A B ky tr ov kn c f p h) (hc : c ≤ c') (hp : p' ≤ p) : T9 to s A B ky tr ov kn c' f p' h :=
  ⟨T.lt, T.tgt, T.own, T.all, T.bk, T.ovn, T.ovs, T.trn, T.trs, T.trk, T.cnt, Nat.le_trans T.kl (by omega), Nat.le_trans hp T.ph, fun k a b => by have := T.fl k a b; omega, fun k => by have := T.fl1 k; omega⟩
end
end WB

set_option Elab.async false
set_option linter.all false
set_option maxRecDepth 100000
namespace WB
open PySem PySem.Spec PyProof.Rows L2
/-- the start's side: a box -/
structure S9 (fr : Nat) (s : Sy) (A ky wt : List LKey) (os : Out) (c : Nat) : Prop where
  lf : fr < 6
  src : BoxR fr (s.w false) A wt os c
  lnd : (wt ++ okey os).Nodup
  lsub : ∀ k ∈ wt ++ okey os, k ∈ A
  gone : ∀ k ∈ due5 A, k ∈ wt ++ okey os ∨ k ∈ ky
  f5 : ∀ e ∈ os, e.f ≤ 5
section
variable {fr to : Nat} {s s' : Sy} {A B ky ov wt : List LKey} {tr : Tr} {os : Out} {kn : Bool} {c f p : Nat}
theorem S9.of {ky' : List LKey} (S : S9 fr s A ky wt os c) (hw : s'.w false = s.w false) (hk : ∀ j ∈ ky, j ∈ ky') : S9 fr s' A ky' wt os c :=
  ⟨S.lf, by rw [hw]; exact S.src, S.lnd, S.lsub, fun k h => (S.gone k h).imp id (hk k), S.f5⟩
theorem S9.mono {c' : Nat} (S : S9 fr s A ky wt os c) (h : c ≤ c') : S9 fr s A ky wt os c' := ⟨S.lf, S.src.mono h, S.lnd, S.lsub, S.gone, S.f5⟩
theorem S9.len (S : S9 fr s A ky wt os c) : wt.length + os.length ≤ A.length := by
  have := nd_len10 S.lnd S.lsub
  rw [List.length_append] at this
  unfold okey at this
  rw [List.length_map] at this
  exact this
theorem S9.set (S : S9 fr s A ky wt os c) {W : Wd} {w' : List LKey} {os' : Out} {c' : Nat} (h : BoxR fr W A w' os' c') (hw : s'.w false = W) (hn : (w' ++ okey os').Nodup) (hs : ∀ k ∈ w' ++ okey os', k ∈ wt ++ okey os) (hg : ∀ k ∈ wt ++ okey os, k ∈ w' ++ okey os' ∨ k ∈ ky ∨ k ∉ due5 A) (h5 : ∀ e ∈ os', e.f ≤ 5) : S9 fr s' A ky w' os' c' := by
  refine ⟨S.lf, by rw [hw]; exact h, hn, fun k hk => S.lsub k (hs k hk), fun k hk => ?_, h5⟩
  rcases S.gone k hk with z | z
  · rcases hg k z with y | y | y
    · exact .inl y
    · exact .inr y
    · exact absurd hk y
  · exact .inr z
theorem S9.take (S : S9 fr s A ky wt os c) : (wt = [] ∧ wTake fr (s.w false) = (s.w false, none)) ∨ ∃ k w' t e, wt = k :: w' ∧ (wTake fr (s.w false)).2 = some (t, letOf k) ∧ e.t = t ∧ e.x = letOf k ∧ (∀ z ∈ os, z.t ≠ t) ∧ k ∈ A ∧ ∀ s' : Sy, s'.w false = (wTake fr (s.w false)).1 → S9 fr s' A ky w' (os ++ [e]) (c + 1) := by
  obtain ⟨kn, le, S', e, h1, h2, hb⟩ := S.src
  cases hw : wt with
  | nil =>
    subst hw
    have e0 : S'.wait.getD fr [] = [] := hb.wq
    refine .inl ⟨rfl, ?_⟩
    rw [e]
    show (Wd.boxes kn le (btake le S' fr), match S'.wait.getD fr [] with | [] => none | x :: _ => some (S'.many, x)) = _
    unfold btake
    rw [e0]
  | cons k w' =>
    obtain ⟨ew, hb'⟩ := hb.take S.lf hw h1
    refine .inr ⟨k, w', S'.many, ⟨S'.many, fr, letOf k, le⟩, rfl, ?_, rfl, rfl, (fun z hz y => by have := (hb.oe z hz).1; omega), S.lsub k (by rw [hw]; simp), fun s' hs' => ?_⟩
    · rw [e]
      show (match S'.wait.getD fr [] with | [] => none | x :: _ => some (S'.many, x)) = _
      rw [ew]
    · subst hw
      have pm : (w' ++ okey (os ++ [⟨S'.many, fr, letOf k, le⟩])).Perm (k :: w' ++ okey os) := by
        unfold okey
        rw [List.map_append, ← List.append_assoc]
        exact List.perm_append_singleton _ _
      refine S.set (W := .boxes kn le (btake le S' fr)) ⟨kn, le, btake le S' fr, rfl, h1, h2, hb'⟩ (by rw [hs', e]; rfl) (pm.nodup_iff.mpr S.lnd) (fun k hk => pm.mem_iff.mp hk) (fun k hk => .inl (pm.mem_iff.mpr hk)) fun e he => ?_
      rcases List.mem_append.mp he with z | z
      · exact S.f5 e z
      · rw [List.mem_singleton.mp z]; exact h2
/-! ### k08: from a box to a box -/
def Inv9b (fr to : Nat) (A B : List LKey) (kn : Bool) (f c : Nat) (s : Sy) : Prop := ∃ ky tr ov wt os p, S9 fr s A ky wt os c ∧ T9 to s A B ky tr ov kn c f p none ∧ s.phi ≤ p
theorem Inv9b.mono {c' : Nat} (h : Inv9b fr to A B kn f c s) (hc : c ≤ c') : Inv9b fr to A B kn f c' s := by
  obtain ⟨ky, tr, ov, wt, os, p, a, b, d⟩ := h
  exact ⟨ky, tr, ov, wt, os, p, a.mono hc, b.less hc (Nat.le_refl _), d⟩
theorem S9.turn (S : S9 fr s A ky wt os c) {m : Nat} (hm : ∀ e ∈ os, e.f ≤ m + 1) (hw : s'.w false = wTurn (s.w false)) : ∃ wt' os', S9 fr s' A ky wt' os' c ∧ ∀ e ∈ os', e.f ≤ m := by
  obtain ⟨kn, le, S', e, h1, h2, hb⟩ := S.src
  have pm : (wt ++ okey os).Perm (wt ++ okey (due os) ++ okey (old os)) := by rw [List.append_assoc]; exact List.Perm.append_left _ (okey_turn os)
  refine ⟨wt ++ okey (due os), old os, ?_, old_f hm⟩
  exact S.set (W := wTurn (s.w false)) ⟨kn, le, bturn S', by rw [e]; rfl, h1, h2, hb.turn S.lf⟩ hw (pm.nodup_iff.mp S.lnd) (fun k hk => pm.mem_iff.mpr hk) (fun k hk => .inl (pm.mem_iff.mp hk)) (fun x hx => by
    obtain ⟨o, ho, _, _, _, _, e5⟩ := mem_old hx
    have := S.f5 o ho
    omega)
theorem turns9b : ∀ (n : Nat) {s : Sy} {wt : List LKey} {os : Out} (S : S9 fr s A ky wt os c) (T : T9 to s A B ky tr ov kn c f p none) {m : Nat} (hm : ∀ e ∈ os, e.f ≤ m + n), ∃ wt' os', S9 fr (s.tn fun _ => n) A ky wt' os' c ∧ T9 to (s.tn fun _ => n) A B ky tr ov kn c f p none ∧ (s.tn fun _ => n).phi = s.phi ∧ ∀ e ∈ os', e.f ≤ m
  | 0, s, wt, os, S, T, m, hm => ⟨wt, os, S, T, rfl, hm⟩
  | n + 1, s, wt, os, S, T, m, hm => by
    obtain ⟨wt', os', S', h'⟩ := S.turn (m := m + n) hm (s' := { s with w := fun i => wTurn (s.w i) }) rfl
    rw [tn_succ]
    obtain ⟨a, b, d, e, g, i⟩ := turns9b n S' (T.of (s' := { s with w := fun i => wTurn (s.w i) }) T.tgt.turn rfl) h'
    exact ⟨a, b, d, e, g, i⟩
theorem S9.f0 (S : S9 fr s A ky wt os c) (h : ∀ e ∈ os, e.f ≤ 0) : os = [] := by
  obtain ⟨kn, le, S', e, h1, h2, hb⟩ := S.src
  refine List.eq_nil_iff_forall_not_mem.mpr fun e he => ?_
  have := h e he
  have := (hb.oe e he).2.2.1
  omega
end
end WB

set_option Elab.async false
set_option linter.all false
set_option maxRecDepth 100000
namespace WB
open PySem PySem.Spec PyProof.Rows L2
/-! ### any start -/
def Src9 (fr : Nat) (bs : Bool) (s : Sy) (A ky wt : List LKey) (os : Out) (c : Nat) : Prop := (bs = true ∧ S9 fr s A ky wt os c) ∨ (bs = false ∧ fr < 6 ∧ RowR fr A (s.w false) ∧ wt = [] ∧ os = [])
structure K9 (fr to : Nat) (bs : Bool) (s : Sy) (A B ky : List LKey) (tr : Tr) (ov wt : List LKey) (os : Out) (kn : Bool) (c f p : Nat) : Prop where
  sd : Src9 fr bs s A ky wt os c
  td : T9 to s A B ky tr ov kn c f p none
  nda : A.Nodup
def Inv9 (fr to : Nat) (bs : Bool) (A B : List LKey) (kn : Bool) (f c : Nat) (s : Sy) : Prop := ∃ ky tr ov wt os p, K9 fr to bs s A B ky tr ov wt os kn c f p ∧ s.phi ≤ p
section
variable {fr to : Nat} {bs : Bool} {s s' : Sy} {A B ky ov wt : List LKey} {tr : Tr} {os : Out} {kn : Bool} {c f p : Nat}
theorem Src9.mono {c' : Nat} (S : Src9 fr bs s A ky wt os c) (h : c ≤ c') : Src9 fr bs s A ky wt os c' := S.imp (fun ⟨a, b⟩ => ⟨a, b.mono h⟩) id
theorem Src9.of {ky' : List LKey} (S : Src9 fr bs s A ky wt os c) (hw : s'.w false = s.w false) (hk : ∀ j ∈ ky, j ∈ ky') : Src9 fr bs s' A ky' wt os c :=
  S.imp (fun ⟨a, b⟩ => ⟨a, b.of hw hk⟩) fun ⟨a, b, d, e⟩ => ⟨a, b, by rw [hw]; exact d, e⟩
theorem K9.mono {c' : Nat} (K : K9 fr to bs s A B ky tr ov wt os kn c f p) (h : c ≤ c') : K9 fr to bs s A B ky tr ov wt os kn c' f p := ⟨K.sd.mono h, K.td.less h (Nat.le_refl _), K.nda⟩
theorem K9.of (K : K9 fr to bs s A B ky tr ov wt os kn c f p) (hw : s'.w = s.w) (hb : s'.bk = s.bk) : K9 fr to bs s' A B ky tr ov wt os kn c f p := ⟨K.sd.of (by rw [hw]) fun j hj => hj, K.td.of (by rw [hw]) hb, K.nda⟩
theorem Inv9.mono {c' : Nat} (h : Inv9 fr to bs A B kn f c s) (hc : c ≤ c') : Inv9 fr to bs A B kn f c' s := by
  obtain ⟨ky, tr, ov, wt, os, p, K, d⟩ := h
  exact ⟨ky, tr, ov, wt, os, p, K.mono hc, d⟩
theorem K9.ok (K : K9 fr to bs s A B ky tr ov wt os kn c f p) : s.Ok (A.length + B.length + c) := by
  have T := K.td
  have l2 := T.kl
  have l3 : ov.length ≤ A.length := nd_len10 T.ovn fun k hk => (due5_sub (T.ovs k hk).2).1
  have l4 : tr.length ≤ A.length := by
    have := nd_len10 T.trn fun k hk => by
      obtain ⟨z, hz, rfl⟩ := List.mem_map.mp hk
      exact (due5_sub (T.trs z hz)).1
    rw [List.length_map] at this
    exact this
  refine ⟨fun i => ?_, fun x hx => ?_⟩
  · cases i
    · rcases K.sd with ⟨_, S⟩ | ⟨_, _, hS, _, _⟩
      · have l1 := S.len
        obtain ⟨kn, le, S', e, h1, h2, h⟩ := S.src
        rw [e]
        exact ⟨h.ok S.lf (by omega) (by omega) (by omega), h1⟩
      · exact hS.ok.mono (by omega)
    · exact T.tgt.ok T.lt (by omega)
  · rcases T.bk with ⟨e, _⟩ | e
    · rw [e] at hx; cases hx
    · rw [e] at hx
      rw [List.mem_singleton.mp hx]
      exact ⟨⟨by show tr.length ≤ _; omega, by show ov.length ≤ _; omega⟩, T.trn, T.ovn⟩
theorem K9.turns (K : K9 fr to bs s A B ky tr ov wt os kn c f p) (n : Nat) {m : Nat} (hm : ∀ e ∈ os, e.f ≤ m + n) : ∃ wt' os', K9 fr to bs (s.tn fun _ => n) A B ky tr ov wt' os' kn c f p ∧ (s.tn fun _ => n).phi = s.phi ∧ ∀ e ∈ os', e.f ≤ m := by
  rcases K.sd with ⟨hb, S⟩ | ⟨hb, hf, hS, rfl, rfl⟩
  · obtain ⟨wt', os', S', T', e, h'⟩ := turns9b n S K.td hm
    exact ⟨wt', os', ⟨.inl ⟨hb, S'⟩, T', K.nda⟩, e, h'⟩
  · have e : ∀ n, (s.tn fun _ => n) = s := fun n => by
      induction n with
      | zero => rfl
      | succ n ih =>
        rw [tn_succ]
        have : ({ s with w := fun i => wTurn (s.w i) } : Sy) = s := by
          have e : (fun i => wTurn (s.w i)) = s.w := by
            funext i
            cases i
            · obtain ⟨kn, L, e, _⟩ := hS; rw [e]; rfl
            · exact K.td.tgt.turn
          rw [e]
        rw [this]; exact ih
    rw [e n]
    exact ⟨[], [], K, rfl, fun e he => nomatch he⟩
theorem K9.f5 (K : K9 fr to bs s A B ky tr ov wt os kn c f p) : ∀ e ∈ os, e.f ≤ 5 := by
  rcases K.sd with ⟨hb, S⟩ | ⟨hb, hf, hS, rfl, rfl⟩
  · exact S.f5
  · exact fun e he => nomatch he
/-! ### all is well again -/
end
end WB

set_option Elab.async false
set_option linter.all false
set_option maxRecDepth 100000
namespace WB
open PySem PySem.Spec PyProof.Rows L2
section
variable {fr to : Nat} {bs : Bool} {s s' : Sy} {A B ky ov wt : List LKey} {tr : Tr} {os : Out} {kn : Bool} {c f p : Nat}
/-! ### letters are written -/
/-! ### a trouble -/
/-! ### at the start -/
end
end WB

set_option Elab.async false
set_option linter.all false
set_option maxRecDepth 100000
namespace WB
open PySem PySem.Spec PyProof.Rows L2
/-! ### two sites beside each other -/
def Ls.foot (x : Ls) : List Addr := (x.ad.own ++ x.ad.ds) ++ x.e.all
def Apart (x y : Ls) : Prop := ∀ z ∈ y.foot, z ∉ x.foot
theorem Apart.symm {x y : Ls} (h : Apart x y) : Apart y x := fun z hz w => h z w hz
section
variable {c : Cl5} {C CC : Addr} {nm : Bool → Int} {ws : List Wy} {N : Nat} {H H' : Hp} {x x' y y' : Ls} {d : Addr}
theorem Off.on {ad : Ad} {z : Addr} {l : List Addr} (h : Off H ad z) (k : KeepOn l H H') (hz : z ∈ l) : Off H' ad z := by
  refine ⟨fun w => ?_, h.2⟩
  cases e : H z with
  | none => exact h.1 e
  | some o => rw [k z hz o e] at w; cases w
theorem BrAt.on {ad : Ad} {p : Addr} {bl : List Addr} {fl : Bool} (h : BrAt C CC H ad p bl ws fl) (k : KeepOn (p :: bl) H H') : BrAt C CC H' ad p bl ws fl := by
  obtain ⟨dx, cl, xs, e0, h1, h2, h3, h4, h6, h5⟩ := h.ob
  have n1 : p ∈ p :: bl := by simp
  have n2 : cl ∈ p :: bl := by simp [e0]
  refine ⟨⟨dx, cl, xs, e0, k _ n1 _ h1, k _ n2 _ h2, h3, h4.on k n2, h6, fun i y w e1 e2 => ?_⟩, h.off.on k n1⟩
  have C := h5 i y w e1 e2
  have n3 : y ∈ p :: bl := by simp [e0, List.mem_of_getElem? e1]
  obtain ⟨d, g⟩ := C.ob
  exact ⟨⟨d, k _ n3 _ g⟩, C.off.on k n3, C.fr, C.to, C.sl⟩
theorem LsAt.keep (L : LsAt c C CC nm ws N H x) (t : Tups H H') (k : KeepOn x.foot H H') : LsAt c C CC nm ws N H' x := by
  have ka : KeepOn x.e.all H H' := k.sub fun z hz => List.mem_append_right _ hz
  have kp : KeepOn x.e.out H H' := ka.sub fun z hz => LsA.sub hz
  refine ⟨⟨L.b.site.on t (k.sub fun z hz => List.mem_append_left _ hz), L.b.ok, L.b.gd, kp _ (by simp [LsA.out]) _ L.b.ds, kp _ (by simp [LsA.out]) _ L.b.hw, kp _ (by simp [LsA.out]) _ L.b.hl, ?_, L.b.sent.on t (kp.sub fun y hy => ?_) (Nat.le_refl _), L.b.ways, L.b.ne, fun z hz => (L.b.off z hz).on kp hz, L.b.nd⟩, L.br.on (ka.sub fun z hz => List.mem_append_right _ hz), L.nb⟩
  · obtain ⟨us, h1, h2⟩ := L.b.hy
    exact ⟨us, kp _ (by simp [LsA.out]) _ h1, h2.keep t⟩
  · rcases List.mem_cons.mp hy with rfl | hy
    · simp [LsA.out]
    · simp [LsA.out, hy]
end
end WB

set_option Elab.async false
set_option linter.all false
set_option maxRecDepth 100000
namespace WB
open PySem PySem.Spec PyProof.Rows L2
/-! ### what is handed in and isn't of the right form -/
/-- a name that is handed in: a tuple of anything, or no tuple -/
def KV (H : Hp) (x : V) (o : Option (List V)) : Prop := (∃ t xs, x = .ref t ∧ H t = some (.tup xs) ∧ (∀ v ∈ xs, ∃ ty, TyS H v ty) ∧ o = some xs) ∨ (o = none ∧ ∃ ty, TyS H x ty ∧ ty ≠ "tuple")
def keyV : Option (List V) → Bool
  | some [a, b, c] => inR a 0 9 && (inR b 0 9 && inR c 0 999)
  | _ => false
theorem KV.same {H H' : Hp} (s : Same H H') {x : V} {o : Option (List V)} (h : KV H x o) : KV H' x o := by
  rcases h with ⟨t, xs, rfl, e, ty, rfl⟩ | ⟨rfl, ty, h, ne⟩
  · exact .inl ⟨t, xs, rfl, s _ _ e, fun v hv => let ⟨ty, z⟩ := ty v hv; ⟨ty, z.same s⟩, rfl⟩
  · exact .inr ⟨rfl, ty, h.same s, ne⟩
/-- scalars alone: what is typed in any heap -/
def scalV : V → Bool
  | .non => true
  | .bl _ => true
  | .int _ => true
  | .str _ => true
  | _ => false
theorem scalV_ty {x : V} (h : scalV x = true) : ∀ H : Hp, ∃ ty, TyS H x ty ∧ ty ≠ "tuple" := by
  intro H
  cases x <;> first | exact ⟨_, .non, by decide⟩ | exact ⟨_, .bl _, by decide⟩ | exact ⟨_, .int _, by decide⟩ | exact ⟨_, .str _, by decide⟩ | cases h
theorem len_three {α : Type} {xs : List α} (h : xs.length = 3) : ∃ x y z, xs = [x, y, z] := by
  match xs, h with
  | [x, y, z], _ => exact ⟨x, y, z, rfl⟩
theorem len_ne1 {n m : Nat} (h : ¬ n = m) : (!decide (V.int (n : Int) = V.int (m : Int))) = true := by
  have : ¬ V.int (n : Int) = V.int (m : Int) := fun z => h (by injection z with z; exact Int.ofNat.inj z)
  simp [this]
/-- a name of scalars alone -/
def KS (H : Hp) (x : V) (o : Option (List V)) : Prop := (∃ t xs, x = .ref t ∧ H t = some (.tup xs) ∧ xs.all scalV = true ∧ o = some xs) ∨ (o = none ∧ scalV x = true)
theorem KS.keep {H H' : Hp} (s : Tups H H') {x : V} {o : Option (List V)} (h : KS H x o) : KS H' x o := by
  rcases h with ⟨t, xs, rfl, e, ty, rfl⟩ | h
  · exact .inl ⟨t, xs, rfl, s _ _ e, ty, rfl⟩
  · exact .inr h
/-! ### ways that are handed in -/
def TupV (H : Hp) (v : V) (xs : List V) : Prop := ∃ t, v = .ref t ∧ H t = some (.tup xs)
theorem TupV.keep {H H' : Hp} (t : Tups H H') {v : V} {xs : List V} (h : TupV H v xs) : TupV H' v xs := let ⟨q, e, z⟩ := h; ⟨q, e, t _ _ z⟩
theorem tupVs_keep {H H' : Hp} (t : Tups H H') {vs : List V} {xss : List (List V)} (h : Paired (TupV H) vs xss) : Paired (TupV H') vs xss := Paired.mapP h fun _ _ z => z.keep t
def wayV : List V → Bool
  | [w, s, g] => inV w [.str "over", .str "back"] && (inR s 0 5 && inR g 0 5)
  | _ => false
theorem wayV_len {xs : List V} (h : xs.length ≠ 3) : wayV xs = false := by
  unfold wayV
  split
  · exact absurd rfl h
  · rfl
theorem scalV_flat {x : V} (h : scalV x = true) : flatV x = true := by cases x <;> first | rfl | cases h
theorem scalV_tyS {x : V} (h : scalV x = true) (H : Hp) : ∃ ty, TyS H x ty := let ⟨t, a, _⟩ := scalV_ty h H; ⟨t, a⟩
def wyV (w : Wy) : List V := [.str (wyS w.1), .int (w.2.1 : Int), .int (w.2.2 : Int)]
theorem inR_nat {x : V} {b : Nat} (h : inR x 0 b = true) : ∃ n : Nat, x = .int (n : Int) ∧ n ≤ b := by
  unfold inR at h
  split at h
  · rename_i i
    simp at h
    obtain ⟨n, rfl⟩ := Int.eq_ofNat_of_zero_le h.1
    exact ⟨n, rfl, by omega⟩
  · cases h
theorem inV_word {w : V} (h : inV w [.str "over", .str "back"] = true) (hs : scalV w = true) : ∃ i, w = .str (wyS i) := by
  cases w with
  | str s =>
    simp only [inV, List.any_cons, List.any_nil, Bool.or_false, eqV, Bool.or_eq_true, beq_iff_eq] at h
    rcases h with h | h
    · exact ⟨false, by rw [← h]; rfl⟩
    · exact ⟨true, by rw [← h]; rfl⟩
  | non => simp [inV, eqV] at h
  | bl b => simp [inV, eqV] at h
  | int i => simp [inV, eqV] at h
  | _ => cases hs
theorem wayV_form {xs : List V} (h : wayV xs = true) (hs : xs.all scalV = true) : ∃ w : Wy, xs = wyV w ∧ w.2.1 < 6 ∧ w.2.2 < 6 := by
  unfold wayV at h
  split at h
  · simp only [Bool.and_eq_true, List.all_cons] at h hs
    obtain ⟨i, rfl⟩ := inV_word h.1 hs.1
    obtain ⟨a, rfl, ha⟩ := inR_nat h.2.1
    obtain ⟨b, rfl, hb⟩ := inR_nat h.2.2
    exact ⟨(i, a, b), rfl, Nat.lt_succ_of_le ha, Nat.lt_succ_of_le hb⟩
  · cases h
/-- what is wrong with ways of the right form -/
def badW (so : Bool → Str) (ws : List Wy) : Bool := decide (ws.length < 1) || (decide (6 < ws.length) || (!decide ((dirS ws false).Nodup ∧ (dirG ws false).Nodup) || (!decide ((dirS ws true).Nodup ∧ (dirG ws true).Nodup) ||
  ((decide (so false = "boxes") && (dirS ws false).any fun r => decide (r ∈ dirG ws true)) || (decide (so true = "boxes") && (dirS ws true).any fun r => decide (r ∈ dirG ws false))))))
/-! ### what a refusal is -/
def wordsX : List V := [.str "world", .str "letter", .str "place", .str "ways", .str "text", .str "cut", .str "fallen"]
theorem wordsX_str {x : V} (h : x ∈ wordsX) : ∃ s, x = .str s := by
  simp only [wordsX, List.mem_cons, List.not_mem_nil, or_false] at h
  rcases h with rfl | rfl | rfl | rfl | rfl | rfl | rfl <;> exact ⟨_, rfl⟩
theorem bls_dp {K : PySem.W.Frag} {H : Hp} {a b c d e f g : Bool} : DpAll K H [.bl a, .bl b, .bl c, .bl d, .bl e, .bl f, .bl g] [.bool a, .bool b, .bool c, .bool d, .bool e, .bool f, .bool g] :=
  .cons (.bl _) (.cons (.bl _) (.cons (.bl _) (.cons (.bl _) (.cons (.bl _) (.cons (.bl _) (.cons (.bl _) .nil))))))
def kindsY : List V := [.bl false, .bl false, .bl false, .bl true] ++ [.bl false, .bl false, .bl false]
theorem kindsY_dp {K : PySem.W.Frag} {H : Hp} : DpAll K H kindsY [.bool false, .bool false, .bool false, .bool true, .bool false, .bool false, .bool false] := bls_dp
theorem wordsY_dp {K : PySem.W.Frag} {H : Hp} : DpAll K H (wordsX.filterMap fun v => some (V.bl (decide (V.str "ways" = v)))) [.bool false, .bool false, .bool false, .bool true, .bool false, .bool false, .bool false] := by
  have e : (wordsX.filterMap fun v => some (V.bl (decide (V.str "ways" = v)))) = kindsY := by decide +kernel
  rw [e]
  exact kindsY_dp
/-! ### what a draw of bad names tells -/
def BadNm (H : Hp) (x : V) : Prop := ∃ o, KS H x o ∧ keyV o = false
def BadAll (H : Hp) (xs : List V) : Prop := ∀ x ∈ xs, BadNm H x
theorem BadAll.same {H H' : Hp} {xs : List V} (s : Same H H') (h : BadAll H xs) : BadAll H' xs := fun x hx => let ⟨o, a, b⟩ := h x hx; ⟨o, a.keep (Tups.of_same s), b⟩
theorem BadAll.nil {H : Hp} : BadAll H [] := fun x hx => by cases hx
theorem BadNm.tup {H : Hp} {t : Addr} {xs : List V} (e : H t = some (.tup xs)) (sc : xs.all scalV = true) (b : keyV (some xs) = false) : BadNm H (.ref t) := ⟨_, .inl ⟨t, xs, rfl, e, sc, rfl⟩, b⟩
/-! ### what a draw of bad ways tells -/
theorem wyS_inj {a b : Bool} (h : wyS a = wyS b) : a = b := by cases a <;> cases b <;> first | rfl | (exact absurd h (by decide))
theorem wyV_inj : ∀ {ws ws' : List Wy}, ws.map wyV = ws'.map wyV → ws = ws'
  | [], [], _ => rfl
  | [], _ :: _, h => by cases h
  | _ :: _, [], h => by cases h
  | (i, a, b) :: ws, (j, c, d) :: ws', h => by
    simp only [List.map_cons, List.cons.injEq] at h
    obtain ⟨h1, h2⟩ := h
    simp only [wyV, List.cons.injEq, Value.str.injEq, V.str.injEq, V.int.injEq, and_true] at h1
    obtain ⟨e1, e2, e3⟩ := h1
    have e1 := wyS_inj e1
    have e2 : a = c := Int.ofNat.inj e2
    have e3 : b = d := Int.ofNat.inj e3
    rw [e1, e2, e3, wyV_inj h2]
def BadX (so : Bool → Str) (xss : List (List V)) : Prop := xss.all wayV = true → ∀ ws, xss = ws.map wyV → badW so ws = true
theorem BadX.ways {so : Bool → Str} {xss : List (List V)} (ws : List Wy) (e : xss = ws.map wyV) (b : badW so ws = true) : BadX so xss := fun _ ws' e' => by rw [e] at e'; rw [← wyV_inj e']; exact b
def BadWs (so : Bool → Str) (H : Hp) (F : List Addr) (x : V) : Prop := ∃ l us xss, x = .ref l ∧ l ∉ F ∧ H l = some (.lst us) ∧ Paired (TupV H) us xss ∧ us.length ≤ 15 ∧ (∀ xs ∈ xss, xs.all scalV = true) ∧ BadX so xss
theorem BadWs.same {so : Bool → Str} {H H' : Hp} {F : List Addr} {x : V} (s : Same H H') (h : BadWs so H F x) : BadWs so H' F x :=
  let ⟨l, us, xss, a, b, c, d, e⟩ := h; ⟨l, us, xss, a, b, s _ _ c, tupVs_keep (Tups.of_same s) d, e⟩
theorem BadWs.put {so : Bool → Str} {H : Hp} {F : List Addr} {x : V} {q : Addr} {ys : List V} {o : HO} (h : BadWs so H F x) (hq : q ∈ F) (e : H q = some (.lst ys)) : BadWs so (upd H q o) F x :=
  let ⟨l, us, xss, a, b, c, d, z⟩ := h
  ⟨l, us, xss, a, b, by rw [upd_ne (fun w : l = q => b (w ▸ hq))]; exact c, tupVs_keep (lst_tups e) d, z⟩
theorem BadWs.grow {so : Bool → Str} {H : Hp} {F : List Addr} {x : V} {q : Addr} (h : BadWs so H F x) (hq : H q = none) : BadWs so H (q :: F) x :=
  let ⟨l, us, xss, a, b, c, z⟩ := h
  ⟨l, us, xss, a, fun w => (List.mem_cons.mp w).elim (fun w => by rw [w, hq] at c; cases c) b, c, z⟩
def WsA (so : Bool → Str) (H : Hp) (F : List Addr) (xs : List V) : Prop := ∀ x ∈ xs, BadWs so H F x
theorem WsA.nil {so : Bool → Str} {H : Hp} {F : List Addr} : WsA so H F [] := fun x hx => by cases hx
theorem WsA.same {so : Bool → Str} {H H' : Hp} {F : List Addr} {xs : List V} (s : Same H H') (h : WsA so H F xs) : WsA so H' F xs := fun x hx => (h x hx).same s
theorem WsA.put {so : Bool → Str} {H : Hp} {F : List Addr} {xs : List V} {q : Addr} {ys : List V} {o : HO} (h : WsA so H F xs) (hq : q ∈ F) (e : H q = some (.lst ys)) : WsA so (upd H q o) F xs := fun x hx => (h x hx).put hq e
theorem WsA.grow {so : Bool → Str} {H : Hp} {F : List Addr} {xs : List V} {q : Addr} (h : WsA so H F xs) (hq : H q = none) : WsA so H (q :: F) xs := fun x hx => (h x hx).grow hq
theorem BadWs.new {so : Bool → Str} {H : Hp} {F : List Addr} {l : Addr} {us : List V} {xss : List (List V)} (hF : ∀ q ∈ F, ∃ o, H q = some o) (hl : H l = none) (p : Paired (TupV H) us xss) (n : us.length ≤ 15) (sc : (xss.all fun xs => xs.all scalV) = true) (b : BadX so xss) : BadWs so (upd H l (.lst us)) F (.ref l) :=
  ⟨l, us, xss, rfl, fun z => (by obtain ⟨o, e⟩ := hF l z; rw [hl] at e; cases e), upd_same, tupVs_keep (Tups.of_same (Same.upd hl)) p, n, fun xs hx => List.all_eq_true.mp sc xs hx, b⟩
theorem cell_ft {H H' : Hp} {c : Addr} {v : V} (x : CellV H c v) (s : FT H H') : CellV H' c v := let ⟨o, u, e, r⟩ := x; ⟨o, u, s.1 _ _ _ e, r⟩
theorem codeFr {H H' : Hp} {d : Addr} {xs : List V} {cv : Value} {qual : Str} (x : CodeV H cv qual) (f : Fr [d] H H') (hd : H d = some (.lst xs)) : CodeV H' cv qual := by
  obtain ⟨c, oc, vs, t, e, h, r⟩ := x
  exact ⟨c, oc, vs, t, e, f _ _ h (by simp; rintro rfl; rw [hd] at h; cases h), r⟩
theorem tabFr {H H' : Hp} {d T : Addr} {xs : List V} {qual : Str} (x : TabOk H T qual) (f : Fr [d] H H') (hd : H d = some (.lst xs)) : TabOk H' T qual := by
  obtain ⟨ps, h, r, k⟩ := x
  exact ⟨ps, f _ _ h (by simp; rintro rfl; rw [hd] at h; cases h), r, fun pos cv e => codeFr (k pos cv e) f hd⟩
end WB

set_option Elab.async false
set_option linter.all false
set_option maxRecDepth 100000
namespace L2
open PySem PySem.Spec PyProof.Rows
section
variable {prog : Program} {w : World} {A : Around} {E : Value → Shared → Prop} {s : Shared}
variable {l : Addr} {items : Array Value}
end
section
variable {X : Cx} {pos : Pos}
end
end L2

set_option Elab.async false
set_option linter.all false
set_option maxRecDepth 100000
namespace L2
open PySem PySem.Spec PyProof.Rows
end L2
namespace L2
open PySem PySem.Spec PyProof.Rows
section
variable {prog : Program} {w : World} {A : Around} {E : Value → Shared → Prop} {s : Shared}
end
end L2
namespace L2
open PySem PySem.Spec PyProof.Rows
section
variable {X : Cx} {pos pos2 p p2 : Pos}
theorem vals_snoc : ∀ {xs : List V} {us : List Value} {x : V} {u : Value}, Vals xs us → RelV x u → Vals (xs ++ [x]) (us ++ [u])
  | _, _, _, _, .nil, r => .cons r .nil
  | _, _, _, _, .cons r t, r2 => .cons r (vals_snoc t r2)
end
end L2

set_option Elab.async false
set_option linter.all false
set_option maxRecDepth 100000
namespace L2
open PySem PySem.Spec PyProof.Rows
section
variable {prog : Program} {w : World} {A : Around} {E : Value → Shared → Prop} {s : Shared}
theorem ascii_end_q {it : Addr} {x : Str} {t : Tok} {i : Nat} {Q : Option Value → Shared → Prop} (hq : HQ [it] A s.heap)
    (hit : s.heap.IsStrIter it "str_ascii_iterator" x t i) (hx : x.cps[i]? = none)
    (hQ : ∀ h', Heap.ExtBut it s.heap h' → Q none { s with heap := h' }) : wpAny (model prog w) A (pyNext (.ref it)) Q E s := by
  obtain ⟨o, ho, hc, hd⟩ := id hit
  unfold pyNext
  refine wpAny_bind (wpAny_attempt (wpAny_callSpecial?_slot (name := Str.ofString "__next__") hit.typeIs F.slot_str_ascii_iterator_next
    (wpAny_call_entry F.slot_str_ascii_iterator_next hit.typeIs F.entry_str_ascii_iterator_next ?_ (F.args_str_ascii_iterator_next_1 _))))
  show wpAny _ _ (field (.ref it) 0 >>= _) _ _ s
  refine wpAny_bind (wpAny_field ho hd (x := .str x t) rfl ?_)
  show wpAny _ _ (field (.ref it) 1 >>= _) _ _ s
  refine wpAny_bind (wpAny_field ho hd (x := .int i 0) rfl ?_)
  simp only [Int.toNat_natCast, hx]
  refine wpAny_bind (wpAny_rule (wpAny_bind (wpAny_setField ho hd (by simp) (wpAny_bind (wpAny_letGo ?_)))))
  have sb := Heap.SameBut.update s.heap it (Obj.mapFields (·.setIfInBounds 0 Value.none))
  refine stop_q (s := { s with heap := _ }) (A := A.in1) (it := it) (hq.but fun b o nb z => (sb.2 b nb).trans z) fun h' e oe k ge ce => ?_
  refine wpAny_bind (wpAny_isInstance (T := "StopIteration") (b := true) ⟨_, ge, ce⟩ isSubtype_stop (wpAny_pure (hQ _ fun b o nb z => k b o ((sb.2 b nb).trans z))))

end
theorem walk_asciiQ {prog : Program} {w : World} {A : Around} {ch : List Addr} (hh : A.handled = headV ch) (I : Addr) (hit : I ∉ ch) (x : Str) (t : Tok) :
    Walks prog w A I (I :: ch) [I] x.cps.size (SignAt x) (fun i h => h.IsStrIter I "str_ascii_iterator" x t i ∧ Chain h ch) where
  sub := fun b hb => by simp at hb; simp [hb]
  frame := fun _ _ _ st hk => ⟨let ⟨o, ho, r⟩ := st.1; ⟨o, hk I (by simp) o ho, r⟩, st.2.keeps fun x m o e => hk x (by simp [m]) o e⟩
  item := fun i s Q E hi st hQ => by
    refine wpAny_pyNext_ascii_item st.1 (c := x.cps[i]) (by simp [hi]) fun h' hit' hs' => ?_
    exact hQ _ h' (s.toks + 1) ⟨_, _, by simp [hi], rfl⟩ ⟨hit', st.2.keeps fun x m o e => (hs'.2 x fun z => hit (z ▸ m)).trans e⟩ fun b o hb e => hs'.extBut b o (fun h => hb (by simp [h])) e
  done := fun s Q E st hQ => ascii_end_q ⟨ch, st.2, hh, fun b m => by simp at m; subst m; exact hit⟩ st.1 (by simp) fun h' he' => hQ h' s.toks fun b o hb e => he' b o (fun h => hb (by simp [h])) e
  self := fun _ _ _ _ st hQ => wpAny_pyIter_striter_ascii st.1 hQ
section
variable {prog : Program} {w : World} {A : Around} {E : Value → Shared → Prop} {s : Shared}
theorem extend_strQ {R : Result → Shared → Prop} (x : Str) (ha : x.cps.all (· < 128) = true) (t : Tok) (S : Addr) (hq : HQ [S] A s.heap) (res : Value) (c₀ : Nat) (hS : s.heap.get? S = some { cls := .type "list", data := .seq #[] c₀ })
    (hR : ∀ h' tk acc' c', (∀ b o, b ≠ S → s.heap.get? b = some o → h'.get? b = some o) → h'.get? S = some { cls := .type "list", dict := none, data := .seq acc' c', slots := #[] } →
      ItemsOf (SignAt x) acc' x.cps.size → R (.ok (.ret res)) { s with heap := h', toks := tk }) (hn : x.cps.size ≤ sizeLine := by size_fits) :
    wpAny (model prog w) A.in1 (PySem.Builtin.List.listExtendWith (.ref S) (.str x t) res)
      (fun fin s' => match fin with | .done f => R (.ok f) s' | .again c' => c'.quiet = true ∧ codeAny (model prog w) A c' R s') (fun e s' => R (.error e) s') s := by
  have hSI : S ≠ s.heap.objs.size := Nat.ne_of_lt (Heap.lt_size hS)
  have hSf : S ∉ [s.heap.objs.size] := fun hm => hSI (List.mem_singleton.mp hm)
  unfold PySem.Builtin.List.listExtendWith
  refine wpAny_bind (wpAny_typeOf (T := "str") (v := .str x t) rfl ?_)
  have h1 : PySem.Builtin.List.listSameRef (.ref S) (.str x t) = false := rfl
  have h2 : (Value.type "str" == Value.type "list") = false := by decide
  have h3 : (Value.type "str" == Value.type "tuple") = false := by decide
  simp only [h1, h2, h3, Bool.or_false, Bool.false_eq_true, if_false]
  obtain ⟨ch, C, eh, av⟩ := hq
  have Sch : S ∉ ch := av S (by simp)
  have Ich : s.heap.objs.size ∉ ch := fun z => by obtain ⟨o, _, e, _⟩ := C.there z; exact absurd (Heap.lt_size e) (Nat.lt_irrefl _)
  have W := (walk_asciiQ (prog := prog) (w := w) (A := A.in1) eh s.heap.objs.size Ich x t).toS
  refine wpAny_bind (wpAny_pyIter_ascii ha ?_)
  have hst : (s.heap.push { cls := .type "str_ascii_iterator", data := .fields #[.str x t, .int 0 0] }).IsStrIter s.heap.objs.size "str_ascii_iterator" x t 0 := ⟨_, Heap.get?_push_size _ rfl, rfl, rfl⟩
  refine wpAny_bind (wpAny_holding ?_)
  unfold PySem.Builtin.List.listLengthHint
  refine wpAny_bind (wpAny_specialOf (T := "str") (v := .str x t) rfl F.str_len ?_)

  wp_delta
  refine wpAny_bind (wpAny_isInstance (T := "str") (v := .str x t) (b := true) rfl (by rw [isSubtype_type]; kernel_rfl) ?_)
  show wpAny _ _ (typeOf (Value.str x t) >>= _) _ _ _
  refine wpAny_bind (wpAny_typeOf (T := "str") (v := .str x t) rfl ?_)
  refine wpAny_pure ?_
  rw [if_neg (by decide)]
  refine wpAny_pure ⟨plainId_quiet F.plain_extend_loop _, codeAny_extend_loopS W hn _ (fun z => (List.mem_cons.mp z).elim hSI Sch) _ x.cps.size 0 _ _ _ rfl (Nat.zero_le _) ⟨hst, C.keeps fun x m o e => Heap.get?_push_of_some _ e⟩ (Heap.get?_push_of_some _ hS) (ItemsOf.nil _) fun s' acc' c' hm hS' hacc => ?_⟩
  rw [Moved.eq_with hm]
  refine hR s'.heap s'.toks acc' c' (fun b ob hb e => hm.heap b ob (fun hmem => ?_) (Heap.get?_push_of_some _ e)) hS' hacc
  rcases List.mem_cons.mp hmem with e' | hmem
  · exact hb e'
  · exact absurd (Heap.lt_size e) (by rw [List.mem_singleton.mp hmem]; exact Nat.lt_irrefl _)

theorem list_init_strQ {R : Result → Shared → Prop} (x : Str) (ha : x.cps.all (· < 128) = true) (t : Tok) (S : Addr) (hq : HQ [S] A s.heap) (hS : s.heap.get? S = some { cls := .type "list", data := .seq #[] })
    (hR : ∀ h' tk acc' c', (∀ b o, b ≠ S → s.heap.get? b = some o → h'.get? b = some o) → h'.get? S = some { cls := .type "list", dict := none, data := .seq acc' c', slots := #[] } →
      ItemsOf (SignAt x) acc' x.cps.size → R (.ok (.ret .none)) { s with heap := h', toks := tk }) (hn : x.cps.size ≤ sizeLine := by size_fits) :
    wpAny (model prog w) A.in1 (Builtin.«list.__init__» ⟨[.ref S, .str x t], []⟩)
      (fun fin s' => match fin with | .done f => R (.ok f) s' | .again c' => c'.quiet = true ∧ codeAny (model prog w) A c' R s') (fun e s' => R (.error e) s') s := by
  show wpAny _ _ (do let old ← PySem.Builtin.List.listItems (.ref S); PySem.Builtin.List.listUpdate (.ref S) (fun _ => #[]); letGo old.toList.reverse; PySem.Builtin.List.listExtendWith (.ref S) (.str x t) .none) _ _ s
  refine wpAny_bind ?_
  unfold PySem.Builtin.List.listItems
  refine wpAny_bind (wpAny_seqItems hS rfl (wpAny_pure ?_))
  show wpAny _ _ (updateSeq S (fun _ => #[]) >>= fun _ => letGo (#[] : Array Value).toList.reverse >>= fun _ => PySem.Builtin.List.listExtendWith (.ref S) (.str x t) .none) _ _ s
  refine wpAny_bind (wpAny_updateSeq hS rfl ?_)
  have hS₂ := Heap.get?_update_self (Obj.mapSeq (fun _ => (#[] : Array Value))) hS rfl
  have oth : ∀ b o, b ≠ S → s.heap.get? b = some o → (s.heap.update S (Obj.mapSeq (fun _ => (#[] : Array Value)))).get? b = some o :=
    fun b o hb e => (Heap.get?_update_other _ _ (Ne.symm hb)).trans e
  refine wpAny_bind (wpAny_letGo ?_)
  refine extend_strQ (hn := hn) x ha t S (hq.but fun b o nb z => oth b o (by simpa using nb) z) .none _ hS₂ fun h' tk acc' c' hk hS' hacc => ?_
  exact hR h' tk acc' c' (fun b o hb e => hk b o hb (oth b o hb e)) hS' hacc

theorem call_list_strQ {Q : Value → Shared → Prop} (x : Str) (ha : x.cps.all (· < 128) = true) (t : Tok) (hq : HQ [] A s.heap)
    (hQ : ∀ h' tk acc' c', (∀ b o, s.heap.get? b = some o → h'.get? b = some o) →
      h'.get? s.heap.objs.size = some { cls := .type "list", dict := none, data := .seq acc' c', slots := #[] } → ItemsOf (SignAt x) acc' x.cps.size → Q (.ref s.heap.objs.size) { s with heap := h', toks := tk }) (hn : x.cps.size ≤ sizeLine := by size_fits) :
    wpAny (model prog w) A (call (.type "list") [.str x t]) Q E s := by
  refine callType_codes (Q₁ := fun obj s₁ => obj = .ref s.heap.objs.size ∧ s₁ = { s with heap := s.heap.push { cls := .type "list", data := .seq #[] } }) F.called_list (F.typeCall_list_1 _) F.entry_list_init
    (code_list_new _ ⟨rfl, rfl⟩) fun obj s₁ h₁ => ?_
  obtain ⟨rfl, rfl⟩ := h₁
  have hS : (s.heap.push { cls := .type "list", data := .seq #[] }).get? s.heap.objs.size = some { cls := .type "list", data := .seq #[] } := Heap.get?_push_size _ rfl
  refine ⟨⟨_, hS, rfl⟩, F.args_list_init_2 _ _, list_init_strQ (A := A.in1) (hn := hn) x ha t _ (show HQ [s.heap.objs.size] A (s.heap.push { cls := .type "list", data := .seq #[] }) from (hq.new (Heap.get?_none_of_le (Nat.le_refl _))).kept fun b o z => Heap.get?_push_of_some _ z) hS fun h' tk acc' c' hk hS' hacc => ?_⟩
  exact ⟨rfl, hQ h' tk acc' c' (fun b o e => hk b o (Nat.ne_of_lt (Heap.lt_size e)) (Heap.get?_push_of_some _ e)) hS' hacc⟩
end
section
variable {X : Cx}
/-- list(text), a text of ASCII signs -/
theorem cr_listStr : CallR X (.type "list") (fun xs H Q => ∃ x : Str, xs = [.str x] ∧ x.cps.all (· < 128) = true ∧ x.length ≤ 1000 ∧ ∀ l, H l = none → Q (.ref l) (upd H l (.lst ((TL.tl x).map fun c => V.str ⟨#[c]⟩)))) := by
  intro pins s σ H xs us Q I r h
  obtain ⟨x, rfl, ha, hl, q⟩ := h
  cases r with
  | cons r rr =>
    cases rr
    obtain ⟨t, rfl⟩ := r
    have e1 : x.cps.size = (TL.tl x).length := by simp [TL.tl]
    have e2 : x.length = (TL.tl x).length := TL.len_tl x
    refine call_list_strQ x ha t I.hq0 (fun h' tk acc c' kp e it => ?_) (by rw [e1, ← e2]; exact Nat.le_of_lt (Nat.lt_of_le_of_lt hl (by decide)))
    have hsz : acc.toList.length = (TL.tl x).length := by rw [Array.length_toList, it.1, e1]
    have r' : ∀ m, m ≤ (TL.tl x).length → Vals (((TL.tl x).take m).map fun c => V.str ⟨#[c]⟩) (acc.toList.take m) := fun m => by
      induction m with
      | zero => intro _; exact .nil
      | succ m ih =>
        intro hm
        have hlt : m < acc.size := by rw [it.1, e1]; omega
        obtain ⟨c, u, e3, e4⟩ := it.2 m acc[m] (by simp [hlt])
        have e5 : (TL.tl x)[m]? = some c := by simpa [TL.tl] using e3
        rw [List.take_succ, List.take_succ, e5, show acc.toList[m]? = some acc[m] by simp [hlt], e4, List.map_append]
        exact vals_snoc (ih (by omega)) ⟨u, rfl⟩
    have r2 := r' (TL.tl x).length (Nat.le_refl _)
    rw [List.take_length, ← hsz, List.take_length] at r2
    have hp : s.heap.objs.size ≤ s.heap.objs.size := Nat.le_refl _
    refine ⟨.ref s.heap.objs.size, _, I.laid (o := .lst ((TL.tl x).map fun c => V.str ⟨#[c]⟩)) (t' := tk) kp hp ⟨?_, acc.toList, c', r2, by rw [Array.toArray_toList]; exact e⟩, rfl, q _ (I.hok.fresh hp)⟩
    rw [List.length_map, ← e2]
    exact Nat.le_of_lt (Nat.lt_of_le_of_lt hl (by decide))
end
end L2

set_option Elab.async false
set_option linter.all false
set_option maxRecDepth 100000
namespace WB
open PySem PySem.Spec PyProof.Rows L2
/-! ### ways as texts -/
def numS (n : Nat) : Str := Str.ofString (toString (n : Int))
def digV (x : Str) : Option Nat := (List.range 6).find? fun n => decide (numS n = x)
def wordV (x : Str) : Option Bool := if x = "over" then some false else if x = "back" then some true else none
def parseW (row : Str) : Option Wy := match Txt.split row " " with
  | [w, x, y] => (wordV w).bind fun i => (digV x).bind fun r => (digV y).map fun g => (i, r, g)
  | _ => none
/-- a way's row -/
def lineW (w : Wy) : Str := Str.empty ++ wyS w.1 ++ " " ++ numS w.2.1 ++ " " ++ numS w.2.2
theorem line_a : ∀ i : Bool, ∀ r < 6, ∀ g < 6, parseW (lineW (i, r, g)) = some (i, r, g) := by intro i; cases i <;> decide +kernel
theorem line_b : ∀ i : Bool, ∀ r < 6, ∀ g < 6, lineW (i, r, g) = Txt.join " " [wyS i, numS r, numS g] := by intro i; cases i <;> decide +kernel
theorem line_c : ∀ i : Bool, ∀ r < 6, ∀ g < 6, (lineW (i, r, g)).length = 8 := by intro i; cases i <;> decide +kernel
theorem line_d : ∀ i : Bool, ∀ r < 6, ∀ g < 6, 10 ∉ TL.tl (lineW (i, r, g)) := by intro i; cases i <;> decide +kernel
theorem line_all : ∀ i : Bool, ∀ r < 6, ∀ g < 6, parseW (lineW (i, r, g)) = some (i, r, g) ∧ lineW (i, r, g) = Txt.join " " [wyS i, numS r, numS g] ∧ (lineW (i, r, g)).length = 8 ∧ 10 ∉ TL.tl (lineW (i, r, g)) :=
  fun i r hr g hg => ⟨line_a i r hr g hg, line_b i r hr g hg, line_c i r hr g hg, line_d i r hr g hg⟩
theorem dig_all : ∀ n < 6, PySem.intText? (numS n) = some (n : Int) ∧ (numS n).length = 1 := by decide +kernel
/-- how long the parts are together -/
theorem spl_len (s : Nat) : ∀ (L acc : List Nat), ((TL.spl [s] 0 acc L).map List.length).sum ≤ acc.length + L.length ∧ (TL.spl [s] 0 acc L).length ≤ L.length + 1
  | [], acc => by rw [TL.spl_nil]; simp
  | c :: r, acc => by
    cases h : TL.pre [s] (c :: r) with
    | true =>
      rw [TL.spl_hit h]
      have ih := spl_len s r []
      show ((acc :: TL.spl [s] 0 [] r).map List.length).sum ≤ _ ∧ (acc :: TL.spl [s] 0 [] r).length ≤ _
      rw [List.map_cons, List.sum_cons, List.length_cons, List.length_cons]
      simp only [List.length_nil] at ih
      omega
    | false =>
      rw [TL.spl_miss h]
      have ih := spl_len s r (acc ++ [c])
      rw [List.length_append, List.length_singleton] at ih
      rw [List.length_cons]
      omega
theorem split_len {x y : Str} {s : Nat} (ey : TL.tl y = [s]) (hk : y.cps.all (· < 256) = true) : ((Txt.split x y).map (·.length)).sum ≤ x.length ∧ (Txt.split x y).length ≤ x.length + 1 := by
  have e := TL.split_spl x y (by rw [ey]; simp) (TL.kind_ok hk)
  rw [ey] at e
  have l := spl_len s (TL.tl x) []
  rw [← e] at l
  rw [List.map_map, List.length_map, List.length_nil, Nat.zero_add, ← TL.len_tl] at l
  have e2 : (Txt.split x y).map (List.length ∘ TL.tl) = (Txt.split x y).map (·.length) := List.map_congr_left fun z _ => (TL.len_tl z).symm
  rw [e2] at l
  exact l
theorem len_mem {l : List Str} {x : Str} (h : x ∈ l) : x.length ≤ (l.map (·.length)).sum := by
  induction l with
  | nil => cases h
  | cons y l ih =>
    rw [List.map_cons, List.sum_cons]
    rcases List.mem_cons.mp h with rfl | h
    · omega
    · have := ih h; omega
theorem joinL_len (S : List Nat) : ∀ l : List (List Nat), (TL.joinL S l).length ≤ (l.map List.length).sum + l.length * S.length
  | [] => by simp [TL.joinL]
  | [p] => by simp [TL.joinL]
  | p :: q :: r => by
    have ih := joinL_len S (q :: r)
    show (p ++ (S ++ TL.joinL S (q :: r))).length ≤ _
    rw [List.length_append, List.length_append, List.map_cons, List.sum_cons, List.length_cons, Nat.succ_mul]
    omega
theorem join_len (y : Str) (l : List Str) : (Txt.join y l).length ≤ (l.map (·.length)).sum + l.length * y.length := by
  rw [TL.len_tl, TL.join_eq, TL.tl_join]
  have := joinL_len (TL.tl y) (l.map TL.tl)
  rw [List.map_map, List.length_map, ← TL.len_tl] at this
  have e2 : l.map (List.length ∘ TL.tl) = l.map (·.length) := List.map_congr_left fun z _ => (TL.len_tl z).symm
  rw [e2] at this
  exact this
/-- ways' text -/
def txtW (ws : List Wy) : Str := Txt.join "\n" (ws.map lineW)
def rowsW (z : Str) : List Str := if z = "" then [] else Txt.split z "\n"
def okW (ws : List Wy) : Prop := ∀ w ∈ ws, w.2.1 < 6 ∧ w.2.2 < 6
theorem line_ok {w : Wy} (h : w.2.1 < 6 ∧ w.2.2 < 6) : parseW (lineW w) = some w ∧ lineW w = Txt.join " " [wyS w.1, numS w.2.1, numS w.2.2] ∧ (lineW w).length = 8 ∧ 10 ∉ TL.tl (lineW w) := line_all w.1 w.2.1 h.1 w.2.2 h.2
theorem txt_rows {ws : List Wy} (h : okW ws) (ne : ws ≠ []) : Txt.split (txtW ws) "\n" = ws.map lineW :=
  TL.split_join (s := 10) (S := []) (by decide +kernel) (by decide +kernel) (by simpa using ne) fun p hp => by
    obtain ⟨w, hw, rfl⟩ := List.mem_map.mp hp
    exact (line_ok (h w hw)).2.2.2
theorem txt_ne {ws : List Wy} (h : okW ws) (ne : ws ≠ []) : txtW ws ≠ "" := fun z => by
  have e := txt_rows h ne
  rw [z] at e
  cases ws with
  | nil => exact ne rfl
  | cons w r =>
    have l := (line_ok (h w (by simp))).2.2.1
    have e2 : Txt.split (Str.ofString "") (Str.ofString "\n") = [Str.ofString ""] := by decide +kernel
    rw [e2] at e
    have := congrArg (fun l => (l.head?.map (·.length)).getD 0) e
    simp only [List.map_cons, List.head?_cons, Option.map_some, Option.getD_some] at this
    rw [l] at this
    exact absurd this (by decide +kernel)
theorem txt_parse {ws : List Wy} (h : okW ws) : (rowsW (txtW ws)).map parseW = ws.map some := by
  unfold rowsW
  cases ws with
  | nil =>
    have e : txtW [] = "" := by decide +kernel
    rw [if_pos e]; rfl
  | cons w r =>
    rw [if_neg (txt_ne h (by simp)), txt_rows h (by simp), List.map_map]
    exact List.map_congr_left fun w hw => (line_ok (h w hw)).1
theorem sum_lines : ∀ {ws : List Wy}, okW ws → ((ws.map lineW).map (·.length)).sum = 8 * ws.length
  | [], _ => rfl
  | w :: r, h => by
    have ih := sum_lines (ws := r) fun z hz => h z (by simp [hz])
    rw [List.map_cons, List.map_cons, List.sum_cons, ih, (line_ok (h w (by simp))).2.2.1, List.length_cons]
    omega
theorem txt_len {ws : List Wy} (h : okW ws) : (txtW ws).length ≤ 9 * ws.length := by
  have := join_len "\n" (ws.map lineW)
  rw [sum_lines h, List.length_map, show (Str.ofString "\n").length = 1 from by decide +kernel] at this
  unfold txtW
  omega
/-! ### a row is read -/
def digsV : List V := (List.range 6).map fun n => V.str (numS n)
theorem parseW_of {z w x y : Str} (h : Txt.split z " " = [w, x, y]) : parseW z = (wordV w).bind fun i => (digV x).bind fun r => (digV y).map fun g => (i, r, g) := by unfold parseW; rw [h]
theorem parseW_len {z : Str} (h : (Txt.split z " ").length ≠ 3) : parseW z = none := by
  unfold parseW
  split
  · rename_i w x y e
    rw [e] at h
    exact absurd rfl h
  · rfl
theorem wordV_in (w : Str) : inV (.str w) [.str "over", .str "back"] = (wordV w).isSome := by
  unfold wordV inV
  simp only [List.any_cons, List.any_nil, Bool.or_false]
  by_cases h1 : w = "over"
  · rw [if_pos h1, h1]; rfl
  · rw [if_neg h1]
    by_cases h2 : w = "back"
    · rw [if_pos h2, h2]; rfl
    · rw [if_neg h2]
      have e1 : eqV (V.str "over") (V.str w) = false := beq_false_of_ne (fun z => h1 z.symm)
      have e2 : eqV (V.str "back") (V.str w) = false := beq_false_of_ne (fun z => h2 z.symm)
      simp [e1, e2]
theorem digsV_in (x : Str) : inV (.str x) digsV = (digV x).isSome := by
  unfold inV digsV digV
  rw [Bool.eq_iff_iff, List.any_eq_true, List.find?_isSome]
  constructor
  · rintro ⟨v, hv, e⟩
    obtain ⟨n, hn, rfl⟩ := List.mem_map.mp hv
    exact ⟨n, hn, decide_eq_true (beq_iff_eq.mp (show (numS n == x) = true from e))⟩
  · rintro ⟨n, hn, e⟩
    exact ⟨_, List.mem_map.mpr ⟨n, hn, rfl⟩, show (numS n == x) = true from beq_iff_eq.mpr (of_decide_eq_true e)⟩
theorem digsV_flat : digsV.all flatV = true := by decide
theorem digV_num {x : Str} {n : Nat} (h : digV x = some n) : n < 6 ∧ x = numS n := by
  unfold digV at h
  have z := List.find?_some h
  exact ⟨List.mem_range.mp (List.mem_of_find?_eq_some h), (of_decide_eq_true z).symm⟩
theorem wordV_word {x : Str} {i : Bool} (h : wordV x = some i) : x = wyS i := by
  unfold wordV at h
  split at h
  · cases h; assumption
  · split at h
    · cases h; assumption
    · cases h
theorem small_log {n : Nat} (h : n ≤ 1000000) : ((n : Nat) : Int).natAbs.log2 < 1920 := by
  rw [Int.natAbs_natCast]
  by_cases h0 : n = 0
  · rw [h0]; decide
  · exact Nat.lt_trans ((Nat.log2_lt h0).mpr (Nat.lt_of_le_of_lt h (show 1000000 < 2 ^ 64 by decide))) (by decide)
theorem digs2_eq : ((TL.tl (Str.ofString "012345")).map fun c => V.str ⟨#[c]⟩) = digsV := by kernel_rfl
theorem strs_dp {K : PySem.W.Frag} {H : Hp} : ∀ l : List Str, DpAll K H (l.map V.str) (l.map PyData.str)
  | [] => .nil
  | _ :: l => .cons (.str _) (strs_dp l)
/-- a text of signs that there are -/
def okS (z : Str) : Prop := ∀ c ∈ TL.tl z, c < 0x110000
theorem okS.strOk {z : Str} (h : okS z) : PyData.strOk z = true := by
  unfold PyData.strOk
  rw [← Array.all_toList, List.all_eq_true]
  exact fun c hc => decide_eq_true (h c hc)
theorem strs_lay : ∀ {l : List Str}, (∀ s ∈ l, okS s) → PyData.canLayAll0 (l.map PyData.str) = true
  | [], _ => by simp [PyData.canLayAll0]
  | s :: l, h => by
    have h1 := (h s (by simp)).strOk
    have h2 := strs_lay (l := l) fun x hx => h x (by simp [hx])
    simp [PyData.canLayAll0, PyData.canLay0, h1, h2]
theorem strs_depth17 : ∀ (ws : List Str), PyData.depthAll (ws.map PyData.str) ≤ 1
  | [] => by simp [PyData.depthAll]
  | w :: ws => by
    have := strs_depth17 ws
    simp only [List.map_cons, PyData.depthAll, PyData.depth]
    omega
theorem strs_shaped {l : List Str} (h : ∀ s ∈ l, okS s) : SeqAt.shaped (.list (l.map PyData.str)) = true := by
  unfold SeqAt.shaped
  rw [Bool.and_eq_true]
  refine ⟨?_, ?_⟩
  · show PyData.canLay0 (.list _) = true
    simp only [PyData.canLay0]; exact strs_lay h
  · have := strs_depth17 l
    simp only [PyData.depth]
    exact decide_eq_true (by omega)
theorem spl_mem (s : Nat) : ∀ (L acc p : List Nat), p ∈ TL.spl [s] 0 acc L → ∀ c ∈ p, c ∈ acc ∨ c ∈ L
  | [], acc, p, hp, c, hc => by
    rw [TL.spl_nil] at hp
    rw [List.mem_singleton.mp hp] at hc
    exact .inl hc
  | d :: r, acc, p, hp, c, hc => by
    cases h : TL.pre [s] (d :: r) with
    | true =>
      rw [TL.spl_hit h] at hp
      rcases List.mem_cons.mp hp with rfl | hp
      · exact .inl hc
      · rcases spl_mem s r [] p hp c hc with z | z
        · cases z
        · exact .inr (List.mem_cons_of_mem _ z)
    | false =>
      rw [TL.spl_miss h] at hp
      rcases spl_mem s r (acc ++ [d]) p hp c hc with z | z
      · rcases List.mem_append.mp z with z | z
        · exact .inl z
        · rw [List.mem_singleton.mp z]; exact .inr List.mem_cons_self
      · exact .inr (List.mem_cons_of_mem _ z)
theorem okS_split {x y : Str} {s : Nat} (ey : TL.tl y = [s]) (hk : y.cps.all (· < 256) = true) (h : okS x) : ∀ p ∈ Txt.split x y, okS p := fun p hp c hc => by
  have e := TL.split_spl x y (by rw [ey]; simp) (TL.kind_ok hk)
  rw [ey] at e
  have hp2 : TL.tl p ∈ TL.spl [s] 0 [] (TL.tl x) := by rw [← e]; exact List.mem_map.mpr ⟨p, hp, rfl⟩
  rcases spl_mem s _ _ _ hp2 c hc with z | z
  · cases z
  · exact h c z
theorem joinL_mem (S : List Nat) : ∀ (l : List (List Nat)), ∀ c ∈ TL.joinL S l, c ∈ S ∨ ∃ p ∈ l, c ∈ p
  | [], c, hc => by simp [TL.joinL] at hc
  | [p], c, hc => .inr ⟨p, by simp, hc⟩
  | p :: q :: r, c, hc => by
    have hc : c ∈ p ++ (S ++ TL.joinL S (q :: r)) := hc
    rcases List.mem_append.mp hc with z | z
    · exact .inr ⟨p, by simp, z⟩
    · rcases List.mem_append.mp z with z | z
      · exact .inl z
      · rcases joinL_mem S (q :: r) c z with z | ⟨p', hp', z⟩
        · exact .inl z
        · exact .inr ⟨p', List.mem_cons_of_mem _ hp', z⟩
theorem okS_join {y : Str} {l : List Str} (hy : okS y) (h : ∀ p ∈ l, okS p) : okS (Txt.join y l) := fun c hc => by
  rw [TL.join_eq, TL.tl_join] at hc
  rcases joinL_mem _ _ c hc with z | ⟨p, hp, z⟩
  · exact hy c z
  · obtain ⟨q, hq, rfl⟩ := List.mem_map.mp hp
    exact h q hq c z
theorem ways_form17 : ∀ {xss : List (List V)}, xss.all wayV = true → (∀ xs ∈ xss, xs.all scalV = true) → ∃ ws : List Wy, xss = ws.map wyV ∧ okW ws
  | [], _, _ => ⟨[], rfl, fun _ h => nomatch h⟩
  | xs :: r, h, hs => by
    rw [List.all_cons, Bool.and_eq_true] at h
    obtain ⟨w, e, b⟩ := wayV_form h.1 (hs xs (by simp))
    obtain ⟨ws, e2, b2⟩ := ways_form17 h.2 fun x hx => hs x (by simp [hx])
    exact ⟨w :: ws, by rw [e, e2]; rfl, fun z hz => (List.mem_cons.mp hz).elim (fun y => y ▸ b) (b2 z)⟩
/-! ### a changed text -/
theorem spl_pos (s : Nat) : ∀ (L acc : List Nat), 0 < (TL.spl [s] 0 acc L).length
  | [], acc => by rw [TL.spl_nil]; simp
  | c :: r, acc => by
    cases h : TL.pre [s] (c :: r) with
    | true => rw [TL.spl_hit h]; exact Nat.succ_pos _
    | false => rw [TL.spl_miss h]; exact spl_pos s r (acc ++ [c])
theorem split_pos {x y : Str} {s : Nat} (ey : TL.tl y = [s]) (hk : y.cps.all (· < 256) = true) : 0 < (Txt.split x y).length := by
  have e := TL.split_spl x y (by rw [ey]; simp) (TL.kind_ok hk)
  rw [ey] at e
  have l := spl_pos s (TL.tl x) []
  rw [← e, List.length_map] at l
  exact l
def cutS (l : List Str) (lo hi : Option Int) : List Str := (l.drop (HT.sIx l.length 0 lo)).take (HT.sIx l.length l.length hi - HT.sIx l.length 0 lo)
theorem cutS_map (l : List Str) (lo hi : Option Int) : cutV (l.map V.str) lo hi = (cutS l lo hi).map V.str := by
  unfold cutV cutS
  rw [List.length_map, ← List.map_drop, ← List.map_take]
theorem sum_drop (f : Str → Nat) (l : List Str) (n : Nat) : ((l.drop n).map f).sum ≤ (l.map f).sum := by
  have : ((l.take n).map f).sum + ((l.drop n).map f).sum = (l.map f).sum := by rw [← List.sum_append, ← List.map_append, List.take_append_drop]
  omega
theorem sum_take (f : Str → Nat) (l : List Str) (n : Nat) : ((l.take n).map f).sum ≤ (l.map f).sum := by
  have : ((l.take n).map f).sum + ((l.drop n).map f).sum = (l.map f).sum := by rw [← List.sum_append, ← List.map_append, List.take_append_drop]
  omega
theorem cutS_sum (l : List Str) (lo hi : Option Int) : ((cutS l lo hi).map (·.length)).sum ≤ (l.map (·.length)).sum ∧ (cutS l lo hi).length ≤ l.length := by
  refine ⟨Nat.le_trans (sum_take _ _ _) (sum_drop _ _ _), ?_⟩
  unfold cutS
  rw [List.length_take, List.length_drop]
  omega
theorem cutS_mem {l : List Str} {lo hi : Option Int} {x : Str} (h : x ∈ cutS l lo hi) : x ∈ l := List.mem_of_mem_drop (List.mem_of_mem_take h)
theorem sum_set (f : Str → Nat) (y : Str) : ∀ (l : List Str) (i : Nat), ((l.set i y).map f).sum ≤ (l.map f).sum + f y
  | [], _ => by simp
  | x :: r, 0 => by simp [List.set]; omega
  | x :: r, i + 1 => by
    have := sum_set f y r i
    simp only [List.set_cons_succ, List.map_cons, List.sum_cons]
    omega
/-! ### joining within a comprehension -/
abbrev rJoin (K : PySem.W.Frag) : V → List V → Hp → VK → Prop := fun x xs H Q => ∃ a p, ∃ ys : List Str, x = .str a ∧ xs = [.ref p] ∧ (SqL K H p (ys.map V.str) ∨ SqT K H p (ys.map V.str)) ∧
    (ys.map (·.length)).sum + ys.length * a.length ≤ 16777216 ∧ Q (.str (Txt.join a ys)) H
/-! ### ways and rows as data -/
def wyD (w : Wy) : PyData := .tuple [.str (wyS w.1), .int (w.2.1 : Int), .int (w.2.2 : Int)]
theorem wys_dp {K : PySem.W.Frag} {H : Hp} : ∀ {us : List V} {ws : List Wy}, WysAt H us ws → DpAll K H us (ws.map wyD)
  | _, _, .nil => .nil
  | _, _, .cons ⟨t, e, h⟩ r => by subst e; exact .cons (.tup (SqT.of h) (.cons (.str _) (.cons (.int _) (.cons (.int _) .nil)))) (wys_dp r)
theorem wys_lay : ∀ ws : List Wy, PyData.canLayAll0 (ws.map wyD) = true
  | [] => by simp [PyData.canLayAll0]
  | w :: l => by
    have e : PyData.strOk (wyS w.1) = true := by cases w.1 <;> decide +kernel
    simp [PyData.canLayAll0, PyData.canLay0, wyD, wys_lay l, e]
theorem wys_shaped (ws : List Wy) : SeqAt.shaped (.list (ws.map wyD)) = true := by
  have h : ∀ l : List Wy, PyData.depthAll (l.map wyD) ≤ 5 := by
    intro l
    induction l with
    | nil => simp [PyData.depthAll]
    | cons n l ih => simp only [List.map_cons, PyData.depthAll, PyData.depth, wyD]; simp only [Nat.max_le]; exact ⟨by decide, ih⟩
  unfold SeqAt.shaped
  rw [Bool.and_eq_true]
  refine ⟨?_, ?_⟩
  · show PyData.canLay0 (.list _) = true
    simp only [PyData.canLay0]; exact wys_lay ws
  · have := h ws
    refine decide_eq_true ?_
    simp only [PyData.depth]
    omega
theorem wy_dt {H : Hp} {v : V} {w : Wy} (h : WyAt H v w) : Dt H v (wyD w) := by
  obtain ⟨t, rfl, h⟩ := h
  exact .tup h (show 3 ≤ 1000000 by decide) (.cons (.str _) (.cons (.int _) (.cons (.int _) .nil)))
theorem wys_dtA {H : Hp} : ∀ {us : List V} {ws : List Wy}, WysAt H us ws → DtAll H us (ws.map wyD)
  | _, _, .nil => .nil
  | _, _, .cons a r => .cons (wy_dt a) (wys_dtA r)
theorem wys_dt {H : Hp} {l : Addr} {us : List V} {ws : List Wy} (h : H l = some (.lst us)) (hw : WysAt H us ws) (n : us.length ≤ 1000000) : Dt H (.ref l) (.list (ws.map wyD)) := .lst h n (wys_dtA hw)
theorem wys_deep (ws : List Wy) : (PyData.list (ws.map wyD)).depth < 5 := by
  have h : PyData.depthAll (ws.map wyD) ≤ 3 := by
    induction ws with
    | nil => simp [PyData.depthAll]
    | cons n l ih => simp only [List.map_cons, PyData.depthAll, PyData.depth, wyD]; simp only [Nat.max_le]; exact ⟨by decide, ih⟩
  simp only [PyData.depth]
  omega
def RowAt (H : Hp) (v : V) : Option Wy → Prop
  | none => v = .non
  | some w => WyAt H v w
def rowD : Option Wy → PyData
  | none => .none
  | some w => wyD w
theorem RowAt.keep {H H' : Hp} {v : V} {o : Option Wy} (h : RowAt H v o) (t : Tups H H') : RowAt H' v o := by
  cases o with
  | none => exact h
  | some w => exact WyAt.keep h t
theorem rows_dp {K : PySem.W.Frag} {H : Hp} : ∀ {us : List V} {os : List (Option Wy)}, Paired (RowAt H) us os → DpAll K H us (os.map rowD)
  | _, _, .nil => .nil
  | _, _, .cons (b := none) h r => by cases h; exact .cons .non (rows_dp r)
  | _, _, .cons (b := some w) ⟨t, e, h⟩ r => by subst e; exact .cons (.tup (SqT.of h) (.cons (.str _) (.cons (.int _) (.cons (.int _) .nil)))) (rows_dp r)
theorem rows_lay : ∀ os : List (Option Wy), PyData.canLayAll0 (os.map rowD) = true
  | [] => by simp [PyData.canLayAll0]
  | none :: l => by simp [PyData.canLayAll0, PyData.canLay0, rowD, rows_lay l]
  | some w :: l => by
    have e : PyData.strOk (wyS w.1) = true := by cases w.1 <;> decide +kernel
    simp [PyData.canLayAll0, PyData.canLay0, rowD, wyD, rows_lay l, e]
theorem row_none (o : Option Wy) : PyData.eqv (rowD o) .none = decide (o = none) := by
  cases o <;> simp [rowD, wyD, PyData.eqv]
theorem rows_any (os : List (Option Wy)) : ((os.map rowD).any fun z => PyData.eqv z .none) = decide (none ∈ os) := by
  induction os with
  | nil => rfl
  | cons o l ih =>
    rw [List.map_cons, List.any_cons, ih, row_none]
    cases o <;> simp
theorem rows_wys {H : Hp} : ∀ {us : List V} {ws : List Wy}, Paired (RowAt H) us (ws.map some) → WysAt H us ws
  | _, [], .nil => .nil
  | _, _ :: _, .cons a r => .cons a (rows_wys r)
theorem all_some : ∀ {os : List (Option Wy)}, none ∉ os → ∃ ws : List Wy, os = ws.map some
  | [], _ => ⟨[], rfl⟩
  | none :: l, h => absurd (by simp) h
  | some w :: l, h => by
    obtain ⟨ws, e⟩ := all_some (os := l) fun z => h (by simp [z])
    exact ⟨w :: ws, by rw [e]; rfl⟩
theorem first_none : ∀ {os : List (Option Wy)}, none ∈ os → ∃ j : Nat, os[j]? = some none ∧ ∀ m o, m < j → os[m]? = some o → o ≠ none
  | none :: l, _ => ⟨0, rfl, fun m _ h => absurd h (Nat.not_lt_zero _)⟩
  | some w :: l, h => by
    obtain ⟨j, e, k⟩ := first_none (os := l) (by simpa using h)
    refine ⟨j + 1, e, fun m o hm ho => ?_⟩
    cases m with
    | zero => cases ho; simp
    | succ m => exact k m o (by omega) ho
theorem frTups {H H' : Hp} {d : Addr} {xs : List V} (f : Fr [d] H H') (hd : H d = some (.lst xs)) : Tups H H' := fun b ys e => f b _ e (by simp; rintro rfl; rw [hd] at e; cases e)
theorem Tups.tr {H H1 H2 : Hp} (a : Tups H H1) (b : Tups H1 H2) : Tups H H2 := fun c xs e => b c xs (a c xs e)
theorem line_sum : ∀ i : Bool, ∀ r < 6, ∀ g < 6, (([wyS i, numS r, numS g] : List Str).map (·.length)).sum + ([wyS i, numS r, numS g] : List Str).length * (Str.ofString " ").length ≤ 16777216 := by intro i; cases i <;> decide +kernel
theorem wys_tup {H : Hp} {us : List V} {ws : List Wy} (h : WysAt H us ws) : Paired (TupV H) us (ws.map wyV) := by
  induction h with
  | nil => exact .nil
  | cons a r ih => exact .cons a ih
theorem wys_scal (ws : List Wy) : ∀ xs ∈ ws.map wyV, xs.all scalV = true := fun xs h => by
  obtain ⟨w, _, rfl⟩ := List.mem_map.mp h
  rfl
theorem way_ok {w : Wy} (h : w.2.1 < 6 ∧ w.2.2 < 6) : wayV (wyV w) = true := by
  obtain ⟨i, r, g⟩ := w
  obtain ⟨h1, h2⟩ : r < 6 ∧ g < 6 := h
  have : ∀ i : Bool, ∀ r < 6, ∀ g < 6, wayV (wyV (i, r, g)) = true := by intro i; cases i <;> decide +kernel
  exact this i r h1 g h2
theorem ways_ok {ws : List Wy} (h : okW ws) : (ws.map wyV).all wayV = true := by
  rw [List.all_eq_true]
  intro xs hx
  obtain ⟨w, hw, rfl⟩ := List.mem_map.mp hx
  exact way_ok (h w hw)
theorem rows_good {rs : List Str} {ws : List Wy} (e : rs.map parseW = ws.map some) {n : Nat} {row : Str} (hr : rs[n]? = some row) (h : parseW row = none) : False := by
  have z := congrArg (fun l => l[n]?) e
  simp only [List.getElem?_map, hr, Option.map_some, h] at z
  cases hw : ws[n]? <;> rw [hw] at z <;> simp at z
theorem some_inj {ws ws' : List Wy} (e : ws.map some = ws'.map some) : ws = ws' := by
  have := congrArg (List.filterMap id) e
  simpa [List.filterMap_map] using this
theorem line_oks : ∀ i : Bool, ∀ r < 6, ∀ g < 6, okS (lineW (i, r, g)) := by
  have h : ∀ i : Bool, ∀ r < 6, ∀ g < 6, ∀ c ∈ TL.tl (lineW (i, r, g)), c < 0x110000 := by intro i; cases i <;> decide +kernel
  exact h
theorem txt_oks {ws : List Wy} (h : okW ws) : okS (txtW ws) := okS_join (by unfold okS; decide +kernel) fun p hp => by
  obtain ⟨w, hw, rfl⟩ := List.mem_map.mp hp
  exact line_oks _ _ (h w hw).1 _ (h w hw).2
def bB : Nat → Nat
  | 0 => 63
  | n + 1 => 6 * bB n + 8
theorem tIf_gen {tt : TT} {ta tb : TE} {σ : L2.St} {H : Hp} {Q : VK} (KEY : VK → Prop) (h : ∀ Qk : VK, KEY Qk → tIf tt ta tb σ H Qk) (k : KEY Q) : tIf tt ta tb σ H Q := h Q k
end WB


set_option Elab.async false
set_option linter.all false
set_option maxRecDepth 100000
namespace WB
open PySem PySem.Spec PyProof.Rows L2
def top (i : Nat) : Stmt := PySem.Challenge.pw_worldbridge_k17_written_and_read.main.body.getD i (.Pass ⟨0, 0, 0, 0⟩)
abbrev s_is_whole : Stmt := top 11
abbrev s_is_between : Stmt := top 12
abbrev s_is_row : Stmt := top 13
abbrev s_is_way : Stmt := top 17
abbrev s_check_each : Stmt := top 18
abbrev s_written : Stmt := top 20
abbrev s_read : Stmt := top 21
abbrev s_read_way : Stmt := top 22
abbrev s__law_dice : Stmt := top 24
abbrev s__law_off : Stmt := top 25
abbrev s__law_alike : Stmt := top 26
abbrev s__law_refused : Stmt := top 27
abbrev s__law_line : Stmt := top 28
abbrev s__law_changed : Stmt := top 29
abbrev s_law : Stmt := top 30
abbrev s_BadText___init__ : Stmt := inClass (top 6) 0
theorem isi_BadText___init__ : InitS0 "row" "BadText.__init__" (defArgs s_BadText___init__) (defBody s_BadText___init__) (defScope s_BadText___init__) :=
  ⟨"self", "row", "row ", " writes no way", _, _, _, _, _, _, _, _, _, _, _, _, _, _, _, _, rfl, ⟨fun _ _ _ _ _ _ _ us hl => match us, hl with | [_, _], _ => rfl, ⟨_, rfl, rfl⟩, by decide, rfl, rfl, rfl, rfl, by decide +kernel, rfl, rfl, rfl, by decide, by decide, rfl, by decide, by rw [typeLookup_type, builtinLookup_eq_fast]; kernel_rfl⟩⟩
/-- the addresses of the text -/
structure Adr where
  f_is_whole : Addr
  d_is_whole : FuncData
  f_is_between : Addr
  d_is_between : FuncData
  f_is_row : Addr
  d_is_row : FuncData
  f_is_way : Addr
  d_is_way : FuncData
  f_check_each : Addr
  d_check_each : FuncData
  f_written : Addr
  d_written : FuncData
  f_read : Addr
  d_read : FuncData
  f_read_way : Addr
  d_read_way : FuncData
  f__law_dice : Addr
  d__law_dice : FuncData
  f__law_off : Addr
  d__law_off : FuncData
  f__law_alike : Addr
  d__law_alike : FuncData
  f__law_refused : Addr
  d__law_refused : FuncData
  f__law_line : Addr
  d__law_line : FuncData
  f__law_changed : Addr
  d__law_changed : FuncData
  f_law : Addr
  d_law : FuncData
  c_BridgeError : Addr
  c_BadWorld : Addr
  c_BadLetter : Addr
  c_BadPlace : Addr
  c_BadWays : Addr
  c_Cut : Addr
  c_Fallen : Addr
  c_BadText : Addr
  k_law : Addr
  p_law : Addr
  t_ROWS : Tok
  t_OVER : Tok
  t_BACK : Tok
/-- what the top has made -/
structure Txt (K : PySem.W.Frag) (mg : Str → Option Value) (a : Adr) : Prop where
  F_is_whole : Fun K "is_whole" "is_whole" s_is_whole a.f_is_whole a.d_is_whole
  B_is_whole : Binds K a.d_is_whole ["value"] []
  m_is_whole : mg "is_whole" = some (.ref a.f_is_whole)
  F_is_between : Fun K "is_between" "is_between" s_is_between a.f_is_between a.d_is_between
  B_is_between : Binds K a.d_is_between ["value", "low", "high"] []
  m_is_between : mg "is_between" = some (.ref a.f_is_between)
  F_is_row : Fun K "is_row" "is_row" s_is_row a.f_is_row a.d_is_row
  B_is_row : Binds K a.d_is_row ["row"] []
  m_is_row : mg "is_row" = some (.ref a.f_is_row)
  F_is_way : Fun K "is_way" "is_way" s_is_way a.f_is_way a.d_is_way
  B_is_way : Binds K a.d_is_way ["way"] []
  m_is_way : mg "is_way" = some (.ref a.f_is_way)
  F_check_each : Fun K "check_each" "check_each" s_check_each a.f_check_each a.d_check_each
  B_check_each : Binds K a.d_check_each ["ways"] []
  m_check_each : mg "check_each" = some (.ref a.f_check_each)
  F_written : Fun K "written" "written" s_written a.f_written a.d_written
  B_written : Binds K a.d_written ["ways"] []
  m_written : mg "written" = some (.ref a.f_written)
  F_read : Fun K "read" "read" s_read a.f_read a.d_read
  B_read : Binds K a.d_read ["text"] []
  m_read : mg "read" = some (.ref a.f_read)
  F_read_way : Fun K "read_way" "read_way" s_read_way a.f_read_way a.d_read_way
  B_read_way : Binds K a.d_read_way ["row", "number"] []
  m_read_way : mg "read_way" = some (.ref a.f_read_way)
  F__law_dice : Fun K "_law_dice" "_law_dice" s__law_dice a.f__law_dice a.d__law_dice
  B__law_dice : Binds K a.d__law_dice ["_law_script", "_law_k"] []
  m__law_dice : mg "_law_dice" = some (.ref a.f__law_dice)
  F__law_off : Fun K "_law_off" "_law_off" s__law_off a.f__law_off a.d__law_off
  B__law_off : Binds K a.d__law_off ["_law_d", "_law_most"] []
  m__law_off : mg "_law_off" = some (.ref a.f__law_off)
  F__law_alike : Fun K "_law_alike" "_law_alike" s__law_alike a.f__law_alike a.d__law_alike
  B__law_alike : Binds K a.d__law_alike ["_law_found", "_law_due"] []
  m__law_alike : mg "_law_alike" = some (.ref a.f__law_alike)
  F__law_refused : Fun K "_law_refused" "_law_refused" s__law_refused a.f__law_refused a.d__law_refused
  B__law_refused : Binds K a.d__law_refused ["_law_work", "_law_word", "_law_value"] []
  m__law_refused : mg "_law_refused" = some (.ref a.f__law_refused)
  F__law_line : Fun K "_law_line" "_law_line" s__law_line a.f__law_line a.d__law_line
  B__law_line : Binds K a.d__law_line ["_law_line_here"] []
  m__law_line : mg "_law_line" = some (.ref a.f__law_line)
  F__law_changed : Fun K "_law_changed" "_law_changed" s__law_changed a.f__law_changed a.d__law_changed
  B__law_changed : Binds K a.d__law_changed ["_law_d", "_law_text"] []
  m__law_changed : mg "_law_changed" = some (.ref a.f__law_changed)
  F_law : Fun K "law" "law" s_law a.f_law a.d_law
  B_law : Binds K a.d_law ["_law_script"] []
  m_law : mg "law" = some (.ref a.f_law)
  kd_law : a.d_law.code = .ref a.k_law
  tb_law : PySem.W.tabIn K "law" = some (a.k_law, a.p_law)
  m_BridgeError : mg "BridgeError" = some (.ref a.c_BridgeError)
  xc_BridgeError : VCl K a.c_BridgeError
  tk_BridgeError_BridgeError : takes K a.c_BridgeError a.c_BridgeError = true
  ki_BridgeError_BridgeError : PySem.W.kitOne K (.ref a.c_BridgeError) (.ref a.c_BridgeError) = some true
  tk_BridgeError_BadWorld : takes K a.c_BridgeError a.c_BadWorld = false
  ki_BridgeError_BadWorld : PySem.W.kitOne K (.ref a.c_BridgeError) (.ref a.c_BadWorld) = some false
  tk_BridgeError_BadLetter : takes K a.c_BridgeError a.c_BadLetter = false
  ki_BridgeError_BadLetter : PySem.W.kitOne K (.ref a.c_BridgeError) (.ref a.c_BadLetter) = some false
  tk_BridgeError_BadPlace : takes K a.c_BridgeError a.c_BadPlace = false
  ki_BridgeError_BadPlace : PySem.W.kitOne K (.ref a.c_BridgeError) (.ref a.c_BadPlace) = some false
  tk_BridgeError_BadWays : takes K a.c_BridgeError a.c_BadWays = false
  ki_BridgeError_BadWays : PySem.W.kitOne K (.ref a.c_BridgeError) (.ref a.c_BadWays) = some false
  tk_BridgeError_Cut : takes K a.c_BridgeError a.c_Cut = false
  ki_BridgeError_Cut : PySem.W.kitOne K (.ref a.c_BridgeError) (.ref a.c_Cut) = some false
  tk_BridgeError_Fallen : takes K a.c_BridgeError a.c_Fallen = false
  ki_BridgeError_Fallen : PySem.W.kitOne K (.ref a.c_BridgeError) (.ref a.c_Fallen) = some false
  tk_BridgeError_BadText : takes K a.c_BridgeError a.c_BadText = false
  ki_BridgeError_BadText : PySem.W.kitOne K (.ref a.c_BridgeError) (.ref a.c_BadText) = some false
  kv_BridgeError : PySem.W.kitOne K (.ref a.c_BridgeError) (.type "ValueError") = some true
  m_BadWorld : mg "BadWorld" = some (.ref a.c_BadWorld)
  xc_BadWorld : VCl K a.c_BadWorld
  tk_BadWorld_BridgeError : takes K a.c_BadWorld a.c_BridgeError = true
  ki_BadWorld_BridgeError : PySem.W.kitOne K (.ref a.c_BadWorld) (.ref a.c_BridgeError) = some true
  tk_BadWorld_BadWorld : takes K a.c_BadWorld a.c_BadWorld = true
  ki_BadWorld_BadWorld : PySem.W.kitOne K (.ref a.c_BadWorld) (.ref a.c_BadWorld) = some true
  tk_BadWorld_BadLetter : takes K a.c_BadWorld a.c_BadLetter = false
  ki_BadWorld_BadLetter : PySem.W.kitOne K (.ref a.c_BadWorld) (.ref a.c_BadLetter) = some false
  tk_BadWorld_BadPlace : takes K a.c_BadWorld a.c_BadPlace = false
  ki_BadWorld_BadPlace : PySem.W.kitOne K (.ref a.c_BadWorld) (.ref a.c_BadPlace) = some false
  tk_BadWorld_BadWays : takes K a.c_BadWorld a.c_BadWays = false
  ki_BadWorld_BadWays : PySem.W.kitOne K (.ref a.c_BadWorld) (.ref a.c_BadWays) = some false
  tk_BadWorld_Cut : takes K a.c_BadWorld a.c_Cut = false
  ki_BadWorld_Cut : PySem.W.kitOne K (.ref a.c_BadWorld) (.ref a.c_Cut) = some false
  tk_BadWorld_Fallen : takes K a.c_BadWorld a.c_Fallen = false
  ki_BadWorld_Fallen : PySem.W.kitOne K (.ref a.c_BadWorld) (.ref a.c_Fallen) = some false
  tk_BadWorld_BadText : takes K a.c_BadWorld a.c_BadText = false
  ki_BadWorld_BadText : PySem.W.kitOne K (.ref a.c_BadWorld) (.ref a.c_BadText) = some false
  kv_BadWorld : PySem.W.kitOne K (.ref a.c_BadWorld) (.type "ValueError") = some true
  m_BadLetter : mg "BadLetter" = some (.ref a.c_BadLetter)
  xc_BadLetter : VCl K a.c_BadLetter
  tk_BadLetter_BridgeError : takes K a.c_BadLetter a.c_BridgeError = true
  ki_BadLetter_BridgeError : PySem.W.kitOne K (.ref a.c_BadLetter) (.ref a.c_BridgeError) = some true
  tk_BadLetter_BadWorld : takes K a.c_BadLetter a.c_BadWorld = false
  ki_BadLetter_BadWorld : PySem.W.kitOne K (.ref a.c_BadLetter) (.ref a.c_BadWorld) = some false
  tk_BadLetter_BadLetter : takes K a.c_BadLetter a.c_BadLetter = true
  ki_BadLetter_BadLetter : PySem.W.kitOne K (.ref a.c_BadLetter) (.ref a.c_BadLetter) = some true
  tk_BadLetter_BadPlace : takes K a.c_BadLetter a.c_BadPlace = false
  ki_BadLetter_BadPlace : PySem.W.kitOne K (.ref a.c_BadLetter) (.ref a.c_BadPlace) = some false
  tk_BadLetter_BadWays : takes K a.c_BadLetter a.c_BadWays = false
  ki_BadLetter_BadWays : PySem.W.kitOne K (.ref a.c_BadLetter) (.ref a.c_BadWays) = some false
  tk_BadLetter_Cut : takes K a.c_BadLetter a.c_Cut = false
  ki_BadLetter_Cut : PySem.W.kitOne K (.ref a.c_BadLetter) (.ref a.c_Cut) = some false
  tk_BadLetter_Fallen : takes K a.c_BadLetter a.c_Fallen = false
  ki_BadLetter_Fallen : PySem.W.kitOne K (.ref a.c_BadLetter) (.ref a.c_Fallen) = some false
  tk_BadLetter_BadText : takes K a.c_BadLetter a.c_BadText = false
  ki_BadLetter_BadText : PySem.W.kitOne K (.ref a.c_BadLetter) (.ref a.c_BadText) = some false
  kv_BadLetter : PySem.W.kitOne K (.ref a.c_BadLetter) (.type "ValueError") = some true
  m_BadPlace : mg "BadPlace" = some (.ref a.c_BadPlace)
  xc_BadPlace : VCl K a.c_BadPlace
  tk_BadPlace_BridgeError : takes K a.c_BadPlace a.c_BridgeError = true
  ki_BadPlace_BridgeError : PySem.W.kitOne K (.ref a.c_BadPlace) (.ref a.c_BridgeError) = some true
  tk_BadPlace_BadWorld : takes K a.c_BadPlace a.c_BadWorld = false
  ki_BadPlace_BadWorld : PySem.W.kitOne K (.ref a.c_BadPlace) (.ref a.c_BadWorld) = some false
  tk_BadPlace_BadLetter : takes K a.c_BadPlace a.c_BadLetter = false
  ki_BadPlace_BadLetter : PySem.W.kitOne K (.ref a.c_BadPlace) (.ref a.c_BadLetter) = some false
  tk_BadPlace_BadPlace : takes K a.c_BadPlace a.c_BadPlace = true
  ki_BadPlace_BadPlace : PySem.W.kitOne K (.ref a.c_BadPlace) (.ref a.c_BadPlace) = some true
  tk_BadPlace_BadWays : takes K a.c_BadPlace a.c_BadWays = false
  ki_BadPlace_BadWays : PySem.W.kitOne K (.ref a.c_BadPlace) (.ref a.c_BadWays) = some false
  tk_BadPlace_Cut : takes K a.c_BadPlace a.c_Cut = false
  ki_BadPlace_Cut : PySem.W.kitOne K (.ref a.c_BadPlace) (.ref a.c_Cut) = some false
  tk_BadPlace_Fallen : takes K a.c_BadPlace a.c_Fallen = false
  ki_BadPlace_Fallen : PySem.W.kitOne K (.ref a.c_BadPlace) (.ref a.c_Fallen) = some false
  tk_BadPlace_BadText : takes K a.c_BadPlace a.c_BadText = false
  ki_BadPlace_BadText : PySem.W.kitOne K (.ref a.c_BadPlace) (.ref a.c_BadText) = some false
  kv_BadPlace : PySem.W.kitOne K (.ref a.c_BadPlace) (.type "ValueError") = some true
  m_BadWays : mg "BadWays" = some (.ref a.c_BadWays)
  xc_BadWays : VCl K a.c_BadWays
  tk_BadWays_BridgeError : takes K a.c_BadWays a.c_BridgeError = true
  ki_BadWays_BridgeError : PySem.W.kitOne K (.ref a.c_BadWays) (.ref a.c_BridgeError) = some true
  tk_BadWays_BadWorld : takes K a.c_BadWays a.c_BadWorld = false
  ki_BadWays_BadWorld : PySem.W.kitOne K (.ref a.c_BadWays) (.ref a.c_BadWorld) = some false
  tk_BadWays_BadLetter : takes K a.c_BadWays a.c_BadLetter = false
  ki_BadWays_BadLetter : PySem.W.kitOne K (.ref a.c_BadWays) (.ref a.c_BadLetter) = some false
  tk_BadWays_BadPlace : takes K a.c_BadWays a.c_BadPlace = false
  ki_BadWays_BadPlace : PySem.W.kitOne K (.ref a.c_BadWays) (.ref a.c_BadPlace) = some false
  tk_BadWays_BadWays : takes K a.c_BadWays a.c_BadWays = true
  ki_BadWays_BadWays : PySem.W.kitOne K (.ref a.c_BadWays) (.ref a.c_BadWays) = some true
  tk_BadWays_Cut : takes K a.c_BadWays a.c_Cut = false
  ki_BadWays_Cut : PySem.W.kitOne K (.ref a.c_BadWays) (.ref a.c_Cut) = some false
  tk_BadWays_Fallen : takes K a.c_BadWays a.c_Fallen = false
  ki_BadWays_Fallen : PySem.W.kitOne K (.ref a.c_BadWays) (.ref a.c_Fallen) = some false
  tk_BadWays_BadText : takes K a.c_BadWays a.c_BadText = false
  ki_BadWays_BadText : PySem.W.kitOne K (.ref a.c_BadWays) (.ref a.c_BadText) = some false
  kv_BadWays : PySem.W.kitOne K (.ref a.c_BadWays) (.type "ValueError") = some true
  m_Cut : mg "Cut" = some (.ref a.c_Cut)
  xc_Cut : VCl K a.c_Cut
  tk_Cut_BridgeError : takes K a.c_Cut a.c_BridgeError = true
  ki_Cut_BridgeError : PySem.W.kitOne K (.ref a.c_Cut) (.ref a.c_BridgeError) = some true
  tk_Cut_BadWorld : takes K a.c_Cut a.c_BadWorld = false
  ki_Cut_BadWorld : PySem.W.kitOne K (.ref a.c_Cut) (.ref a.c_BadWorld) = some false
  tk_Cut_BadLetter : takes K a.c_Cut a.c_BadLetter = false
  ki_Cut_BadLetter : PySem.W.kitOne K (.ref a.c_Cut) (.ref a.c_BadLetter) = some false
  tk_Cut_BadPlace : takes K a.c_Cut a.c_BadPlace = false
  ki_Cut_BadPlace : PySem.W.kitOne K (.ref a.c_Cut) (.ref a.c_BadPlace) = some false
  tk_Cut_BadWays : takes K a.c_Cut a.c_BadWays = false
  ki_Cut_BadWays : PySem.W.kitOne K (.ref a.c_Cut) (.ref a.c_BadWays) = some false
  tk_Cut_Cut : takes K a.c_Cut a.c_Cut = true
  ki_Cut_Cut : PySem.W.kitOne K (.ref a.c_Cut) (.ref a.c_Cut) = some true
  tk_Cut_Fallen : takes K a.c_Cut a.c_Fallen = false
  ki_Cut_Fallen : PySem.W.kitOne K (.ref a.c_Cut) (.ref a.c_Fallen) = some false
  tk_Cut_BadText : takes K a.c_Cut a.c_BadText = false
  ki_Cut_BadText : PySem.W.kitOne K (.ref a.c_Cut) (.ref a.c_BadText) = some false
  kv_Cut : PySem.W.kitOne K (.ref a.c_Cut) (.type "ValueError") = some true
  m_Fallen : mg "Fallen" = some (.ref a.c_Fallen)
  xc_Fallen : VCl K a.c_Fallen
  tk_Fallen_BridgeError : takes K a.c_Fallen a.c_BridgeError = true
  ki_Fallen_BridgeError : PySem.W.kitOne K (.ref a.c_Fallen) (.ref a.c_BridgeError) = some true
  tk_Fallen_BadWorld : takes K a.c_Fallen a.c_BadWorld = false
  ki_Fallen_BadWorld : PySem.W.kitOne K (.ref a.c_Fallen) (.ref a.c_BadWorld) = some false
  tk_Fallen_BadLetter : takes K a.c_Fallen a.c_BadLetter = false
  ki_Fallen_BadLetter : PySem.W.kitOne K (.ref a.c_Fallen) (.ref a.c_BadLetter) = some false
  tk_Fallen_BadPlace : takes K a.c_Fallen a.c_BadPlace = false
  ki_Fallen_BadPlace : PySem.W.kitOne K (.ref a.c_Fallen) (.ref a.c_BadPlace) = some false
  tk_Fallen_BadWays : takes K a.c_Fallen a.c_BadWays = false
  ki_Fallen_BadWays : PySem.W.kitOne K (.ref a.c_Fallen) (.ref a.c_BadWays) = some false
  tk_Fallen_Cut : takes K a.c_Fallen a.c_Cut = false
  ki_Fallen_Cut : PySem.W.kitOne K (.ref a.c_Fallen) (.ref a.c_Cut) = some false
  tk_Fallen_Fallen : takes K a.c_Fallen a.c_Fallen = true
  ki_Fallen_Fallen : PySem.W.kitOne K (.ref a.c_Fallen) (.ref a.c_Fallen) = some true
  tk_Fallen_BadText : takes K a.c_Fallen a.c_BadText = false
  ki_Fallen_BadText : PySem.W.kitOne K (.ref a.c_Fallen) (.ref a.c_BadText) = some false
  kv_Fallen : PySem.W.kitOne K (.ref a.c_Fallen) (.type "ValueError") = some true
  m_BadText : mg "BadText" = some (.ref a.c_BadText)
  xw_BadText : VCw K a.c_BadText
  ic_BadText : ∀ prog, ProgOk prog → ICl K mg prog a.c_BadText "row"
  tk_BadText_BridgeError : takes K a.c_BadText a.c_BridgeError = true
  ki_BadText_BridgeError : PySem.W.kitOne K (.ref a.c_BadText) (.ref a.c_BridgeError) = some true
  tk_BadText_BadWorld : takes K a.c_BadText a.c_BadWorld = false
  ki_BadText_BadWorld : PySem.W.kitOne K (.ref a.c_BadText) (.ref a.c_BadWorld) = some false
  tk_BadText_BadLetter : takes K a.c_BadText a.c_BadLetter = false
  ki_BadText_BadLetter : PySem.W.kitOne K (.ref a.c_BadText) (.ref a.c_BadLetter) = some false
  tk_BadText_BadPlace : takes K a.c_BadText a.c_BadPlace = false
  ki_BadText_BadPlace : PySem.W.kitOne K (.ref a.c_BadText) (.ref a.c_BadPlace) = some false
  tk_BadText_BadWays : takes K a.c_BadText a.c_BadWays = false
  ki_BadText_BadWays : PySem.W.kitOne K (.ref a.c_BadText) (.ref a.c_BadWays) = some false
  tk_BadText_Cut : takes K a.c_BadText a.c_Cut = false
  ki_BadText_Cut : PySem.W.kitOne K (.ref a.c_BadText) (.ref a.c_Cut) = some false
  tk_BadText_Fallen : takes K a.c_BadText a.c_Fallen = false
  ki_BadText_Fallen : PySem.W.kitOne K (.ref a.c_BadText) (.ref a.c_Fallen) = some false
  tk_BadText_BadText : takes K a.c_BadText a.c_BadText = true
  ki_BadText_BadText : PySem.W.kitOne K (.ref a.c_BadText) (.ref a.c_BadText) = some true
  kv_BadText : PySem.W.kitOne K (.ref a.c_BadText) (.type "ValueError") = some true
  g_ROWS : mg "ROWS" = some (.int 6 a.t_ROWS)
  g_OVER : mg "OVER" = some (.str "over" a.t_OVER)
  g_BACK : mg "BACK" = some (.str "back" a.t_BACK)
  b_ValueError : mg "ValueError" = none
  b_abs : mg "abs" = none
  b_all : mg "all" = none
  b_bool : mg "bool" = none
  b_enumerate : mg "enumerate" = none
  b_int : mg "int" = none
  b_isinstance : mg "isinstance" = none
  b_len : mg "len" = none
  b_list : mg "list" = none
  b_range : mg "range" = none
  b_str : mg "str" = none
  b_super : mg "super" = none
  b_tuple : mg "tuple" = none
set_option maxHeartbeats 0 in
theorem txt_mk {K : PySem.W.Frag} {h : Heap} {mg : Str → Option Value} (X : K.In h) (G : h.Ns mainGlobals mg) {t_ROWS : Tok} {t_OVER : Tok} {t_BACK : Tok} {c_BridgeError : Addr} {c_BadWorld : Addr} {c_BadLetter : Addr} {c_BadPlace : Addr} {c_BadWays : Addr} {c_Cut : Addr} {c_Fallen : Addr} {c_BadText : Addr} {f_BadText___init__ cc_BadText___init__ cda_BadText___init__ : Addr} {od_BadText___init__ an_BadText___init__ : Option Addr} {sl_BadText___init__ : Array (Option Value)} {kV_BadText___init__ dc_BadText___init__ pm_BadText___init__ ct_BadText___init__ : Value} {w0_BadText___init__ v0_BadText___init__ : Value} {w1_BadText___init__ v1_BadText___init__ : Option Addr} {w2_BadText___init__ : Array Value} {w3_BadText___init__ v3_BadText___init__ : Array (Option Value)} {tf_BadText___init__ : Tok} {f_is_whole : Addr} {od_is_whole an_is_whole : Option Addr} {sl_is_whole : Array (Option Value)} {oc_is_whole kV_is_whole dc_is_whole pm_is_whole cd_is_whole ct_is_whole : Value} {f_is_between : Addr} {od_is_between an_is_between : Option Addr} {sl_is_between : Array (Option Value)} {oc_is_between kV_is_between dc_is_between pm_is_between cd_is_between ct_is_between : Value} {f_is_row : Addr} {od_is_row an_is_row : Option Addr} {sl_is_row : Array (Option Value)} {oc_is_row kV_is_row dc_is_row pm_is_row cd_is_row ct_is_row : Value} {f_is_way : Addr} {od_is_way an_is_way : Option Addr} {sl_is_way : Array (Option Value)} {oc_is_way kV_is_way dc_is_way pm_is_way cd_is_way ct_is_way : Value} {f_check_each : Addr} {od_check_each an_check_each : Option Addr} {sl_check_each : Array (Option Value)} {oc_check_each kV_check_each dc_check_each pm_check_each cd_check_each ct_check_each : Value} {f_written : Addr} {od_written an_written : Option Addr} {sl_written : Array (Option Value)} {oc_written kV_written dc_written pm_written cd_written ct_written : Value} {f_read : Addr} {od_read an_read : Option Addr} {sl_read : Array (Option Value)} {oc_read kV_read dc_read pm_read cd_read ct_read : Value} {f_read_way : Addr} {od_read_way an_read_way : Option Addr} {sl_read_way : Array (Option Value)} {oc_read_way kV_read_way dc_read_way pm_read_way cd_read_way ct_read_way : Value} {f__law_dice : Addr} {od__law_dice an__law_dice : Option Addr} {sl__law_dice : Array (Option Value)} {oc__law_dice kV__law_dice dc__law_dice pm__law_dice cd__law_dice ct__law_dice : Value} {f__law_off : Addr} {od__law_off an__law_off : Option Addr} {sl__law_off : Array (Option Value)} {oc__law_off kV__law_off dc__law_off pm__law_off cd__law_off ct__law_off : Value} {f__law_alike : Addr} {od__law_alike an__law_alike : Option Addr} {sl__law_alike : Array (Option Value)} {oc__law_alike kV__law_alike dc__law_alike pm__law_alike cd__law_alike ct__law_alike : Value} {f__law_refused : Addr} {od__law_refused an__law_refused : Option Addr} {sl__law_refused : Array (Option Value)} {oc__law_refused kV__law_refused dc__law_refused pm__law_refused cd__law_refused ct__law_refused : Value} {f__law_line : Addr} {od__law_line an__law_line : Option Addr} {sl__law_line : Array (Option Value)} {oc__law_line kV__law_line dc__law_line pm__law_line cd__law_line ct__law_line : Value} {f__law_changed : Addr} {od__law_changed an__law_changed : Option Addr} {sl__law_changed : Array (Option Value)} {oc__law_changed kV__law_changed dc__law_changed pm__law_changed cd__law_changed ct__law_changed : Value} {f_law : Addr} {od_law an_law : Option Addr} {sl_law : Array (Option Value)} {oc_law kV_law dc_law pm_law cd_law ct_law : Value} {kk_law pp_law : Addr} {w0_law : Value} {w1_law : Option Addr} {w2_law : Array Value} {w3_law : Array (Option Value)}
    (g_ROWS : PySem.W.nsIn K mainGlobals "ROWS" = some (some (.int 6 t_ROWS)))
    (g_OVER : PySem.W.nsIn K mainGlobals "OVER" = some (some (.str "over" t_OVER)))
    (g_BACK : PySem.W.nsIn K mainGlobals "BACK" = some (some (.str "back" t_BACK)))
    (b_ValueError : PySem.W.nsIn K mainGlobals "ValueError" = some none)
    (b_abs : PySem.W.nsIn K mainGlobals "abs" = some none)
    (b_all : PySem.W.nsIn K mainGlobals "all" = some none)
    (b_bool : PySem.W.nsIn K mainGlobals "bool" = some none)
    (b_enumerate : PySem.W.nsIn K mainGlobals "enumerate" = some none)
    (b_int : PySem.W.nsIn K mainGlobals "int" = some none)
    (b_isinstance : PySem.W.nsIn K mainGlobals "isinstance" = some none)
    (b_len : PySem.W.nsIn K mainGlobals "len" = some none)
    (b_list : PySem.W.nsIn K mainGlobals "list" = some none)
    (b_range : PySem.W.nsIn K mainGlobals "range" = some none)
    (b_str : PySem.W.nsIn K mainGlobals "str" = some none)
    (b_super : PySem.W.nsIn K mainGlobals "super" = some none)
    (b_tuple : PySem.W.nsIn K mainGlobals "tuple" = some none)
    (aC_BridgeError : PySem.W.nsIn K mainGlobals "BridgeError" = some (some (.ref c_BridgeError)))
    (aC_BadWorld : PySem.W.nsIn K mainGlobals "BadWorld" = some (some (.ref c_BadWorld)))
    (aC_BadLetter : PySem.W.nsIn K mainGlobals "BadLetter" = some (some (.ref c_BadLetter)))
    (aC_BadPlace : PySem.W.nsIn K mainGlobals "BadPlace" = some (some (.ref c_BadPlace)))
    (aC_BadWays : PySem.W.nsIn K mainGlobals "BadWays" = some (some (.ref c_BadWays)))
    (aC_Cut : PySem.W.nsIn K mainGlobals "Cut" = some (some (.ref c_Cut)))
    (aC_Fallen : PySem.W.nsIn K mainGlobals "Fallen" = some (some (.ref c_Fallen)))
    (aC_BadText : PySem.W.nsIn K mainGlobals "BadText" = some (some (.ref c_BadText)))
    (xe_BridgeError : PySem.W.excIn K c_BridgeError vmro vnew = true)
    (xk_BridgeError : PySem.W.keepIn K (.ref c_BridgeError) = true)
    (xq0_BridgeError : quietIn K vmro "__class__" (mroIn K c_BridgeError) = true)
    (xq1_BridgeError : quietIn K vmro "__getattribute__" (mroIn K c_BridgeError) = true)
    (xq2_BridgeError : quietIn K vmro "__getattr__" (mroIn K c_BridgeError) = true)
    (tk_BridgeError_BridgeError : takes K c_BridgeError c_BridgeError = true)
    (ki_BridgeError_BridgeError : PySem.W.kitOne K (.ref c_BridgeError) (.ref c_BridgeError) = some true)
    (tk_BridgeError_BadWorld : takes K c_BridgeError c_BadWorld = false)
    (ki_BridgeError_BadWorld : PySem.W.kitOne K (.ref c_BridgeError) (.ref c_BadWorld) = some false)
    (tk_BridgeError_BadLetter : takes K c_BridgeError c_BadLetter = false)
    (ki_BridgeError_BadLetter : PySem.W.kitOne K (.ref c_BridgeError) (.ref c_BadLetter) = some false)
    (tk_BridgeError_BadPlace : takes K c_BridgeError c_BadPlace = false)
    (ki_BridgeError_BadPlace : PySem.W.kitOne K (.ref c_BridgeError) (.ref c_BadPlace) = some false)
    (tk_BridgeError_BadWays : takes K c_BridgeError c_BadWays = false)
    (ki_BridgeError_BadWays : PySem.W.kitOne K (.ref c_BridgeError) (.ref c_BadWays) = some false)
    (tk_BridgeError_Cut : takes K c_BridgeError c_Cut = false)
    (ki_BridgeError_Cut : PySem.W.kitOne K (.ref c_BridgeError) (.ref c_Cut) = some false)
    (tk_BridgeError_Fallen : takes K c_BridgeError c_Fallen = false)
    (ki_BridgeError_Fallen : PySem.W.kitOne K (.ref c_BridgeError) (.ref c_Fallen) = some false)
    (tk_BridgeError_BadText : takes K c_BridgeError c_BadText = false)
    (ki_BridgeError_BadText : PySem.W.kitOne K (.ref c_BridgeError) (.ref c_BadText) = some false)
    (kv_BridgeError : PySem.W.kitOne K (.ref c_BridgeError) (.type "ValueError") = some true)
    (xe_BadWorld : PySem.W.excIn K c_BadWorld vmro vnew = true)
    (xk_BadWorld : PySem.W.keepIn K (.ref c_BadWorld) = true)
    (xq0_BadWorld : quietIn K vmro "__class__" (mroIn K c_BadWorld) = true)
    (xq1_BadWorld : quietIn K vmro "__getattribute__" (mroIn K c_BadWorld) = true)
    (xq2_BadWorld : quietIn K vmro "__getattr__" (mroIn K c_BadWorld) = true)
    (tk_BadWorld_BridgeError : takes K c_BadWorld c_BridgeError = true)
    (ki_BadWorld_BridgeError : PySem.W.kitOne K (.ref c_BadWorld) (.ref c_BridgeError) = some true)
    (tk_BadWorld_BadWorld : takes K c_BadWorld c_BadWorld = true)
    (ki_BadWorld_BadWorld : PySem.W.kitOne K (.ref c_BadWorld) (.ref c_BadWorld) = some true)
    (tk_BadWorld_BadLetter : takes K c_BadWorld c_BadLetter = false)
    (ki_BadWorld_BadLetter : PySem.W.kitOne K (.ref c_BadWorld) (.ref c_BadLetter) = some false)
    (tk_BadWorld_BadPlace : takes K c_BadWorld c_BadPlace = false)
    (ki_BadWorld_BadPlace : PySem.W.kitOne K (.ref c_BadWorld) (.ref c_BadPlace) = some false)
    (tk_BadWorld_BadWays : takes K c_BadWorld c_BadWays = false)
    (ki_BadWorld_BadWays : PySem.W.kitOne K (.ref c_BadWorld) (.ref c_BadWays) = some false)
    (tk_BadWorld_Cut : takes K c_BadWorld c_Cut = false)
    (ki_BadWorld_Cut : PySem.W.kitOne K (.ref c_BadWorld) (.ref c_Cut) = some false)
    (tk_BadWorld_Fallen : takes K c_BadWorld c_Fallen = false)
    (ki_BadWorld_Fallen : PySem.W.kitOne K (.ref c_BadWorld) (.ref c_Fallen) = some false)
    (tk_BadWorld_BadText : takes K c_BadWorld c_BadText = false)
    (ki_BadWorld_BadText : PySem.W.kitOne K (.ref c_BadWorld) (.ref c_BadText) = some false)
    (kv_BadWorld : PySem.W.kitOne K (.ref c_BadWorld) (.type "ValueError") = some true)
    (xe_BadLetter : PySem.W.excIn K c_BadLetter vmro vnew = true)
    (xk_BadLetter : PySem.W.keepIn K (.ref c_BadLetter) = true)
    (xq0_BadLetter : quietIn K vmro "__class__" (mroIn K c_BadLetter) = true)
    (xq1_BadLetter : quietIn K vmro "__getattribute__" (mroIn K c_BadLetter) = true)
    (xq2_BadLetter : quietIn K vmro "__getattr__" (mroIn K c_BadLetter) = true)
    (tk_BadLetter_BridgeError : takes K c_BadLetter c_BridgeError = true)
    (ki_BadLetter_BridgeError : PySem.W.kitOne K (.ref c_BadLetter) (.ref c_BridgeError) = some true)
    (tk_BadLetter_BadWorld : takes K c_BadLetter c_BadWorld = false)
    (ki_BadLetter_BadWorld : PySem.W.kitOne K (.ref c_BadLetter) (.ref c_BadWorld) = some false)
    (tk_BadLetter_BadLetter : takes K c_BadLetter c_BadLetter = true)
    (ki_BadLetter_BadLetter : PySem.W.kitOne K (.ref c_BadLetter) (.ref c_BadLetter) = some true)
    (tk_BadLetter_BadPlace : takes K c_BadLetter c_BadPlace = false)
    (ki_BadLetter_BadPlace : PySem.W.kitOne K (.ref c_BadLetter) (.ref c_BadPlace) = some false)
    (tk_BadLetter_BadWays : takes K c_BadLetter c_BadWays = false)
    (ki_BadLetter_BadWays : PySem.W.kitOne K (.ref c_BadLetter) (.ref c_BadWays) = some false)
    (tk_BadLetter_Cut : takes K c_BadLetter c_Cut = false)
    (ki_BadLetter_Cut : PySem.W.kitOne K (.ref c_BadLetter) (.ref c_Cut) = some false)
    (tk_BadLetter_Fallen : takes K c_BadLetter c_Fallen = false)
    (ki_BadLetter_Fallen : PySem.W.kitOne K (.ref c_BadLetter) (.ref c_Fallen) = some false)
    (tk_BadLetter_BadText : takes K c_BadLetter c_BadText = false)
    (ki_BadLetter_BadText : PySem.W.kitOne K (.ref c_BadLetter) (.ref c_BadText) = some false)
    (kv_BadLetter : PySem.W.kitOne K (.ref c_BadLetter) (.type "ValueError") = some true)
    (xe_BadPlace : PySem.W.excIn K c_BadPlace vmro vnew = true)
    (xk_BadPlace : PySem.W.keepIn K (.ref c_BadPlace) = true)
    (xq0_BadPlace : quietIn K vmro "__class__" (mroIn K c_BadPlace) = true)
    (xq1_BadPlace : quietIn K vmro "__getattribute__" (mroIn K c_BadPlace) = true)
    (xq2_BadPlace : quietIn K vmro "__getattr__" (mroIn K c_BadPlace) = true)
    (tk_BadPlace_BridgeError : takes K c_BadPlace c_BridgeError = true)
    (ki_BadPlace_BridgeError : PySem.W.kitOne K (.ref c_BadPlace) (.ref c_BridgeError) = some true)
    (tk_BadPlace_BadWorld : takes K c_BadPlace c_BadWorld = false)
    (ki_BadPlace_BadWorld : PySem.W.kitOne K (.ref c_BadPlace) (.ref c_BadWorld) = some false)
    (tk_BadPlace_BadLetter : takes K c_BadPlace c_BadLetter = false)
    (ki_BadPlace_BadLetter : PySem.W.kitOne K (.ref c_BadPlace) (.ref c_BadLetter) = some false)
    (tk_BadPlace_BadPlace : takes K c_BadPlace c_BadPlace = true)
    (ki_BadPlace_BadPlace : PySem.W.kitOne K (.ref c_BadPlace) (.ref c_BadPlace) = some true)
    (tk_BadPlace_BadWays : takes K c_BadPlace c_BadWays = false)
    (ki_BadPlace_BadWays : PySem.W.kitOne K (.ref c_BadPlace) (.ref c_BadWays) = some false)
    (tk_BadPlace_Cut : takes K c_BadPlace c_Cut = false)
    (ki_BadPlace_Cut : PySem.W.kitOne K (.ref c_BadPlace) (.ref c_Cut) = some false)
    (tk_BadPlace_Fallen : takes K c_BadPlace c_Fallen = false)
    (ki_BadPlace_Fallen : PySem.W.kitOne K (.ref c_BadPlace) (.ref c_Fallen) = some false)
    (tk_BadPlace_BadText : takes K c_BadPlace c_BadText = false)
    (ki_BadPlace_BadText : PySem.W.kitOne K (.ref c_BadPlace) (.ref c_BadText) = some false)
    (kv_BadPlace : PySem.W.kitOne K (.ref c_BadPlace) (.type "ValueError") = some true)
    (xe_BadWays : PySem.W.excIn K c_BadWays vmro vnew = true)
    (xk_BadWays : PySem.W.keepIn K (.ref c_BadWays) = true)
    (xq0_BadWays : quietIn K vmro "__class__" (mroIn K c_BadWays) = true)
    (xq1_BadWays : quietIn K vmro "__getattribute__" (mroIn K c_BadWays) = true)
    (xq2_BadWays : quietIn K vmro "__getattr__" (mroIn K c_BadWays) = true)
    (tk_BadWays_BridgeError : takes K c_BadWays c_BridgeError = true)
    (ki_BadWays_BridgeError : PySem.W.kitOne K (.ref c_BadWays) (.ref c_BridgeError) = some true)
    (tk_BadWays_BadWorld : takes K c_BadWays c_BadWorld = false)
    (ki_BadWays_BadWorld : PySem.W.kitOne K (.ref c_BadWays) (.ref c_BadWorld) = some false)
    (tk_BadWays_BadLetter : takes K c_BadWays c_BadLetter = false)
    (ki_BadWays_BadLetter : PySem.W.kitOne K (.ref c_BadWays) (.ref c_BadLetter) = some false)
    (tk_BadWays_BadPlace : takes K c_BadWays c_BadPlace = false)
    (ki_BadWays_BadPlace : PySem.W.kitOne K (.ref c_BadWays) (.ref c_BadPlace) = some false)
    (tk_BadWays_BadWays : takes K c_BadWays c_BadWays = true)
    (ki_BadWays_BadWays : PySem.W.kitOne K (.ref c_BadWays) (.ref c_BadWays) = some true)
    (tk_BadWays_Cut : takes K c_BadWays c_Cut = false)
    (ki_BadWays_Cut : PySem.W.kitOne K (.ref c_BadWays) (.ref c_Cut) = some false)
    (tk_BadWays_Fallen : takes K c_BadWays c_Fallen = false)
    (ki_BadWays_Fallen : PySem.W.kitOne K (.ref c_BadWays) (.ref c_Fallen) = some false)
    (tk_BadWays_BadText : takes K c_BadWays c_BadText = false)
    (ki_BadWays_BadText : PySem.W.kitOne K (.ref c_BadWays) (.ref c_BadText) = some false)
    (kv_BadWays : PySem.W.kitOne K (.ref c_BadWays) (.type "ValueError") = some true)
    (xe_Cut : PySem.W.excIn K c_Cut vmro vnew = true)
    (xk_Cut : PySem.W.keepIn K (.ref c_Cut) = true)
    (xq0_Cut : quietIn K vmro "__class__" (mroIn K c_Cut) = true)
    (xq1_Cut : quietIn K vmro "__getattribute__" (mroIn K c_Cut) = true)
    (xq2_Cut : quietIn K vmro "__getattr__" (mroIn K c_Cut) = true)
    (tk_Cut_BridgeError : takes K c_Cut c_BridgeError = true)
    (ki_Cut_BridgeError : PySem.W.kitOne K (.ref c_Cut) (.ref c_BridgeError) = some true)
    (tk_Cut_BadWorld : takes K c_Cut c_BadWorld = false)
    (ki_Cut_BadWorld : PySem.W.kitOne K (.ref c_Cut) (.ref c_BadWorld) = some false)
    (tk_Cut_BadLetter : takes K c_Cut c_BadLetter = false)
    (ki_Cut_BadLetter : PySem.W.kitOne K (.ref c_Cut) (.ref c_BadLetter) = some false)
    (tk_Cut_BadPlace : takes K c_Cut c_BadPlace = false)
    (ki_Cut_BadPlace : PySem.W.kitOne K (.ref c_Cut) (.ref c_BadPlace) = some false)
    (tk_Cut_BadWays : takes K c_Cut c_BadWays = false)
    (ki_Cut_BadWays : PySem.W.kitOne K (.ref c_Cut) (.ref c_BadWays) = some false)
    (tk_Cut_Cut : takes K c_Cut c_Cut = true)
    (ki_Cut_Cut : PySem.W.kitOne K (.ref c_Cut) (.ref c_Cut) = some true)
    (tk_Cut_Fallen : takes K c_Cut c_Fallen = false)
    (ki_Cut_Fallen : PySem.W.kitOne K (.ref c_Cut) (.ref c_Fallen) = some false)
    (tk_Cut_BadText : takes K c_Cut c_BadText = false)
    (ki_Cut_BadText : PySem.W.kitOne K (.ref c_Cut) (.ref c_BadText) = some false)
    (kv_Cut : PySem.W.kitOne K (.ref c_Cut) (.type "ValueError") = some true)
    (xe_Fallen : PySem.W.excIn K c_Fallen vmro vnew = true)
    (xk_Fallen : PySem.W.keepIn K (.ref c_Fallen) = true)
    (xq0_Fallen : quietIn K vmro "__class__" (mroIn K c_Fallen) = true)
    (xq1_Fallen : quietIn K vmro "__getattribute__" (mroIn K c_Fallen) = true)
    (xq2_Fallen : quietIn K vmro "__getattr__" (mroIn K c_Fallen) = true)
    (tk_Fallen_BridgeError : takes K c_Fallen c_BridgeError = true)
    (ki_Fallen_BridgeError : PySem.W.kitOne K (.ref c_Fallen) (.ref c_BridgeError) = some true)
    (tk_Fallen_BadWorld : takes K c_Fallen c_BadWorld = false)
    (ki_Fallen_BadWorld : PySem.W.kitOne K (.ref c_Fallen) (.ref c_BadWorld) = some false)
    (tk_Fallen_BadLetter : takes K c_Fallen c_BadLetter = false)
    (ki_Fallen_BadLetter : PySem.W.kitOne K (.ref c_Fallen) (.ref c_BadLetter) = some false)
    (tk_Fallen_BadPlace : takes K c_Fallen c_BadPlace = false)
    (ki_Fallen_BadPlace : PySem.W.kitOne K (.ref c_Fallen) (.ref c_BadPlace) = some false)
    (tk_Fallen_BadWays : takes K c_Fallen c_BadWays = false)
    (ki_Fallen_BadWays : PySem.W.kitOne K (.ref c_Fallen) (.ref c_BadWays) = some false)
    (tk_Fallen_Cut : takes K c_Fallen c_Cut = false)
    (ki_Fallen_Cut : PySem.W.kitOne K (.ref c_Fallen) (.ref c_Cut) = some false)
    (tk_Fallen_Fallen : takes K c_Fallen c_Fallen = true)
    (ki_Fallen_Fallen : PySem.W.kitOne K (.ref c_Fallen) (.ref c_Fallen) = some true)
    (tk_Fallen_BadText : takes K c_Fallen c_BadText = false)
    (ki_Fallen_BadText : PySem.W.kitOne K (.ref c_Fallen) (.ref c_BadText) = some false)
    (kv_Fallen : PySem.W.kitOne K (.ref c_Fallen) (.type "ValueError") = some true)
    (xw_BadText : excInW K c_BadText vmro vnew = true)
    (xk_BadText : PySem.W.keepIn K (.ref c_BadText) = true)
    (xq0_BadText : quietIn K vmro "__class__" (mroIn K c_BadText) = true)
    (xq1_BadText : quietIn K vmro "__getattribute__" (mroIn K c_BadText) = true)
    (xq2_BadText : quietIn K vmro "__getattr__" (mroIn K c_BadText) = true)
    (xq3_BadText : quietIn K vmro "__setattr__" (mroIn K c_BadText) = true)
    (xq4_BadText : quietIn K vmro "row" (mroIn K c_BadText) = true)
    (xf_BadText : PySem.W.findIn K (.ref c_BadText) "__init__" = some (some (.ref f_BadText___init__)))
    (xi_BadText : icIn K c_BadText f_BadText___init__ = true)
    (xs_BadText : PySem.W.mroIn K c_BadText (.ref c_BadText) = some true)
    (l_BadText___init__ : K.lookup f_BadText___init__ = some ⟨.type "function", od_BadText___init__, .func (PySem.W.ksFn "__init__" "BadText.__init__" (defArgs s_BadText___init__) (defBody s_BadText___init__) (defScope s_BadText___init__) .none kV_BadText___init__ dc_BadText___init__ pm_BadText___init__ an_BadText___init__ (.ref cda_BadText___init__) ct_BadText___init__ cc_BadText___init__), sl_BadText___init__⟩)
    (k_BadText___init__ : PySem.W.codeIn K (.ref cda_BadText___init__) "BadText.__init__" = true)
    (lk_BadText___init__ : K.lookup cda_BadText___init__ = some ⟨w0_BadText___init__, w1_BadText___init__, .fields w2_BadText___init__, w3_BadText___init__⟩)
    (zp_BadText___init__ : (w2_BadText___init__[2]? : Option Value) = some (.str "/claim/cut.py" tf_BadText___init__))
    (lc_BadText___init__ : K.lookup cc_BadText___init__ = some ⟨v0_BadText___init__, v1_BadText___init__, .cell (some (.ref c_BadText)), v3_BadText___init__⟩)
    (xo_BadText : PySem.W.nsIn K PySem.cStatics "thirdparty.any" = some none)
    (tk_BadText_BridgeError : takes K c_BadText c_BridgeError = true)
    (ki_BadText_BridgeError : PySem.W.kitOne K (.ref c_BadText) (.ref c_BridgeError) = some true)
    (tk_BadText_BadWorld : takes K c_BadText c_BadWorld = false)
    (ki_BadText_BadWorld : PySem.W.kitOne K (.ref c_BadText) (.ref c_BadWorld) = some false)
    (tk_BadText_BadLetter : takes K c_BadText c_BadLetter = false)
    (ki_BadText_BadLetter : PySem.W.kitOne K (.ref c_BadText) (.ref c_BadLetter) = some false)
    (tk_BadText_BadPlace : takes K c_BadText c_BadPlace = false)
    (ki_BadText_BadPlace : PySem.W.kitOne K (.ref c_BadText) (.ref c_BadPlace) = some false)
    (tk_BadText_BadWays : takes K c_BadText c_BadWays = false)
    (ki_BadText_BadWays : PySem.W.kitOne K (.ref c_BadText) (.ref c_BadWays) = some false)
    (tk_BadText_Cut : takes K c_BadText c_Cut = false)
    (ki_BadText_Cut : PySem.W.kitOne K (.ref c_BadText) (.ref c_Cut) = some false)
    (tk_BadText_Fallen : takes K c_BadText c_Fallen = false)
    (ki_BadText_Fallen : PySem.W.kitOne K (.ref c_BadText) (.ref c_Fallen) = some false)
    (tk_BadText_BadText : takes K c_BadText c_BadText = true)
    (ki_BadText_BadText : PySem.W.kitOne K (.ref c_BadText) (.ref c_BadText) = some true)
    (kv_BadText : PySem.W.kitOne K (.ref c_BadText) (.type "ValueError") = some true)
    (a_is_whole : PySem.W.nsIn K mainGlobals "is_whole" = some (some (.ref f_is_whole)))
    (l_is_whole : K.lookup f_is_whole = some ⟨oc_is_whole, od_is_whole, .func (PySem.W.fnOf "is_whole" "is_whole" (defArgs s_is_whole) (defBody s_is_whole) (defScope s_is_whole) .none kV_is_whole dc_is_whole pm_is_whole an_is_whole cd_is_whole ct_is_whole), sl_is_whole⟩)
    (k_is_whole : PySem.W.codeIn K cd_is_whole "is_whole" = true)
    (p_is_whole : PySem.W.keepIn K (.ref f_is_whole) = true)
    (a_is_between : PySem.W.nsIn K mainGlobals "is_between" = some (some (.ref f_is_between)))
    (l_is_between : K.lookup f_is_between = some ⟨oc_is_between, od_is_between, .func (PySem.W.fnOf "is_between" "is_between" (defArgs s_is_between) (defBody s_is_between) (defScope s_is_between) .none kV_is_between dc_is_between pm_is_between an_is_between cd_is_between ct_is_between), sl_is_between⟩)
    (k_is_between : PySem.W.codeIn K cd_is_between "is_between" = true)
    (p_is_between : PySem.W.keepIn K (.ref f_is_between) = true)
    (a_is_row : PySem.W.nsIn K mainGlobals "is_row" = some (some (.ref f_is_row)))
    (l_is_row : K.lookup f_is_row = some ⟨oc_is_row, od_is_row, .func (PySem.W.fnOf "is_row" "is_row" (defArgs s_is_row) (defBody s_is_row) (defScope s_is_row) .none kV_is_row dc_is_row pm_is_row an_is_row cd_is_row ct_is_row), sl_is_row⟩)
    (k_is_row : PySem.W.codeIn K cd_is_row "is_row" = true)
    (p_is_row : PySem.W.keepIn K (.ref f_is_row) = true)
    (a_is_way : PySem.W.nsIn K mainGlobals "is_way" = some (some (.ref f_is_way)))
    (l_is_way : K.lookup f_is_way = some ⟨oc_is_way, od_is_way, .func (PySem.W.fnOf "is_way" "is_way" (defArgs s_is_way) (defBody s_is_way) (defScope s_is_way) .none kV_is_way dc_is_way pm_is_way an_is_way cd_is_way ct_is_way), sl_is_way⟩)
    (k_is_way : PySem.W.codeIn K cd_is_way "is_way" = true)
    (p_is_way : PySem.W.keepIn K (.ref f_is_way) = true)
    (a_check_each : PySem.W.nsIn K mainGlobals "check_each" = some (some (.ref f_check_each)))
    (l_check_each : K.lookup f_check_each = some ⟨oc_check_each, od_check_each, .func (PySem.W.fnOf "check_each" "check_each" (defArgs s_check_each) (defBody s_check_each) (defScope s_check_each) .none kV_check_each dc_check_each pm_check_each an_check_each cd_check_each ct_check_each), sl_check_each⟩)
    (k_check_each : PySem.W.codeIn K cd_check_each "check_each" = true)
    (p_check_each : PySem.W.keepIn K (.ref f_check_each) = true)
    (a_written : PySem.W.nsIn K mainGlobals "written" = some (some (.ref f_written)))
    (l_written : K.lookup f_written = some ⟨oc_written, od_written, .func (PySem.W.fnOf "written" "written" (defArgs s_written) (defBody s_written) (defScope s_written) .none kV_written dc_written pm_written an_written cd_written ct_written), sl_written⟩)
    (k_written : PySem.W.codeIn K cd_written "written" = true)
    (p_written : PySem.W.keepIn K (.ref f_written) = true)
    (a_read : PySem.W.nsIn K mainGlobals "read" = some (some (.ref f_read)))
    (l_read : K.lookup f_read = some ⟨oc_read, od_read, .func (PySem.W.fnOf "read" "read" (defArgs s_read) (defBody s_read) (defScope s_read) .none kV_read dc_read pm_read an_read cd_read ct_read), sl_read⟩)
    (k_read : PySem.W.codeIn K cd_read "read" = true)
    (p_read : PySem.W.keepIn K (.ref f_read) = true)
    (a_read_way : PySem.W.nsIn K mainGlobals "read_way" = some (some (.ref f_read_way)))
    (l_read_way : K.lookup f_read_way = some ⟨oc_read_way, od_read_way, .func (PySem.W.fnOf "read_way" "read_way" (defArgs s_read_way) (defBody s_read_way) (defScope s_read_way) .none kV_read_way dc_read_way pm_read_way an_read_way cd_read_way ct_read_way), sl_read_way⟩)
    (k_read_way : PySem.W.codeIn K cd_read_way "read_way" = true)
    (p_read_way : PySem.W.keepIn K (.ref f_read_way) = true)
    (a__law_dice : PySem.W.nsIn K mainGlobals "_law_dice" = some (some (.ref f__law_dice)))
    (l__law_dice : K.lookup f__law_dice = some ⟨oc__law_dice, od__law_dice, .func (PySem.W.fnOf "_law_dice" "_law_dice" (defArgs s__law_dice) (defBody s__law_dice) (defScope s__law_dice) .none kV__law_dice dc__law_dice pm__law_dice an__law_dice cd__law_dice ct__law_dice), sl__law_dice⟩)
    (k__law_dice : PySem.W.codeIn K cd__law_dice "_law_dice" = true)
    (p__law_dice : PySem.W.keepIn K (.ref f__law_dice) = true)
    (a__law_off : PySem.W.nsIn K mainGlobals "_law_off" = some (some (.ref f__law_off)))
    (l__law_off : K.lookup f__law_off = some ⟨oc__law_off, od__law_off, .func (PySem.W.fnOf "_law_off" "_law_off" (defArgs s__law_off) (defBody s__law_off) (defScope s__law_off) .none kV__law_off dc__law_off pm__law_off an__law_off cd__law_off ct__law_off), sl__law_off⟩)
    (k__law_off : PySem.W.codeIn K cd__law_off "_law_off" = true)
    (p__law_off : PySem.W.keepIn K (.ref f__law_off) = true)
    (a__law_alike : PySem.W.nsIn K mainGlobals "_law_alike" = some (some (.ref f__law_alike)))
    (l__law_alike : K.lookup f__law_alike = some ⟨oc__law_alike, od__law_alike, .func (PySem.W.fnOf "_law_alike" "_law_alike" (defArgs s__law_alike) (defBody s__law_alike) (defScope s__law_alike) .none kV__law_alike dc__law_alike pm__law_alike an__law_alike cd__law_alike ct__law_alike), sl__law_alike⟩)
    (k__law_alike : PySem.W.codeIn K cd__law_alike "_law_alike" = true)
    (p__law_alike : PySem.W.keepIn K (.ref f__law_alike) = true)
    (a__law_refused : PySem.W.nsIn K mainGlobals "_law_refused" = some (some (.ref f__law_refused)))
    (l__law_refused : K.lookup f__law_refused = some ⟨oc__law_refused, od__law_refused, .func (PySem.W.fnOf "_law_refused" "_law_refused" (defArgs s__law_refused) (defBody s__law_refused) (defScope s__law_refused) .none kV__law_refused dc__law_refused pm__law_refused an__law_refused cd__law_refused ct__law_refused), sl__law_refused⟩)
    (k__law_refused : PySem.W.codeIn K cd__law_refused "_law_refused" = true)
    (p__law_refused : PySem.W.keepIn K (.ref f__law_refused) = true)
    (a__law_line : PySem.W.nsIn K mainGlobals "_law_line" = some (some (.ref f__law_line)))
    (l__law_line : K.lookup f__law_line = some ⟨oc__law_line, od__law_line, .func (PySem.W.fnOf "_law_line" "_law_line" (defArgs s__law_line) (defBody s__law_line) (defScope s__law_line) .none kV__law_line dc__law_line pm__law_line an__law_line cd__law_line ct__law_line), sl__law_line⟩)
    (k__law_line : PySem.W.codeIn K cd__law_line "_law_line" = true)
    (p__law_line : PySem.W.keepIn K (.ref f__law_line) = true)
    (a__law_changed : PySem.W.nsIn K mainGlobals "_law_changed" = some (some (.ref f__law_changed)))
    (l__law_changed : K.lookup f__law_changed = some ⟨oc__law_changed, od__law_changed, .func (PySem.W.fnOf "_law_changed" "_law_changed" (defArgs s__law_changed) (defBody s__law_changed) (defScope s__law_changed) .none kV__law_changed dc__law_changed pm__law_changed an__law_changed cd__law_changed ct__law_changed), sl__law_changed⟩)
    (k__law_changed : PySem.W.codeIn K cd__law_changed "_law_changed" = true)
    (p__law_changed : PySem.W.keepIn K (.ref f__law_changed) = true)
    (a_law : PySem.W.nsIn K mainGlobals "law" = some (some (.ref f_law)))
    (l_law : K.lookup f_law = some ⟨oc_law, od_law, .func (PySem.W.fnOf "law" "law" (defArgs s_law) (defBody s_law) (defScope s_law) .none kV_law dc_law pm_law an_law cd_law ct_law), sl_law⟩)
    (k_law : PySem.W.codeIn K cd_law "law" = true)
    (p_law : PySem.W.keepIn K (.ref f_law) = true)
    (zk_law : cd_law = .ref kk_law)
    (lk_law : K.lookup kk_law = some ⟨w0_law, w1_law, .fields w2_law, w3_law⟩)
    (zp_law : (w2_law[11]? : Option Value) = some (.ref pp_law))
    (zq_law : PySem.W.codeHdIn K kk_law pp_law = true)
    (zt_law : h.get? pp_law = some (PySem.W.tabObj #[]))
    : ∃ a : Adr, Txt K mg a ∧ a.f_law = f_law ∧ a.d_law = PySem.W.fnOf "law" "law" (defArgs s_law) (defBody s_law) (defScope s_law) .none kV_law dc_law pm_law an_law cd_law ct_law ∧ PySem.W.TabsAt [(a.k_law, a.p_law)] h := by
  have F_is_whole := fun_mk (st := s_is_whole) l_is_whole k_is_whole p_is_whole
  have B_is_whole := F_is_whole.binds (ps := ["value"]) fun _ _ _ _ _ _ us hl => match us, hl with | [_], _ => rfl
  have F_is_between := fun_mk (st := s_is_between) l_is_between k_is_between p_is_between
  have B_is_between := F_is_between.binds (ps := ["value", "low", "high"]) fun _ _ _ _ _ _ us hl => match us, hl with | [_, _, _], _ => rfl
  have F_is_row := fun_mk (st := s_is_row) l_is_row k_is_row p_is_row
  have B_is_row := F_is_row.binds (ps := ["row"]) fun _ _ _ _ _ _ us hl => match us, hl with | [_], _ => rfl
  have F_is_way := fun_mk (st := s_is_way) l_is_way k_is_way p_is_way
  have B_is_way := F_is_way.binds (ps := ["way"]) fun _ _ _ _ _ _ us hl => match us, hl with | [_], _ => rfl
  have F_check_each := fun_mk (st := s_check_each) l_check_each k_check_each p_check_each
  have B_check_each := F_check_each.binds (ps := ["ways"]) fun _ _ _ _ _ _ us hl => match us, hl with | [_], _ => rfl
  have F_written := fun_mk (st := s_written) l_written k_written p_written
  have B_written := F_written.binds (ps := ["ways"]) fun _ _ _ _ _ _ us hl => match us, hl with | [_], _ => rfl
  have F_read := fun_mk (st := s_read) l_read k_read p_read
  have B_read := F_read.binds (ps := ["text"]) fun _ _ _ _ _ _ us hl => match us, hl with | [_], _ => rfl
  have F_read_way := fun_mk (st := s_read_way) l_read_way k_read_way p_read_way
  have B_read_way := F_read_way.binds (ps := ["row", "number"]) fun _ _ _ _ _ _ us hl => match us, hl with | [_, _], _ => rfl
  have F__law_dice := fun_mk (st := s__law_dice) l__law_dice k__law_dice p__law_dice
  have B__law_dice := F__law_dice.binds (ps := ["_law_script", "_law_k"]) fun _ _ _ _ _ _ us hl => match us, hl with | [_, _], _ => rfl
  have F__law_off := fun_mk (st := s__law_off) l__law_off k__law_off p__law_off
  have B__law_off := F__law_off.binds (ps := ["_law_d", "_law_most"]) fun _ _ _ _ _ _ us hl => match us, hl with | [_, _], _ => rfl
  have F__law_alike := fun_mk (st := s__law_alike) l__law_alike k__law_alike p__law_alike
  have B__law_alike := F__law_alike.binds (ps := ["_law_found", "_law_due"]) fun _ _ _ _ _ _ us hl => match us, hl with | [_, _], _ => rfl
  have F__law_refused := fun_mk (st := s__law_refused) l__law_refused k__law_refused p__law_refused
  have B__law_refused := F__law_refused.binds (ps := ["_law_work", "_law_word", "_law_value"]) fun _ _ _ _ _ _ us hl => match us, hl with | [_, _, _], _ => rfl
  have F__law_line := fun_mk (st := s__law_line) l__law_line k__law_line p__law_line
  have B__law_line := F__law_line.binds (ps := ["_law_line_here"]) fun _ _ _ _ _ _ us hl => match us, hl with | [_], _ => rfl
  have F__law_changed := fun_mk (st := s__law_changed) l__law_changed k__law_changed p__law_changed
  have B__law_changed := F__law_changed.binds (ps := ["_law_d", "_law_text"]) fun _ _ _ _ _ _ us hl => match us, hl with | [_, _], _ => rfl
  have F_law := fun_mk (st := s_law) l_law k_law p_law
  have B_law := F_law.binds (ps := ["_law_script"]) fun _ _ _ _ _ _ us hl => match us, hl with | [_], _ => rfl
  refine ⟨{ f_is_whole := f_is_whole, d_is_whole := PySem.W.fnOf "is_whole" "is_whole" (defArgs s_is_whole) (defBody s_is_whole) (defScope s_is_whole) .none kV_is_whole dc_is_whole pm_is_whole an_is_whole cd_is_whole ct_is_whole, f_is_between := f_is_between, d_is_between := PySem.W.fnOf "is_between" "is_between" (defArgs s_is_between) (defBody s_is_between) (defScope s_is_between) .none kV_is_between dc_is_between pm_is_between an_is_between cd_is_between ct_is_between, f_is_row := f_is_row, d_is_row := PySem.W.fnOf "is_row" "is_row" (defArgs s_is_row) (defBody s_is_row) (defScope s_is_row) .none kV_is_row dc_is_row pm_is_row an_is_row cd_is_row ct_is_row, f_is_way := f_is_way, d_is_way := PySem.W.fnOf "is_way" "is_way" (defArgs s_is_way) (defBody s_is_way) (defScope s_is_way) .none kV_is_way dc_is_way pm_is_way an_is_way cd_is_way ct_is_way, f_check_each := f_check_each, d_check_each := PySem.W.fnOf "check_each" "check_each" (defArgs s_check_each) (defBody s_check_each) (defScope s_check_each) .none kV_check_each dc_check_each pm_check_each an_check_each cd_check_each ct_check_each, f_written := f_written, d_written := PySem.W.fnOf "written" "written" (defArgs s_written) (defBody s_written) (defScope s_written) .none kV_written dc_written pm_written an_written cd_written ct_written, f_read := f_read, d_read := PySem.W.fnOf "read" "read" (defArgs s_read) (defBody s_read) (defScope s_read) .none kV_read dc_read pm_read an_read cd_read ct_read, f_read_way := f_read_way, d_read_way := PySem.W.fnOf "read_way" "read_way" (defArgs s_read_way) (defBody s_read_way) (defScope s_read_way) .none kV_read_way dc_read_way pm_read_way an_read_way cd_read_way ct_read_way, f__law_dice := f__law_dice, d__law_dice := PySem.W.fnOf "_law_dice" "_law_dice" (defArgs s__law_dice) (defBody s__law_dice) (defScope s__law_dice) .none kV__law_dice dc__law_dice pm__law_dice an__law_dice cd__law_dice ct__law_dice, f__law_off := f__law_off, d__law_off := PySem.W.fnOf "_law_off" "_law_off" (defArgs s__law_off) (defBody s__law_off) (defScope s__law_off) .none kV__law_off dc__law_off pm__law_off an__law_off cd__law_off ct__law_off, f__law_alike := f__law_alike, d__law_alike := PySem.W.fnOf "_law_alike" "_law_alike" (defArgs s__law_alike) (defBody s__law_alike) (defScope s__law_alike) .none kV__law_alike dc__law_alike pm__law_alike an__law_alike cd__law_alike ct__law_alike, f__law_refused := f__law_refused, d__law_refused := PySem.W.fnOf "_law_refused" "_law_refused" (defArgs s__law_refused) (defBody s__law_refused) (defScope s__law_refused) .none kV__law_refused dc__law_refused pm__law_refused an__law_refused cd__law_refused ct__law_refused, f__law_line := f__law_line, d__law_line := PySem.W.fnOf "_law_line" "_law_line" (defArgs s__law_line) (defBody s__law_line) (defScope s__law_line) .none kV__law_line dc__law_line pm__law_line an__law_line cd__law_line ct__law_line, f__law_changed := f__law_changed, d__law_changed := PySem.W.fnOf "_law_changed" "_law_changed" (defArgs s__law_changed) (defBody s__law_changed) (defScope s__law_changed) .none kV__law_changed dc__law_changed pm__law_changed an__law_changed cd__law_changed ct__law_changed, f_law := f_law, d_law := PySem.W.fnOf "law" "law" (defArgs s_law) (defBody s_law) (defScope s_law) .none kV_law dc_law pm_law an_law cd_law ct_law, c_BridgeError := c_BridgeError, c_BadWorld := c_BadWorld, c_BadLetter := c_BadLetter, c_BadPlace := c_BadPlace, c_BadWays := c_BadWays, c_Cut := c_Cut, c_Fallen := c_Fallen, c_BadText := c_BadText, k_law := kk_law, p_law := pp_law, t_ROWS := t_ROWS, t_OVER := t_OVER, t_BACK := t_BACK }, ?_, rfl, rfl, ?_⟩
  rotate_left
  · exact (List.forall_mem_cons.mpr ⟨⟨PySem.W.codeHd_of_K X zq_law, zt_law⟩, (fun _ h => nomatch h)⟩)
  exact { F_is_whole := F_is_whole, B_is_whole := B_is_whole, m_is_whole := PySem.W.mg_of X G a_is_whole, F_is_between := F_is_between, B_is_between := B_is_between, m_is_between := PySem.W.mg_of X G a_is_between, F_is_row := F_is_row, B_is_row := B_is_row, m_is_row := PySem.W.mg_of X G a_is_row, F_is_way := F_is_way, B_is_way := B_is_way, m_is_way := PySem.W.mg_of X G a_is_way, F_check_each := F_check_each, B_check_each := B_check_each, m_check_each := PySem.W.mg_of X G a_check_each, F_written := F_written, B_written := B_written, m_written := PySem.W.mg_of X G a_written, F_read := F_read, B_read := B_read, m_read := PySem.W.mg_of X G a_read, F_read_way := F_read_way, B_read_way := B_read_way, m_read_way := PySem.W.mg_of X G a_read_way, F__law_dice := F__law_dice, B__law_dice := B__law_dice, m__law_dice := PySem.W.mg_of X G a__law_dice, F__law_off := F__law_off, B__law_off := B__law_off, m__law_off := PySem.W.mg_of X G a__law_off, F__law_alike := F__law_alike, B__law_alike := B__law_alike, m__law_alike := PySem.W.mg_of X G a__law_alike, F__law_refused := F__law_refused, B__law_refused := B__law_refused, m__law_refused := PySem.W.mg_of X G a__law_refused, F__law_line := F__law_line, B__law_line := B__law_line, m__law_line := PySem.W.mg_of X G a__law_line, F__law_changed := F__law_changed, B__law_changed := B__law_changed, m__law_changed := PySem.W.mg_of X G a__law_changed, F_law := F_law, B_law := B_law, m_law := PySem.W.mg_of X G a_law, kd_law := zk_law, tb_law := tabIn_of a_law l_law zk_law lk_law zp_law, m_BadText := PySem.W.mg_of X G aC_BadText, xw_BadText := ⟨⟨xw_BadText, xk_BadText⟩, ⟨xq0_BadText, xq1_BadText, xq2_BadText⟩⟩, ic_BadText := fun prog PO => icl_mk xi_BadText xs_BadText l_BadText___init__ k_BadText___init__ lk_BadText___init__ zp_BadText___init__ lc_BadText___init__ PO (PySem.W.mg_none_of X G b_super) xo_BadText xq3_BadText xq4_BadText isi_BadText___init__, kv_BadText := kv_BadText, tk_BadText_BridgeError := tk_BadText_BridgeError, ki_BadText_BridgeError := ki_BadText_BridgeError, tk_BadText_BadWorld := tk_BadText_BadWorld, ki_BadText_BadWorld := ki_BadText_BadWorld, tk_BadText_BadLetter := tk_BadText_BadLetter, ki_BadText_BadLetter := ki_BadText_BadLetter, tk_BadText_BadPlace := tk_BadText_BadPlace, ki_BadText_BadPlace := ki_BadText_BadPlace, tk_BadText_BadWays := tk_BadText_BadWays, ki_BadText_BadWays := ki_BadText_BadWays, tk_BadText_Cut := tk_BadText_Cut, ki_BadText_Cut := ki_BadText_Cut, tk_BadText_Fallen := tk_BadText_Fallen, ki_BadText_Fallen := ki_BadText_Fallen, tk_BadText_BadText := tk_BadText_BadText, ki_BadText_BadText := ki_BadText_BadText, xc_BridgeError := ⟨⟨xe_BridgeError, xk_BridgeError⟩, ⟨xq0_BridgeError, xq1_BridgeError, xq2_BridgeError⟩⟩, m_BridgeError := PySem.W.mg_of X G aC_BridgeError, kv_BridgeError := kv_BridgeError, tk_BridgeError_BridgeError := tk_BridgeError_BridgeError, ki_BridgeError_BridgeError := ki_BridgeError_BridgeError, tk_BridgeError_BadWorld := tk_BridgeError_BadWorld, ki_BridgeError_BadWorld := ki_BridgeError_BadWorld, tk_BridgeError_BadLetter := tk_BridgeError_BadLetter, ki_BridgeError_BadLetter := ki_BridgeError_BadLetter, tk_BridgeError_BadPlace := tk_BridgeError_BadPlace, ki_BridgeError_BadPlace := ki_BridgeError_BadPlace, tk_BridgeError_BadWays := tk_BridgeError_BadWays, ki_BridgeError_BadWays := ki_BridgeError_BadWays, tk_BridgeError_Cut := tk_BridgeError_Cut, ki_BridgeError_Cut := ki_BridgeError_Cut, tk_BridgeError_Fallen := tk_BridgeError_Fallen, ki_BridgeError_Fallen := ki_BridgeError_Fallen, tk_BridgeError_BadText := tk_BridgeError_BadText, ki_BridgeError_BadText := ki_BridgeError_BadText, xc_BadWorld := ⟨⟨xe_BadWorld, xk_BadWorld⟩, ⟨xq0_BadWorld, xq1_BadWorld, xq2_BadWorld⟩⟩, m_BadWorld := PySem.W.mg_of X G aC_BadWorld, kv_BadWorld := kv_BadWorld, tk_BadWorld_BridgeError := tk_BadWorld_BridgeError, ki_BadWorld_BridgeError := ki_BadWorld_BridgeError, tk_BadWorld_BadWorld := tk_BadWorld_BadWorld, ki_BadWorld_BadWorld := ki_BadWorld_BadWorld, tk_BadWorld_BadLetter := tk_BadWorld_BadLetter, ki_BadWorld_BadLetter := ki_BadWorld_BadLetter, tk_BadWorld_BadPlace := tk_BadWorld_BadPlace, ki_BadWorld_BadPlace := ki_BadWorld_BadPlace, tk_BadWorld_BadWays := tk_BadWorld_BadWays, ki_BadWorld_BadWays := ki_BadWorld_BadWays, tk_BadWorld_Cut := tk_BadWorld_Cut, ki_BadWorld_Cut := ki_BadWorld_Cut, tk_BadWorld_Fallen := tk_BadWorld_Fallen, ki_BadWorld_Fallen := ki_BadWorld_Fallen, tk_BadWorld_BadText := tk_BadWorld_BadText, ki_BadWorld_BadText := ki_BadWorld_BadText, xc_BadLetter := ⟨⟨xe_BadLetter, xk_BadLetter⟩, ⟨xq0_BadLetter, xq1_BadLetter, xq2_BadLetter⟩⟩, m_BadLetter := PySem.W.mg_of X G aC_BadLetter, kv_BadLetter := kv_BadLetter, tk_BadLetter_BridgeError := tk_BadLetter_BridgeError, ki_BadLetter_BridgeError := ki_BadLetter_BridgeError, tk_BadLetter_BadWorld := tk_BadLetter_BadWorld, ki_BadLetter_BadWorld := ki_BadLetter_BadWorld, tk_BadLetter_BadLetter := tk_BadLetter_BadLetter, ki_BadLetter_BadLetter := ki_BadLetter_BadLetter, tk_BadLetter_BadPlace := tk_BadLetter_BadPlace, ki_BadLetter_BadPlace := ki_BadLetter_BadPlace, tk_BadLetter_BadWays := tk_BadLetter_BadWays, ki_BadLetter_BadWays := ki_BadLetter_BadWays, tk_BadLetter_Cut := tk_BadLetter_Cut, ki_BadLetter_Cut := ki_BadLetter_Cut, tk_BadLetter_Fallen := tk_BadLetter_Fallen, ki_BadLetter_Fallen := ki_BadLetter_Fallen, tk_BadLetter_BadText := tk_BadLetter_BadText, ki_BadLetter_BadText := ki_BadLetter_BadText, xc_BadPlace := ⟨⟨xe_BadPlace, xk_BadPlace⟩, ⟨xq0_BadPlace, xq1_BadPlace, xq2_BadPlace⟩⟩, m_BadPlace := PySem.W.mg_of X G aC_BadPlace, kv_BadPlace := kv_BadPlace, tk_BadPlace_BridgeError := tk_BadPlace_BridgeError, ki_BadPlace_BridgeError := ki_BadPlace_BridgeError, tk_BadPlace_BadWorld := tk_BadPlace_BadWorld, ki_BadPlace_BadWorld := ki_BadPlace_BadWorld, tk_BadPlace_BadLetter := tk_BadPlace_BadLetter, ki_BadPlace_BadLetter := ki_BadPlace_BadLetter, tk_BadPlace_BadPlace := tk_BadPlace_BadPlace, ki_BadPlace_BadPlace := ki_BadPlace_BadPlace, tk_BadPlace_BadWays := tk_BadPlace_BadWays, ki_BadPlace_BadWays := ki_BadPlace_BadWays, tk_BadPlace_Cut := tk_BadPlace_Cut, ki_BadPlace_Cut := ki_BadPlace_Cut, tk_BadPlace_Fallen := tk_BadPlace_Fallen, ki_BadPlace_Fallen := ki_BadPlace_Fallen, tk_BadPlace_BadText := tk_BadPlace_BadText, ki_BadPlace_BadText := ki_BadPlace_BadText, xc_BadWays := ⟨⟨xe_BadWays, xk_BadWays⟩, ⟨xq0_BadWays, xq1_BadWays, xq2_BadWays⟩⟩, m_BadWays := PySem.W.mg_of X G aC_BadWays, kv_BadWays := kv_BadWays, tk_BadWays_BridgeError := tk_BadWays_BridgeError, ki_BadWays_BridgeError := ki_BadWays_BridgeError, tk_BadWays_BadWorld := tk_BadWays_BadWorld, ki_BadWays_BadWorld := ki_BadWays_BadWorld, tk_BadWays_BadLetter := tk_BadWays_BadLetter, ki_BadWays_BadLetter := ki_BadWays_BadLetter, tk_BadWays_BadPlace := tk_BadWays_BadPlace, ki_BadWays_BadPlace := ki_BadWays_BadPlace, tk_BadWays_BadWays := tk_BadWays_BadWays, ki_BadWays_BadWays := ki_BadWays_BadWays, tk_BadWays_Cut := tk_BadWays_Cut, ki_BadWays_Cut := ki_BadWays_Cut, tk_BadWays_Fallen := tk_BadWays_Fallen, ki_BadWays_Fallen := ki_BadWays_Fallen, tk_BadWays_BadText := tk_BadWays_BadText, ki_BadWays_BadText := ki_BadWays_BadText, xc_Cut := ⟨⟨xe_Cut, xk_Cut⟩, ⟨xq0_Cut, xq1_Cut, xq2_Cut⟩⟩, m_Cut := PySem.W.mg_of X G aC_Cut, kv_Cut := kv_Cut, tk_Cut_BridgeError := tk_Cut_BridgeError, ki_Cut_BridgeError := ki_Cut_BridgeError, tk_Cut_BadWorld := tk_Cut_BadWorld, ki_Cut_BadWorld := ki_Cut_BadWorld, tk_Cut_BadLetter := tk_Cut_BadLetter, ki_Cut_BadLetter := ki_Cut_BadLetter, tk_Cut_BadPlace := tk_Cut_BadPlace, ki_Cut_BadPlace := ki_Cut_BadPlace, tk_Cut_BadWays := tk_Cut_BadWays, ki_Cut_BadWays := ki_Cut_BadWays, tk_Cut_Cut := tk_Cut_Cut, ki_Cut_Cut := ki_Cut_Cut, tk_Cut_Fallen := tk_Cut_Fallen, ki_Cut_Fallen := ki_Cut_Fallen, tk_Cut_BadText := tk_Cut_BadText, ki_Cut_BadText := ki_Cut_BadText, xc_Fallen := ⟨⟨xe_Fallen, xk_Fallen⟩, ⟨xq0_Fallen, xq1_Fallen, xq2_Fallen⟩⟩, m_Fallen := PySem.W.mg_of X G aC_Fallen, kv_Fallen := kv_Fallen, tk_Fallen_BridgeError := tk_Fallen_BridgeError, ki_Fallen_BridgeError := ki_Fallen_BridgeError, tk_Fallen_BadWorld := tk_Fallen_BadWorld, ki_Fallen_BadWorld := ki_Fallen_BadWorld, tk_Fallen_BadLetter := tk_Fallen_BadLetter, ki_Fallen_BadLetter := ki_Fallen_BadLetter, tk_Fallen_BadPlace := tk_Fallen_BadPlace, ki_Fallen_BadPlace := ki_Fallen_BadPlace, tk_Fallen_BadWays := tk_Fallen_BadWays, ki_Fallen_BadWays := ki_Fallen_BadWays, tk_Fallen_Cut := tk_Fallen_Cut, ki_Fallen_Cut := ki_Fallen_Cut, tk_Fallen_Fallen := tk_Fallen_Fallen, ki_Fallen_Fallen := ki_Fallen_Fallen, tk_Fallen_BadText := tk_Fallen_BadText, ki_Fallen_BadText := ki_Fallen_BadText, g_ROWS := PySem.W.mg_of X G g_ROWS, g_OVER := PySem.W.mg_of X G g_OVER, g_BACK := PySem.W.mg_of X G g_BACK, b_ValueError := PySem.W.mg_none_of X G b_ValueError, b_abs := PySem.W.mg_none_of X G b_abs, b_all := PySem.W.mg_none_of X G b_all, b_bool := PySem.W.mg_none_of X G b_bool, b_enumerate := PySem.W.mg_none_of X G b_enumerate, b_int := PySem.W.mg_none_of X G b_int, b_isinstance := PySem.W.mg_none_of X G b_isinstance, b_len := PySem.W.mg_none_of X G b_len, b_list := PySem.W.mg_none_of X G b_list, b_range := PySem.W.mg_none_of X G b_range, b_str := PySem.W.mg_none_of X G b_str, b_super := PySem.W.mg_none_of X G b_super, b_tuple := PySem.W.mg_none_of X G b_tuple }
theorem tx_end {K : PySem.W.Frag} {mg : Str → Option Value} {h : Heap} {f : Addr} {fd : FuncData} (hh : ∃ a : Adr, Txt K mg a ∧ a.f_law = f ∧ a.d_law = fd ∧ PySem.W.TabsAt [(a.k_law, a.p_law)] h) (hb : ∀ (s : Shared) (u : Value), BindsTo s fd ⟨[u], []⟩ [("_law_script", u)]) :
    ∃ a : Adr, Txt K mg a ∧ (∃ fd, a.d_law = fd ∧ ∀ (s : Shared) (u : Value), BindsTo s fd ⟨[u], []⟩ [("_law_script", u)]) ∧ PySem.W.TabsAt [(a.k_law, a.p_law)] h := by
  obtain ⟨a, T, _, e, tt⟩ := hh
  exact ⟨a, T, ⟨fd, e, hb⟩, tt⟩
section
variable {P : Program} {w : World} {K : PySem.W.Frag} {mg : Str → Option Value} {base : Heap} {a : Adr} [ProgOk P]
/-! ### is_whole -/
def sp_is_whole : Sp := fun vs H Q _ => ∃ x t, vs = [x] ∧ TyS H x t ∧ Q (.bl (decide (t = "int"))) H
theorem sc_is_whole : FnScope ["value"] ["value"] (defScope s_is_whole) := ⟨rfl, rfl, rfl, by decide +kernel, rfl, by decide +kernel, by decide +kernel⟩
set_option maxHeartbeats 4000000 in
theorem ok_is_whole (T : Txt K mg a) : FnOk P w K mg base CX0 1 a.f_is_whole a.d_is_whole ["value"] (sp_is_whole) := by
  refine T.F_is_whole.ok sc_is_whole (fun vs H Q E h => ?_) (fun cdv A outer s H vs Q E hr h => ?_)
  · obtain ⟨x, t, rfl, ty, k⟩ := h
    rfl
  · obtain ⟨x, t, rfl, ty, k⟩ := h
    have hu := hu_of hr
    refine ⟨_, (pss_one (ps_ret (pe_and (pe_callB cr_isi (by rfl) T.b_isinstance (by decide +kernel) (pa_cons (pv 0) (pa_cons (pe_bltn (v := .ty "int") (by rfl) T.b_int (by decide +kernel) rfl) pa_nil))) (pe_one (pe_not (pe_callB cr_isi (by rfl) T.b_isinstance (by decide +kernel) (pa_cons (pv 0) (pa_cons (pe_bltn (v := .ty "bool") (by rfl) T.b_bool (by decide +kernel) rfl) pa_nil)))))))), ?_⟩
    refine ⟨_, rfl, x, "int", t, rfl, ty, by simp [asked], _, rfl, ?_⟩
    have ht := ty.mem
    simp only [kinds, List.mem_cons, List.not_mem_nil, or_false] at ht
    rcases ht with rfl | rfl | rfl | rfl | rfl | rfl | rfl
    all_goals first
      | (refine iteF ?_; exact k)
      | (refine iteT ?_; refine ⟨_, rfl, x, "bool", _, rfl, ty, by simp [asked], _, rfl, ?_⟩; exact k)
/-! ### is_between -/
def sp_is_between : Sp := fun vs H Q _ => ∃ x t lo hi, vs = [x, .int lo, .int hi] ∧ TyS H x t ∧ Q (.bl (inR x lo hi)) H
theorem sc_is_between : FnScope ["value", "low", "high"] ["value", "low", "high"] (defScope s_is_between) := ⟨rfl, rfl, rfl, by decide +kernel, rfl, by decide +kernel, by decide +kernel⟩
set_option maxHeartbeats 4000000 in
theorem ok_is_between (T : Txt K mg a) : FnOk P w K mg base CX0 2 a.f_is_between a.d_is_between ["value", "low", "high"] (sp_is_between) := by
  refine T.F_is_between.ok sc_is_between (fun vs H Q E h => ?_) (fun cdv A outer s H vs Q E hr h => ?_)
  · obtain ⟨x, t, lo, hi, rfl, ty, k⟩ := h
    rfl
  · obtain ⟨x, t, lo, hi, rfl, ty, k⟩ := h
    have hu := hu_of hr
    refine ⟨_, (pss_one (ps_ret (pe_and (pe_call (ok_is_whole (P := P) (w := w) (base := base) T ) (hr.mono (by decide)) (by rfl) T.m_is_whole T.F_is_whole.kp T.B_is_whole .nil pass0 (pa_cons (pv 0) pa_nil)) (pe_one (pe_chain op_le op_le (pv 1) (pv 0) (pv 2)))))), ?_⟩
    refine ⟨_, rfl, x, t, rfl, ty, _, rfl, ?_⟩
    cases ty with
    | int i =>
      refine iteT ?_
      refine ⟨_, rfl, _, rfl, _, _, rfl, rfl, _, rfl, ?_⟩
      refine ite2 (fun h => ?_) (fun h => ?_)
      · refine ⟨_, rfl, _, _, rfl, rfl, ?_⟩
        have e : inR (.int i) lo hi = decide (i ≤ hi) := by simp only [inR, h, Bool.true_and]
        rw [e] at k
        exact k
      · have e : inR (.int i) lo hi = false := by simp only [inR, Bool.eq_false_iff.mpr h, Bool.false_and]
        rw [e] at k
        exact k
    | non => refine iteF ?_; exact k
    | bl x => refine iteF ?_; exact k
    | str x => refine iteF ?_; exact k
    | lst e => refine iteF ?_; exact k
    | frz e => refine iteF ?_; exact k
    | tup e => refine iteF ?_; exact k
    | dK e => refine iteF ?_; exact k
    | dT e => refine iteF ?_; exact k
/-! ### is_row -/
def sp_is_row : Sp := fun vs H Q _ => ∃ x t, vs = [x] ∧ TyS H x t ∧ Q (.bl (inR x 0 5)) H
theorem sc_is_row : FnScope ["row"] ["row"] (defScope s_is_row) := ⟨rfl, rfl, rfl, by decide +kernel, rfl, by decide +kernel, by decide +kernel⟩
set_option maxHeartbeats 4000000 in
theorem ok_is_row (T : Txt K mg a) : FnOk P w K mg base CX0 3 a.f_is_row a.d_is_row ["row"] (sp_is_row) := by
  refine T.F_is_row.ok sc_is_row (fun vs H Q E h => ?_) (fun cdv A outer s H vs Q E hr h => ?_)
  · obtain ⟨x, t, rfl, ty, k⟩ := h
    rfl
  · obtain ⟨x, t, rfl, ty, k⟩ := h
    have hu := hu_of hr
    refine ⟨_, (pss_one (ps_ret (pe_call (ok_is_between (P := P) (w := w) (base := base) T ) (hr.mono (by decide)) (by rfl) T.m_is_between T.F_is_between.kp T.B_is_between .nil pass0 (pa_cons (pv 0) (pa_cons pe_int (pa_cons (pe_op op_sub (pe_glob (v := .int 6) (by rfl) T.g_ROWS ⟨_, rfl⟩) pe_int) pa_nil)))))), ?_⟩
    exact ⟨_, rfl, _, _, rfl, rfl, x, t, _, _, rfl, ty, k⟩
/-! ### is_way!B -/
def spB_is_way : Sp := fun vs H Q _ => ∃ p xs, vs = [.ref p] ∧ H p = some (.tup xs) ∧ xs.all scalV = true ∧ ∀ H', Same H H' → Q (.bl (wayV xs)) H'
theorem sc_is_way__B : FnScope ["way", "word", "start", "goal"] ["way"] (defScope s_is_way) := ⟨rfl, rfl, rfl, by decide +kernel, rfl, by decide +kernel, by decide +kernel⟩
set_option maxHeartbeats 4000000 in
theorem ok_is_way__B (T : Txt K mg a) : FnOk P w K mg base CX0 4 a.f_is_way a.d_is_way ["way"] (spB_is_way) := by
  refine T.F_is_way.ok sc_is_way__B (fun vs H Q E h => ?_) (fun cdv A outer s H vs Q E hr h => ?_)
  · obtain ⟨t, xs, rfl, ht, sc, k⟩ := h
    rfl
  · obtain ⟨t, xs, rfl, ht, sc, k⟩ := h
    have hu := hu_of hr
    refine ⟨_, (pss_cons (ps_if (PW.pt (pw_or (pt_not (pt_val (pe_callB cr_isi (by rfl) T.b_isinstance (by decide +kernel) (pa_cons (pv 0) (pa_cons (pe_bltn (v := .ty "tuple") (by rfl) T.b_tuple (by decide +kernel) rfl) pa_nil))))) (pw_or1 (pt_cmpR op_ne (pe_callB call_len_seq (by rfl) T.b_len (by decide +kernel) (pa_cons (pv 0) pa_nil)) pe_int (nomark _))))) (pss_one (ps_ret pe_bl)) pss_nil)
      (pss_cons (ps_asg (pv 0) (pg_tup (by rfl) (pgs_cons (pg_name (i := 1) sc_is_way__B.nd rfl (by first | exact Or.inl rfl | exact Or.inr rfl)) (pgs_cons (pg_name (i := 2) sc_is_way__B.nd rfl (by first | exact Or.inl rfl | exact Or.inr rfl)) (pgs_cons (pg_name (i := 3) sc_is_way__B.nd rfl (by first | exact Or.inl rfl | exact Or.inr rfl)) pgs_nil)))))
      (pss_one (ps_ret (pe_and (pe_cmpR op_in_seq (pv 1) (pe_tup (pa_cons (pe_glob (v := .str "over") (by rfl) T.g_OVER ⟨_, rfl⟩) (pa_cons (pe_glob (v := .str "back") (by rfl) T.g_BACK ⟨_, rfl⟩) pa_nil))) (by rfl)) (pe_and (pe_call (ok_is_row (P := P) (w := w) (base := base) T ) (hr.mono (by decide)) (by rfl) T.m_is_row T.F_is_row.kp T.B_is_row .nil pass0 (pa_cons (pv 2) pa_nil)) (pe_one (pe_call (ok_is_row (P := P) (w := w) (base := base) T ) (hr.mono (by decide)) (by rfl) T.m_is_row T.F_is_row.kp T.B_is_row .nil pass0 (pa_cons (pv 3) pa_nil))))))))), ?_⟩
    refine ⟨_, rfl, _, "tuple", _, rfl, .tup ht, by simp [asked], _, rfl, ?_⟩
    refine iteF ?_
    refine ⟨_, rfl, t, _, rfl, .inr (SqT.of ht), rfl, _, rfl, ?_⟩
    by_cases e : xs.length = 3
    · refine itF (by simp [e]) ?_
      obtain ⟨x, y, z, rfl⟩ := len_three e
      simp only [List.all_cons, List.all_nil, Bool.and_true, Bool.and_eq_true] at sc
      refine ⟨_, rfl, t, _, rfl, SqT.of ht, rfl, _, _, rfl, _, _, rfl, _, _, rfl, rfl, ?_⟩
      refine ⟨_, rfl, sz_le (show 2 ≤ 1000000 by decide), fun p hp => ⟨p, _, rfl, .inr (SqT.of upd_same), scalV_flat sc.1, rfl, _, rfl, ?_⟩⟩
      have sp := Same.upd (o := .tup [.str "over", .str "back"]) hp
      refine ite2 (fun h => ?_) (fun h => ?_)
      · have h : inV x [.str "over", .str "back"] = true := h
        obtain ⟨t2, ty2⟩ := scalV_tyS sc.2.1 (upd H p (.tup [.str "over", .str "back"]))
        obtain ⟨t3, ty3⟩ := scalV_tyS sc.2.2 (upd H p (.tup [.str "over", .str "back"]))
        refine ⟨_, rfl, _, _, rfl, ty2, _, rfl, ?_⟩
        refine ite2 (fun h2 => ?_) (fun h2 => ?_)
        · refine ⟨_, rfl, _, _, rfl, ty3, ?_⟩
          have e : wayV [x, y, z] = inR z 0 5 := by simp only [wayV, h, h2, Bool.true_and]
          have k := k _ sp
          rw [e] at k; exact k
        · have e : wayV [x, y, z] = false := by simp only [wayV, Bool.eq_false_iff.mpr h2, Bool.false_and, Bool.and_false]
          have k := k _ sp
          rw [e] at k; exact k
      · have h : inV x [.str "over", .str "back"] = false := Bool.eq_false_iff.mpr h
        have e : wayV [x, y, z] = false := by simp only [wayV, h, Bool.false_and]
        have k := k _ sp
        rw [e] at k; exact k
    · refine itT (len_ne1 e) ?_
      have k := k H (Same.refl H)
      rw [wayV_len e] at k
      exact k
/-! ### check_each!B -/
def spB_check_each (a : Adr) : Sp := fun vs H Q E => ∃ l us xss, vs = [.ref l] ∧ H l = some (.lst us) ∧ Paired (TupV H) us xss ∧ us.length ≤ 15 ∧ (∀ xs ∈ xss, xs.all scalV = true) ∧
  (xss.all wayV = true → ∀ H', Same H H' → Q .non H') ∧ (xss.all wayV = false → ∀ H', Same H H' → E (.ref a.c_BadWays) none H')
theorem sc_check_each__B : FnScope ["ways", "way"] ["ways"] (defScope s_check_each) := ⟨rfl, rfl, rfl, by decide +kernel, rfl, by decide +kernel, by decide +kernel⟩
set_option maxHeartbeats 4000000 in
theorem ok_check_each__B (T : Txt K mg a) : FnOk P w K mg base (CX1 P w) 5 a.f_check_each a.d_check_each ["ways"] (spB_check_each a) := by
  refine T.F_check_each.okX sc_check_each__B (fun vs H Q E h => ?_) (fun cdv A outer s H vs Q E hr h => ?_)
  · obtain ⟨l, us, xss, rfl, hl, hx, lu, ib, k1, k2⟩ := h
    rfl
  · obtain ⟨l, us, xss, rfl, hl, hx, lu, ib, k1, k2⟩ := h
    have hu := hu_of hr
    refine ⟨_, (pss_cons (ps_if (pt_not (pt_val (pe_callB cr_isi (by rfl) T.b_isinstance (by decide +kernel) (pa_cons (pv 0) (pa_cons (pe_bltn (v := .ty "list") (by rfl) T.b_list (by decide +kernel) rfl) pa_nil))))) (pss_one (ps_raise T.xc_BadWays.x PySem.F.excBase_ValueError (by decide +kernel) (by rfl) T.m_BadWays (pa_cons pe_str pa_nil))) pss_nil)
      (pss_one (ps_if (pt_truth (pe_lc (own := [("way", 1)]) (g := gName 1) (by rfl) sc_check_each__B.nd (pi_list (pv 0)) (blkOk_by (own := [("way", 1)]) (N := ["ways", "way"]) (sc := defScope s_check_each) (by decide +kernel)) (fun _ _ _ _ _ => pg_name (i := 1) sc_check_each__B.nd rfl (Or.inl rfl)) (fun _ _ _ _ _ => pts_one (pt_not (pt_val (pe_call (ok_is_way__B (P := P) (w := w) (base := base) T ) (hr.mono (by decide)) (by rfl) T.m_is_way T.F_is_way.kp T.B_is_way .nil pass0 (pa_cons (pv 1) pa_nil))))) (fun _ _ _ _ _ => (pv 1))) (by intro _; rfl)) (pss_one (ps_raise T.xc_BadWays.x PySem.F.excBase_ValueError (by decide +kernel) (by rfl) T.m_BadWays (pa_cons pe_str pa_nil))) pss_nil))), ?_⟩
    refine ⟨_, rfl, _, "list", _, rfl, .lst hl, by simp [asked], _, rfl, iteF ?_⟩
    have lx := Paired.lenP hx
    refine ⟨_, rfl, l, rfl, ⟨_, SqL.of hl⟩, fun D hD => lc_list (K := K) (a := l) (xs := us) (fun i H' => Same H H' ∧ ∃ acc, H' D = some (.lst acc) ∧ acc.length ≤ i ∧ acc.isEmpty = (xss.take i).all wayV) ⟨Same.upd hD, [], upd_same, by simp, by simp⟩ (fun j H' _ z => SqL.of (z.1 _ _ hl)) ?_ ?_⟩
    · rintro j x H' hj ⟨sm, acc, hD', la, ea⟩
      obtain ⟨xs, hx1, t, rfl, ht⟩ := Paired.getP hx hj
      have hjl := (List.getElem?_eq_some_iff.mp hj).1
      have e : xss.take (j + 1) = xss.take j ++ [xs] := by rw [List.take_succ, hx1]; rfl
      refine ⟨rfl, _, rfl, t, xs, rfl, sm _ _ ht, ib xs (List.mem_of_getElem? hx1), fun H2 s2 => ⟨_, rfl, ?_⟩⟩
      cases en : wayV xs with
      | true => exact iteF ⟨sm.trans s2, acc, s2 _ _ hD', by omega, by rw [e, List.all_append]; simp [ea, en]⟩
      | false =>
        refine iteT ⟨_, rfl, acc, s2 _ _ hD', sz_lt (by omega), fun b o hb => ?_, acc ++ [.ref t], upd_same, by simp; omega, by rw [e, List.all_append]; simp [en]⟩
        rw [upd_ne (ne_of_none hb hD)]; exact s2 _ _ (sm _ _ hb)
    · rintro H' ⟨sm, acc, hD', la, ea⟩
      rw [lx, List.take_length] at ea
      refine ⟨_, .inl ⟨_, SqL.of hD', rfl⟩, ?_⟩
      rw [ea]
      cases en : xss.all wayV with
      | true => exact iteF (k1 en _ sm)
      | false => exact iteT ⟨sz_le (by decide), k2 en _ sm⟩
/-! ### written -/
def sp_written (a : Adr) : Sp := fun vs H Q E => ∃ l us xss, vs = [.ref l] ∧ H l = some (.lst us) ∧ Paired (TupV H) us xss ∧ us.length ≤ 15 ∧ (∀ xs ∈ xss, xs.all scalV = true) ∧
  (∀ ws, xss = ws.map wyV → okW ws → ∀ H', Same H H' → Q (.str (txtW ws)) H') ∧ (xss.all wayV = false → ∀ H', Same H H' → E (.ref a.c_BadWays) none H')
theorem sc_written : FnScope ["ways", "word", "start", "goal"] ["ways"] (defScope s_written) := ⟨rfl, rfl, rfl, by decide +kernel, rfl, by decide +kernel, by decide +kernel⟩
set_option maxHeartbeats 4000000 in
theorem ok_written (T : Txt K mg a) : FnOk P w K mg base (CX1 P w) 6 a.f_written a.d_written ["ways"] (sp_written a) := by
  refine T.F_written.okX sc_written (fun vs H Q E h => ?_) (fun cdv A outer s H vs Q E hr h => ?_)
  · obtain ⟨l, us, xss, rfl, hl, hx, lu, ib, k1, k2⟩ := h
    rfl
  · obtain ⟨l, us, xss, rfl, hl, hx, lu, ib, k1, k2⟩ := h
    have hu := hu_of hr
    refine ⟨_, (@pss_cons _ _ _ _ _ (@ps_expr _ _ _ _ (@pe_call _ _ _ _ _ _ _ _ _ _ _ _ _ _ _ _ (ok_check_each__B (P := P) (w := w) (base := base) T) (hr.mono (by decide)) (by rfl) T.m_check_each T.F_check_each.kp T.B_check_each .nil pass1 (@pa_cons _ _ _ _ _ (@pv _ 0 _ _ (by rfl) (by first | exact Or.inl rfl | exact Or.inr (Or.inl rfl) | exact Or.inr (Or.inr rfl)) (by decide) (by decide)) (@pa_nil _) (by rfl)) (by decide) (by rfl) (by rfl)) (by rfl)) (@pss_one _ _ _ (@ps_ret _ _ _ _ (@pe_bm _ _ _ _ _ _ _ _ _ _ _ _ PySem.F.plainAttrs_str PySem.F.slot_str_join PySem.F.type_str_join mt_join (@pe_str _ _ _ _) (@pa_cons _ _ _ _ _ (@pe_lc _ _ _ _ _ _ ([("word", 1), ("start", 2), ("goal", 3)]) _ _ (gTup K 3 (gCons (gName 1) (gCons (gName 2) (gCons (gName 3) gNil)))) _ _ (by rfl) sc_written.nd (@pi_list _ _ _ _ (@pv _ 0 _ _ (by rfl) (by first | exact Or.inl rfl | exact Or.inr (Or.inl rfl) | exact Or.inr (Or.inr rfl)) (by decide) (by decide))) (blkOk_by (own := [("word", 1), ("start", 2), ("goal", 3)]) (N := ["ways", "word", "start", "goal"]) (sc := defScope s_written) (by decide +kernel)) (fun _ _ _ _ _ => @pg_tup _ _ _ _ _ _ (by rfl) (@pgs_cons _ _ _ _ _ (@pg_name _ _ (1) _ sc_written.nd rfl (Or.inl rfl) (by first | exact .inl rfl | exact .inr rfl | assumption)) (@pgs_cons _ _ _ _ _ (@pg_name _ _ (2) _ sc_written.nd rfl (Or.inl rfl) (by first | exact .inl rfl | exact .inr rfl | assumption)) (@pgs_cons _ _ _ _ _ (@pg_name _ _ (3) _ sc_written.nd rfl (Or.inl rfl) (by first | exact .inl rfl | exact .inr rfl | assumption)) (@pgs_nil _) (by rfl)) (by rfl)) (by rfl)) (by rfl) (by rfl)) (fun _ _ _ _ _ => @pts_nil _) (fun _ _ _ _ _ => (@pe_fstr _ _ _ _ _ _ (pj_fmt (@pv _ 1 _ _ (by rfl) (by first | exact Or.inl rfl | exact Or.inr (Or.inl rfl) | exact Or.inr (Or.inr rfl)) (by decide) (by decide)) (pj_str (pj_fmt (@pv _ 2 _ _ (by rfl) (by first | exact Or.inl rfl | exact Or.inr (Or.inl rfl) | exact Or.inr (Or.inr rfl)) (by decide) (by decide)) (pj_str (pj_fmt (@pv _ 3 _ _ (by rfl) (by first | exact Or.inl rfl | exact Or.inr (Or.inl rfl) | exact Or.inr (Or.inr rfl)) (by decide) (by decide)) pj_nil))))))) (by intro _; rfl)) (@pa_nil _) (by rfl)) (by rfl) (by rfl) (by rfl) (by rfl) (by rfl))))), ?_⟩
    refine ⟨_, rfl, l, us, xss, rfl, hl, hx, lu, ib, fun good H1 s1 => ?_, fun bad H1 s1 => k2 bad H1 s1⟩
    obtain ⟨ws, rfl, okw⟩ := ways_form17 good ib
    have hl1 := s1 _ _ hl
    have hx1 := Paired.mapP hx fun v xs z => (let ⟨t, a, b⟩ := z; ⟨t, a, s1 _ _ b⟩ : TupV H1 v xs)
    have lx := Paired.lenP hx1
    rw [List.length_map] at lx
    refine ⟨rfl, _, rfl, l, rfl, ⟨_, SqL.of hl1⟩, fun D hD => lc_list (K := K) (a := l) (xs := us) (fun i H' => Same H1 H' ∧ H' D = some (.lst (((ws.take i).map lineW).map V.str))) ⟨Same.upd hD, upd_same⟩ (fun i H' _ z => SqL.of (z.1 _ _ hl1)) ?_ ?_⟩
    · rintro j v H' hj ⟨sm, hD'⟩
      obtain ⟨xs, hxs, t, rfl, ht⟩ := Paired.getP hx1 hj
      rw [List.getElem?_map] at hxs
      obtain ⟨w, hw, rfl⟩ := Option.map_eq_some_iff.mp hxs
      have jl := (List.getElem?_eq_some_iff.mp hw).1
      have ow := okw w (List.mem_of_getElem? hw)
      have h8 := (line_ok ow).2.2.1
      have l0 : Str.empty.length = 0 := rfl
      unfold lineW at h8
      simp only [PySem.strLen_append] at h8
      refine ⟨t, _, rfl, SqT.of (sm _ _ ht), rfl, _, _, rfl, _, _, rfl, _, _, rfl, rfl, rfl, tYesT ⟨_, rfl, wyS w.1, .inl rfl, sz_le (by omega), sz_le (by simp only [PySem.strLen_append]; omega), sz_le (by simp only [PySem.strLen_append]; omega), _, rfl, numS w.2.1, .inr ⟨_, rfl, small_log (by omega), rfl⟩, sz_le (by omega), sz_le (by simp only [PySem.strLen_append]; omega), sz_le (by simp only [PySem.strLen_append]; omega), _, rfl, numS w.2.2, .inr ⟨_, rfl, small_log (by omega), rfl⟩, sz_le (by omega), sz_le (by simp only [PySem.strLen_append]; omega), sz_le (by simp only [PySem.strLen_append]; omega), _, hD', sz_lt (by simp; omega), fun b o hb => ?_, ?_⟩⟩
      · rw [upd_ne (ne_of_none hb hD)]; exact sm _ _ hb
      · rw [upd_same, List.take_succ, hw, List.map_append, List.map_append]; rfl
    · rintro H2 ⟨s2, hD2⟩
      rw [lx, List.take_length] at hD2
      have hs := sum_lines okw
      refine ⟨_, D, ws.map lineW, rfl, rfl, .inl (SqL.of hD2), ?_, ?_⟩
      · rw [hs, List.length_map, show (Str.ofString "\n").length = 1 from by decide +kernel]; omega
      · exact k1 ws rfl okw _ (s1.trans s2)
/-! ### read_way -/
def sp_read_way (a : Adr) : Sp := fun vs H Q E => ∃ z, ∃ n : Nat, vs = [.str z, .int (n : Int)] ∧ z.length ≤ 100000 ∧ n ≤ 100000 ∧
  (∀ w, parseW z = some w → ∀ t H', Same H H' → H' t = some (.tup (wyV w)) → Q (.ref t) H') ∧ (parseW z = none → ∀ dA H', Same H H' → H dA = none → H' dA = some (.xd [("row", .int (n : Int))]) → E (.ref a.c_BadText) (some dA) H')
theorem sc_read_way : FnScope ["row", "number", "parts", "digits", "digit"] ["row", "number"] (defScope s_read_way) := ⟨rfl, rfl, rfl, by decide +kernel, rfl, by decide +kernel, by decide +kernel⟩
set_option maxHeartbeats 4000000 in
theorem ok_read_way (T : Txt K mg a) : FnOk P w K mg base (CX1 P w) 4 a.f_read_way a.d_read_way ["row", "number"] (sp_read_way a) := by
  refine T.F_read_way.okX sc_read_way (fun vs H Q E h => ?_) (fun cdv A outer s H vs Q E hr h => ?_)
  · obtain ⟨z, n, rfl, hz, hn, k1, k2⟩ := h
    rfl
  · obtain ⟨z, n, rfl, hz, hn, k1, k2⟩ := h
    have hu := hu_of hr
    refine ⟨_, (@pss_cons _ _ _ _ _ (@ps_set _ _ (2) _ _ _ _ sc_read_way.nd rfl (by first | exact Or.inl rfl | exact Or.inr rfl) (@pe_bm _ _ _ _ _ _ _ _ _ _ _ _ PySem.F.plainAttrs_str PySem.F.slot_str_split PySem.F.type_str_split mt_split (@pv _ 0 _ _ (by rfl) (by first | exact Or.inl rfl | exact Or.inr (Or.inl rfl) | exact Or.inr (Or.inr rfl)) (by decide) (by decide)) (@pa_cons _ _ _ _ _ (@pe_str _ _ _ _) (@pa_nil _) (by rfl)) (by rfl) (by rfl) (by rfl) (by rfl) (by rfl)) (by rfl) (by first | exact .inl rfl | exact .inr rfl | assumption)) (@pss_cons _ _ _ _ _ (@ps_if _ _ _ _ _ _ _ _ (@PW.pt _ _ _ (@pw_or _ _ _ _ _ _ _ (@pt_cmpR _ _ _ _ _ _ _ _ op_ne (@pe_callB _ _ _ _ _ _ _ _ _ call_len_seq (by rfl) T.b_len (by decide +kernel) (@pa_cons _ _ _ _ _ (@pv _ 2 _ _ (by rfl) (by first | exact Or.inl rfl | exact Or.inr (Or.inl rfl) | exact Or.inr (Or.inr rfl)) (by decide) (by decide)) (@pa_nil _) (by rfl)) (by decide) (by decide) (by rfl) (by rfl)) (@pe_int _ _ _ _) (nomark _)) (@pw_or1 _ _ _ _ (@pt_cmpR _ _ _ _ _ _ _ _ op_notIn_seq (@pe_ix _ _ _ _ _ _ _ ix_list (@pv _ 2 _ _ (by rfl) (by first | exact Or.inl rfl | exact Or.inr (Or.inl rfl) | exact Or.inr (Or.inr rfl)) (by decide) (by decide)) (@pe_int _ _ _ _) (fun _ _ => rfl)) (@pe_tup _ _ _ _ _ (@pa_cons _ _ _ _ _ (@pe_glob _ _ (.str "over") _ _ (by rfl) T.g_OVER ⟨_, rfl⟩ (by decide)) (@pa_cons _ _ _ _ _ (@pe_glob _ _ (.str "back") _ _ (by rfl) T.g_BACK ⟨_, rfl⟩ (by decide)) (@pa_nil _) (by rfl)) (by rfl))) (by rfl))))) (@pss_one _ _ _ (@ps_raiseI _ _ _ _ _ _ _ _ _ _ (T.ic_BadText P inferInstance) (hr.mono (by decide)) (by rfl) T.m_BadText (@pa_cons _ _ _ _ _ (@pv _ 1 _ _ (by rfl) (by first | exact Or.inl rfl | exact Or.inr (Or.inl rfl) | exact Or.inr (Or.inr rfl)) (by decide) (by decide)) (@pa_nil _) (by rfl)) (by decide) (by rfl))) (@pss_nil _)) (@pss_cons _ _ _ _ _ (@ps_setLc _ (3) _ _ _ _ _ _ _ ([("digit", 4)]) _ _ _ (gName 4) _ _ (by rfl) sc_read_way.nd rfl rfl (sw_true rfl rfl rfl (by decide +kernel)) (@pi_range1 _ _ _ _ _ _ (by rfl) T.b_range (@pa_cons _ _ _ _ _ (@pe_glob _ _ (.int 6) _ _ (by rfl) T.g_ROWS ⟨_, rfl⟩ (by decide)) (@pa_nil _) (by rfl)) (by rfl)) (blkOk_by (own := [("digit", 4)]) (N := ["row", "number", "parts", "digits", "digit"]) (sc := defScope s_read_way) (by decide +kernel)) (fun _ _ _ _ _ => @pg_name _ _ (4) _ sc_read_way.nd rfl (Or.inl rfl) (by first | exact .inl rfl | exact .inr rfl | assumption)) (fun _ _ _ _ _ => @pts_nil _) (fun _ _ _ _ _ => (@pe_callTy _ _ _ _ _ _ _ _ _ call_str_int (by rfl) T.b_str (by decide +kernel) (@pa_cons _ _ _ _ _ (@pv _ 4 _ _ (by rfl) (by first | exact Or.inl rfl | exact Or.inr (Or.inl rfl) | exact Or.inr (Or.inr rfl)) (by decide) (by decide)) (@pa_nil _) (by rfl)) (by decide) (by decide) (by rfl) (by rfl))) (by intro _; rfl)) (@pss_cons _ _ _ _ _ (@ps_if _ _ _ _ _ _ _ _ (@PW.pt _ _ _ (@pw_or _ _ _ _ _ _ _ (@pt_cmpR _ _ _ _ _ _ _ _ op_notIn_seq (@pe_ix _ _ _ _ _ _ _ ix_list (@pv _ 2 _ _ (by rfl) (by first | exact Or.inl rfl | exact Or.inr (Or.inl rfl) | exact Or.inr (Or.inr rfl)) (by decide) (by decide)) (@pe_int _ _ _ _) (fun _ _ => rfl)) (@pv _ 3 _ _ (by rfl) (by first | exact Or.inl rfl | exact Or.inr (Or.inl rfl) | exact Or.inr (Or.inr rfl)) (by decide) (by decide)) (by rfl)) (@pw_or1 _ _ _ _ (@pt_cmpR _ _ _ _ _ _ _ _ op_notIn_seq (@pe_ix _ _ _ _ _ _ _ ix_list (@pv _ 2 _ _ (by rfl) (by first | exact Or.inl rfl | exact Or.inr (Or.inl rfl) | exact Or.inr (Or.inr rfl)) (by decide) (by decide)) (@pe_int _ _ _ _) (fun _ _ => rfl)) (@pv _ 3 _ _ (by rfl) (by first | exact Or.inl rfl | exact Or.inr (Or.inl rfl) | exact Or.inr (Or.inr rfl)) (by decide) (by decide)) (by rfl))))) (@pss_one _ _ _ (@ps_raiseI _ _ _ _ _ _ _ _ _ _ (T.ic_BadText P inferInstance) (hr.mono (by decide)) (by rfl) T.m_BadText (@pa_cons _ _ _ _ _ (@pv _ 1 _ _ (by rfl) (by first | exact Or.inl rfl | exact Or.inr (Or.inl rfl) | exact Or.inr (Or.inr rfl)) (by decide) (by decide)) (@pa_nil _) (by rfl)) (by decide) (by rfl))) (@pss_nil _)) (@pss_one _ _ _ (@ps_ret _ _ _ _ (@pe_tup _ _ _ _ _ (@pa_cons _ _ _ _ _ (@pe_ix _ _ _ _ _ _ _ ix_list (@pv _ 2 _ _ (by rfl) (by first | exact Or.inl rfl | exact Or.inr (Or.inl rfl) | exact Or.inr (Or.inr rfl)) (by decide) (by decide)) (@pe_int _ _ _ _) (fun _ _ => rfl)) (@pa_cons _ _ _ _ _ (@pe_callTy _ _ _ _ _ _ _ _ _ call_int_str (by rfl) T.b_int (by decide +kernel) (@pa_cons _ _ _ _ _ (@pe_ix _ _ _ _ _ _ _ ix_list (@pv _ 2 _ _ (by rfl) (by first | exact Or.inl rfl | exact Or.inr (Or.inl rfl) | exact Or.inr (Or.inr rfl)) (by decide) (by decide)) (@pe_int _ _ _ _) (fun _ _ => rfl)) (@pa_nil _) (by rfl)) (by decide) (by decide) (by rfl) (by rfl)) (@pa_cons _ _ _ _ _ (@pe_callTy _ _ _ _ _ _ _ _ _ call_int_str (by rfl) T.b_int (by decide +kernel) (@pa_cons _ _ _ _ _ (@pe_ix _ _ _ _ _ _ _ ix_list (@pv _ 2 _ _ (by rfl) (by first | exact Or.inl rfl | exact Or.inr (Or.inl rfl) | exact Or.inr (Or.inr rfl)) (by decide) (by decide)) (@pe_int _ _ _ _) (fun _ _ => rfl)) (@pa_nil _) (by rfl)) (by decide) (by decide) (by rfl) (by rfl)) (@pa_nil _) (by rfl)) (by rfl)) (by rfl))))))))), ?_⟩
    refine ⟨_, rfl, rfl, _, _, rfl, rfl, (by decide +kernel), Nat.le_trans (show z.length + 2 ≤ 1000000 by omega) (Nat.le_of_lt line_ge0), fun p hp => ?_⟩
    have hsl := (split_len (x := z) (y := " ") (s := 32) (by decide +kernel) (by decide +kernel))
    have sp := Same.upd (o := .lst ((Txt.split z " ").map V.str)) hp
    have hpp : (upd H p (.lst ((Txt.split z " ").map V.str))) p = some (.lst ((Txt.split z " ").map V.str)) := upd_same
    have raise : ∀ H1, parseW z = none → Same H H1 → ∀ dA, H1 dA = none → E (.ref a.c_BadText) (some dA) (upd H1 dA (.xd [("row", .int (n : Int))])) := fun H1 e s1 dA hd => k2 e dA _ (s1.trans (Same.upd hd)) (s1.free hd) upd_same
    refine ⟨_, rfl, p, _, rfl, .inl (SqL.of hpp), rfl, _, rfl, ?_⟩
    rw [List.length_map]
    by_cases e : (Txt.split z " ").length = 3
    · refine itF (by simp [e]) ?_
      obtain ⟨w, x, y, e3⟩ := len_three e
      rw [e3] at hpp sp hsl ⊢
      generalize upd H p (.lst ([w, x, y].map V.str)) = H1 at hpp sp ⊢
      refine ⟨_, rfl, p, _, _, _, rfl, rfl, SqL.of hpp, at_of (j := 0) rfl rfl, sz_le (show 2 ≤ 1000000 by decide), fun q hq => ⟨q, _, rfl, .inr (SqT.of upd_same), rfl, rfl, _, rfl, ?_⟩⟩
      have sq := sp.trans (Same.upd (o := .tup [.str "over", .str "back"]) hq)
      have hpq := upd_old (o' := .tup [.str "over", .str "back"]) hpp hq
      generalize upd H1 q (.tup [.str "over", .str "back"]) = H2 at sq hpq ⊢
      have pe := parseW_of e3
      cases hw : wordV w with
      | none =>
        refine itT (by show (!inV (V.str w) _) = true; rw [wordV_in, hw]; rfl) ?_
        exact ⟨_, rfl, n, rfl, small_log (by omega), raise _ (by rw [pe, hw]; rfl) sq⟩
      | some i =>
        refine itF (by show (!inV (V.str w) _) = false; rw [wordV_in, hw]; rfl) ?_
        refine ⟨6, rfl, by decide, by decide, fun D hD => lc_range (lo := 0) (n := 6) (fun j H' => Same H2 H' ∧ H' D = some (.lst ((List.range j).map fun n => V.str (numS n)))) ⟨Same.upd hD, upd_same⟩ ?_ ?_⟩
        · rintro j H3 hj ⟨s3, hD3⟩
          refine ⟨rfl, tYesT ⟨_, rfl, _, rfl, ?_, _, hD3, sz_lt (by simp; omega), fun b o hb => ?_, ?_⟩⟩
          · rw [Int.zero_add]; exact small_log (by omega)
          · rw [upd_ne (ne_of_none hb hD)]; exact s3 _ _ hb
          · rw [upd_same, List.range_succ, List.map_append, Int.zero_add]; rfl
        · rintro H3 ⟨s3, hD3⟩
          have hp3 := s3 _ _ hpq
          have s13 := sq.trans s3
          have hD3 : H3 D = some (.lst digsV) := hD3
          refine ⟨_, rfl, p, _, _, _, rfl, rfl, SqL.of hp3, at_of (j := 1) rfl rfl, _, rfl, D, _, rfl, .inl (SqL.of hD3), rfl, digsV_flat, _, rfl, ?_⟩
          cases hx : digV x with
          | none =>
            refine itT (by show (!inV (V.str x) _) = true; rw [digsV_in, hx]; rfl) (iteT ?_)
            exact ⟨_, rfl, n, rfl, small_log (by omega), raise _ (by rw [pe, hw, hx]; rfl) s13⟩
          | some r =>
            refine itF (by show (!inV (V.str x) _) = false; rw [digsV_in, hx]; rfl) ?_
            refine ⟨_, rfl, p, _, _, _, rfl, rfl, SqL.of hp3, at_of (j := 2) rfl rfl, _, rfl, D, _, rfl, .inl (SqL.of hD3), rfl, digsV_flat, _, rfl, ?_⟩
            cases hy : digV y with
            | none =>
              refine itT (by show (!inV (V.str y) _) = true; rw [digsV_in, hy]; rfl) ?_
              exact ⟨_, rfl, n, rfl, small_log (by omega), raise _ (by rw [pe, hw, hx, hy]; rfl) s13⟩
            | some g =>
              refine itF (by show (!inV (V.str y) _) = false; rw [digsV_in, hy]; rfl) ?_
              obtain ⟨r6, rfl⟩ := digV_num hx
              obtain ⟨g6, rfl⟩ := digV_num hy
              obtain rfl := wordV_word hw
              refine ⟨_, rfl, p, _, _, _, rfl, rfl, SqL.of hp3, at_of (j := 0) rfl rfl, _, rfl, p, _, _, _, rfl, rfl, SqL.of hp3, at_of (j := 1) rfl rfl, _, _, rfl, (dig_all r r6).1, by rw [(dig_all r r6).2]; decide, _, rfl, p, _, _, _, rfl, rfl, SqL.of hp3, at_of (j := 2) rfl rfl, _, _, rfl, (dig_all g g6).1, by rw [(dig_all g g6).2]; decide, sz_le (show 3 ≤ 1000000 by decide), fun t ht => ?_⟩
              exact k1 (i, r, g) (by rw [pe, hw, hx, hy]; rfl) t _ (s13.trans (Same.upd ht)) upd_same
    · refine itT (len_ne1 e) (iteT ?_)
      exact ⟨_, rfl, n, rfl, small_log (by omega), raise _ (parseW_len e) sp⟩
/-! ### read -/
def sp_read (a : Adr) : Sp := fun vs H Q E => ∃ z, vs = [.str z] ∧ z.length ≤ 90000 ∧ (∀ ws, (rowsW z).map parseW = ws.map some → ∀ q us H', Same H H' → H q = none → H' q = some (.lst us) → WysAt H' us ws → Q (.ref q) H') ∧
  (∀ (n : Nat) row, (rowsW z)[n]? = some row → parseW row = none → (∀ m r, m < n → (rowsW z)[m]? = some r → parseW r ≠ none) → ∀ dA H', Same H H' → H dA = none → H' dA = some (.xd [("row", .int (n : Int))]) → E (.ref a.c_BadText) (some dA) H')
theorem sc_read : FnScope ["text", "number", "row"] ["text"] (defScope s_read) := ⟨rfl, rfl, rfl, by decide +kernel, rfl, by decide +kernel, by decide +kernel⟩
set_option maxHeartbeats 4000000 in
theorem ok_read (T : Txt K mg a) : FnOk P w K mg base (CX1 P w) 5 a.f_read a.d_read ["text"] (sp_read a) := by
  refine T.F_read.okX sc_read (fun vs H Q E h => ?_) (fun cdv A outer s H vs Q E hr h => ?_)
  · obtain ⟨z, rfl, hz, k1, k2⟩ := h
    rfl
  · obtain ⟨z, rfl, hz, k1, k2⟩ := h
    have hu := hu_of hr
    refine ⟨_, (@pss_cons _ _ _ _ _ (@ps_if _ _ _ _ _ _ _ _ (@pt_cmpR _ _ _ _ _ _ _ _ op_eq (@pv _ 0 _ _ (by rfl) (by first | exact Or.inl rfl | exact Or.inr (Or.inl rfl) | exact Or.inr (Or.inr rfl)) (by decide) (by decide)) (@pe_str _ _ _ _) (nomark _)) (@pss_one _ _ _ (@ps_ret _ _ _ _ (@pe_lst _ _ _ _ (@pa_nil _)))) (@pss_nil _)) (@pss_one _ _ _ (@ps_ret _ _ _ _ (@pe_lcX _ _ rfl rfl _ _ _ _ _ ([("number", 1), ("row", 2)]) _ _ (gTup K 2 (gCons (gName 1) (gCons (gName 2) gNil))) _ _ (by rfl) sc_read.nd (@pi_enum _ _ _ _ _ _ _ _ (by rfl) T.b_enumerate (@pa_cons _ _ _ _ _ (@pe_bm _ _ _ _ _ _ _ _ _ _ _ _ PySem.F.plainAttrs_str PySem.F.slot_str_split PySem.F.type_str_split mt_split (@pv _ 0 _ _ (by rfl) (by first | exact Or.inl rfl | exact Or.inr (Or.inl rfl) | exact Or.inr (Or.inr rfl)) (by decide) (by decide)) (@pa_cons _ _ _ _ _ (@pe_str _ _ _ _) (@pa_nil _) (by rfl)) (by rfl) (by rfl) (by rfl) (by rfl) (by rfl)) (@pa_nil _) (by rfl)) (by rfl)) (blkOk_by (own := [("number", 1), ("row", 2)]) (N := ["text", "number", "row"]) (sc := defScope s_read) (by decide +kernel)) (fun _ _ _ _ _ => @pg_tup _ _ _ _ _ _ (by rfl) (@pgs_cons _ _ _ _ _ (@pg_name _ _ (1) _ sc_read.nd rfl (Or.inl rfl) (by first | exact .inl rfl | exact .inr rfl | assumption)) (@pgs_cons _ _ _ _ _ (@pg_name _ _ (2) _ sc_read.nd rfl (Or.inl rfl) (by first | exact .inl rfl | exact .inr rfl | assumption)) (@pgs_nil _) (by rfl)) (by rfl)) (by rfl) (by rfl)) (fun _ _ _ _ _ => @pts_nil _) (fun _ _ _ _ _ => (@pe_call _ _ _ _ _ _ _ _ _ _ _ _ _ _ _ _ (ok_read_way (P := P) (w := w) (base := base) T) (hr.mono (by decide)) (by rfl) T.m_read_way T.F_read_way.kp T.B_read_way .nil pass1b (@pa_cons _ _ _ _ _ (@pv _ 2 _ _ (by rfl) (by first | exact Or.inl rfl | exact Or.inr (Or.inl rfl) | exact Or.inr (Or.inr rfl)) (by decide) (by decide)) (@pa_cons _ _ _ _ _ (@pv _ 1 _ _ (by rfl) (by first | exact Or.inl rfl | exact Or.inr (Or.inl rfl) | exact Or.inr (Or.inr rfl)) (by decide) (by decide)) (@pa_nil _) (by rfl)) (by rfl)) (by decide) (by rfl) (by rfl))) (by intro _; rfl))))), ?_⟩
    refine ⟨_, rfl, rfl, _, rfl, ite2 (fun h => ?_) (fun h => ?_)⟩
    · have h : z = "" := by have := of_decide_eq_true h; injection this
      refine ⟨Nat.zero_le _, fun q hq => ?_⟩
      exact k1 [] (by rw [h]; rfl) q [] _ (Same.upd hq) hq upd_same .nil
    · have h : z ≠ "" := fun y => h (decide_eq_true (by rw [y]))
      have er : rowsW z = Txt.split z "\n" := if_neg h
      have hsl := (split_len (x := z) (y := "\n") (s := 10) (by decide +kernel) (by decide +kernel))
      have hlm := fun x hx => len_mem (l := Txt.split z "\n") (x := x) hx
      rw [er] at k1 k2
      generalize hrs : Txt.split z "\n" = rs at k1 k2 hsl hlm
      refine ⟨_, rfl, rfl, z, "\n", rfl, rfl, (by decide +kernel), sz_le (by omega), ?_⟩
      rw [hrs]
      intro p hp
      have sp := Same.upd (o := .lst (rs.map V.str)) hp
      have hpp : (upd H p (.lst (rs.map V.str))) p = some (.lst (rs.map V.str)) := upd_same
      refine ⟨p, _, rfl, SqL.of hpp, fun D hD => lc_enum (K := K) (a := p) (xs := rs.map V.str) (fun i H' => Same (upd H p (.lst (rs.map V.str))) H' ∧ ∃ acc ws, H' D = some (.lst acc) ∧ acc.length ≤ i ∧ WysAt H' acc ws ∧ (rs.take i).map parseW = ws.map some) ⟨Same.upd hD, [], [], upd_same, Nat.le_refl _, .nil, rfl⟩ (fun i H' _ z => SqL.of (z.1 _ _ hpp)) ?_ ?_⟩
      · rintro i x tt H1 hi ⟨s1, acc, ws, hacc, la, hws, ew⟩ ht
        rw [List.getElem?_map] at hi
        obtain ⟨row, hr, rfl⟩ := Option.map_eq_some_iff.mp hi
        have il := (List.getElem?_eq_some_iff.mp hr).1
        have hm := hlm _ (List.mem_of_getElem? hr)
        refine ⟨tt, _, rfl, SqT.of upd_same, rfl, _, _, rfl, _, _, rfl, rfl, rfl, tYesT ?_⟩
        have dD : D ≠ tt := ne_of_none hacc ht
        refine ⟨_, rfl, _, rfl, row, i, rfl, by omega, by omega, fun wy ew2 t H2 s2 ht2 => ?_, fun ew2 dA H2 s2 hd hd2 => ?_⟩
        · have sD := s2 _ _ ((Same.upd (o := .tup [.int (i : Nat), .str row]) ht) _ _ hacc)
          refine ⟨acc, sD, sz_lt (by omega), fun b o hb => ?_, acc ++ [.ref t], ws ++ [wy], upd_same, by simp; omega, ?_, ?_⟩
          · rw [upd_ne (ne_of_none hb hD)]; exact s2 _ _ (Same.upd ht _ _ (s1 _ _ hb))
          · have kt : ∀ b xs, H2 b = some (.tup xs) → (upd H2 D (.lst (acc ++ [.ref t]))) b = some (.tup xs) := fun b xs hb => by
              rw [upd_ne (fun e => by rw [e, sD] at hb; cases hb)]; exact hb
            exact Paired.app (hws.keep fun b xs hb => kt b xs ((Same.upd ht).trans s2 b _ hb)) (.cons ⟨t, rfl, kt t _ ht2⟩ .nil)
          · rw [List.take_succ, hr, List.map_append, ew, List.map_append]; simp [ew2]
        · refine k2 i row hr ew2 (fun m r hm er => ?_) dA H2 ?_ ?_ hd2
          · have h := congrArg (fun l => l[m]?) ew
            simp only [List.getElem?_map, List.getElem?_take_of_lt hm, er] at h
            intro e0
            simp only [Option.map_some, e0] at h
            cases hw : ws[m]? <;> rw [hw] at h <;> simp at h
          · exact (sp.trans s1).trans ((Same.upd ht).trans s2)
          · exact (sp.trans s1).free ((Same.upd ht).free hd)
      · rintro H2 ⟨s2, acc, ws, hacc, la, hws, ew⟩
        rw [List.length_map, List.take_length] at ew
        exact k1 ws ew D acc H2 (sp.trans s2) (sp.free hD) hacc hws
/-! ### _law_dice -/
def sp_dice (K : PySem.W.Frag) : Sp := fun vs H Q _ => ∃ (a : Addr) (ns : List Int) (k : Int), vs = [.ref a, .int k] ∧ SqL K H a (ns.map V.int) ∧ ns.length ≤ 63 ∧ 0 ≤ k ∧ k < 2147483647 ∧
  ∀ d xs H', H d = none → H' d = some (.lst xs) → DiceL xs → Same H H' → Q (.ref d) H'
theorem sc__law_dice : FnScope ["_law_script", "_law_k", "_law_found", "_law_cell"] ["_law_script", "_law_k"] (defScope s__law_dice) := ⟨rfl, rfl, rfl, by decide +kernel, rfl, by decide +kernel, by decide +kernel⟩
set_option maxHeartbeats 4000000 in
theorem ok__law_dice (T : Txt K mg a) : FnOk P w K mg base CX0 1 a.f__law_dice a.d__law_dice ["_law_script", "_law_k"] (sp_dice K) := by
  refine T.F__law_dice.ok sc__law_dice (fun vs H Q E h => ?_) (fun cdv A outer s H vs Q E hr h => ?_)
  · obtain ⟨a, ns, k0, rfl, hS, hlen, hk0, hk1, k⟩ := h
    rfl
  · obtain ⟨a, ns, k0, rfl, hS, hlen, hk0, hk1, k⟩ := h
    have hu := hu_of hr
    refine ⟨_, (pss_cons (ps_set (i := 2) sc__law_dice.nd rfl (by first | exact Or.inl rfl | exact Or.inr rfl) (pv 1))
      (pss_cons (ps_for PassesOwn.never rfl (pi_list (pv 0)) (pg_name (i := 3) sc__law_dice.nd rfl (by first | exact Or.inl rfl | exact Or.inr rfl)) (pss_one (ps_set (i := 2) sc__law_dice.nd rfl (by first | exact Or.inl rfl | exact Or.inr rfl) (pe_op op_mod (pe_op op_add (pe_op op_mul (pv 2) pe_int) (pe_callB call_abs (by rfl) T.b_abs (by decide +kernel) (pa_cons (pv 3) pa_nil))) pe_int))))
      (pss_one (ps_ret (pe_op op_cat (pe_lst (pa_cons (pv 2) (pa_cons pe_int pa_nil))) (pe_lc (own := [("_law_cell", 3)]) (g := gName 3) (by rfl) sc__law_dice.nd (pi_list (pv 0)) (blkOk_by (own := [("_law_cell", 3)]) (N := ["_law_script", "_law_k", "_law_found", "_law_cell"]) (sc := defScope s__law_dice) (by decide +kernel)) (fun _ _ _ _ _ => pg_name (i := 3) sc__law_dice.nd rfl (Or.inl rfl)) (fun _ _ _ _ _ => pts_one (pt_cmpR op_ge (pv 3) (pe_op op_pow pe_int pe_int) (nomark _))) (fun _ _ _ _ _ => (pv 3)))))))), ?_⟩
    refine ⟨_, rfl, _, rfl, a, rfl, ⟨_, hS⟩, for_list (K := K) (a := a) (xs := ns.map V.int) (fun i σ H2 => H2 = H ∧ ∃ (f : Int) (v : Option V), σ = [some (.ref a), some (.int k0), some (.int f), v] ∧ 0 ≤ f ∧ f < 2147483647)
      ⟨rfl, k0, none, rfl, hk0, hk1⟩ (fun i σ H2 _ z => by rw [z.1]; exact hS) ?_ ?_⟩
    · rintro i y σ H2 hi ⟨rfl, f, v, rfl, f0, f1⟩
      obtain ⟨z, rfl⟩ : ∃ z, y = V.int z := by
        rw [List.getElem?_map] at hi
        cases e : ns[i]? with
        | none => rw [e] at hi; cases hi
        | some z => rw [e] at hi; exact ⟨z, (Option.some.inj hi).symm⟩
      refine ⟨_, rfl, _, _, rfl, rfl, .inl ⟨by omega, by omega⟩, _, rfl, _, rfl, _, _, rfl, rfl, _, _, rfl, rfl, (by show (0 : Int) < 2147483647; decide), ?_⟩
      exact ⟨rfl, _, _, rfl, Int.emod_nonneg _ (by decide), Int.emod_lt_of_pos _ (by decide)⟩
    · rintro σ H2 ⟨rfl, f, v, rfl, f0, f1⟩
      refine ⟨_, rfl, (by show 2 ≤ sizeLine; exact Nat.le_of_lt (Nat.lt_trans (by decide) line_ge0)), fun p hp => ?_⟩
      have sp : Same H2 (upd H2 p (.lst [.int f, .int 0])) := Same.upd hp
      refine ⟨_, rfl, a, rfl, ⟨_, sp.seq hS⟩, fun D hD => ?_⟩
      have hDp : p ≠ D := by rintro rfl; rw [upd_same] at hD; cases hD
      have hDn : H2 D = none := by rw [upd_ne hDp.symm] at hD; exact hD
      refine lc_list (K := K) (a := a) (xs := ns.map V.int) (fun i H3 => ∃ r : List Int, r.length ≤ i ∧ (∀ x ∈ r, 0 < x) ∧ H3 = upd (upd H2 p (.lst [.int f, .int 0])) D (.lst (r.map V.int))) ⟨[], by simp, by simp, rfl⟩ ?_ ?_ ?_
      · rintro i H3 _ ⟨r, _, _, rfl⟩
        exact (Same.upd hD).seq (sp.seq hS)
      · rintro i y H3 hi ⟨r, hr, hpos, rfl⟩
        obtain ⟨z, rfl⟩ : ∃ z, y = V.int z := by
          rw [List.getElem?_map] at hi
          cases e : ns[i]? with
          | none => rw [e] at hi; cases hi
          | some z => rw [e] at hi; exact ⟨z, (Option.some.inj hi).symm⟩
        have hil : i < (ns.map V.int).length := (List.getElem?_eq_some_iff.mp hi).1
        rw [List.length_map] at hil
        refine ⟨rfl, _, rfl, _, _, rfl, rfl, ⟨by decide, by decide, by decide⟩, _, _, rfl, rfl, _, rfl, ?_⟩
        refine ite2 (fun h => ?_) (fun h => ?_)
        · refine ⟨_, rfl, _, upd_same, ?_, r ++ [z], ?_, ?_, ?_⟩
          · rw [List.length_map]; exact Nat.lt_of_lt_of_le (show r.length < 1000000 by omega) (Nat.le_of_lt line_ge0)
          · rw [List.length_append]; show r.length + 1 ≤ i + 1; omega
          · intro x hx
            rcases List.mem_append.mp hx with h' | h'
            · exact hpos x h'
            · rw [List.mem_singleton.mp h']
              have h2 : (10 : Int) ^ (18 : Int).toNat ≤ z := of_decide_eq_true h
              have h3 : (0 : Int) < (10 : Int) ^ (18 : Int).toNat := by decide
              omega
          · rw [upd_upd, List.map_append]; rfl
        · exact ⟨r, by omega, hpos, rfl⟩
      · rintro H3 ⟨r, hr, hpos, rfl⟩
        rw [List.length_map] at hr
        refine ⟨p, D, _, _, rfl, rfl, upd_old upd_same hD, upd_same, ?_, fun q hq => ?_⟩
        · rw [List.length_map]; exact Nat.le_trans (show 2 + r.length ≤ 1000000 by omega) (Nat.le_of_lt line_ge0)
        · have s2 : Same H2 (upd (upd H2 p (.lst [.int f, .int 0])) D (.lst (r.map V.int))) := sp.trans (Same.upd hD)
          refine k q _ _ (s2.free hq) upd_same ⟨f, 0, r, rfl, f0, f1, by decide, hpos, by omega⟩ (s2.trans (Same.upd hq))
/-! ### _law_off -/

theorem sc__law_off : FnScope ["_law_d", "_law_most", "_law_found"] ["_law_d", "_law_most"] (defScope s__law_off) := ⟨rfl, rfl, rfl, by decide +kernel, rfl, by decide +kernel, by decide +kernel⟩
set_option maxHeartbeats 4000000 in
theorem ok__law_off (T : Txt K mg a) : FnOk P w K mg base CX0 1 a.f__law_off a.d__law_off ["_law_d", "_law_most"] (sp_off) := by
  refine T.F__law_off.ok sc__law_off (fun vs H Q E h => ?_) (fun cdv A outer s H vs Q E hr h => ?_)
  · obtain ⟨d, m, xs, rfl, hd, hx, m0, m1, k⟩ := h
    rfl
  · obtain ⟨d, m, xs, rfl, hd, hx, m0, m1, k⟩ := h
    have hu := hu_of hr
    refine ⟨_, (pss_cut (ps_if (PW.pt (pw_and (pt_cmpR op_eq (pe_ix ix_list (pv 0) pe_int (fun _ _ => rfl)) pe_int (nomark _)) (pw_and1 (pt_cmpR op_gt (pe_callB call_len_seq (by rfl) T.b_len (by decide +kernel) (pa_cons (pv 0) pa_nil)) pe_int (nomark _))))) (pss_one (ps_asg (pe_bm PySem.F.plainAttrs_list PySem.F.slot_list_pop PySem.F.type_list_pop mt_popAt (pv 0) (pa_cons pe_int pa_nil)) (pg_sub (pv 0) pe_int set_list))) pss_nil)
      (pss_cons (ps_if (pt_cmpR op_gt (pe_ix ix_list (pv 0) pe_int (fun _ _ => rfl)) pe_int (nomark _)) (pss_cons (ps_set (i := 2) sc__law_off.nd rfl (by first | exact Or.inl rfl | exact Or.inr rfl) (pe_op op_mod (pe_ix ix_list (pv 0) pe_int (fun _ _ => rfl)) (pv 1)))
      (pss_cons (ps_asg (pe_op op_fdiv (pe_ix ix_list (pv 0) pe_int (fun _ _ => rfl)) (pv 1)) (pg_sub (pv 0) pe_int set_list))
      (pss_one (ps_ret (pv 2))))) pss_nil)
      (pss_cons (ps_asg (pe_op op_mod (pe_op op_add (pe_op op_mul (pe_ix ix_list (pv 0) pe_int (fun _ _ => rfl)) pe_int) pe_int) pe_int) (pg_sub (pv 0) pe_int set_list))
      (pss_one (ps_ret (pe_op op_mod (pe_op op_fdiv (pe_ix ix_list (pv 0) pe_int (fun _ _ => rfl)) pe_int) (pv 1))))))), ?_⟩
    obtain ⟨a, b, r, rfl, a0, a1, b0, r0, rl⟩ := hx
    refine ⟨fun σ' H' => σ' = [some (.ref d), some (.int m), none] ∧ ∃ (b : Int) (r : List Int), H' d = some (.lst (.int a :: .int b :: r.map V.int)) ∧ 0 ≤ b ∧ (∀ x ∈ r, 0 < x) ∧ r.length ≤ 63 ∧ ∀ o, upd H' d o = upd H d o, ?_, ?_⟩
    · refine ⟨_, rfl, d, _, _, _, rfl, rfl, SqL.of hd, at_of (j := 1) rfl rfl, rfl, _, rfl, ?_⟩
      refine ite2 (fun hb => ?_) (fun hb => ?_)
      · refine ⟨_, rfl, d, _, rfl, .inl (SqL.of hd), _, _, rfl, rfl, _, rfl, ?_⟩
        refine ite2 (fun hl => ?_) (fun hl => ?_)
        · cases r with
          | nil => exact absurd (of_decide_eq_true hl) (by simp)
          | cons x r' =>
            refine ⟨_, rfl, .inl ⟨rfl, _, SqL.of hd⟩, d, _, _, 2, .int x, rfl, rfl, hd, by decide, by decide, ?_, rfl, ?_⟩
            · simp [seqIndex?]
              omega
            · refine ⟨_, rfl, d, _, _, 1, rfl, rfl, upd_same, ixN_nat (j := 1) (by simp), rfl, x, r', ?_, ?_, ?_, ?_, ?_⟩
              · rw [upd_same]; rfl
              · exact Int.le_of_lt (r0 x (by simp))
              · exact fun y hy => r0 y (by simp [hy])
              · simp at rl; omega
              · intro o; rw [upd_upd, upd_upd]
        · exact ⟨rfl, b, r, hd, b0, r0, rl, fun _ => rfl⟩
      · exact ⟨rfl, b, r, hd, b0, r0, rl, fun _ => rfl⟩
    · rintro σ' H' ⟨rfl, b, r, hd, b0, r0, rl, hu'⟩
      refine ⟨_, rfl, d, _, _, _, rfl, rfl, SqL.of hd, at_of (j := 1) rfl rfl, _, _, rfl, rfl, _, rfl, ?_⟩
      refine ite2 (fun hb => ?_) (fun hb => ?_)
      · refine ⟨_, rfl, d, _, _, _, rfl, rfl, SqL.of hd, at_of (j := 1) rfl rfl, _, rfl, _, _, rfl, rfl, m0, ?_⟩
        refine ⟨_, rfl, d, _, _, _, rfl, rfl, SqL.of hd, at_of (j := 1) rfl rfl, _, rfl, _, _, rfl, rfl, ⟨m0, m1⟩, ?_⟩
        refine ⟨_, rfl, d, _, _, 1, rfl, rfl, hd, ixN_nat (j := 1) (by simp), _, rfl, ?_⟩
        rw [hu']
        exact k _ _ (Int.emod_nonneg _ (by omega)) (Int.emod_lt_of_pos _ m0) ⟨a, b / m, r, rfl, a0, a1, Int.ediv_nonneg b0 (by omega), r0, rl⟩
      · refine ⟨_, rfl, d, _, _, _, rfl, rfl, SqL.of hd, at_of (j := 0) rfl rfl, _, _, rfl, rfl, .inl ⟨by omega, by omega⟩, _, _, rfl, rfl, _, _, rfl, rfl, (by show (0 : Int) < 2147483647; decide), ?_⟩
        refine ⟨_, rfl, d, _, _, 0, rfl, rfl, hd, ixN_nat (j := 0) (by simp), ?_⟩
        refine ⟨_, rfl, d, _, _, _, rfl, rfl, SqL.of upd_same, at_of (j := 0) rfl rfl, _, _, rfl, rfl, ⟨by decide, by decide⟩, _, rfl, _, _, rfl, rfl, m0, ?_⟩
        rw [hu']
        exact k _ _ (Int.emod_nonneg _ (by omega)) (Int.emod_lt_of_pos _ m0) ⟨_, b, r, rfl, Int.emod_nonneg _ (by decide), Int.emod_lt_of_pos _ (by decide), b0, r0, rl⟩
/-! ### _law_alike -/

theorem sc__law_alike : FnScope ["_law_found", "_law_due", "_law_k"] ["_law_found", "_law_due"] (defScope s__law_alike) := ⟨rfl, rfl, rfl, by decide +kernel, rfl, by decide +kernel, by decide +kernel⟩
set_option maxHeartbeats 4000000 in
theorem ok__law_alike (T : Txt K mg a) : ∀ n : Nat, FnOk P w K mg base CX0 (n + 1) a.f__law_alike a.d__law_alike ["_law_found", "_law_due"] (sp_alike n) := by
  intro n
  induction n with
  | zero =>
    refine ⟨fun vs H Q E h => ?_, fun A outer s H args us vs Q E hr e0 hb r hsp => ?_⟩
    · obtain ⟨x, y, d, rfl, _⟩ := h
      rfl
    · obtain ⟨x, y, d, rfl, h1, h2, hd, _⟩ := hsp
      exact absurd hd (Nat.not_lt_zero _)
  | succ n ih =>
  refine T.F__law_alike.ok sc__law_alike (fun vs H Q E h => ?_) (fun cdv A outer s H vs Q E hr h => ?_)
  · obtain ⟨x, y, d, rfl, _⟩ := h
    rfl
  · obtain ⟨x, y, d, rfl, hx, hy, hd, k⟩ := h
    have hu := hu_of hr
    refine ⟨_, (pss_cons (ps_if (pt_cmpR op_isN (pv 1) pe_non (nomark _)) (pss_one (ps_ret (pe_cmpR op_isN (pv 0) pe_non (nomark _)))) pss_nil)
      (pss_cons (ps_if (pt_val (pe_callB cr_isi (by rfl) T.b_isinstance (by decide +kernel) (pa_cons (pv 1) (pa_cons (pe_bltn (v := .ty "bool") (by rfl) T.b_bool (by decide +kernel) rfl) pa_nil)))) (pss_one (ps_ret (pe_and (pe_callB cr_isi (by rfl) T.b_isinstance (by decide +kernel) (pa_cons (pv 0) (pa_cons (pe_bltn (v := .ty "bool") (by rfl) T.b_bool (by decide +kernel) rfl) pa_nil))) (pe_one (pe_cmpR op_eq (pv 0) (pv 1) (nomark _)))))) pss_nil)
      (pss_cons (ps_if (pt_val (pe_callB cr_isi (by rfl) T.b_isinstance (by decide +kernel) (pa_cons (pv 1) (pa_cons (pe_bltn (v := .ty "int") (by rfl) T.b_int (by decide +kernel) rfl) pa_nil)))) (pss_one (ps_ret (pe_and (pe_callB cr_isi (by rfl) T.b_isinstance (by decide +kernel) (pa_cons (pv 0) (pa_cons (pe_bltn (v := .ty "int") (by rfl) T.b_int (by decide +kernel) rfl) pa_nil))) (pe_and (pe_not (pe_callB cr_isi (by rfl) T.b_isinstance (by decide +kernel) (pa_cons (pv 0) (pa_cons (pe_bltn (v := .ty "bool") (by rfl) T.b_bool (by decide +kernel) rfl) pa_nil)))) (pe_one (pe_cmpR op_eq (pv 0) (pv 1) (nomark _))))))) pss_nil)
      (pss_cons (ps_if (pt_val (pe_callB cr_isi (by rfl) T.b_isinstance (by decide +kernel) (pa_cons (pv 1) (pa_cons (pe_bltn (v := .ty "str") (by rfl) T.b_str (by decide +kernel) rfl) pa_nil)))) (pss_one (ps_ret (pe_and (pe_callB cr_isi (by rfl) T.b_isinstance (by decide +kernel) (pa_cons (pv 0) (pa_cons (pe_bltn (v := .ty "str") (by rfl) T.b_str (by decide +kernel) rfl) pa_nil))) (pe_one (pe_cmpR op_eq (pv 0) (pv 1) (nomark _)))))) pss_nil)
      (pss_cons (ps_if (PW.pt (pw_or (pt_cmpR op_ne (pe_callB cr_isi (by rfl) T.b_isinstance (by decide +kernel) (pa_cons (pv 1) (pa_cons (pe_bltn (v := .ty "tuple") (by rfl) T.b_tuple (by decide +kernel) rfl) pa_nil))) (pe_callB cr_isi (by rfl) T.b_isinstance (by decide +kernel) (pa_cons (pv 0) (pa_cons (pe_bltn (v := .ty "tuple") (by rfl) T.b_tuple (by decide +kernel) rfl) pa_nil))) (nomark _)) (pw_or1 (pt_cmpR op_ne (pe_callB cr_isi (by rfl) T.b_isinstance (by decide +kernel) (pa_cons (pv 1) (pa_cons (pe_bltn (v := .ty "list") (by rfl) T.b_list (by decide +kernel) rfl) pa_nil))) (pe_callB cr_isi (by rfl) T.b_isinstance (by decide +kernel) (pa_cons (pv 0) (pa_cons (pe_bltn (v := .ty "list") (by rfl) T.b_list (by decide +kernel) rfl) pa_nil))) (nomark _))))) (pss_one (ps_ret pe_bl)) pss_nil)
      (pss_cons (ps_if (pt_cmpR op_ne (pe_callB call_len_seq (by rfl) T.b_len (by decide +kernel) (pa_cons (pv 0) pa_nil)) (pe_callB call_len_seq (by rfl) T.b_len (by decide +kernel) (pa_cons (pv 1) pa_nil)) (nomark _)) (pss_one (ps_ret pe_bl)) pss_nil)
      (pss_one (ps_ret (pe_callB (cr_all rfl) (by rfl) T.b_all (by decide +kernel) (pa_cons (pe_lc (own := [("_law_k", 2)]) (g := gName 2) (by rfl) sc__law_alike.nd (pi_range1 (by rfl) T.b_range (pa_cons (pe_callB call_len_seq (by rfl) T.b_len (by decide +kernel) (pa_cons (pv 1) pa_nil)) pa_nil)) (blkOk_by (own := [("_law_k", 2)]) (N := ["_law_found", "_law_due", "_law_k"]) (sc := defScope s__law_alike) (by decide +kernel)) (fun _ _ _ _ _ => pg_name (i := 2) sc__law_alike.nd rfl (Or.inl rfl)) (fun _ _ _ _ _ => pts_nil) (fun _ _ _ _ _ => (pe_call (ih) (hr.mono (by omega)) (by rfl) T.m__law_alike T.F__law_alike.kp T.B__law_alike .nil pass0 (pa_cons (pe_ix (r := rIx K) ix_seq (pv 0) (pv 2) (fun _ _ => rfl)) (pa_cons (pe_ix (r := rIx K) ix_seq (pv 1) (pv 2) (fun _ _ => rfl)) pa_nil))))) pa_nil)))))))))), ?_⟩
    cases hx with
    | non =>
      cases hy
      refine ⟨_, rfl, rfl, _, rfl, ?_⟩
      refine iteT ?_
      exact ⟨_, rfl, rfl, k H (Same.refl H)⟩
    | bl b =>
      cases hy
      refine ⟨_, rfl, rfl, _, rfl, ?_⟩
      refine iteF ?_
      refine ⟨_, rfl, _, "bool", _, rfl, .bl b, by simp [asked], _, rfl, ?_⟩
      refine iteT ?_
      refine ⟨_, rfl, _, "bool", _, rfl, .bl b, by simp [asked], _, rfl, ?_⟩
      refine iteT ?_
      refine ⟨_, rfl, _, rfl, rfl, ?_⟩
      rw [decide_eq_true (rfl : V.bl b = V.bl b)]
      exact k H (Same.refl H)
    | int i =>
      cases hy
      refine ⟨_, rfl, rfl, _, rfl, ?_⟩
      refine iteF ?_
      refine ⟨_, rfl, _, "bool", _, rfl, .int i, by simp [asked], _, rfl, ?_⟩
      refine iteF ?_
      refine ⟨_, rfl, _, "int", _, rfl, .int i, by simp [asked], _, rfl, ?_⟩
      refine iteT ?_
      refine ⟨_, rfl, _, "int", _, rfl, .int i, by simp [asked], _, rfl, ?_⟩
      refine iteT ?_
      refine ⟨_, rfl, _, "bool", _, rfl, .int i, by simp [asked], _, rfl, _, rfl, ?_⟩
      refine iteT ?_
      refine ⟨_, rfl, _, rfl, rfl, ?_⟩
      rw [decide_eq_true (rfl : V.int i = V.int i)]
      exact k H (Same.refl H)
    | str i =>
      cases hy
      refine ⟨_, rfl, rfl, _, rfl, ?_⟩
      refine iteF ?_
      refine ⟨_, rfl, _, "bool", _, rfl, .str i, by simp [asked], _, rfl, ?_⟩
      refine iteF ?_
      refine ⟨_, rfl, _, "int", _, rfl, .str i, by simp [asked], _, rfl, ?_⟩
      refine iteF ?_
      refine ⟨_, rfl, _, "str", _, rfl, .str i, by simp [asked], _, rfl, ?_⟩
      refine iteT ?_
      refine ⟨_, rfl, _, "str", _, rfl, .str i, by simp [asked], _, rfl, ?_⟩
      refine iteT ?_
      refine ⟨_, rfl, _, rfl, rfl, ?_⟩
      rw [decide_eq_true (rfl : V.str i = V.str i)]
      exact k H (Same.refl H)
    | @lst p xs ds hp hpl hps =>
      cases hy with
      | @lst q ys _ hq hql hqs =>
      have ep := hps.len
      have eq := hqs.len
      refine ⟨_, rfl, rfl, _, rfl, ?_⟩
      refine iteF ?_
      refine ⟨_, rfl, _, "bool", _, rfl, .lst hq, by simp [asked], _, rfl, ?_⟩
      refine iteF ?_
      refine ⟨_, rfl, _, "int", _, rfl, .lst hq, by simp [asked], _, rfl, ?_⟩
      refine iteF ?_
      refine ⟨_, rfl, _, "str", _, rfl, .lst hq, by simp [asked], _, rfl, ?_⟩
      refine iteF ?_
      refine ⟨_, rfl, _, "tuple", _, rfl, .lst hq, by simp [asked], _, rfl, _, "tuple", _, rfl, .lst hp, by simp [asked], rfl, _, rfl, ?_⟩
      refine iteF ?_
      refine ⟨_, rfl, _, "list", _, rfl, .lst hq, by simp [asked], _, rfl, _, "list", _, rfl, .lst hp, by simp [asked], rfl, _, rfl, ?_⟩
      refine iteF ?_
      refine ⟨_, rfl, p, _, rfl, .inl (SqL.of hp), _, rfl, q, _, rfl, .inl (SqL.of hq), rfl, _, rfl, ?_⟩
      refine iteNS (by rw [ep, eq]) ?_
      refine ⟨_, rfl, q, _, rfl, .inl (SqL.of hq), (ys.length : Int), rfl, by omega, by omega, fun D hD => lc_range (lo := 0) (n := ys.length) (fun i H' => Same H H' ∧ H' D = some (.lst ((List.replicate i true).map V.bl))) ⟨Same.upd hD, upd_same⟩ ?_ ?_⟩
      · rintro i H1 hi ⟨s1, h1⟩
        obtain ⟨vx, dx, gx, gd, wx⟩ := hps.get (i := i) (by omega)
        obtain ⟨vy, dy, gy, gd', wy⟩ := hqs.get (i := i) (by omega)
        rw [gd] at gd'
        cases gd'
        refine ⟨rfl, ?_⟩
        refine tYesT ?_
        refine ⟨_, rfl, _, rfl, .inl ⟨p, _, _, vx, rfl, rfl, SqL.of (s1 _ _ hp), at_of (j := i) (by omega) gx, ?_⟩⟩
        refine ⟨_, rfl, _, rfl, .inl ⟨q, _, _, vy, rfl, rfl, SqL.of (s1 _ _ hq), at_of (j := i) (by omega) gy, ?_⟩⟩
        refine ⟨vx, vy, dx, rfl, wx.same s1, wy.same s1, Nat.lt_of_le_of_lt (depth_get gd) (depth_all hd), fun H2 s2 => ?_⟩
        refine ⟨_, s2 _ _ h1, ?_, ?_, ?_⟩
        · rw [List.length_map, List.length_replicate]; exact Nat.lt_of_lt_of_le (show i < 1000000 by omega) (Nat.le_of_lt line_ge0)
        · intro b o hb
          rw [upd_ne (ne_of_none hb hD)]
          exact s2 _ _ (s1 _ _ hb)
        · rw [upd_same, ← rep_snoc, List.map_append]; rfl
      · rintro H1 ⟨s1, h1⟩
        refine ⟨D, List.replicate ys.length true, rfl, SqL.of h1, ?_⟩
        rw [all_rep]
        exact k H1 s1
    | @tup p xs ds hp hpl hps =>
      cases hy with
      | @tup q ys _ hq hql hqs =>
      have ep := hps.len
      have eq := hqs.len
      refine ⟨_, rfl, rfl, _, rfl, ?_⟩
      refine iteF ?_
      refine ⟨_, rfl, _, "bool", _, rfl, .tup hq, by simp [asked], _, rfl, ?_⟩
      refine iteF ?_
      refine ⟨_, rfl, _, "int", _, rfl, .tup hq, by simp [asked], _, rfl, ?_⟩
      refine iteF ?_
      refine ⟨_, rfl, _, "str", _, rfl, .tup hq, by simp [asked], _, rfl, ?_⟩
      refine iteF ?_
      refine ⟨_, rfl, _, "tuple", _, rfl, .tup hq, by simp [asked], _, rfl, _, "tuple", _, rfl, .tup hp, by simp [asked], rfl, _, rfl, ?_⟩
      refine iteF ?_
      refine ⟨_, rfl, _, "list", _, rfl, .tup hq, by simp [asked], _, rfl, _, "list", _, rfl, .tup hp, by simp [asked], rfl, _, rfl, ?_⟩
      refine iteF ?_
      refine ⟨_, rfl, p, _, rfl, .inr (SqT.of hp), _, rfl, q, _, rfl, .inr (SqT.of hq), rfl, _, rfl, ?_⟩
      refine iteNS (by rw [ep, eq]) ?_
      refine ⟨_, rfl, q, _, rfl, .inr (SqT.of hq), (ys.length : Int), rfl, by omega, by omega, fun D hD => lc_range (lo := 0) (n := ys.length) (fun i H' => Same H H' ∧ H' D = some (.lst ((List.replicate i true).map V.bl))) ⟨Same.upd hD, upd_same⟩ ?_ ?_⟩
      · rintro i H1 hi ⟨s1, h1⟩
        obtain ⟨vx, dx, gx, gd, wx⟩ := hps.get (i := i) (by omega)
        obtain ⟨vy, dy, gy, gd', wy⟩ := hqs.get (i := i) (by omega)
        rw [gd] at gd'
        cases gd'
        refine ⟨rfl, ?_⟩
        refine tYesT ?_
        refine ⟨_, rfl, _, rfl, .inr (.inl ⟨p, _, _, vx, rfl, rfl, SqT.of (s1 _ _ hp), at_of (j := i) (by omega) gx, ?_⟩)⟩
        refine ⟨_, rfl, _, rfl, .inr (.inl ⟨q, _, _, vy, rfl, rfl, SqT.of (s1 _ _ hq), at_of (j := i) (by omega) gy, ?_⟩)⟩
        refine ⟨vx, vy, dx, rfl, wx.same s1, wy.same s1, Nat.lt_of_le_of_lt (depth_get gd) (depth_allT hd), fun H2 s2 => ?_⟩
        refine ⟨_, s2 _ _ h1, ?_, ?_, ?_⟩
        · rw [List.length_map, List.length_replicate]; exact Nat.lt_of_lt_of_le (show i < 1000000 by omega) (Nat.le_of_lt line_ge0)
        · intro b o hb
          rw [upd_ne (ne_of_none hb hD)]
          exact s2 _ _ (s1 _ _ hb)
        · rw [upd_same, ← rep_snoc, List.map_append]; rfl
      · rintro H1 ⟨s1, h1⟩
        refine ⟨D, List.replicate ys.length true, rfl, SqL.of h1, ?_⟩
        rw [all_rep]
        exact k H1 s1
/-! ### _law_refused -/
def kindsT : List V := [.bl false, .bl false, .bl false, .bl false] ++ [.bl true, .bl false, .bl false]
theorem kindsT_dp {K : PySem.W.Frag} {H : Hp} : DpAll K H kindsT [.bool false, .bool false, .bool false, .bool false, .bool true, .bool false, .bool false] := bls_dp
theorem wordsT_dp {K : PySem.W.Frag} {H : Hp} : DpAll K H (wordsX.filterMap fun v => some (V.bl (decide (V.str "text" = v)))) [.bool false, .bool false, .bool false, .bool false, .bool true, .bool false, .bool false] := by
  have e : (wordsX.filterMap fun v => some (V.bl (decide (V.str "text" = v)))) = kindsT := by decide +kernel
  rw [e]
  exact kindsT_dp
def Bad17 (a : Adr) (wd : Str) (n : Nat) (cls : Value) (d : Option Addr) (H : Hp) : Prop := (wd = "ways" ∧ cls = .ref a.c_BadWays) ∨ (wd = "text" ∧ cls = .ref a.c_BadText ∧ ∃ dA, d = some dA ∧ H dA = some (.xd [("row", .int (n : Int))]))
def sp_refused17 (P : Program) (w : World) (K : PySem.W.Frag) (mg : Str → Option Value) (base : Heap) (a : Adr) : Sp := fun vs H Q _ => ∃ f wd, ∃ n : Nat, vs = [.ref f, .str wd, .int (n : Int)] ∧ Wk P w K mg base 10 f H (fun _ _ => False) (fun cls d H' => Bad17 a wd n cls d H' ∧ ∀ H'', Same H' H'' → Q (.bl true) H'')
theorem sc__law_refused : FnScope ["_law_work", "_law_word", "_law_value", "e", "_law_kinds", "_law_words", "_law_one"] ["_law_work", "_law_word", "_law_value"] (defScope s__law_refused) := ⟨rfl, rfl, rfl, by decide +kernel, rfl, by decide +kernel, by decide +kernel⟩
set_option maxHeartbeats 4000000 in
theorem ok__law_refused (T : Txt K mg a) : FnOk P w K mg base CX0 12 a.f__law_refused a.d__law_refused ["_law_work", "_law_word", "_law_value"] (sp_refused17 P w K mg base a) := by
  refine T.F__law_refused.okT sc__law_refused (fun vs H Q E h => ?_) (fun cdv A outer s H vs Q E hr h => ?_)
  · obtain ⟨f, wd, n, rfl, W⟩ := h
    rfl
  · obtain ⟨f, wd, n, rfl, W⟩ := h
    have hu := hu_of hr
    refine ⟨_, (@pss_cons _ _ _ _ _ (@ps_try _ _ _ _ _ _ _ _ rfl rfl (fun pins R' => (@pss_one _ _ _ (@ps_expr _ _ _ _ (@pe_callV _ (P) (w) (K) (mg) (base) (0) (10) _ _ _ _ (hr.mono (by decide)) pass1 (by rfl) (by rfl) (by rfl) (by rfl) (by rfl) (by rfl) (by first | exact Or.inl rfl | exact Or.inr (Or.inl rfl) | exact Or.inr (Or.inr rfl)) (by decide) (by decide)) (by rfl)))) (ph_consN (i := 3) sc__law_refused.nd rfl rfl (by rfl) T.m_BridgeError T.xc_BridgeError.x (by decide +kernel) (fun pins aE ex cE oE dE hE1 hE2 vcE => (@pss_cons _ _ _ _ _ (@ps_set _ _ (4) _ _ _ _ sc__law_refused.nd rfl (by first | exact Or.inl rfl | exact Or.inr rfl) (@pe_lst _ _ _ _ (@pa_cons _ _ _ _ _ (@pe_callB _ _ _ _ _ _ _ _ _ (cr_isE hE1 hE2.1 vcE) (by rfl) T.b_isinstance (by decide +kernel) (@pa_cons _ _ _ _ _ (@pv _ 3 _ _ (by rfl) (by first | exact Or.inl rfl | exact Or.inr (Or.inl rfl) | exact Or.inr (Or.inr rfl)) (by decide) (by decide)) (@pa_cons _ _ _ _ _ (@pe_glob _ _ (.ref a.c_BadWorld) _ _ (by rfl) T.m_BadWorld rfl (by decide)) (@pa_nil _) (by rfl)) (by rfl)) (by decide) (by decide) (by rfl) (by rfl)) (@pa_cons _ _ _ _ _ (@pe_callB _ _ _ _ _ _ _ _ _ (cr_isE hE1 hE2.1 vcE) (by rfl) T.b_isinstance (by decide +kernel) (@pa_cons _ _ _ _ _ (@pv _ 3 _ _ (by rfl) (by first | exact Or.inl rfl | exact Or.inr (Or.inl rfl) | exact Or.inr (Or.inr rfl)) (by decide) (by decide)) (@pa_cons _ _ _ _ _ (@pe_glob _ _ (.ref a.c_BadLetter) _ _ (by rfl) T.m_BadLetter rfl (by decide)) (@pa_nil _) (by rfl)) (by rfl)) (by decide) (by decide) (by rfl) (by rfl)) (@pa_cons _ _ _ _ _ (@pe_callB _ _ _ _ _ _ _ _ _ (cr_isE hE1 hE2.1 vcE) (by rfl) T.b_isinstance (by decide +kernel) (@pa_cons _ _ _ _ _ (@pv _ 3 _ _ (by rfl) (by first | exact Or.inl rfl | exact Or.inr (Or.inl rfl) | exact Or.inr (Or.inr rfl)) (by decide) (by decide)) (@pa_cons _ _ _ _ _ (@pe_glob _ _ (.ref a.c_BadPlace) _ _ (by rfl) T.m_BadPlace rfl (by decide)) (@pa_nil _) (by rfl)) (by rfl)) (by decide) (by decide) (by rfl) (by rfl)) (@pa_cons _ _ _ _ _ (@pe_callB _ _ _ _ _ _ _ _ _ (cr_isE hE1 hE2.1 vcE) (by rfl) T.b_isinstance (by decide +kernel) (@pa_cons _ _ _ _ _ (@pv _ 3 _ _ (by rfl) (by first | exact Or.inl rfl | exact Or.inr (Or.inl rfl) | exact Or.inr (Or.inr rfl)) (by decide) (by decide)) (@pa_cons _ _ _ _ _ (@pe_glob _ _ (.ref a.c_BadWays) _ _ (by rfl) T.m_BadWays rfl (by decide)) (@pa_nil _) (by rfl)) (by rfl)) (by decide) (by decide) (by rfl) (by rfl)) (@pa_nil _) (by rfl)) (by rfl)) (by rfl)) (by rfl))) (by rfl) (by first | exact .inl rfl | exact .inr rfl | assumption)) (@pss_cons _ _ _ _ _ (@ps_set _ _ (4) _ _ _ _ sc__law_refused.nd rfl (by first | exact Or.inl rfl | exact Or.inr rfl) (@pe_op _ _ _ _ _ _ _ _ op_cat (@pv _ 4 _ _ (by rfl) (by first | exact Or.inl rfl | exact Or.inr (Or.inl rfl) | exact Or.inr (Or.inr rfl)) (by decide) (by decide)) (@pe_lst _ _ _ _ (@pa_cons _ _ _ _ _ (@pe_callB _ _ _ _ _ _ _ _ _ (cr_isE hE1 hE2.1 vcE) (by rfl) T.b_isinstance (by decide +kernel) (@pa_cons _ _ _ _ _ (@pv _ 3 _ _ (by rfl) (by first | exact Or.inl rfl | exact Or.inr (Or.inl rfl) | exact Or.inr (Or.inr rfl)) (by decide) (by decide)) (@pa_cons _ _ _ _ _ (@pe_glob _ _ (.ref a.c_BadText) _ _ (by rfl) T.m_BadText rfl (by decide)) (@pa_nil _) (by rfl)) (by rfl)) (by decide) (by decide) (by rfl) (by rfl)) (@pa_cons _ _ _ _ _ (@pe_callB _ _ _ _ _ _ _ _ _ (cr_isE hE1 hE2.1 vcE) (by rfl) T.b_isinstance (by decide +kernel) (@pa_cons _ _ _ _ _ (@pv _ 3 _ _ (by rfl) (by first | exact Or.inl rfl | exact Or.inr (Or.inl rfl) | exact Or.inr (Or.inr rfl)) (by decide) (by decide)) (@pa_cons _ _ _ _ _ (@pe_glob _ _ (.ref a.c_Cut) _ _ (by rfl) T.m_Cut rfl (by decide)) (@pa_nil _) (by rfl)) (by rfl)) (by decide) (by decide) (by rfl) (by rfl)) (@pa_cons _ _ _ _ _ (@pe_callB _ _ _ _ _ _ _ _ _ (cr_isE hE1 hE2.1 vcE) (by rfl) T.b_isinstance (by decide +kernel) (@pa_cons _ _ _ _ _ (@pv _ 3 _ _ (by rfl) (by first | exact Or.inl rfl | exact Or.inr (Or.inl rfl) | exact Or.inr (Or.inr rfl)) (by decide) (by decide)) (@pa_cons _ _ _ _ _ (@pe_glob _ _ (.ref a.c_Fallen) _ _ (by rfl) T.m_Fallen rfl (by decide)) (@pa_nil _) (by rfl)) (by rfl)) (by decide) (by decide) (by rfl) (by rfl)) (@pa_nil _) (by rfl)) (by rfl)) (by rfl)))) (by rfl) (by first | exact .inl rfl | exact .inr rfl | assumption)) (@pss_cons _ _ _ _ _ (@ps_set _ _ (5) _ _ _ _ sc__law_refused.nd rfl (by first | exact Or.inl rfl | exact Or.inr rfl) (@pe_lst _ _ _ _ (@pa_cons _ _ _ _ _ (@pe_str _ _ _ _) (@pa_cons _ _ _ _ _ (@pe_str _ _ _ _) (@pa_cons _ _ _ _ _ (@pe_str _ _ _ _) (@pa_cons _ _ _ _ _ (@pe_str _ _ _ _) (@pa_cons _ _ _ _ _ (@pe_str _ _ _ _) (@pa_cons _ _ _ _ _ (@pe_str _ _ _ _) (@pa_cons _ _ _ _ _ (@pe_str _ _ _ _) (@pa_nil _) (by rfl)) (by rfl)) (by rfl)) (by rfl)) (by rfl)) (by rfl)) (by rfl))) (by rfl) (by first | exact .inl rfl | exact .inr rfl | assumption)) (@pss_cons _ _ _ _ _ (@ps_if _ _ _ _ _ _ _ _ (@PW.pt _ _ _ (@pw_or _ _ _ _ _ _ _ (@pt_not _ _ _ _ (@pt_val _ _ _ (@pe_callB _ _ _ _ _ _ _ _ _ (cr_isE hE1 hE2.1 vcE) (by rfl) T.b_isinstance (by decide +kernel) (@pa_cons _ _ _ _ _ (@pv _ 3 _ _ (by rfl) (by first | exact Or.inl rfl | exact Or.inr (Or.inl rfl) | exact Or.inr (Or.inr rfl)) (by decide) (by decide)) (@pa_cons _ _ _ _ _ (@pe_bltn _ _ (.ty "ValueError") _ _ (by rfl) T.b_ValueError (by decide +kernel) rfl (by decide) (by decide)) (@pa_nil _) (by rfl)) (by rfl)) (by decide) (by decide) (by rfl) (by rfl)) (by intro _; rfl))) (@pw_or1 _ _ _ _ (@pt_cmpR _ _ _ _ _ _ _ (rNeD K) (op_neD hr.mark.units) (@pv _ 4 _ _ (by rfl) (by first | exact Or.inl rfl | exact Or.inr (Or.inl rfl) | exact Or.inr (Or.inr rfl)) (by decide) (by decide)) (@pe_lc _ _ _ _ _ _ ([("_law_one", 6)]) _ _ (gName 6) _ _ (by rfl) sc__law_refused.nd (pi_list (@pv _ 5 _ _ (by rfl) (by first | exact Or.inl rfl | exact Or.inr (Or.inl rfl) | exact Or.inr (Or.inr rfl)) (by decide) (by decide)) : PI _ _ _ (iList K _)) (blkOk_by (own := [("_law_one", 6)]) (N := ["_law_work", "_law_word", "_law_value", "e", "_law_kinds", "_law_words", "_law_one"]) (sc := defScope s__law_refused) (by decide +kernel)) (fun _ _ _ _ _ => @pg_name _ _ (6) _ sc__law_refused.nd rfl (Or.inl rfl) (by first | exact .inl rfl | exact .inr rfl | assumption)) (fun _ _ _ _ _ => @pts_nil _) (fun _ _ _ _ _ => (@pe_cmpR _ _ _ _ _ _ _ _ op_eq (@pv _ 1 _ _ (by rfl) (by first | exact Or.inl rfl | exact Or.inr (Or.inl rfl) | exact Or.inr (Or.inr rfl)) (by decide) (by decide)) (@pv _ 6 _ _ (by rfl) (by first | exact Or.inl rfl | exact Or.inr (Or.inl rfl) | exact Or.inr (Or.inr rfl)) (by decide) (by decide)) (nomark _))) (by intro _; rfl)) (nomark _))))) (@pss_one _ _ _ (@ps_ret _ _ _ _ (@pe_bl _ _ _ _))) (@pss_nil _)) (@pss_one _ _ _ (@ps_ret _ _ _ _ (@pe_or _ _ _ _ _ _ _ (@pe_cmpR _ _ _ _ _ _ _ _ op_ne (@pv _ 1 _ _ (by rfl) (by first | exact Or.inl rfl | exact Or.inr (Or.inl rfl) | exact Or.inr (Or.inr rfl)) (by decide) (by decide)) (@pe_str _ _ _ _) (nomark _)) (@pe_one _ _ _ _ _ (@pe_call _ _ _ _ _ _ _ _ _ _ _ _ _ _ _ _ (ok__law_alike (P := P) (w := w) (base := base) T 5) (hr.mark.mono (by decide)) (by rfl) T.m__law_alike T.F__law_alike.kp T.B__law_alike .nil pass0 (@pa_cons _ _ _ _ _ (@pe_exAt _ _ _ _ _ _ _ _ _ _ _ hE1 hE2 (@pv _ 3 _ _ (by rfl) (by first | exact Or.inl rfl | exact Or.inr (Or.inl rfl) | exact Or.inr (Or.inr rfl)) (by decide) (by decide)) rfl) (@pa_cons _ _ _ _ _ (@pv _ 2 _ _ (by rfl) (by first | exact Or.inl rfl | exact Or.inr (Or.inl rfl) | exact Or.inr (Or.inr rfl)) (by decide) (by decide)) (@pa_nil _) (by rfl)) (by rfl)) (by decide) (by rfl) (by rfl))))))))))) (ph_nil rfl))) (@pss_one _ _ _ (@ps_ret _ _ _ _ (@pe_bl _ _ _ _)))), ?_⟩
    refine ⟨f, rfl, W.mono (by decide) (fun _ _ z => z.elim) fun cls d H' z => ?_⟩
    obtain ⟨z, h⟩ := z
    rcases z with ⟨rfl, rfl⟩ | ⟨rfl, rfl, dA, rfl, hdA⟩
    · refine ⟨a.c_BadWays, rfl, T.xc_BadWays.w, ?_⟩
      refine itT T.tk_BadWays_BridgeError fun x hx => ?_
      refine ⟨_, rfl, _, _, _, rfl, rfl, (fun _ z => z), T.ki_BadWays_BadWorld, _, rfl, _, _, _, rfl, rfl, (fun _ z => z), T.ki_BadWays_BadLetter, _, rfl, _, _, _, rfl, rfl, (fun _ z => z), T.ki_BadWays_BadPlace, _, rfl, _, _, _, rfl, rfl, (fun _ z => z), T.ki_BadWays_BadWays, sz_le (by decide), fun l1 hl1 => ?_⟩
      refine ⟨_, rfl, _, rfl, _, _, _, rfl, rfl, (fun _ z => z), T.ki_BadWays_BadText, _, rfl, _, _, _, rfl, rfl, (fun _ z => z), T.ki_BadWays_Cut, _, rfl, _, _, _, rfl, rfl, (fun _ z => z), T.ki_BadWays_Fallen, sz_le (by decide), fun l2 hl2 => ?_⟩
      have sA := (Same.upd hl1).trans (Same.upd (o := .lst [.bl false, .bl false, .bl false]) hl2)
      refine ⟨l1, l2, _, _, rfl, rfl, upd_old upd_same hl2, upd_same, sz_le (show 7 ≤ 1000000 by decide), fun l3 hl3 => ?_⟩
      have sB := sA.trans (Same.upd (o := .lst kindsY) hl3)
      refine ⟨sz_le (show 7 ≤ 1000000 by decide), fun l4 hl4 => ?_⟩
      have sC := sB.trans (Same.upd (o := .lst wordsX) hl4)
      have h3 := upd_old (o := .lst kindsY) (o' := .lst wordsX) upd_same hl4
      refine ⟨_, rfl, _, _, _, rfl, rfl, (fun _ z => z), T.kv_BadWays, _, rfl, ?_⟩
      refine iteF ?_
      refine ⟨_, rfl, _, rfl, l4, rfl, ⟨_, SqL.of upd_same⟩, fun D hD => ?_⟩
      refine lc_fmL (fun v => some (.bl (decide (V.str "ways" = v)))) hD (SqL.of upd_same) (by decide) ?_ ?_
      · intro i x H1 R N hi s1 k1 k2
        obtain ⟨w1, rfl⟩ := wordsX_str (List.mem_of_getElem? hi)
        exact ⟨rfl, tYesT ⟨_, rfl, _, rfl, rfl, k1 _ rfl H1 (Same.refl H1)⟩⟩
      · intro H1 s1 hD1
        refine ⟨.list _, .list _, .lst (SqL.of (s1 _ _ h3)) kindsY_dp, .lst (SqL.of hD1) wordsY_dp, rfl, rfl, _, rfl, ?_⟩
        refine iteF ?_
        refine ⟨_, rfl, rfl, _, rfl, itT (by decide +kernel) (h _ (sC.trans s1))⟩
    · refine ⟨a.c_BadText, rfl, T.xw_BadText, ?_⟩
      refine itT T.tk_BadText_BridgeError fun x hx => ?_
      refine ⟨_, rfl, _, _, _, rfl, rfl, (fun _ z => z), T.ki_BadText_BadWorld, _, rfl, _, _, _, rfl, rfl, (fun _ z => z), T.ki_BadText_BadLetter, _, rfl, _, _, _, rfl, rfl, (fun _ z => z), T.ki_BadText_BadPlace, _, rfl, _, _, _, rfl, rfl, (fun _ z => z), T.ki_BadText_BadWays, sz_le (by decide), fun l1 hl1 => ?_⟩
      refine ⟨_, rfl, _, rfl, _, _, _, rfl, rfl, (fun _ z => z), T.ki_BadText_BadText, _, rfl, _, _, _, rfl, rfl, (fun _ z => z), T.ki_BadText_Cut, _, rfl, _, _, _, rfl, rfl, (fun _ z => z), T.ki_BadText_Fallen, sz_le (by decide), fun l2 hl2 => ?_⟩
      have sA := (Same.upd hl1).trans (Same.upd (o := .lst [.bl true, .bl false, .bl false]) hl2)
      refine ⟨l1, l2, _, _, rfl, rfl, upd_old upd_same hl2, upd_same, sz_le (show 7 ≤ 1000000 by decide), fun l3 hl3 => ?_⟩
      have sB := sA.trans (Same.upd (o := .lst kindsT) hl3)
      refine ⟨sz_le (show 7 ≤ 1000000 by decide), fun l4 hl4 => ?_⟩
      have sC := sB.trans (Same.upd (o := .lst wordsX) hl4)
      have h3 := upd_old (o := .lst kindsT) (o' := .lst wordsX) upd_same hl4
      refine ⟨_, rfl, _, _, _, rfl, rfl, (fun _ z => z), T.kv_BadText, _, rfl, ?_⟩
      refine iteF ?_
      refine ⟨_, rfl, _, rfl, l4, rfl, ⟨_, SqL.of upd_same⟩, fun D hD => ?_⟩
      refine lc_fmL (fun v => some (.bl (decide (V.str "text" = v)))) hD (SqL.of upd_same) (by decide) ?_ ?_
      · intro i x H1 R N hi s1 k1 k2
        obtain ⟨w1, rfl⟩ := wordsX_str (List.mem_of_getElem? hi)
        exact ⟨rfl, tYesT ⟨_, rfl, _, rfl, rfl, k1 _ rfl H1 (Same.refl H1)⟩⟩
      · intro H1 s1 hD1
        refine ⟨.list _, .list _, .lst (SqL.of (s1 _ _ h3)) kindsT_dp, .lst (SqL.of hD1) wordsT_dp, rfl, rfl, _, rfl, ?_⟩
        refine iteF ?_
        refine ⟨_, rfl, rfl, _, rfl, itF (by decide +kernel) ?_⟩
        refine ⟨_, rfl, rfl, ICl.rd (T.ic_BadText P inferInstance) T.xw_BadText.q, dA, _, n, rfl, (sC.trans s1) _ _ hdA, rfl, _, rfl, ?_⟩
        exact ⟨_, _, .int n, rfl, .int _, .int _, (show 0 < 5 by decide), fun H2 s2 => h _ ((sC.trans s1).trans s2)⟩
/-! ### _law_line -/
def sp_lawline : Sp := fun vs H Q _ => ∃ z, vs = [.str z] ∧ z.length ≤ 100000 ∧ okS z ∧ (parseW z = none → ∀ H', Same H H' → Q .non H') ∧ (∀ w, parseW z = some w → ∀ t H', Same H H' → H' t = some (.tup (wyV w)) → Q (.ref t) H')
theorem sc__law_line : FnScope ["_law_line_here", "_law_words", "_law_word"] ["_law_line_here"] (defScope s__law_line) := ⟨rfl, rfl, rfl, by decide +kernel, rfl, by decide +kernel, by decide +kernel⟩
set_option maxHeartbeats 4000000 in
theorem ok__law_line (T : Txt K mg a) : FnOk P w K mg base CX0 1 a.f__law_line a.d__law_line ["_law_line_here"] (sp_lawline) := by
  refine T.F__law_line.ok sc__law_line (fun vs H Q E h => ?_) (fun cdv A outer s H vs Q E hr h => ?_)
  · obtain ⟨z, rfl, hz, ok, k1, k2⟩ := h
    rfl
  · obtain ⟨z, rfl, hz, ok, k1, k2⟩ := h
    have hu := hu_of hr
    refine ⟨_, (@pss_cons _ _ _ _ _ (@ps_set _ _ (1) _ _ _ _ sc__law_line.nd rfl (by first | exact Or.inl rfl | exact Or.inr rfl) (@pe_bm _ _ _ _ _ _ _ _ _ _ _ _ PySem.F.plainAttrs_str PySem.F.slot_str_split PySem.F.type_str_split mt_split (@pv _ 0 _ _ (by rfl) (by first | exact Or.inl rfl | exact Or.inr (Or.inl rfl) | exact Or.inr (Or.inr rfl)) (by decide) (by decide)) (@pa_cons _ _ _ _ _ (@pe_str _ _ _ _) (@pa_nil _) (by rfl)) (by rfl) (by rfl) (by rfl) (by rfl) (by rfl)) (by rfl) (by first | exact .inl rfl | exact .inr rfl | assumption)) (@pss_cons _ _ _ _ _ (@ps_if _ _ _ _ _ _ _ _ (@PW.pt _ _ _ (@pw_or _ _ _ _ _ _ _ (@pt_cmpR _ _ _ _ _ _ _ _ op_ne (@pe_callB _ _ _ _ _ _ _ _ _ call_len_seq (by rfl) T.b_len (by decide +kernel) (@pa_cons _ _ _ _ _ (@pv _ 1 _ _ (by rfl) (by first | exact Or.inl rfl | exact Or.inr (Or.inl rfl) | exact Or.inr (Or.inr rfl)) (by decide) (by decide)) (@pa_nil _) (by rfl)) (by decide) (by decide) (by rfl) (by rfl)) (@pe_int _ _ _ _) (nomark _)) (@pw_or1 _ _ _ _ (@pt_cmpR _ _ _ _ _ _ _ _ op_notIn_seq (@pe_ix _ _ _ _ _ _ _ ix_list (@pv _ 1 _ _ (by rfl) (by first | exact Or.inl rfl | exact Or.inr (Or.inl rfl) | exact Or.inr (Or.inr rfl)) (by decide) (by decide)) (@pe_int _ _ _ _) (fun _ _ => rfl)) (@pe_tup _ _ _ _ _ (@pa_cons _ _ _ _ _ (@pe_str _ _ _ _) (@pa_cons _ _ _ _ _ (@pe_str _ _ _ _) (@pa_nil _) (by rfl)) (by rfl))) (by rfl))))) (@pss_one _ _ _ (@ps_ret _ _ _ _ (@pe_non _ _ _))) (@pss_nil _)) (@pss_cons _ _ _ _ _ (@ps_if _ _ _ _ _ _ _ _ (@pt_cmpR _ _ _ _ _ _ _ _ (op_neD hr.units) (@pe_lc _ _ _ _ _ _ ([("_law_word", 2)]) _ _ (gName 2) _ _ (by rfl) sc__law_line.nd (@pi_list _ _ _ _ (@pe_slice _ _ _ _ _ _ _ _ _ _ sl_list (@pv _ 1 _ _ (by rfl) (by first | exact Or.inl rfl | exact Or.inr (Or.inl rfl) | exact Or.inr (Or.inr rfl)) (by decide) (by decide)) (po_some (@pe_int _ _ _ _)) po_none)) (blkOk_by (own := [("_law_word", 2)]) (N := ["_law_line_here", "_law_words", "_law_word"]) (sc := defScope s__law_line) (by decide +kernel)) (fun _ _ _ _ _ => @pg_name _ _ (2) _ sc__law_line.nd rfl (Or.inl rfl) (by first | exact .inl rfl | exact .inr rfl | assumption)) (fun _ _ _ _ _ => @pts_one _ _ _ (@pt_cmpR _ _ _ _ _ _ _ (rIn K true) op_notIn_seq (@pv _ 2 _ _ (by rfl) (by first | exact Or.inl rfl | exact Or.inr (Or.inl rfl) | exact Or.inr (Or.inr rfl)) (by decide) (by decide)) (@pe_callTy _ _ _ _ _ _ _ _ _ cr_listStr (by rfl) T.b_list (by decide +kernel) (@pa_cons _ _ _ _ _ (@pe_str _ _ _ _) (@pa_nil _) (by rfl)) (by decide) (by decide) (by rfl) (by rfl)) (by rfl))) (fun _ _ _ _ _ => (@pv _ 2 _ _ (by rfl) (by first | exact Or.inl rfl | exact Or.inr (Or.inl rfl) | exact Or.inr (Or.inr rfl)) (by decide) (by decide))) (by intro _; rfl)) (@pe_lst _ _ _ _ (@pa_nil _)) (nomark _)) (@pss_one _ _ _ (@ps_ret _ _ _ _ (@pe_non _ _ _))) (@pss_nil _)) (@pss_one _ _ _ (@ps_ret _ _ _ _ (@pe_tup _ _ _ _ _ (@pa_cons _ _ _ _ _ (@pe_ix _ _ _ _ _ _ _ ix_list (@pv _ 1 _ _ (by rfl) (by first | exact Or.inl rfl | exact Or.inr (Or.inl rfl) | exact Or.inr (Or.inr rfl)) (by decide) (by decide)) (@pe_int _ _ _ _) (fun _ _ => rfl)) (@pa_cons _ _ _ _ _ (@pe_callTy _ _ _ _ _ _ _ _ _ call_int_str (by rfl) T.b_int (by decide +kernel) (@pa_cons _ _ _ _ _ (@pe_ix _ _ _ _ _ _ _ ix_list (@pv _ 1 _ _ (by rfl) (by first | exact Or.inl rfl | exact Or.inr (Or.inl rfl) | exact Or.inr (Or.inr rfl)) (by decide) (by decide)) (@pe_int _ _ _ _) (fun _ _ => rfl)) (@pa_nil _) (by rfl)) (by decide) (by decide) (by rfl) (by rfl)) (@pa_cons _ _ _ _ _ (@pe_callTy _ _ _ _ _ _ _ _ _ call_int_str (by rfl) T.b_int (by decide +kernel) (@pa_cons _ _ _ _ _ (@pe_ix _ _ _ _ _ _ _ ix_list (@pv _ 1 _ _ (by rfl) (by first | exact Or.inl rfl | exact Or.inr (Or.inl rfl) | exact Or.inr (Or.inr rfl)) (by decide) (by decide)) (@pe_int _ _ _ _) (fun _ _ => rfl)) (@pa_nil _) (by rfl)) (by decide) (by decide) (by rfl) (by rfl)) (@pa_nil _) (by rfl)) (by rfl)) (by rfl)))))))), ?_⟩
    refine ⟨_, rfl, rfl, _, _, rfl, rfl, (by decide +kernel), Nat.le_trans (show z.length + 2 ≤ 1000000 by omega) (Nat.le_of_lt line_ge0), fun p hp => ?_⟩
    have sp := Same.upd (o := .lst ((Txt.split z " ").map V.str)) hp
    have hpp : (upd H p (.lst ((Txt.split z " ").map V.str))) p = some (.lst ((Txt.split z " ").map V.str)) := upd_same
    refine ⟨_, rfl, p, _, rfl, .inl (SqL.of hpp), rfl, _, rfl, ?_⟩
    rw [List.length_map]
    by_cases e : (Txt.split z " ").length = 3
    · refine itF (by simp [e]) ?_
      obtain ⟨w, x, y, e3⟩ := len_three e
      rw [e3] at hpp sp ⊢
      generalize upd H p (.lst ([w, x, y].map V.str)) = H1 at hpp sp ⊢
      refine ⟨_, rfl, p, _, _, _, rfl, rfl, SqL.of hpp, at_of (j := 0) rfl rfl, sz_le (show 2 ≤ 1000000 by decide), fun q hq => ⟨q, _, rfl, .inr (SqT.of upd_same), rfl, rfl, _, rfl, ?_⟩⟩
      have sq := sp.trans (Same.upd (o := .tup [.str "over", .str "back"]) hq)
      have hpq := upd_old (o' := .tup [.str "over", .str "back"]) hpp hq
      generalize upd H1 q (.tup [.str "over", .str "back"]) = H2 at sq hpq ⊢
      have pe := parseW_of e3
      cases hw : wordV w with
      | none =>
        refine itT (by show (!inV (V.str w) _) = true; rw [wordV_in, hw]; rfl) ?_
        exact k1 (by rw [pe, hw]; rfl) _ sq
      | some i =>
        refine itF (by show (!inV (V.str w) _) = false; rw [wordV_in, hw]; rfl) ?_
        refine ⟨_, rfl, 1, rfl, p, _, rfl, SqL.of hpq, fun s0 hs0 => ?_⟩
        have okp : ∀ s ∈ [x, y], okS s := fun s hs => okS_split (x := z) (y := " ") (s := 32) (by decide +kernel) (by decide +kernel) ok s (by rw [e3]; exact List.mem_cons_of_mem _ hs)
        have ecut : cutV ([w, x, y].map V.str) (some 1) none = [V.str x, V.str y] := by rfl
        have hs1 : (upd H2 s0 (.lst (cutV ([w, x, y].map V.str) (some 1) none))) s0 = some (.lst [V.str x, V.str y]) := by rw [ecut]; exact upd_same
        have hp3 := upd_old (o' := .lst (cutV ([w, x, y].map V.str) (some 1) none)) hpq hs0
        have s3 := sq.trans (Same.upd (o := .lst (cutV ([w, x, y].map V.str) (some 1) none)) hs0)
        refine ⟨s0, rfl, ⟨_, SqL.of hs1⟩, fun D hD => ?_⟩
        generalize upd H2 s0 (.lst (cutV ([w, x, y].map V.str) (some 1) none)) = H3 at hs1 hp3 s3 hD ⊢
        refine lc_list (K := K) (a := s0) (xs := [V.str x, V.str y]) (fun i H' => Same H3 H' ∧ ∃ acc : List Str, H' D = some (.lst (acc.map V.str)) ∧ acc.length ≤ i ∧ (∀ s ∈ acc, okS s) ∧ acc.isEmpty = ([x, y].take i).all fun s => (digV s).isSome) ⟨Same.upd hD, [], upd_same, Nat.le_refl _, (fun _ h => nomatch h), rfl⟩ (fun i H' _ z => SqL.of (z.1 _ _ hs1)) ?_ ?_
        · rintro j v H' hj ⟨sm, acc, hD', la, oa, ea⟩
          obtain ⟨sx, hsx, rfl⟩ : ∃ sx, [x, y][j]? = some sx ∧ v = V.str sx := by
            have z : ([x, y].map V.str)[j]? = some v := hj
            rw [List.getElem?_map] at z
            obtain ⟨sx, a, b⟩ := Option.map_eq_some_iff.mp z
            exact ⟨sx, a, b.symm⟩
          have e : [x, y].take (j + 1) = [x, y].take j ++ [sx] := by rw [List.take_succ, hsx]; rfl
          have jl := (List.getElem?_eq_some_iff.mp hsx).1
          refine ⟨rfl, _, rfl, _, rfl, by decide +kernel, by decide +kernel, fun l hl => ⟨l, _, rfl, .inl (SqL.of (by rw [digs2_eq]; exact upd_same)), rfl, digsV_flat, _, rfl, ?_⟩⟩
          have sl := sm.trans (Same.upd (o := .lst ((TL.tl (Str.ofString "012345")).map fun c => V.str ⟨#[c]⟩)) hl)
          have hD4 := upd_old (o' := .lst ((TL.tl (Str.ofString "012345")).map fun c => V.str ⟨#[c]⟩)) hD' hl
          cases hd : digV sx with
          | some d =>
            refine itF (by show (!inV (V.str sx) _) = false; rw [digsV_in, hd]; rfl) ⟨sl, acc, hD4, by omega, oa, ?_⟩
            rw [e, List.all_append, ← ea]; simp [hd]
          | none =>
            refine itT (by show (!inV (V.str sx) _) = true; rw [digsV_in, hd]; rfl) ⟨_, rfl, acc.map V.str, hD4, sz_lt (by rw [List.length_map]; simp at jl; omega), fun b o hb => ?_, acc ++ [sx], by rw [upd_same, List.map_append]; rfl, by rw [List.length_append, List.length_singleton]; omega, fun s hs => ?_, ?_⟩
            · rw [upd_ne (ne_of_none hb hD)]; exact sl _ _ hb
            · rcases List.mem_append.mp hs with z | z
              · exact oa s z
              · rw [List.mem_singleton.mp z]; exact okp sx (List.mem_of_getElem? hsx)
            · rw [e, List.all_append]; simp [hd]
        · rintro H4 ⟨s4, acc, hD4, la, oa, ea⟩
          have ea : acc.isEmpty = ((digV x).isSome && (digV y).isSome) := by rw [ea]; simp
          have s14 := s3.trans s4
          refine ⟨Nat.zero_le _, fun p0 hp0 => ?_⟩
          have s15 := s14.trans (Same.upd (o := .lst []) hp0)
          have hD5 := upd_old (o' := .lst []) hD4 hp0
          have hp5 := upd_old (o' := .lst []) (s4 _ _ hp3) hp0
          have h05 : (upd H4 p0 (.lst [])) p0 = some (.lst []) := upd_same
          generalize upd H4 p0 (.lst []) = H5 at s15 hD5 hp5 h05 ⊢
          have bad : ∀ s r, acc = s :: r → parseW z = none := fun s r ez => by
            rw [ez] at ea
            rw [pe, hw]
            cases hx : digV x with
            | none => rfl
            | some r0 =>
              cases hy : digV y with
              | none => rfl
              | some g0 => rw [hx, hy] at ea; cases ea
          refine ⟨.list (acc.map PyData.str), .list [], .lst (SqL.of hD5) (strs_dp acc), .lst (SqL.of h05) .nil, strs_shaped oa, rfl, _, rfl, ?_⟩
          cases acc with
          | cons s r => exact itT (by simp [PyData.eqv, PyData.eqvAll]) (k1 (bad s r rfl) _ s15)
          | nil =>
            refine itF (by simp [PyData.eqv, PyData.eqvAll]) ?_
            obtain ⟨r, hx⟩ : ∃ r, digV x = some r := by
              cases hx : digV x with
              | none => rw [hx] at ea; cases ea
              | some r => exact ⟨r, rfl⟩
            obtain ⟨g, hy⟩ : ∃ g, digV y = some g := by
              cases hy : digV y with
              | none => rw [hx, hy] at ea; cases ea
              | some g => exact ⟨g, rfl⟩
            obtain ⟨r6, rfl⟩ := digV_num hx
            obtain ⟨g6, rfl⟩ := digV_num hy
            obtain rfl := wordV_word hw
            refine ⟨_, rfl, p, _, _, _, rfl, rfl, SqL.of hp5, at_of (j := 0) rfl rfl, _, rfl, p, _, _, _, rfl, rfl, SqL.of hp5, at_of (j := 1) rfl rfl, _, _, rfl, (dig_all r r6).1, by rw [(dig_all r r6).2]; decide, _, rfl, p, _, _, _, rfl, rfl, SqL.of hp5, at_of (j := 2) rfl rfl, _, _, rfl, (dig_all g g6).1, by rw [(dig_all g g6).2]; decide, sz_le (show 3 ≤ 1000000 by decide), fun t ht => ?_⟩
            exact k2 (i, r, g) (by rw [pe, hw, hx, hy]; rfl) t _ (s15.trans (Same.upd ht)) upd_same
    · refine itT (len_ne1 e) (iteT ?_)
      exact k1 (parseW_len e) _ sp
/-! ### _law_changed -/
def oddsS : List Str := ["", "over", "back", "Over", "0", "5", "6", "00", "-1", "x", "01"]
def oddsC : List V := oddsS.map V.str
theorem odds_ok : ∀ s ∈ oddsS, okS s ∧ s.length ≤ 4 := by
  have h : ∀ s ∈ oddsS, (∀ c ∈ TL.tl s, c < 0x110000) ∧ s.length ≤ 4 := by decide +kernel
  exact h
def sp_changed : Sp := fun vs H Q _ => ∃ d xs z, vs = [.ref d, .str z] ∧ H d = some (.lst xs) ∧ DiceL xs ∧ okS z ∧ z.length ≤ 10000 ∧
  ∀ ys z' H', DiceL ys → okS z' → z'.length ≤ 6 * z.length + 8 → H' d = some (.lst ys) → Fr [d] H H' → Q (.str z') H'
theorem sc__law_changed : FnScope ["_law_d", "_law_text", "_law_lines", "_law_at", "_law_words", "_law_k", "_law_odd", "_law_kind", "_law_word"] ["_law_d", "_law_text"] (defScope s__law_changed) := ⟨rfl, rfl, rfl, by decide +kernel, rfl, by decide +kernel, by decide +kernel⟩
set_option maxHeartbeats 4000000 in
theorem ok__law_changed (T : Txt K mg a) : FnOk P w K mg base CX0 2 a.f__law_changed a.d__law_changed ["_law_d", "_law_text"] (sp_changed) := by
  refine T.F__law_changed.ok sc__law_changed (fun vs H Q E h => ?_) (fun cdv A outer s H vs Q E hr h => ?_)
  · obtain ⟨d, xs0, z, rfl, hd, D0, oz, lz, k⟩ := h
    rfl
  · obtain ⟨d, xs0, z, rfl, hd, D0, oz, lz, k⟩ := h
    have hu := hu_of hr
    refine ⟨_, (@pss_cons _ _ _ _ _ (@ps_set _ _ (2) _ _ _ _ sc__law_changed.nd rfl (by first | exact Or.inl rfl | exact Or.inr rfl) (@pe_bm _ _ _ _ _ _ _ _ _ _ _ _ PySem.F.plainAttrs_str PySem.F.slot_str_split PySem.F.type_str_split mt_split (@pv _ 1 _ _ (by rfl) (by first | exact Or.inl rfl | exact Or.inr (Or.inl rfl) | exact Or.inr (Or.inr rfl)) (by decide) (by decide)) (@pa_cons _ _ _ _ _ (@pe_str _ _ _ _) (@pa_nil _) (by rfl)) (by rfl) (by rfl) (by rfl) (by rfl) (by rfl)) (by rfl) (by first | exact .inl rfl | exact .inr rfl | assumption)) (@pss_cons _ _ _ _ _ (@ps_set _ _ (3) _ _ _ _ sc__law_changed.nd rfl (by first | exact Or.inl rfl | exact Or.inr rfl) (@pe_call _ _ _ _ _ _ _ _ _ _ _ _ _ _ _ _ (ok__law_off (P := P) (w := w) (base := base) T) (hr.mono (by decide)) (by rfl) T.m__law_off T.F__law_off.kp T.B__law_off .nil pass0 (@pa_cons _ _ _ _ _ (@pv _ 0 _ _ (by rfl) (by first | exact Or.inl rfl | exact Or.inr (Or.inl rfl) | exact Or.inr (Or.inr rfl)) (by decide) (by decide)) (@pa_cons _ _ _ _ _ (@pe_callB _ _ _ _ _ _ _ _ _ call_len_seq (by rfl) T.b_len (by decide +kernel) (@pa_cons _ _ _ _ _ (@pv _ 2 _ _ (by rfl) (by first | exact Or.inl rfl | exact Or.inr (Or.inl rfl) | exact Or.inr (Or.inr rfl)) (by decide) (by decide)) (@pa_nil _) (by rfl)) (by decide) (by decide) (by rfl) (by rfl)) (@pa_nil _) (by rfl)) (by rfl)) (by decide) (by rfl) (by rfl)) (by rfl) (by first | exact .inl rfl | exact .inr rfl | assumption)) (@pss_cons _ _ _ _ _ (@ps_set _ _ (4) _ _ _ _ sc__law_changed.nd rfl (by first | exact Or.inl rfl | exact Or.inr rfl) (@pe_bm _ _ _ _ _ _ _ _ _ _ _ _ PySem.F.plainAttrs_str PySem.F.slot_str_split PySem.F.type_str_split mt_split (@pe_ix _ _ _ _ _ _ _ ix_list (@pv _ 2 _ _ (by rfl) (by first | exact Or.inl rfl | exact Or.inr (Or.inl rfl) | exact Or.inr (Or.inr rfl)) (by decide) (by decide)) (@pv _ 3 _ _ (by rfl) (by first | exact Or.inl rfl | exact Or.inr (Or.inl rfl) | exact Or.inr (Or.inr rfl)) (by decide) (by decide)) (fun _ _ => rfl)) (@pa_cons _ _ _ _ _ (@pe_str _ _ _ _) (@pa_nil _) (by rfl)) (by rfl) (by rfl) (by rfl) (by rfl) (by rfl)) (by rfl) (by first | exact .inl rfl | exact .inr rfl | assumption)) (@pss_cons _ _ _ _ _ (@ps_set _ _ (5) _ _ _ _ sc__law_changed.nd rfl (by first | exact Or.inl rfl | exact Or.inr rfl) (@pe_call _ _ _ _ _ _ _ _ _ _ _ _ _ _ _ _ (ok__law_off (P := P) (w := w) (base := base) T) (hr.mono (by decide)) (by rfl) T.m__law_off T.F__law_off.kp T.B__law_off .nil pass0 (@pa_cons _ _ _ _ _ (@pv _ 0 _ _ (by rfl) (by first | exact Or.inl rfl | exact Or.inr (Or.inl rfl) | exact Or.inr (Or.inr rfl)) (by decide) (by decide)) (@pa_cons _ _ _ _ _ (@pe_op _ _ _ _ _ _ _ _ op_add (@pe_callB _ _ _ _ _ _ _ _ _ call_len_seq (by rfl) T.b_len (by decide +kernel) (@pa_cons _ _ _ _ _ (@pv _ 4 _ _ (by rfl) (by first | exact Or.inl rfl | exact Or.inr (Or.inl rfl) | exact Or.inr (Or.inr rfl)) (by decide) (by decide)) (@pa_nil _) (by rfl)) (by decide) (by decide) (by rfl) (by rfl)) (@pe_int _ _ _ _)) (@pa_nil _) (by rfl)) (by rfl)) (by decide) (by rfl) (by rfl)) (by rfl) (by first | exact .inl rfl | exact .inr rfl | assumption)) (@pss_cons _ _ _ _ _ (@ps_set _ _ (6) _ _ _ _ sc__law_changed.nd rfl (by first | exact Or.inl rfl | exact Or.inr rfl) (@pe_lst _ _ _ _ (@pa_cons _ _ _ _ _ (@pe_str _ _ _ _) (@pa_cons _ _ _ _ _ (@pe_str _ _ _ _) (@pa_cons _ _ _ _ _ (@pe_str _ _ _ _) (@pa_cons _ _ _ _ _ (@pe_str _ _ _ _) (@pa_cons _ _ _ _ _ (@pe_str _ _ _ _) (@pa_cons _ _ _ _ _ (@pe_str _ _ _ _) (@pa_cons _ _ _ _ _ (@pe_str _ _ _ _) (@pa_cons _ _ _ _ _ (@pe_str _ _ _ _) (@pa_cons _ _ _ _ _ (@pe_str _ _ _ _) (@pa_cons _ _ _ _ _ (@pe_str _ _ _ _) (@pa_cons _ _ _ _ _ (@pe_str _ _ _ _) (@pa_nil _) (by rfl)) (by rfl)) (by rfl)) (by rfl)) (by rfl)) (by rfl)) (by rfl)) (by rfl)) (by rfl)) (by rfl)) (by rfl))) (by rfl) (by first | exact .inl rfl | exact .inr rfl | assumption)) (@pss_cons _ _ _ _ _ (@ps_set _ _ (7) _ _ _ _ sc__law_changed.nd rfl (by first | exact Or.inl rfl | exact Or.inr rfl) (@pe_call _ _ _ _ _ _ _ _ _ _ _ _ _ _ _ _ (ok__law_off (P := P) (w := w) (base := base) T) (hr.mono (by decide)) (by rfl) T.m__law_off T.F__law_off.kp T.B__law_off .nil pass0 (@pa_cons _ _ _ _ _ (@pv _ 0 _ _ (by rfl) (by first | exact Or.inl rfl | exact Or.inr (Or.inl rfl) | exact Or.inr (Or.inr rfl)) (by decide) (by decide)) (@pa_cons _ _ _ _ _ (@pe_int _ _ _ _) (@pa_nil _) (by rfl)) (by rfl)) (by decide) (by rfl) (by rfl)) (by rfl) (by first | exact .inl rfl | exact .inr rfl | assumption)) (@pss_cons _ _ _ _ _ (@ps_set _ _ (8) _ _ _ _ sc__law_changed.nd rfl (by first | exact Or.inl rfl | exact Or.inr rfl) (@pe_op _ _ _ _ _ _ _ _ op_rep (@pe_lst _ _ _ _ (@pa_cons _ _ _ _ _ (@pe_ix _ _ _ _ _ _ _ ix_list (@pv _ 6 _ _ (by rfl) (by first | exact Or.inl rfl | exact Or.inr (Or.inl rfl) | exact Or.inr (Or.inr rfl)) (by decide) (by decide)) (@pe_call _ _ _ _ _ _ _ _ _ _ _ _ _ _ _ _ (ok__law_off (P := P) (w := w) (base := base) T) (hr.mono (by decide)) (by rfl) T.m__law_off T.F__law_off.kp T.B__law_off .nil pass0 (@pa_cons _ _ _ _ _ (@pv _ 0 _ _ (by rfl) (by first | exact Or.inl rfl | exact Or.inr (Or.inl rfl) | exact Or.inr (Or.inr rfl)) (by decide) (by decide)) (@pa_cons _ _ _ _ _ (@pe_int _ _ _ _) (@pa_nil _) (by rfl)) (by rfl)) (by decide) (by rfl) (by rfl)) (fun _ _ => rfl)) (@pa_nil _) (by rfl))) (@pe_callTy _ _ _ _ _ _ _ _ _ call_int1 (by rfl) T.b_int (by decide +kernel) (@pa_cons _ _ _ _ _ (@pe_cmpR _ _ _ _ _ _ _ _ op_gt (@pv _ 7 _ _ (by rfl) (by first | exact Or.inl rfl | exact Or.inr (Or.inl rfl) | exact Or.inr (Or.inr rfl)) (by decide) (by decide)) (@pe_int _ _ _ _) (nomark _)) (@pa_nil _) (by rfl)) (by decide) (by decide) (by rfl) (by rfl))) (by rfl) (by first | exact .inl rfl | exact .inr rfl | assumption)) (@pss_cons _ _ _ _ _ (@ps_asg _ _ _ _ _ _ (@pe_bm _ _ _ _ _ _ _ _ _ _ _ _ PySem.F.plainAttrs_str PySem.F.slot_str_join PySem.F.type_str_join mt_join (@pe_str _ _ _ _) (@pa_cons _ _ _ _ _ (@pe_op _ _ _ _ _ _ _ _ op_cat (@pe_op _ _ _ _ _ _ _ _ op_cat (@pe_slice _ _ _ _ _ _ _ _ _ _ sl_list (@pv _ 4 _ _ (by rfl) (by first | exact Or.inl rfl | exact Or.inr (Or.inl rfl) | exact Or.inr (Or.inr rfl)) (by decide) (by decide)) po_none (po_some (@pv _ 5 _ _ (by rfl) (by first | exact Or.inl rfl | exact Or.inr (Or.inl rfl) | exact Or.inr (Or.inr rfl)) (by decide) (by decide)))) (@pv _ 8 _ _ (by rfl) (by first | exact Or.inl rfl | exact Or.inr (Or.inl rfl) | exact Or.inr (Or.inr rfl)) (by decide) (by decide))) (@pe_slice _ _ _ _ _ _ _ _ _ _ sl_list (@pv _ 4 _ _ (by rfl) (by first | exact Or.inl rfl | exact Or.inr (Or.inl rfl) | exact Or.inr (Or.inr rfl)) (by decide) (by decide)) (po_some (@pe_op _ _ _ _ _ _ _ _ op_add (@pv _ 5 _ _ (by rfl) (by first | exact Or.inl rfl | exact Or.inr (Or.inl rfl) | exact Or.inr (Or.inr rfl)) (by decide) (by decide)) (@pe_callTy _ _ _ _ _ _ _ _ _ call_int1 (by rfl) T.b_int (by decide +kernel) (@pa_cons _ _ _ _ _ (@pe_cmpR _ _ _ _ _ _ _ _ op_lt (@pv _ 7 _ _ (by rfl) (by first | exact Or.inl rfl | exact Or.inr (Or.inl rfl) | exact Or.inr (Or.inr rfl)) (by decide) (by decide)) (@pe_int _ _ _ _) (nomark _)) (@pa_nil _) (by rfl)) (by decide) (by decide) (by rfl) (by rfl)))) po_none)) (@pa_nil _) (by rfl)) (by rfl) (by rfl) (by rfl) (by rfl) (by rfl)) (@pg_sub _ _ _ _ _ _ _ (@pv _ 2 _ _ (by rfl) (by first | exact Or.inl rfl | exact Or.inr (Or.inl rfl) | exact Or.inr (Or.inr rfl)) (by decide) (by decide)) (@pv _ 3 _ _ (by rfl) (by first | exact Or.inl rfl | exact Or.inr (Or.inl rfl) | exact Or.inr (Or.inr rfl)) (by decide) (by decide)) set_list (by intro _; rfl)) (by rfl) (by rfl) (by rfl)) (@pss_one _ _ _ (@ps_ret _ _ _ _ (@pe_bm _ _ _ _ _ _ _ _ _ _ _ _ PySem.F.plainAttrs_str PySem.F.slot_str_join PySem.F.type_str_join mt_join (@pe_str _ _ _ _) (@pa_cons _ _ _ _ _ (@pv _ 2 _ _ (by rfl) (by first | exact Or.inl rfl | exact Or.inr (Or.inl rfl) | exact Or.inr (Or.inr rfl)) (by decide) (by decide)) (@pa_nil _) (by rfl)) (by rfl) (by rfl) (by rfl) (by rfl) (by rfl)))))))))))), ?_⟩
    have hsl := (split_len (x := z) (y := "\n") (s := 10) (by decide +kernel) (by decide +kernel))
    have hlm := fun x hx => len_mem (l := Txt.split z "\n") (x := x) hx
    have oks := okS_split (x := z) (y := "\n") (s := 10) (by decide +kernel) (by decide +kernel) oz
    have lne : 0 < (Txt.split z "\n").length := split_pos (x := z) (y := "\n") (s := 10) (by decide +kernel) (by decide +kernel)
    refine ⟨_, rfl, rfl, _, _, rfl, rfl, (by decide +kernel), sz_le (by omega), ?_⟩
    generalize Txt.split z "\n" = ls at hsl hlm oks lne ⊢
    intro p hp
    have hp0 := hp
    have hd1 := upd_old (o' := .lst (ls.map V.str)) hd hp
    have f1 : Fr [d] H (upd H p (.lst (ls.map V.str))) := Fr.new hp
    have hp1 := upd_same (H := H) (a := p) (o := .lst (ls.map V.str))
    have dp := ne_of_none hd hp
    generalize upd H p (.lst (ls.map V.str)) = H1 at hd1 f1 hp1 ⊢
    refine ⟨_, rfl, _, rfl, p, _, rfl, .inl (SqL.of hp1), d, _, _, rfl, hd1, D0, by rw [List.length_map]; omega, by rw [List.length_map]; omega, fun v ys1 v0 v1 D1 => ?_⟩
    have hd2 := upd_same (H := H1) (a := d) (o := .lst ys1)
    have hp2 : (upd H1 d (.lst ys1)) p = _ := (upd_ne (Ne.symm dp)).trans hp1
    have f2 := f1.trans (Fr.put (F := [d]) (H := H1) (p := d) (o := .lst ys1) (by simp))
    generalize upd H1 d (.lst ys1) = H2 at hd2 f2 hp2 ⊢
    clear hd hp hd1 hp1 f1
    obtain ⟨at0, rfl⟩ := Int.eq_ofNat_of_zero_le v0
    rw [List.length_map] at v1
    have lat : at0 < ls.length := by omega
    obtain ⟨line, hline⟩ : ∃ line, ls[at0]? = some line := ⟨_, List.getElem?_eq_getElem lat⟩
    have mline := List.mem_of_getElem? hline
    have hw := (split_len (x := line) (y := " ") (s := 32) (by decide +kernel) (by decide +kernel))
    have ow := okS_split (x := line) (y := " ") (s := 32) (by decide +kernel) (by decide +kernel) (oks _ mline)
    have ll := hlm _ mline
    refine ⟨_, rfl, _, rfl, p, _, _, .str line, rfl, rfl, SqL.of hp2, at_of (j := at0) rfl (by rw [List.getElem?_map, hline]; rfl), rfl, _, _, rfl, rfl, (by decide +kernel), sz_le (by omega), ?_⟩
    generalize Txt.split line " " = wds at hw ow ⊢
    intro q hq
    have dq := ne_of_none hd2 hq
    have pq := ne_of_none hp2 hq
    have hd3 := upd_old (o' := .lst (wds.map V.str)) hd2 hq
    have hp3 := upd_old (o' := .lst (wds.map V.str)) hp2 hq
    have f3 := f2.trans (Fr.new (p := q) (o := .lst (wds.map V.str)) hq)
    have hq3 := upd_same (H := H2) (a := q) (o := .lst (wds.map V.str))
    generalize upd H2 q (.lst (wds.map V.str)) = H3 at hd3 f3 hp3 hq3 ⊢
    clear hd2 hp2 hq f2
    refine ⟨_, rfl, _, rfl, q, _, rfl, .inl (SqL.of hq3), _, _, rfl, rfl, d, _, _, rfl, hd3, D1, by rw [List.length_map]; omega, by rw [List.length_map]; omega, fun v2 ys2 w0 w1 D2 => ?_⟩
    have hd4 := upd_same (H := H3) (a := d) (o := .lst ys2)
    have hp4 : (upd H3 d (.lst ys2)) p = _ := (upd_ne (Ne.symm dp)).trans hp3
    have hq4 : (upd H3 d (.lst ys2)) q = _ := (upd_ne (Ne.symm dq)).trans hq3
    have f4 := f3.trans (Fr.put (F := [d]) (H := H3) (p := d) (o := .lst ys2) (by simp))
    generalize upd H3 d (.lst ys2) = H4 at hd4 f4 hp4 hq4 ⊢
    clear hd3 hp3 hq3 f3
    obtain ⟨k0, rfl⟩ := Int.eq_ofNat_of_zero_le w0
    rw [List.length_map] at w1
    refine ⟨sz_le (show 11 ≤ 1000000 by decide), fun o ho => ?_⟩
    have do' := ne_of_none hd4 ho
    have po := ne_of_none hp4 ho
    have qo := ne_of_none hq4 ho
    have hd5 := upd_old (o' := .lst oddsC) hd4 ho
    have hp5 := upd_old (o' := .lst oddsC) hp4 ho
    have hq5 := upd_old (o' := .lst oddsC) hq4 ho
    have ho5 := upd_same (H := H4) (a := o) (o := .lst oddsC)
    have f5 := f4.trans (Fr.new (p := o) (o := .lst oddsC) ho)
    have eo : oddsC = [.str "", .str "over", .str "back", .str "Over", .str "0", .str "5", .str "6", .str "00", .str "-1", .str "x", .str "01"] := rfl
    rw [← eo]
    generalize upd H4 o (.lst oddsC) = H5 at hd5 f5 hp5 hq5 ho5 ⊢
    clear hd4 hp4 hq4 ho f4
    refine ⟨_, rfl, d, _, _, rfl, hd5, D2, by decide, by decide, fun kd ys3 c0 c1 D3 => ?_⟩
    have hd6 := upd_same (H := H5) (a := d) (o := .lst ys3)
    have hp6 : (upd H5 d (.lst ys3)) p = _ := (upd_ne (Ne.symm dp)).trans hp5
    have hq6 : (upd H5 d (.lst ys3)) q = _ := (upd_ne (Ne.symm dq)).trans hq5
    have ho6 : (upd H5 d (.lst ys3)) o = _ := (upd_ne (Ne.symm do')).trans ho5
    have f6 := f5.trans (Fr.put (F := [d]) (H := H5) (p := d) (o := .lst ys3) (by simp))
    generalize upd H5 d (.lst ys3) = H6 at hd6 f6 hp6 hq6 ho6 ⊢
    clear hd5 hp5 hq5 ho5 f5
    refine ⟨_, rfl, _, rfl, d, _, _, rfl, hd6, D3, by decide, by decide, fun n ys4 n0 n1 D4 => ?_⟩
    have hd7 := upd_same (H := H6) (a := d) (o := .lst ys4)
    have hp7 : (upd H6 d (.lst ys4)) p = _ := (upd_ne (Ne.symm dp)).trans hp6
    have hq7 : (upd H6 d (.lst ys4)) q = _ := (upd_ne (Ne.symm dq)).trans hq6
    have ho7 : (upd H6 d (.lst ys4)) o = _ := (upd_ne (Ne.symm do')).trans ho6
    have f7 := f6.trans (Fr.put (F := [d]) (H := H6) (p := d) (o := .lst ys4) (by simp))
    generalize upd H6 d (.lst ys4) = H7 at hd7 f7 hp7 hq7 ho7 ⊢
    clear hd6 hp6 hq6 ho6 f6
    obtain ⟨n', rfl⟩ := Int.eq_ofNat_of_zero_le n0
    obtain ⟨wd, hwd⟩ : ∃ wd, oddsS[n']? = some wd := ⟨_, List.getElem?_eq_getElem (show n' < 11 by omega)⟩
    have hwo := odds_ok _ (List.mem_of_getElem? hwd)
    refine ⟨o, _, _, .str wd, rfl, rfl, SqL.of ho7, at_of (j := n') rfl (by rw [oddsC, List.getElem?_map, hwd]; rfl), sz_le (show 1 ≤ 1000000 by decide), fun l hl => ?_⟩
    have hd8 := upd_old (o' := .lst [.str wd]) hd7 hl
    have hp8 := upd_old (o' := .lst [.str wd]) hp7 hl
    have hq8 := upd_old (o' := .lst [.str wd]) hq7 hl
    have hl8 := upd_same (H := H7) (a := l) (o := .lst [.str wd])
    have f8 := f7.trans (Fr.new (p := l) (o := .lst [.str wd]) hl)
    generalize upd H7 l (.lst [.str wd]) = H8 at hd8 f8 hp8 hq8 hl8 ⊢
    clear hd7 hp7 hq7 ho7 hl f7
    refine ⟨_, rfl, _, _, rfl, rfl, .inr ⟨_, rfl, l, _, _, rfl, rfl, hl8, by split <;> decide, by split <;> decide, sz_le (by rw [List.length_singleton, Nat.one_mul]; split <;> decide), fun r hr' => ?_⟩⟩
    obtain ⟨rw8, er8, lrw, orw⟩ : ∃ rw8 : List Str, (List.replicate (if decide ((0 : Int) < kd) = true then (1 : Int) else 0).toNat [V.str wd]).flatten = rw8.map V.str ∧ ((rw8.map (·.length)).sum ≤ 4 ∧ rw8.length ≤ 1) ∧ ∀ s ∈ rw8, okS s := by
      split
      · exact ⟨[wd], rfl, by simpa using hwo.2, by simpa using hwo.1⟩
      · exact ⟨[], rfl, by simp, by simp⟩
    rw [er8]
    have hd9 := upd_old (o' := .lst (rw8.map V.str)) hd8 hr'
    have hp9 := upd_old (o' := .lst (rw8.map V.str)) hp8 hr'
    have hq9 := upd_old (o' := .lst (rw8.map V.str)) hq8 hr'
    have hr9 := upd_same (H := H8) (a := r) (o := .lst (rw8.map V.str))
    have f9 := f8.trans (Fr.new (p := r) (o := .lst (rw8.map V.str)) hr')
    generalize upd H8 r (.lst (rw8.map V.str)) = H9 at hd9 f9 hp9 hq9 hr9 ⊢
    clear hd8 hp8 hq8 hl8 hr' f8
    refine ⟨rfl, _, rfl, _, rfl, _, rfl, q, _, rfl, SqL.of hq9, fun s1 hs1 => ?_⟩
    rw [cutS_map]
    have hd10 := upd_old (o' := .lst ((cutS wds none (some (k0 : Int))).map V.str)) hd9 hs1
    have hp10 := upd_old (o' := .lst ((cutS wds none (some (k0 : Int))).map V.str)) hp9 hs1
    have hq10 := upd_old (o' := .lst ((cutS wds none (some (k0 : Int))).map V.str)) hq9 hs1
    have hr10 := upd_old (o' := .lst ((cutS wds none (some (k0 : Int))).map V.str)) hr9 hs1
    have hs10 := upd_same (H := H9) (a := s1) (o := .lst ((cutS wds none (some (k0 : Int))).map V.str))
    have f10 := f9.trans (Fr.new (p := s1) (o := .lst ((cutS wds none (some (k0 : Int))).map V.str)) hs1)
    generalize upd H9 s1 (.lst ((cutS wds none (some (k0 : Int))).map V.str)) = H10 at hd10 f10 hp10 hq10 hr10 hs10 ⊢
    have c1 := cutS_sum wds none (some (k0 : Int))
    have m1 := fun x hx => ow x (cutS_mem (l := wds) (lo := none) (hi := some (k0 : Int)) hx)
    generalize cutS wds none (some (k0 : Int)) = w1 at *
    clear hd9 hp9 hq9 hr9 hs1 f9
    refine ⟨_, rfl, s1, r, _, _, rfl, rfl, hs10, hr10, sz_le (by rw [List.length_map, List.length_map]; omega), fun s2 hs2 => ?_⟩
    rw [← List.map_append]
    have hd11 := upd_old (o' := .lst ((w1 ++ rw8).map V.str)) hd10 hs2
    have hp11 := upd_old (o' := .lst ((w1 ++ rw8).map V.str)) hp10 hs2
    have hq11 := upd_old (o' := .lst ((w1 ++ rw8).map V.str)) hq10 hs2
    have hs11 := upd_same (H := H10) (a := s2) (o := .lst ((w1 ++ rw8).map V.str))
    have f11 := f10.trans (Fr.new (p := s2) (o := .lst ((w1 ++ rw8).map V.str)) hs2)
    generalize upd H10 s2 (.lst ((w1 ++ rw8).map V.str)) = H11 at hd11 f11 hp11 hq11 hs11 ⊢
    clear hd10 hp10 hq10 hr10 hs10 hs2 f10
    refine ⟨_, rfl, _, rfl, _, rfl, _, _, rfl, rfl, .inr ⟨_, rfl, _, _, rfl, rfl, _, rfl, q, _, rfl, SqL.of hq11, fun s3 hs3 => ?_⟩⟩
    rw [cutS_map]
    generalize (some _ : Option Int) = lo
    have c2 := cutS_sum wds lo none
    have m2 := fun x hx => ow x (cutS_mem (l := wds) (lo := lo) (hi := none) hx)
    generalize cutS wds lo none = w2 at *
    have hd12 := upd_old (o' := .lst (w2.map V.str)) hd11 hs3
    have hp12 := upd_old (o' := .lst (w2.map V.str)) hp11 hs3
    have hr12 := upd_old (o' := .lst (w2.map V.str)) hs11 hs3
    have hs12 := upd_same (H := H11) (a := s3) (o := .lst (w2.map V.str))
    have f12 := f11.trans (Fr.new (p := s3) (o := .lst (w2.map V.str)) hs3)
    generalize upd H11 s3 (.lst (w2.map V.str)) = H12 at hd12 f12 hp12 hr12 hs12 ⊢
    clear hd11 hp11 hq11 hs11 hs3 f11
    refine ⟨s2, s3, _, _, rfl, rfl, hr12, hs12, sz_le (by simp only [List.length_map, List.length_append]; omega), fun s4 hs4 => ?_⟩
    rw [← List.map_append]
    have e12 : ((w1 ++ rw8 ++ w2).map (·.length)).sum = (w1.map (·.length)).sum + (rw8.map (·.length)).sum + (w2.map (·.length)).sum := by simp only [List.map_append, List.sum_append]
    have l12 : (w1 ++ rw8 ++ w2).length = w1.length + rw8.length + w2.length := by simp only [List.length_append]
    have m12 : ∀ x ∈ w1 ++ rw8 ++ w2, okS x := fun x hx => by
      rcases List.mem_append.mp hx with hx | hx
      · exact (List.mem_append.mp hx).elim (m1 x) (orw x)
      · exact m2 x hx
    generalize w1 ++ rw8 ++ w2 = w3 at e12 l12 m12 ⊢
    have hd13 := upd_old (o' := .lst (w3.map V.str)) hd12 hs4
    have hp13 := upd_old (o' := .lst (w3.map V.str)) hp12 hs4
    have hs13 := upd_same (H := H12) (a := s4) (o := .lst (w3.map V.str))
    have f13 := f12.trans (Fr.new (p := s4) (o := .lst (w3.map V.str)) hs4)
    generalize upd H12 s4 (.lst (w3.map V.str)) = H13 at hd13 f13 hp13 hs13 ⊢
    clear hd12 hp12 hr12 hs12 hs4 f12
    have e1 : (Str.ofString " ").length = 1 := by decide +kernel
    have jl := join_len " " w3
    have jo := okS_join (y := " ") (l := w3) (by unfold okS; decide +kernel) m12
    refine ⟨_, s4, w3, rfl, rfl, .inl (SqL.of hs13), by rw [e1]; omega, ?_⟩
    generalize Txt.join " " w3 = nl at jl jo ⊢
    rw [e1] at jl
    refine ⟨_, rfl, _, rfl, p, _, _, at0, rfl, rfl, hp13, ixN_nat (by rw [List.length_map]; exact lat), ?_⟩
    rw [← List.map_set]
    have ss := sum_set (·.length) nl ls at0
    have ms : ∀ x ∈ ls.set at0 nl, okS x := fun x hx => (List.mem_or_eq_of_mem_set hx).elim (oks x) fun e => e ▸ jo
    have sl : (ls.set at0 nl).length = ls.length := List.length_set
    generalize ls.set at0 nl = ls' at ss ms sl ⊢
    have e2 : (Str.ofString "\n").length = 1 := by decide +kernel
    have jl2 := join_len "\n" ls'
    have jo2 := okS_join (y := "\n") (l := ls') (by unfold okS; decide +kernel) ms
    rw [e2] at jl2
    refine ⟨rfl, _, rfl, _, p, ls', rfl, rfl, .inl (SqL.of upd_same), by rw [e2]; omega, ?_⟩
    refine k ys4 _ _ D4 jo2 (by omega) ?_ ?_
    · rw [upd_ne dp]; exact hd13
    · intro b o hb nb
      rw [upd_ne (ne_of_none hb hp0)]; exact f13 b o hb nb
/-! ### law -/
def Ways17 (H : Hp) (l : Addr) (ws : List Wy) : Prop := ∃ us, H l = some (.lst us) ∧ WysAt H us ws ∧ okW ws ∧ ws.length ≤ 7
def Dice17 (H : Hp) (d : Addr) : Prop := ∃ xs, H d = some (.lst xs) ∧ DiceL xs
def oddT : List (List V) := [[.str "over", .int 6, .int 0], [.str "Back", .int 1, .int 1], [.str "over", .int 1], [], [.str "back", .int 1, .int (-1)], [.str "over", .bl true, .int 1]]
theorem oddT_bad : ∀ xs ∈ oddT, xs.all scalV = true ∧ wayV xs = false := by decide +kernel
theorem Ways17.grow {H H' : Hp} {T l : Addr} {q : Str} {ws : List Wy} (g : Grow T H H') (h : TabOk H T q) (W : Ways17 H l ws) : Ways17 H' l ws := by
  obtain ⟨us, h1, h2, h3⟩ := W
  obtain ⟨ps, hp, _⟩ := h
  exact ⟨us, g _ _ (fun e => by rw [e, hp] at h1; cases h1) h1, WysAt.keep h2 (fun b xs e => g _ _ (fun z => by rw [z, hp] at e; cases e) e), h3⟩
theorem Dice17.grow {H H' : Hp} {T d : Addr} {q : Str} (g : Grow T H H') (h : TabOk H T q) (W : Dice17 H d) : Dice17 H' d := by
  obtain ⟨xs, h1, h2⟩ := W
  obtain ⟨ps, hp, _⟩ := h
  exact ⟨xs, g _ _ (fun e => by rw [e, hp] at h1; cases h1) h1, h2⟩
theorem tabHid {H : Hp} {T c : Addr} {v : V} {q : Str} (h : TabOk H T q) (hc : CellV H c v) : TabOk (hid H c) T q := by
  obtain ⟨ps, h1, h2, h3⟩ := h
  obtain ⟨o, u, e, d, _⟩ := hc
  refine ⟨ps, by rw [hid_ne (fun z => by rw [z, e] at h1; cases h1)]; exact h1, h2, fun pos cv z => ?_⟩
  obtain ⟨c', oc, vs, tt, e', h', hd, r⟩ := h3 pos cv z
  refine ⟨c', oc, vs, tt, e', ?_, hd, r⟩
  rw [hid_ne (fun z => by rw [z, e] at h'; cases h'; rw [d] at hd; cases hd)]; exact h'
theorem cellHid {H : Hp} {c c' : Addr} {v : V} (h : CellV H c v) (n : c ≠ c') : CellV (hid H c') c v := by
  obtain ⟨o, u, e, r⟩ := h
  exact ⟨o, u, by rw [hid_ne n]; exact e, r⟩
def cutW (n : Nat) (xss : List (List V)) (lo hi : Option Int) : List (List V) := (xss.drop (HT.sIx n 0 lo)).take (HT.sIx n n hi - HT.sIx n 0 lo)
theorem cutP {H : Hp} {us : List V} {xss : List (List V)} (h : Paired (TupV H) us xss) (lo hi : Option Int) : Paired (TupV H) (cutV us lo hi) (cutW us.length xss lo hi) := Paired.takeP _ (Paired.dropP _ h)
theorem cutW_mem {n : Nat} {xss : List (List V)} {lo hi : Option Int} {x : List V} (h : x ∈ cutW n xss lo hi) : x ∈ xss := List.mem_of_mem_drop (List.mem_of_mem_take h)
abbrev lamq : Str := "law" ++ ".<locals>." ++ "<lambda>"
theorem sc_law : FnScope ["_law_script", "_law_d", "_law_turn", "_law_ways", "_law_way", "_law_text", "_law_handed", "_law_bad", "_law_change", "_law_rows", "_law_at", "_law_odd", "_law_line_here"] ["_law_script"] (defScope s_law) := ⟨rfl, rfl, rfl, by decide +kernel, rfl, by decide +kernel, by decide +kernel⟩
set_option maxHeartbeats 4000000 in
theorem ok_law (T : Txt K mg a) (LB_law : LamB mg base a.k_law a.p_law) : FnOk P w K mg base CX0 13 a.f_law a.d_law ["_law_script"] (sp_law K [(a.k_law, a.p_law)]) := by
  refine T.F_law.okC sc_law (fun vs H Q E h => ?_) (fun A outer s H vs Q E hr h => ?_)
  · obtain ⟨sa, ns, rfl, hS, hlen, hT, k⟩ := h
    rfl
  · obtain ⟨sa, ns, rfl, hS, hlen, hT, k⟩ := h
    have hu := hu_of hr
    refine ⟨_, (@pss_cons _ _ _ _ _ (@ps_set _ _ (1) _ _ _ _ sc_law.nd rfl (by first | exact Or.inl rfl | exact Or.inr rfl) (@pe_call _ _ _ _ _ _ _ _ _ _ _ _ _ _ _ _ (ok__law_dice (P := P) (w := w) (base := base) T) (hr.mono (by decide)) (by rfl) T.m__law_dice T.F__law_dice.kp T.B__law_dice .nil pass0 (@pa_cons _ _ _ _ _ (@pv _ 0 _ _ (by rfl) (by first | exact Or.inl rfl | exact Or.inr (Or.inl rfl) | exact Or.inr (Or.inr rfl)) (by decide) (by decide)) (@pa_cons _ _ _ _ _ (@pe_int _ _ _ _) (@pa_nil _) (by rfl)) (by rfl)) (by decide) (by rfl) (by rfl)) (by rfl) (by first | exact .inl rfl | exact .inr rfl | assumption)) (@pss_cons _ _ _ _ _ (@ps_for _ _ _ _ _ _ _ _ PassesOwn.never rfl (@pi_range1 _ _ _ _ _ _ (by rfl) T.b_range (@pa_cons _ _ _ _ _ (@pe_int _ _ _ _) (@pa_nil _) (by rfl)) (by rfl)) (@pg_name _ _ (2) _ sc_law.nd rfl (by first | exact Or.inl rfl | exact Or.inr rfl) (by first | exact .inl rfl | exact .inr rfl | assumption)) (@pss_cons _ _ _ _ _ (@ps_set _ _ (3) _ _ _ _ sc_law.nd rfl (by first | exact Or.inl rfl | exact Or.inr rfl) (@pe_lst _ _ _ _ (@pa_nil _)) (by rfl) (by first | exact .inl rfl | exact .inr rfl | assumption)) (@pss_cons _ _ _ _ _ (@ps_for _ _ _ _ _ _ _ _ PassesOwn.never rfl (@pi_range1 _ _ _ _ _ _ (by rfl) T.b_range (@pa_cons _ _ _ _ _ (@pe_call _ _ _ _ _ _ _ _ _ _ _ _ _ _ _ _ (ok__law_off (P := P) (w := w) (base := base) T) (hr.mono (by decide)) (by rfl) T.m__law_off T.F__law_off.kp T.B__law_off .nil pass0 (@pa_cons _ _ _ _ _ (@pv _ 1 _ _ (by rfl) (by first | exact Or.inl rfl | exact Or.inr (Or.inl rfl) | exact Or.inr (Or.inr rfl)) (by decide) (by decide)) (@pa_cons _ _ _ _ _ (@pe_int _ _ _ _) (@pa_nil _) (by rfl)) (by rfl)) (by decide) (by rfl) (by rfl)) (@pa_nil _) (by rfl)) (by rfl)) (@pg_name _ _ (4) _ sc_law.nd rfl (by first | exact Or.inl rfl | exact Or.inr rfl) (by first | exact .inl rfl | exact .inr rfl | assumption)) (@pss_one _ _ _ (@ps_expr _ _ _ _ (@pe_bm _ _ _ _ _ _ _ _ _ _ _ _ PySem.F.plainAttrs_list PySem.F.slot_list_append PySem.F.type_list_append mt_append (@pv _ 3 _ _ (by rfl) (by first | exact Or.inl rfl | exact Or.inr (Or.inl rfl) | exact Or.inr (Or.inr rfl)) (by decide) (by decide)) (@pa_cons _ _ _ _ _ (@pe_tup _ _ _ _ _ (@pa_cons _ _ _ _ _ (@pe_ix _ _ _ _ _ _ _ ix_list (@pe_lst _ _ _ _ (@pa_cons _ _ _ _ _ (@pe_str _ _ _ _) (@pa_cons _ _ _ _ _ (@pe_str _ _ _ _) (@pa_nil _) (by rfl)) (by rfl))) (@pe_call _ _ _ _ _ _ _ _ _ _ _ _ _ _ _ _ (ok__law_off (P := P) (w := w) (base := base) T) (hr.mono (by decide)) (by rfl) T.m__law_off T.F__law_off.kp T.B__law_off .nil pass0 (@pa_cons _ _ _ _ _ (@pv _ 1 _ _ (by rfl) (by first | exact Or.inl rfl | exact Or.inr (Or.inl rfl) | exact Or.inr (Or.inr rfl)) (by decide) (by decide)) (@pa_cons _ _ _ _ _ (@pe_int _ _ _ _) (@pa_nil _) (by rfl)) (by rfl)) (by decide) (by rfl) (by rfl)) (fun _ _ => rfl)) (@pa_cons _ _ _ _ _ (@pe_call _ _ _ _ _ _ _ _ _ _ _ _ _ _ _ _ (ok__law_off (P := P) (w := w) (base := base) T) (hr.mono (by decide)) (by rfl) T.m__law_off T.F__law_off.kp T.B__law_off .nil pass0 (@pa_cons _ _ _ _ _ (@pv _ 1 _ _ (by rfl) (by first | exact Or.inl rfl | exact Or.inr (Or.inl rfl) | exact Or.inr (Or.inr rfl)) (by decide) (by decide)) (@pa_cons _ _ _ _ _ (@pe_int _ _ _ _) (@pa_nil _) (by rfl)) (by rfl)) (by decide) (by rfl) (by rfl)) (@pa_cons _ _ _ _ _ (@pe_call _ _ _ _ _ _ _ _ _ _ _ _ _ _ _ _ (ok__law_off (P := P) (w := w) (base := base) T) (hr.mono (by decide)) (by rfl) T.m__law_off T.F__law_off.kp T.B__law_off .nil pass0 (@pa_cons _ _ _ _ _ (@pv _ 1 _ _ (by rfl) (by first | exact Or.inl rfl | exact Or.inr (Or.inl rfl) | exact Or.inr (Or.inr rfl)) (by decide) (by decide)) (@pa_cons _ _ _ _ _ (@pe_int _ _ _ _) (@pa_nil _) (by rfl)) (by rfl)) (by decide) (by rfl) (by rfl)) (@pa_nil _) (by rfl)) (by rfl)) (by rfl))) (@pa_nil _) (by rfl)) (by rfl) (by rfl) (by rfl) (by rfl) (by rfl)) (by rfl))) (by intro _; rfl)) (@pss_cons _ _ _ _ _ (@ps_set _ _ (5) _ _ _ _ sc_law.nd rfl (by first | exact Or.inl rfl | exact Or.inr rfl) (@pe_bm _ _ _ _ _ _ _ _ _ _ _ _ PySem.F.plainAttrs_str PySem.F.slot_str_join PySem.F.type_str_join mt_join (@pe_str _ _ _ _) (@pa_cons _ _ _ _ _ (@pe_lc _ _ _ _ _ _ ([("_law_way", 4)]) _ _ (gName 4) _ _ (by rfl) sc_law.nd (@pi_list _ _ _ _ (@pv _ 3 _ _ (by rfl) (by first | exact Or.inl rfl | exact Or.inr (Or.inl rfl) | exact Or.inr (Or.inr rfl)) (by decide) (by decide))) (blkOk_by (own := [("_law_way", 4)]) (N := ["_law_script", "_law_d", "_law_turn", "_law_ways", "_law_way", "_law_text", "_law_handed", "_law_bad", "_law_change", "_law_rows", "_law_at", "_law_odd", "_law_line_here"]) (sc := defScope s_law) (by decide +kernel)) (fun _ _ _ _ _ => @pg_name _ _ (4) _ sc_law.nd rfl (Or.inl rfl) (by first | exact .inl rfl | exact .inr rfl | assumption)) (fun _ _ _ _ _ => @pts_nil _) (fun _ _ _ _ _ => (@pe_bmK _ (K) _ _ _ _ _ _ _ _ _ _ (rJoin K) rfl PySem.F.plainAttrs_str PySem.F.slot_str_join PySem.F.type_str_join mt_join (@pe_str _ _ _ _) (@pa_cons _ _ _ _ _ (@pe_lst _ _ _ _ (@pa_cons _ _ _ _ _ (@pe_ix _ _ _ _ _ _ (rIxT K) ix_tup (@pv _ 4 _ _ (by rfl) (by first | exact Or.inl rfl | exact Or.inr (Or.inl rfl) | exact Or.inr (Or.inr rfl)) (by decide) (by decide)) (@pe_int _ _ _ _) (fun _ _ => rfl)) (@pa_cons _ _ _ _ _ (@pe_callTy _ _ _ _ _ _ _ _ _ call_str_int (by rfl) T.b_str (by decide +kernel) (@pa_cons _ _ _ _ _ (@pe_ix _ _ _ _ _ _ (rIxT K) ix_tup (@pv _ 4 _ _ (by rfl) (by first | exact Or.inl rfl | exact Or.inr (Or.inl rfl) | exact Or.inr (Or.inr rfl)) (by decide) (by decide)) (@pe_int _ _ _ _) (fun _ _ => rfl)) (@pa_nil _) (by rfl)) (by decide) (by decide) (by rfl) (by rfl)) (@pa_cons _ _ _ _ _ (@pe_callTy _ _ _ _ _ _ _ _ _ call_str_int (by rfl) T.b_str (by decide +kernel) (@pa_cons _ _ _ _ _ (@pe_ix _ _ _ _ _ _ (rIxT K) ix_tup (@pv _ 4 _ _ (by rfl) (by first | exact Or.inl rfl | exact Or.inr (Or.inl rfl) | exact Or.inr (Or.inr rfl)) (by decide) (by decide)) (@pe_int _ _ _ _) (fun _ _ => rfl)) (@pa_nil _) (by rfl)) (by decide) (by decide) (by rfl) (by rfl)) (@pa_nil _) (by rfl)) (by rfl)) (by rfl))) (@pa_nil _) (by rfl)) (by rfl) (by rfl) (by rfl) (by rfl) (by rfl))) (by intro _; rfl)) (@pa_nil _) (by rfl)) (by rfl) (by rfl) (by rfl) (by rfl) (by rfl)) (by rfl) (by first | exact .inl rfl | exact .inr rfl | assumption)) (@pss_cons _ _ _ _ _ (@ps_set _ _ (6) _ _ _ _ sc_law.nd rfl (by first | exact Or.inl rfl | exact Or.inr rfl) (@pe_callTy _ _ _ _ _ _ _ _ _ call_list_of (by rfl) T.b_list (by decide +kernel) (@pa_cons _ _ _ _ _ (@pv _ 3 _ _ (by rfl) (by first | exact Or.inl rfl | exact Or.inr (Or.inl rfl) | exact Or.inr (Or.inr rfl)) (by decide) (by decide)) (@pa_nil _) (by rfl)) (by decide) (by decide) (by rfl) (by rfl)) (by rfl) (by first | exact .inl rfl | exact .inr rfl | assumption)) (@pss_cons _ _ _ _ _ (@ps_if _ _ _ _ _ _ _ _ (@PW.pt _ _ _ (@pw_or _ _ _ _ _ _ _ (@pt_not _ _ _ _ (@pt_val _ _ _ (@pe_call _ _ _ _ _ _ _ _ _ _ _ _ _ _ _ _ (ok__law_alike (P := P) (w := w) (base := base) T 5) (hr.mono (by decide)) (by rfl) T.m__law_alike T.F__law_alike.kp T.B__law_alike .nil pass0 (@pa_cons _ _ _ _ _ (@pe_call _ _ _ _ _ _ _ _ _ _ _ _ _ _ _ _ (ok_written (P := P) (w := w) (base := base) T) (hr.mono (by decide)) (by rfl) T.m_written T.F_written.kp T.B_written .nil pass1n (@pa_cons _ _ _ _ _ (@pv _ 6 _ _ (by rfl) (by first | exact Or.inl rfl | exact Or.inr (Or.inl rfl) | exact Or.inr (Or.inr rfl)) (by decide) (by decide)) (@pa_nil _) (by rfl)) (by decide) (by rfl) (by rfl)) (@pa_cons _ _ _ _ _ (@pv _ 5 _ _ (by rfl) (by first | exact Or.inl rfl | exact Or.inr (Or.inl rfl) | exact Or.inr (Or.inr rfl)) (by decide) (by decide)) (@pa_nil _) (by rfl)) (by rfl)) (by decide) (by rfl) (by rfl)) (by intro _; rfl))) (@pw_or _ _ _ _ _ _ _ (@pt_cmpR _ _ _ _ _ _ _ _ (op_neD hr.units) (@pv _ 6 _ _ (by rfl) (by first | exact Or.inl rfl | exact Or.inr (Or.inl rfl) | exact Or.inr (Or.inr rfl)) (by decide) (by decide)) (@pv _ 3 _ _ (by rfl) (by first | exact Or.inl rfl | exact Or.inr (Or.inl rfl) | exact Or.inr (Or.inr rfl)) (by decide) (by decide)) (nomark _)) (@pw_or1 _ _ _ _ (@pt_not _ _ _ _ (@pt_val _ _ _ (@pe_call _ _ _ _ _ _ _ _ _ _ _ _ _ _ _ _ (ok__law_alike (P := P) (w := w) (base := base) T 5) (hr.mono (by decide)) (by rfl) T.m__law_alike T.F__law_alike.kp T.B__law_alike .nil pass0 (@pa_cons _ _ _ _ _ (@pe_call _ _ _ _ _ _ _ _ _ _ _ _ _ _ _ _ (ok_read (P := P) (w := w) (base := base) T) (hr.mono (by decide)) (by rfl) T.m_read T.F_read.kp T.B_read .nil pass1n (@pa_cons _ _ _ _ _ (@pv _ 5 _ _ (by rfl) (by first | exact Or.inl rfl | exact Or.inr (Or.inl rfl) | exact Or.inr (Or.inr rfl)) (by decide) (by decide)) (@pa_nil _) (by rfl)) (by decide) (by rfl) (by rfl)) (@pa_cons _ _ _ _ _ (@pv _ 3 _ _ (by rfl) (by first | exact Or.inl rfl | exact Or.inr (Or.inl rfl) | exact Or.inr (Or.inr rfl)) (by decide) (by decide)) (@pa_nil _) (by rfl)) (by rfl)) (by decide) (by rfl) (by rfl)) (by intro _; rfl))))))) (@pss_one _ _ _ (@ps_ret _ _ _ _ (@pe_bl _ _ _ _))) (@pss_nil _)) (@pss_cons _ _ _ _ _ (@ps_expr _ _ _ _ (@pe_bm _ _ _ _ _ _ _ _ _ _ _ _ PySem.F.plainAttrs_list PySem.F.slot_list_append PySem.F.type_list_append mt_append (@pe_call _ _ _ _ _ _ _ _ _ _ _ _ _ _ _ _ (ok_read (P := P) (w := w) (base := base) T) (hr.mono (by decide)) (by rfl) T.m_read T.F_read.kp T.B_read .nil pass1n (@pa_cons _ _ _ _ _ (@pv _ 5 _ _ (by rfl) (by first | exact Or.inl rfl | exact Or.inr (Or.inl rfl) | exact Or.inr (Or.inr rfl)) (by decide) (by decide)) (@pa_nil _) (by rfl)) (by decide) (by rfl) (by rfl)) (@pa_cons _ _ _ _ _ (@pe_tup _ _ _ _ _ (@pa_nil _)) (@pa_nil _) (by rfl)) (by rfl) (by rfl) (by rfl) (by rfl) (by rfl)) (by rfl)) (@pss_cons _ _ _ _ _ (@ps_set _ _ (7) _ _ _ _ sc_law.nd rfl (by first | exact Or.inl rfl | exact Or.inr rfl) (@pv _ 5 _ _ (by rfl) (by first | exact Or.inl rfl | exact Or.inr (Or.inl rfl) | exact Or.inr (Or.inr rfl)) (by decide) (by decide)) (by rfl) (by first | exact .inl rfl | exact .inr rfl | assumption)) (@pss_cons _ _ _ _ _ (@ps_for _ _ _ _ _ _ _ _ PassesOwn.never rfl (@pi_range1 _ _ _ _ _ _ (by rfl) T.b_range (@pa_cons _ _ _ _ _ (@pe_op _ _ _ _ _ _ _ _ op_add (@pe_int _ _ _ _) (@pe_call _ _ _ _ _ _ _ _ _ _ _ _ _ _ _ _ (ok__law_off (P := P) (w := w) (base := base) T) (hr.mono (by decide)) (by rfl) T.m__law_off T.F__law_off.kp T.B__law_off .nil pass0 (@pa_cons _ _ _ _ _ (@pv _ 1 _ _ (by rfl) (by first | exact Or.inl rfl | exact Or.inr (Or.inl rfl) | exact Or.inr (Or.inr rfl)) (by decide) (by decide)) (@pa_cons _ _ _ _ _ (@pe_int _ _ _ _) (@pa_nil _) (by rfl)) (by rfl)) (by decide) (by rfl) (by rfl))) (@pa_nil _) (by rfl)) (by rfl)) (@pg_name _ _ (8) _ sc_law.nd rfl (by first | exact Or.inl rfl | exact Or.inr rfl) (by first | exact .inl rfl | exact .inr rfl | assumption)) (@pss_one _ _ _ (@ps_set _ _ (7) _ _ _ _ sc_law.nd rfl (by first | exact Or.inl rfl | exact Or.inr rfl) (@pe_call _ _ _ _ _ _ _ _ _ _ _ _ _ _ _ _ (ok__law_changed (P := P) (w := w) (base := base) T) (hr.mono (by decide)) (by rfl) T.m__law_changed T.F__law_changed.kp T.B__law_changed .nil pass0 (@pa_cons _ _ _ _ _ (@pv _ 1 _ _ (by rfl) (by first | exact Or.inl rfl | exact Or.inr (Or.inl rfl) | exact Or.inr (Or.inr rfl)) (by decide) (by decide)) (@pa_cons _ _ _ _ _ (@pv _ 7 _ _ (by rfl) (by first | exact Or.inl rfl | exact Or.inr (Or.inl rfl) | exact Or.inr (Or.inr rfl)) (by decide) (by decide)) (@pa_nil _) (by rfl)) (by rfl)) (by decide) (by rfl) (by rfl)) (by rfl) (by first | exact .inl rfl | exact .inr rfl | assumption))) (by intro _; rfl)) (@pss_cons _ _ _ _ _ (@ps_set _ _ (9) _ _ _ _ sc_law.nd rfl (by first | exact Or.inl rfl | exact Or.inr rfl) (@pe_ifExp _ _ _ _ _ _ _ _ (@pt_cmpR _ _ _ _ _ _ _ _ op_ne (@pv _ 7 _ _ (by rfl) (by first | exact Or.inl rfl | exact Or.inr (Or.inl rfl) | exact Or.inr (Or.inr rfl)) (by decide) (by decide)) (@pe_str _ _ _ _) (nomark _)) (@pe_lc _ _ _ _ _ _ ([("_law_line_here", 12)]) _ _ (gName 12) _ _ (by rfl) sc_law.nd (@pi_list _ _ _ _ (@pe_bm _ _ _ _ _ _ _ _ _ _ _ _ PySem.F.plainAttrs_str PySem.F.slot_str_split PySem.F.type_str_split mt_split (@pv _ 7 _ _ (by rfl) (by first | exact Or.inl rfl | exact Or.inr (Or.inl rfl) | exact Or.inr (Or.inr rfl)) (by decide) (by decide)) (@pa_cons _ _ _ _ _ (@pe_str _ _ _ _) (@pa_nil _) (by rfl)) (by rfl) (by rfl) (by rfl) (by rfl) (by rfl))) (blkOk_by (own := [("_law_line_here", 12)]) (N := ["_law_script", "_law_d", "_law_turn", "_law_ways", "_law_way", "_law_text", "_law_handed", "_law_bad", "_law_change", "_law_rows", "_law_at", "_law_odd", "_law_line_here"]) (sc := defScope s_law) (by decide +kernel)) (fun _ _ _ _ _ => @pg_name _ _ (12) _ sc_law.nd rfl (Or.inl rfl) (by first | exact .inl rfl | exact .inr rfl | assumption)) (fun _ _ _ _ _ => @pts_nil _) (fun _ _ _ _ _ => (@pe_call _ _ _ _ _ _ _ _ _ _ _ _ _ _ _ _ (ok__law_line (P := P) (w := w) (base := base) T) (hr.mono (by decide)) (by rfl) T.m__law_line T.F__law_line.kp T.B__law_line .nil pass0 (@pa_cons _ _ _ _ _ (@pv _ 12 _ _ (by rfl) (by first | exact Or.inl rfl | exact Or.inr (Or.inl rfl) | exact Or.inr (Or.inr rfl)) (by decide) (by decide)) (@pa_nil _) (by rfl)) (by decide) (by rfl) (by rfl))) (by intro _; rfl)) (@pe_lst _ _ _ _ (@pa_nil _))) (by rfl) (by first | exact .inl rfl | exact .inr rfl | assumption)) (@pss_cut _ _ _ _ _ (@ps_if _ _ _ _ _ _ _ _ (@pt_cmpR _ _ _ _ _ _ _ _ (op_inD hr.units) (@pe_non _ _ _) (@pv _ 9 _ _ (by rfl) (by first | exact Or.inl rfl | exact Or.inr (Or.inl rfl) | exact Or.inr (Or.inr rfl)) (by decide) (by decide)) (by rfl)) (@pss_one _ _ _ (@ps_if _ _ _ _ _ _ _ _ (@pt_not _ _ _ _ (@pt_val _ _ _ (@pe_cell1 _ ("_law_bad") _ (7) _ _ (by first | rfl | decide) rfl rfl rfl (@pe_call _ _ _ _ _ _ _ _ _ _ _ _ _ _ _ _ (ok__law_refused (P := P) (w := w) (base := base) T) (hr.mono (by decide)) (by rfl) T.m__law_refused T.F__law_refused.kp T.B__law_refused .nil pass0 (@pa_cons _ _ _ _ _ (@pe_lam _ _ _ _ _ _ _ T.kd_law LB_law (lam_free (by decide +kernel)) (by rfl)) (@pa_cons _ _ _ _ _ (@pe_str _ _ _ _) (@pa_cons _ _ _ _ _ (@pe_bm _ _ _ _ _ _ _ _ _ _ _ _ PySem.F.plainAttrs_list PySem.F.slot_list_index PySem.F.type_list_index (mt_indexD hr.units) (@pv _ 9 _ _ (by rfl) (by first | exact Or.inl rfl | exact Or.inr (Or.inl rfl) | exact Or.inr (Or.inr rfl)) (by decide) (by decide)) (@pa_cons _ _ _ _ _ (@pe_non _ _ _) (@pa_nil _) (by rfl)) (by rfl) (by rfl) (by rfl) (by rfl) (by rfl)) (@pa_nil _) (by rfl)) (by rfl)) (by rfl)) (by decide) (by rfl) (by rfl))) (by intro _; rfl))) (@pss_one _ _ _ (@ps_ret _ _ _ _ (@pe_bl _ _ _ _))) (@pss_nil _))) (@pss_one _ _ _ (@ps_if _ _ _ _ _ _ _ _ (@pt_not _ _ _ _ (@pt_val _ _ _ (@pe_call _ _ _ _ _ _ _ _ _ _ _ _ _ _ _ _ (ok__law_alike (P := P) (w := w) (base := base) T 5) (hr.mono (by decide)) (by rfl) T.m__law_alike T.F__law_alike.kp T.B__law_alike .nil pass0 (@pa_cons _ _ _ _ _ (@pe_call _ _ _ _ _ _ _ _ _ _ _ _ _ _ _ _ (ok_read (P := P) (w := w) (base := base) T) (hr.mono (by decide)) (by rfl) T.m_read T.F_read.kp T.B_read .nil pass1n (@pa_cons _ _ _ _ _ (@pv _ 7 _ _ (by rfl) (by first | exact Or.inl rfl | exact Or.inr (Or.inl rfl) | exact Or.inr (Or.inr rfl)) (by decide) (by decide)) (@pa_nil _) (by rfl)) (by decide) (by rfl) (by rfl)) (@pa_cons _ _ _ _ _ (@pv _ 9 _ _ (by rfl) (by first | exact Or.inl rfl | exact Or.inr (Or.inl rfl) | exact Or.inr (Or.inr rfl)) (by decide) (by decide)) (@pa_nil _) (by rfl)) (by rfl)) (by decide) (by rfl) (by rfl)) (by intro _; rfl))) (@pss_one _ _ _ (@ps_ret _ _ _ _ (@pe_bl _ _ _ _))) (@pss_nil _)))) (@pss_cons _ _ _ _ _ (@ps_set _ _ (10) _ _ _ _ sc_law.nd rfl (by first | exact Or.inl rfl | exact Or.inr rfl) (@pe_call _ _ _ _ _ _ _ _ _ _ _ _ _ _ _ _ (ok__law_off (P := P) (w := w) (base := base) T) (hr.mono (by decide)) (by rfl) T.m__law_off T.F__law_off.kp T.B__law_off .nil pass0 (@pa_cons _ _ _ _ _ (@pv _ 1 _ _ (by rfl) (by first | exact Or.inl rfl | exact Or.inr (Or.inl rfl) | exact Or.inr (Or.inr rfl)) (by decide) (by decide)) (@pa_cons _ _ _ _ _ (@pe_op _ _ _ _ _ _ _ _ op_add (@pe_callB _ _ _ _ _ _ _ _ _ call_len_seq (by rfl) T.b_len (by decide +kernel) (@pa_cons _ _ _ _ _ (@pv _ 3 _ _ (by rfl) (by first | exact Or.inl rfl | exact Or.inr (Or.inl rfl) | exact Or.inr (Or.inr rfl)) (by decide) (by decide)) (@pa_nil _) (by rfl)) (by decide) (by decide) (by rfl) (by rfl)) (@pe_int _ _ _ _)) (@pa_nil _) (by rfl)) (by rfl)) (by decide) (by rfl) (by rfl)) (by rfl) (by first | exact .inl rfl | exact .inr rfl | assumption)) (@pss_cons _ _ _ _ _ (@ps_set _ _ (11) _ _ _ _ sc_law.nd rfl (by first | exact Or.inl rfl | exact Or.inr rfl) (@pe_ix _ _ _ _ _ _ _ ix_list (@pe_lst _ _ _ _ (@pa_cons _ _ _ _ _ (@pe_tup _ _ _ _ _ (@pa_cons _ _ _ _ _ (@pe_str _ _ _ _) (@pa_cons _ _ _ _ _ (@pe_int _ _ _ _) (@pa_cons _ _ _ _ _ (@pe_int _ _ _ _) (@pa_nil _) (by rfl)) (by rfl)) (by rfl))) (@pa_cons _ _ _ _ _ (@pe_tup _ _ _ _ _ (@pa_cons _ _ _ _ _ (@pe_str _ _ _ _) (@pa_cons _ _ _ _ _ (@pe_int _ _ _ _) (@pa_cons _ _ _ _ _ (@pe_int _ _ _ _) (@pa_nil _) (by rfl)) (by rfl)) (by rfl))) (@pa_cons _ _ _ _ _ (@pe_tup _ _ _ _ _ (@pa_cons _ _ _ _ _ (@pe_str _ _ _ _) (@pa_cons _ _ _ _ _ (@pe_int _ _ _ _) (@pa_nil _) (by rfl)) (by rfl))) (@pa_cons _ _ _ _ _ (@pe_tup _ _ _ _ _ (@pa_nil _)) (@pa_cons _ _ _ _ _ (@pe_tup _ _ _ _ _ (@pa_cons _ _ _ _ _ (@pe_str _ _ _ _) (@pa_cons _ _ _ _ _ (@pe_int _ _ _ _) (@pa_cons _ _ _ _ _ (@pe_un _ _ _ _ _ _ un_neg (@pe_int _ _ _ _)) (@pa_nil _) (by rfl)) (by rfl)) (by rfl))) (@pa_cons _ _ _ _ _ (@pe_tup _ _ _ _ _ (@pa_cons _ _ _ _ _ (@pe_str _ _ _ _) (@pa_cons _ _ _ _ _ (@pe_bl _ _ _ _) (@pa_cons _ _ _ _ _ (@pe_int _ _ _ _) (@pa_nil _) (by rfl)) (by rfl)) (by rfl))) (@pa_nil _) (by rfl)) (by rfl)) (by rfl)) (by rfl)) (by rfl)) (by rfl))) (@pe_call _ _ _ _ _ _ _ _ _ _ _ _ _ _ _ _ (ok__law_off (P := P) (w := w) (base := base) T) (hr.mono (by decide)) (by rfl) T.m__law_off T.F__law_off.kp T.B__law_off .nil pass0 (@pa_cons _ _ _ _ _ (@pv _ 1 _ _ (by rfl) (by first | exact Or.inl rfl | exact Or.inr (Or.inl rfl) | exact Or.inr (Or.inr rfl)) (by decide) (by decide)) (@pa_cons _ _ _ _ _ (@pe_int _ _ _ _) (@pa_nil _) (by rfl)) (by rfl)) (by decide) (by rfl) (by rfl)) (fun _ _ => rfl)) (by rfl) (by first | exact .inl rfl | exact .inr rfl | assumption)) (@pss_one _ _ _ (@ps_if _ _ _ _ _ _ _ _ (@pt_not _ _ _ _ (@pt_val _ _ _ (@pe_cell1 _ ("_law_ways") _ (3) _ _ (by first | rfl | decide) rfl rfl rfl (@pe_cell1 _ ("_law_at") _ (10) _ _ (by first | rfl | decide) rfl rfl rfl (@pe_cell1 _ ("_law_odd") _ (11) _ _ (by first | rfl | decide) rfl rfl rfl (@pe_call _ _ _ _ _ _ _ _ _ _ _ _ _ _ _ _ (ok__law_refused (P := P) (w := w) (base := base) T) (hr.mono (by decide)) (by rfl) T.m__law_refused T.F__law_refused.kp T.B__law_refused .nil pass0 (@pa_cons _ _ _ _ _ (@pe_lam _ _ _ _ _ _ _ T.kd_law LB_law (lam_free (by decide +kernel)) (by rfl)) (@pa_cons _ _ _ _ _ (@pe_str _ _ _ _) (@pa_cons _ _ _ _ _ (@pe_int _ _ _ _) (@pa_nil _) (by rfl)) (by rfl)) (by rfl)) (by decide) (by rfl) (by rfl))))) (by intro _; rfl))) (@pss_one _ _ _ (@ps_ret _ _ _ _ (@pe_bl _ _ _ _))) (@pss_nil _))))))))))))))) (by intro _; rfl)) (@pss_one _ _ _ (@ps_ret _ _ _ _ (@pe_bl _ _ _ _))))), ?_⟩
    have hTab : H a.p_law = some (.tbl #[]) := hT (a.k_law, a.p_law) (by simp)
    refine ⟨_, rfl, sa, ns, 0, rfl, hS, hlen, by decide, by decide, fun d dxs H1 hdn hd hx s1 => ?_⟩
    have TO : TabOk H1 a.p_law lamq := ⟨#[], s1 _ _ hTab, trivial, fun pos cv z => by simp [codeAmong] at z⟩
    refine ⟨5, rfl, by decide, by decide, for_range (n := 5) (fun j σ H' => ∃ v2 v3 v4 v5 v6 v7 v8 v9 v10 v11 v12, σ = [some (.ref sa), some (.ref d), v2, v3, v4, v5, v6, v7, v8, v9, v10, v11, v12] ∧ Dice17 H' d ∧ TabOk H' a.p_law lamq)
      ⟨none, none, none, none, none, none, none, none, none, none, none, rfl, ⟨dxs, hd, hx⟩, TO⟩ ?_ ?_⟩
    · clear hx TO hTab s1 hd hdn hS hlen hT k
      rintro j σ' H0 _ ⟨v2, v3, v4, v5, v6, v7, v8, v9, v10, v11, v12, rfl, ⟨dxs, hd, hx⟩, TO⟩
      refine ⟨sz_le (show 0 ≤ 1000000 by decide), fun l hl => ?_⟩
      have dl := ne_of_none hd hl
      refine ⟨_, rfl, d, _, dxs, rfl, upd_old hd hl, hx, by decide, by decide, fun v ys v0 v1 D1 => ?_⟩
      obtain ⟨n, rfl⟩ := Int.eq_ofNat_of_zero_le v0
      have hl1 : (upd (upd H0 l (.lst [])) d (.lst ys)) l = some (.lst []) := by rw [upd_ne (Ne.symm dl)]; exact upd_same
      have TO1 : TabOk (upd (upd H0 l (.lst [])) d (.lst ys)) a.p_law lamq := tabFr (TO.same (Same.upd hl)) (Fr.put (F := [d]) (by simp)) (upd_old hd hl)
      have hd1 : (upd (upd H0 l (.lst [])) d (.lst ys)) d = some (.lst ys) := upd_same
      generalize upd (upd H0 l (.lst [])) d (.lst ys) = H2 at hl1 TO1 hd1 ⊢
      clear hl hd hx TO
      refine ⟨n, rfl, by omega, by omega, for_range (n := n) (fun i σ H' => ∃ v4 ws, σ = [some (.ref sa), some (.ref d), some (.int (0 + (j : Nat))), some (.ref l), v4, v5, v6, v7, v8, v9, v10, v11, v12] ∧ Ways17 H' l ws ∧ ws.length = i ∧ Dice17 H' d ∧ TabOk H' a.p_law lamq) ⟨v4, [], rfl, ⟨[], hl1, .nil, (fun _ h => nomatch h), by decide⟩, rfl, ⟨ys, hd1, D1⟩, TO1⟩ ?_ ?_⟩
      · clear D1 hl1 TO1 hd1 ys
        rintro i σ' H3 hi ⟨v4, ws, rfl, ⟨us, hl3, hw3, ow, w7⟩, wi, ⟨ys, hd3, D3⟩, TO3⟩
        refine ⟨_, rfl, .inl ⟨rfl, _, SqL.of hl3⟩, sz_le (show 2 ≤ 1000000 by decide), fun p hp => ⟨_, rfl, d, _, ys, rfl, upd_old hd3 hp, D3, by decide, by decide, fun a1 ys1 a10 a11 E1 => ?_⟩⟩
        have dp := ne_of_none hd3 hp
        have hp4 : (upd (upd H3 p (.lst [.str "over", .str "back"])) d (.lst ys1)) p = some (.lst [.str "over", .str "back"]) := by rw [upd_ne (Ne.symm dp)]; exact upd_same
        have f4 : Fr [d] H3 (upd (upd H3 p (.lst [.str "over", .str "back"])) d (.lst ys1)) := (Fr.new hp).trans (Fr.put (by simp))
        have hd4 : (upd (upd H3 p (.lst [.str "over", .str "back"])) d (.lst ys1)) d = some (.lst ys1) := upd_same
        generalize upd (upd H3 p (.lst [.str "over", .str "back"])) d (.lst ys1) = H4 at hp4 f4 hd4 ⊢
        obtain ⟨b, hb⟩ : ∃ b : Bool, atI [V.str "over", V.str "back"] a1 = some (V.str (wyS b)) := by
          have : a1 = 0 ∨ a1 = 1 := by omega
          rcases this with rfl | rfl
          · exact ⟨false, at_of (j := 0) rfl rfl⟩
          · exact ⟨true, at_of (j := 1) rfl rfl⟩
        refine ⟨p, _, _, _, rfl, rfl, SqL.of hp4, hb, _, rfl, d, _, ys1, rfl, hd4, E1, by decide, by decide, fun a2 ys2 a20 a21 E2 => ?_⟩
        obtain ⟨r, rfl⟩ := Int.eq_ofNat_of_zero_le a20
        refine ⟨_, rfl, d, _, ys2, rfl, upd_same, E2, by decide, by decide, fun a3 ys3 a30 a31 E3 => ?_⟩
        obtain ⟨g, rfl⟩ := Int.eq_ofNat_of_zero_le a30
        have f5 : Fr [d] H3 (upd (upd H4 d (.lst ys2)) d (.lst ys3)) := f4.trans ((Fr.put (by simp)).trans (Fr.put (by simp)))
        have hd5 : (upd (upd H4 d (.lst ys2)) d (.lst ys3)) d = some (.lst ys3) := upd_same
        generalize upd (upd H4 d (.lst ys2)) d (.lst ys3) = H5 at f5 hd5 ⊢
        have dnl : l ≠ d := Ne.symm dl
        have TO5 := tabFr TO3 f5 hd3
        have hl5 := f5 _ _ hl3 (by simpa using dnl)
        refine ⟨sz_le (show 3 ≤ 1000000 by decide), fun t ht => ⟨l, us, .ref t, rfl, rfl, upd_old hl5 ht, sz_lt (by rw [Paired.lenP hw3]; omega), ?_⟩⟩
        have hw6 : WysAt (upd (upd H5 t (.tup [.str (wyS b), .int r, .int g])) l (.lst (us ++ [.ref t]))) (us ++ [.ref t]) (ws ++ [(b, r, g)]) := by
          have h6 : Tups (upd H5 t (.tup [.str (wyS b), .int r, .int g])) (upd (upd H5 t (.tup [.str (wyS b), .int r, .int g])) l (.lst (us ++ [.ref t]))) := frTups (d := l) (Fr.put (by simp)) (upd_old hl5 ht)
          refine Paired.app (WysAt.keep hw3 (Tups.tr (frTups f5 hd3) (Tups.tr (Tups.of_same (Same.upd ht)) h6))) (.cons ⟨t, rfl, h6 _ _ upd_same⟩ .nil)
        refine ⟨_, ws ++ [(b, r, g)], rfl, ⟨_, upd_same, hw6, fun w hw => ?_, by rw [List.length_append, List.length_singleton]; omega⟩, by rw [List.length_append, wi]; rfl, ⟨ys3, by rw [upd_ne (Ne.symm dnl)]; exact upd_old hd5 ht, E3⟩, tabFr (TO5.same (Same.upd ht)) (Fr.put (F := [l]) (by simp)) (upd_old hl5 ht)⟩
        rcases List.mem_append.mp hw with h | h
        · exact ow w h
        · rw [List.mem_singleton.mp h]; exact ⟨show r < 6 by omega, show g < 6 by omega⟩
      · clear D1 hl1 TO1 hd1 ys
        rintro σ' H3 ⟨v4, ws, rfl, ⟨us, hl3, hw3, ow, w7⟩, wi, ⟨ys, hd3, D3⟩, TO3⟩
        have lw := Paired.lenP hw3
        refine ⟨rfl, _, rfl, l, rfl, ⟨_, SqL.of hl3⟩, fun D hD => lc_list (K := K) (a := l) (xs := us) (fun i H' => Same H3 H' ∧ H' D = some (.lst (((ws.take i).map lineW).map V.str))) ⟨Same.upd hD, upd_same⟩ (fun i H' _ z => SqL.of (z.1 _ _ hl3)) ?_ ?_⟩
        · rintro i v H4 hi ⟨s4, hD4⟩
          obtain ⟨w, hw, t, rfl, ht⟩ := Paired.getP hw3 hi
          have ow' := ow w (List.mem_of_getElem? hw)
          have ht4 := s4 _ _ ht
          refine ⟨rfl, tYesT ⟨rfl, _, rfl, t, _, _, _, rfl, rfl, SqT.of ht4, at_of (j := 0) rfl rfl, _, rfl, t, _, _, _, rfl, rfl, SqT.of ht4, at_of (j := 1) rfl rfl, _, rfl, small_log (by omega), _, rfl, t, _, _, _, rfl, rfl, SqT.of ht4, at_of (j := 2) rfl rfl, _, rfl, small_log (by omega), sz_le (show 3 ≤ 1000000 by decide), fun p hp => ?_⟩⟩
          refine ⟨_, p, [wyS w.1, numS w.2.1, numS w.2.2], rfl, rfl, .inl (SqL.of upd_same), line_sum _ _ ow'.1 _ ow'.2, _, upd_old hD4 hp, sz_lt (by have := (List.getElem?_eq_some_iff.mp hw).1; simp; omega), fun b o hb => ?_, ?_⟩
          · rw [upd_ne (ne_of_none hb hD)]; exact upd_old (s4 _ _ hb) hp
          · rw [upd_same, List.take_succ, hw, ← (line_ok ow').2.1, List.map_append, List.map_append]; rfl
        · rintro H4 ⟨s4, hD4⟩
          rw [lw, List.take_length] at hD4
          have hs := sum_lines ow
          refine ⟨_, D, ws.map lineW, rfl, rfl, .inl (SqL.of hD4), by rw [hs, List.length_map, show (Str.ofString "\n").length = 1 from by decide +kernel]; omega, ?_⟩
          have et : Txt.join "\n" (ws.map lineW) = txtW ws := rfl
          rw [et]
          have hl4 := s4 _ _ hl3
          have hd4 := s4 _ _ hd3
          have hw4 : WysAt H4 us ws := WysAt.keep hw3 (Tups.of_same s4)
          have TO4 := TO3.same s4
          clear hl3 hd3 hw3 TO3 hD4 s4 hD et hs
          refine ⟨_, rfl, l, us, rfl, .inl (SqL.of hl4), fun q hq => ?_⟩
          have sq := Same.upd (o := .lst us) hq
          have hl5 := sq _ _ hl4
          have hd5 := sq _ _ hd4
          have hw5 : WysAt _ us ws := WysAt.keep hw4 (Tups.of_same sq)
          have TO5 := TO4.same sq
          have hq5 := upd_same (H := H4) (a := q) (o := .lst us)
          generalize upd H4 q (.lst us) = H5 at hl5 hd5 hw5 TO5 hq5 ⊢
          clear hl4 hd4 hw4 TO4 sq hq
          refine ⟨_, rfl, q, us, ws.map wyV, rfl, hq5, wys_tup hw5, by omega, wys_scal ws, fun ws2 e2 ok2 H6 s6 => ?_, fun z => by rw [ways_ok ow] at z; cases z⟩
          obtain rfl := wyV_inj e2
          have tl9 := txt_len ow
          refine ⟨_, rfl, _, _, _, rfl, .str _, .str _, (show 0 < 5 by decide), fun H7 s7 => ⟨_, rfl, iteF ?_⟩⟩
          have s57 := s6.trans s7
          refine ⟨_, rfl, _, rfl, .list (ws.map wyD), .list (ws.map wyD), .lst (SqL.of (s57 _ _ hq5)) (wys_dp (WysAt.keep hw5 (Tups.of_same s57))), .lst (SqL.of (s57 _ _ hl5)) (wys_dp (WysAt.keep hw5 (Tups.of_same s57))), wys_shaped ws, wys_shaped ws, _, rfl, ?_⟩
          refine itF (by rw [SeqAt.eqv_refl _ (SeqAt.canLay_of_shaped (wys_shaped ws))]; rfl) ?_
          refine ⟨_, rfl, txtW ws, rfl, by omega, fun ws3 e3 q3 us3 H8 s8 _ hq8 hw8 => ?_, fun n row hr hp _ dA H8 _ _ _ => (rows_good (txt_parse ow) hr hp).elim⟩
          obtain rfl := some_inj ((txt_parse ow).symm.trans e3)
          have s58 := s57.trans s8
          refine ⟨_, rfl, _, _, _, rfl, wys_dt hq8 hw8 (by rw [Paired.lenP hw8]; omega), wys_dt (s58 _ _ hl5) (WysAt.keep hw5 (Tups.of_same s58)) (by omega), wys_deep ws, fun H9 s9 => ⟨_, rfl, iteF ?_⟩⟩
          have s59 := s58.trans s9
          have hl9 := s59 _ _ hl5
          have hd9 := s59 _ _ hd5
          have hw9 : WysAt H9 us ws := WysAt.keep hw5 (Tups.of_same s59)
          have TO9 := TO5.same s59
          clear hl5 hd5 hw5 TO5 s59 s9 hq8 hw8 s8 s58 s57 s7 s6 e3 e2 ok2
          refine ⟨_, rfl, txtW ws, rfl, by omega, fun ws3 e3 q4 us4 H10 s10 hq9 hq10 hw10 => ?_, fun n row hr hp _ dA H8 _ _ _ => (rows_good (txt_parse ow) hr hp).elim⟩
          obtain rfl := some_inj ((txt_parse ow).symm.trans e3)
          have l4 : us4.length ≤ 1000 := by rw [Paired.lenP hw10]; omega
          refine ⟨.inl ⟨rfl, _, SqL.of hq10⟩, sz_le (show 0 ≤ 1000000 by decide), fun t ht => ⟨q4, us4, _, rfl, rfl, upd_old hq10 ht, sz_lt (by omega), ?_⟩⟩
          have lq : l ≠ q4 := ne_of_none hl9 hq9
          have dq : d ≠ q4 := ne_of_none hd9 hq9
          have s11 := s10.trans (Same.upd (o := .tup []) ht)
          have f12 : Fr [q4] (upd H10 t (.tup [])) (upd (upd H10 t (.tup [])) q4 (.lst (us4 ++ [.ref t]))) := Fr.put (by simp)
          have W0 : Ways17 (upd (upd H10 t (.tup [])) q4 (.lst (us4 ++ [.ref t]))) l ws := ⟨us, f12 _ _ (s11 _ _ hl9) (by simpa using lq), WysAt.keep hw9 (Tups.tr (Tups.of_same s11) (frTups f12 (upd_old hq10 ht))), ow, w7⟩
          have D0 : Dice17 (upd (upd H10 t (.tup [])) q4 (.lst (us4 ++ [.ref t]))) d := ⟨ys, f12 _ _ (s11 _ _ hd9) (by simpa using dq), D3⟩
          have T0 := tabFr (TO9.same s11) f12 (upd_old hq10 ht)
          generalize upd (upd H10 t (.tup [])) q4 (.lst (us4 ++ [.ref t])) = H12 at W0 D0 T0 ⊢
          clear hl9 hd9 hw9 TO9 f12 s11 lq dq l4 hq9 hq10 hw10 ht s10 e3 D3 lw hq5 us
          obtain ⟨ys, hd, D3⟩ := D0
          refine ⟨_, rfl, _, rfl, d, _, ys, rfl, hd, D3, by decide, by decide, fun nb ys2 n0 n1 D4 => ?_⟩
          obtain ⟨nb, rfl⟩ := Int.eq_ofNat_of_zero_le n0
          have ld : l ≠ d := Ne.symm dl
          have wayD : ∀ {H H' : Hp} {xs : List V}, H d = some (.lst xs) → Fr [d] H H' → Ways17 H l ws → Ways17 H' l ws := fun hd f ⟨us, h1, h2, h3⟩ => ⟨us, f _ _ h1 (by simpa using ld), WysAt.keep h2 (frTups f hd), h3⟩
          have wayS : ∀ {H H' : Hp}, Same H H' → Ways17 H l ws → Ways17 H' l ws := fun f ⟨us, h1, h2, h3⟩ => ⟨us, f _ _ h1, WysAt.keep h2 (Tups.of_same f), h3⟩
          have diceS : ∀ {H H' : Hp}, Same H H' → Dice17 H d → Dice17 H' d := fun f ⟨us, h1, h2⟩ => ⟨us, f _ _ h1, h2⟩
          have f13 : Fr [d] H12 (upd H12 d (.lst ys2)) := Fr.put (by simp)
          have W1 := wayD hd f13 W0
          have T1 := tabFr T0 f13 hd
          have D1 : Dice17 (upd H12 d (.lst ys2)) d := ⟨ys2, upd_same, D4⟩
          generalize upd H12 d (.lst ys2) = H13 at W1 T1 D1 ⊢
          clear W0 T0 hd f13 D3 D4 ys ys2
          have ot := txt_oks ow
          refine ⟨_, _, rfl, rfl, ((1 + nb : Nat) : Int), by rw [Int.natCast_add]; rfl, by omega, by omega, for_range (n := 1 + nb) (fun i σ H' => ∃ v8 z, σ = [some (.ref sa), some (.ref d), some (.int (0 + (j : Nat))), some (.ref l), v4, some (.str (txtW ws)), some (.ref q), some (.str z), v8, v9, v10, v11, v12] ∧ okS z ∧ z.length ≤ bB i ∧ Ways17 H' l ws ∧ Dice17 H' d ∧ TabOk H' a.p_law lamq) ⟨v8, txtW ws, rfl, ot, (show _ ≤ 63 by omega), W1, D1, T1⟩ ?_ ?_⟩
          · rintro i σ' H14 hi ⟨v8, z, rfl, oz, lz, W2, ⟨ys, hd, D2⟩, T2⟩
            have lb : bB i ≤ 386 := by
              have : i = 0 ∨ i = 1 := by omega
              rcases this with rfl | rfl <;> decide
            exact ⟨_, rfl, _, rfl, d, ys, z, rfl, hd, D2, oz, by omega, fun ys' z' H' D' oz' lz' hd' f' => ⟨_, z', rfl, oz', (show z'.length ≤ 6 * bB i + 8 by omega), wayD hd f' W2, ⟨ys', hd', D'⟩, tabFr T2 f' hd⟩⟩
          · clear W1 D1 T1 H13
            rintro σ' H14 ⟨v8, z, rfl, oz, lz, W2, D2, T2⟩
            have lz : z.length ≤ 2324 := Nat.le_trans lz (by
              have : nb = 0 ∨ nb = 1 := by omega
              rcases this with rfl | rfl <;> decide)
            dsimp only
            unfold tSeq
            unfold tAsg
            refine tIf_gen (fun Qk => ∀ r H15 us os, os = (rowsW z).map parseW → H15 r = some (.lst us) → Paired (RowAt H15) us os → us.length ≤ 2325 → Ways17 H15 l ws → Dice17 H15 d → TabOk H15 a.p_law lamq → Qk (.ref r) H15) (fun Qk key => ?_) (fun r H15 us os eo hr hrp lus W3 D3 T3 => ?_)
            · refine ⟨_, rfl, rfl, _, rfl, ?_⟩
              by_cases hz : z = ""
              · refine itF (by rw [hz]; decide +kernel) ⟨Nat.zero_le _, fun r hr => ?_⟩
                have sr := Same.upd (o := .lst []) hr
                exact key r _ [] [] (by rw [hz]; rfl) upd_same .nil (Nat.zero_le _) (wayS sr W2) (diceS sr D2) (T2.same sr)
              · refine itT (by rw [decide_eq_false (by intro y; injection y with y; exact hz y)]; rfl) ?_
                have er : rowsW z = Txt.split z "\n" := if_neg hz
                have hsl := (split_len (x := z) (y := "\n") (s := 10) (by decide +kernel) (by decide +kernel))
                have hlm := fun x hx => len_mem (l := Txt.split z "\n") (x := x) hx
                have oks := okS_split (x := z) (y := "\n") (s := 10) (by decide +kernel) (by decide +kernel) oz
                rw [er] at key
                refine ⟨_, rfl, rfl, z, "\n", rfl, rfl, (by decide +kernel), sz_le (by omega), ?_⟩
                generalize Txt.split z "\n" = rs at key hsl hlm oks ⊢
                intro p hp
                have sp := Same.upd (o := .lst (rs.map V.str)) hp
                have hpp : (upd H14 p (.lst (rs.map V.str))) p = some (.lst (rs.map V.str)) := upd_same
                replace W2 := wayS sp W2
                replace D2 := diceS sp D2
                replace T2 := T2.same sp
                generalize upd H14 p (.lst (rs.map V.str)) = H15 at W2 D2 T2 hpp ⊢
                clear sp hp
                refine ⟨p, rfl, ⟨_, SqL.of hpp⟩, fun D hD => lc_list (K := K) (a := p) (xs := rs.map V.str) (fun i H' => Same H15 H' ∧ ∃ acc, H' D = some (.lst acc) ∧ acc.length ≤ i ∧ Paired (RowAt H') acc ((rs.take i).map parseW)) ⟨Same.upd hD, [], upd_same, Nat.le_refl _, .nil⟩ (fun i H' _ z => SqL.of (z.1 _ _ hpp)) ?_ ?_⟩
                · rintro i x H16 hi ⟨s16, acc, hacc, la, hrp⟩
                  rw [List.getElem?_map] at hi
                  obtain ⟨row, hr, rfl⟩ := Option.map_eq_some_iff.mp hi
                  have il := (List.getElem?_eq_some_iff.mp hr).1
                  have hm := hlm _ (List.mem_of_getElem? hr)
                  have fin : ∀ y H2, Same H16 H2 → RowAt H2 y (parseW row) → ∃ acc, H2 D = some (.lst acc) ∧ acc.length < sizeLine ∧ Same H15 (upd H2 D (.lst (acc ++ [y]))) ∧ ∃ acc', (upd H2 D (.lst (acc ++ [y]))) D = some (.lst acc') ∧ acc'.length ≤ i + 1 ∧ Paired (RowAt (upd H2 D (.lst (acc ++ [y])))) acc' ((rs.take (i + 1)).map parseW) := fun y H2 s2 hy => by
                    have t2 : Tups H2 (upd H2 D (.lst (acc ++ [y]))) := frTups (d := D) (Fr.put (by simp)) (s2 _ _ hacc)
                    refine ⟨acc, s2 _ _ hacc, sz_lt (by omega), fun b o hb => ?_, acc ++ [y], upd_same, by simp; omega, ?_⟩
                    · rw [upd_ne (ne_of_none hb hD)]; exact s2 _ _ (s16 _ _ hb)
                    · rw [List.take_succ, hr, List.map_append]
                      exact Paired.app (Paired.mapP hrp fun v o z => (z.keep (Tups.of_same s2)).keep t2) (.cons (hy.keep t2) .nil)
                  refine ⟨rfl, tYesT ⟨_, rfl, row, rfl, by omega, oks _ (List.mem_of_getElem? hr), fun e H2 s2 => fin _ _ s2 (by rw [e]; rfl), fun w e t H2 s2 ht => fin _ _ s2 (by rw [e]; exact ⟨t, rfl, ht⟩)⟩⟩
                · rintro H16 ⟨s16, acc, hacc, la, hrp⟩
                  rw [List.length_map, List.take_length] at hrp
                  exact key D H16 acc _ rfl hacc hrp (by rw [Paired.lenP hrp, List.length_map]; omega) (wayS s16 W2) (diceS s16 D2) (T2.same s16)
            · clear T2 D2 W2 H14 oz ot
              refine ⟨fun σ' H' => σ' = [some (.ref sa), some (.ref d), some (.int (0 + (j : Nat))), some (.ref l), v4, some (.str (txtW ws)), some (.ref q), some (.str z), v8, some (.ref r), v10, v11, v12] ∧ Ways17 H' l ws ∧ Dice17 H' d ∧ TabOk H' a.p_law lamq, ?_, ?_⟩
              · refine ⟨_, rfl, r, us, .none, os.map rowD, rfl, SqL.of hr, .non, rows_dp hrp, rows_lay os, rfl, by decide, _, rfl, ?_⟩
                have ea : ((os.map rowD).any fun z => PyData.eqv z .none) = decide (none ∈ os) := rows_any os
                by_cases hn : none ∈ os
                · refine itT (by show (List.any _ _) = true; rw [ea]; exact decide_eq_true hn) ?_
                  refine ⟨.str z, rfl, fun o1 u1 hc1 hd1 r1 => ?_⟩
                  have cv := cellv hc1 hd1 r1
                  have T4 := T3.same (lockS o1 hc1)
                  refine ⟨T4, fun f clos H7 hf g T7 L7 C7 => ?_⟩
                  have F7 := FT.of_grow g T4
                  have nT : ∀ {b o}, H15 b = some o → (∀ ps, o ≠ .tbl ps) → b ≠ a.p_law := fun {b o} e ne y => by
                    obtain ⟨ps, h, _⟩ := T3
                    rw [y, h] at e; cases e; exact ne _ rfl
                  have hr7 := g _ _ (nT hr fun _ y => by cases y) (upd_old hr hc1)
                  have hrp7 : Paired (RowAt H7) us os := Paired.mapP hrp fun v o y => (y.keep (Tups.of_same (lockS o1 hc1))).keep F7.2
                  have cv7 := cell_ft cv F7
                  obtain ⟨n, hn0, hn1⟩ := first_none hn
                  refine ⟨_, rfl, .inl ⟨rfl, _, SqL.of hr7⟩, r, .non, us, .none, os.map rowD, n, rfl, rfl, SqL.of hr7, .non, rows_dp hrp7, rows_lay os, rfl, by decide, ⟨.none, by rw [List.getElem?_map, hn0]; rfl, rfl⟩, fun m y hm hy => ?_, ?_⟩
                  · rw [List.getElem?_map] at hy
                    obtain ⟨o, ho, rfl⟩ := Option.map_eq_some_iff.mp hy
                    rw [row_none]
                    exact decide_eq_false (hn1 m o hm ho)
                  refine ⟨f, "text", n, rfl, Wk.mono (k := 9) (Q := fun _ _ => False) (E := fun cls dd H' => Bad17 a "text" n cls dd H' ∧ Same H7 H') ?_ (by decide) (fun _ _ y => y) fun cls dd H' y => ⟨y.1, fun H'' s'' => ⟨_, rfl, iteF ⟨rfl, ?_⟩⟩⟩⟩
                  · refine lam_wk (k := 8) (N := ["_law_bad"]) (σ0 := [some (.str z)]) (ps := []) L7 (C7.sc ["_law_bad"] (by decide +kernel) ?_ ?_ rfl (by decide +kernel) (by simp) rfl rfl rfl) ⟨rfl, fun _ _ _ _ => rfl⟩ fun cd A outer s hr => ⟨_, (pe_call (ok_read (P := P) (w := w) (base := base) T ) (hr.mono (by decide)) (by rfl) T.m_read T.F_read.kp T.B_read .nil pass1 (pa_cons (pv 0) pa_nil)), ?_⟩
                    · intro y hy
                      simp only [List.mem_cons, List.not_mem_nil, or_false] at hy
                      rcases hy with rfl
                      exact ⟨_, _, rfl, cv7⟩
                    · intro j y v e1 e2
                      match j, e1, e2 with
                      | 0, e1, e2 => cases e1; cases e2; exact ⟨rfl, _, rfl, cv7⟩
                      | j + 1, e1, _ => simp at e1
                    · refine ⟨_, rfl, z, rfl, by omega, fun ws3 e3 => ?_, fun m row hm hp hb dA H' s' hdn hd => ⟨.inr ⟨rfl, rfl, dA, rfl, ?_⟩, s'⟩⟩
                      · rw [← eo] at e3
                        rw [e3] at hn
                        simp at hn
                      · have em : m = n := by
                          rcases Nat.lt_trichotomy m n with h | h | h
                          · exact absurd (by rw [eo, List.getElem?_map, hm]; rw [← hp]; rfl) (fun e : os[m]? = some none => hn1 m _ h e rfl)
                          · exact h
                          · rw [eo, List.getElem?_map] at hn0
                            obtain ⟨row', h1, h2⟩ := Option.map_eq_some_iff.mp hn0
                            exact absurd h2 (hb n row' h h1)
                        rw [em] at hd
                        exact hd
                  · have sF : Grow a.p_law H15 (hid H'' (s.heap.objs.size + 1 + 1)) := fun b o nb e => by
                      rw [hid_ne (ne_of_none e hc1)]
                      exact s'' _ _ (y.2 _ _ (g _ _ nb (upd_old e hc1)))
                    exact ⟨W3.grow sF T3, D3.grow sF T3, tabHid ((T7.same y.2).same s'') ((cv7.same y.2).same s'')⟩
                · refine itF (by show (List.any _ _) = false; rw [ea]; exact decide_eq_false hn) ?_
                  obtain ⟨ws', rfl⟩ := all_some hn
                  refine ⟨_, rfl, z, rfl, by omega, fun ws3 e3 q3 us3 H16 s16 _ hq3 hw3 => ?_, fun n row hr hp _ dA H8 _ _ _ => (rows_good eo.symm hr hp).elim⟩
                  obtain rfl := some_inj (eo.trans e3)
                  have l3 := Paired.lenP hw3
                  have l4 := Paired.lenP hrp
                  rw [List.length_map] at l4
                  exact ⟨_, rfl, _, _, _, rfl, wys_dt hq3 hw3 (by omega), wys_dt (s16 _ _ hr) (WysAt.keep (rows_wys hrp) (Tups.of_same s16)) (by omega), wys_deep _, fun H17 s17 => ⟨_, rfl, iteF ⟨rfl, wayS (s16.trans s17) W3, diceS (s16.trans s17) D3, T3.same (s16.trans s17)⟩⟩⟩
              · clear W3 D3 T3 hrp hr eo H15
                rintro σ' H15 ⟨rfl, W3, ⟨ys, hd, D3⟩, T3⟩
                obtain ⟨us, hl, hw, _, _⟩ := W3
                have lw := Paired.lenP hw
                refine ⟨_, rfl, _, rfl, l, us, rfl, .inl (SqL.of hl), _, _, rfl, rfl, d, _, ys, rfl, hd, D3, by omega, by omega, fun av ys2 a0 a1 D4 => ?_⟩
                obtain ⟨at0, rfl⟩ := Int.eq_ofNat_of_zero_le a0
                have f1 : Fr [d] H15 (upd H15 d (.lst ys2)) := Fr.put (by simp)
                have hl2 := f1 _ _ hl (by simpa using ld)
                have hw2 := WysAt.keep hw (frTups f1 hd)
                have T4 := tabFr T3 f1 hd
                have hd2 := upd_same (H := H15) (a := d) (o := .lst ys2)
                generalize upd H15 d (.lst ys2) = H16 at hl2 hw2 T4 hd2 ⊢
                clear hl hw T3 hd f1 D3
                refine ⟨sz_le (show 3 ≤ 1000000 by decide), fun t1 h1 => ⟨sz_le (show 3 ≤ 1000000 by decide), fun t2 h2 => ⟨sz_le (show 2 ≤ 1000000 by decide), fun t3 h3 => ⟨sz_le (show 0 ≤ 1000000 by decide), fun t4 h4 => ⟨_, rfl, sz_le (show 3 ≤ 1000000 by decide), fun t5 h5 => ⟨sz_le (show 3 ≤ 1000000 by decide), fun t6 h6 => ⟨sz_le (show 6 ≤ 1000000 by decide), fun lo h7 => ?_⟩⟩⟩⟩⟩⟩⟩
                have e1 := upd_same (H := H16) (a := t1) (o := .tup [.str "over", .int 6, .int 0])
                have k2 := Same.upd (o := .tup [.str "Back", .int 1, .int 1]) h2
                have e2 := upd_same (H := upd H16 t1 (.tup [.str "over", .int 6, .int 0])) (a := t2) (o := .tup [.str "Back", .int 1, .int 1])
                have k1 := Same.upd (o := .tup [.str "over", .int 6, .int 0]) h1
                generalize upd (upd H16 t1 (.tup [.str "over", .int 6, .int 0])) t2 (.tup [.str "Back", .int 1, .int 1]) = G2 at *
                have k3 := Same.upd (o := .tup [.str "over", .int 1]) h3
                have e3 := upd_same (H := G2) (a := t3) (o := .tup [.str "over", .int 1])
                generalize upd G2 t3 (.tup [.str "over", .int 1]) = G3 at *
                have k4 := Same.upd (o := .tup []) h4
                have e4 := upd_same (H := G3) (a := t4) (o := .tup [])
                generalize upd G3 t4 (.tup []) = G4 at *
                have k5 := Same.upd (o := .tup [.str "back", .int 1, .int (-1)]) h5
                have e5 := upd_same (H := G4) (a := t5) (o := .tup [.str "back", .int 1, .int (-1)])
                generalize upd G4 t5 (.tup [.str "back", .int 1, .int (-1)]) = G5 at *
                have k6 := Same.upd (o := .tup [.str "over", .bl true, .int 1]) h6
                have e6 := upd_same (H := G5) (a := t6) (o := .tup [.str "over", .bl true, .int 1])
                generalize upd G5 t6 (.tup [.str "over", .bl true, .int 1]) = G6 at *
                have k7 := Same.upd (o := .lst [.ref t1, .ref t2, .ref t3, .ref t4, .ref t5, .ref t6]) h7
                have e7 := upd_same (H := G6) (a := lo) (o := .lst [.ref t1, .ref t2, .ref t3, .ref t4, .ref t5, .ref t6])
                generalize upd G6 lo (.lst [.ref t1, .ref t2, .ref t3, .ref t4, .ref t5, .ref t6]) = G7 at *
                have m6 := k7
                have m5 := k6.trans m6
                have m4 := k5.trans m5
                have m3 := k4.trans m4
                have m2 := k3.trans m3
                have m0 := k1.trans (k2.trans m2)
                have PO : Paired (TupV G7) [V.ref t1, .ref t2, .ref t3, .ref t4, .ref t5, .ref t6] oddT := .cons ⟨t1, rfl, m2 _ _ (k2 _ _ e1)⟩ (.cons ⟨t2, rfl, m2 _ _ e2⟩ (.cons ⟨t3, rfl, m3 _ _ e3⟩ (.cons ⟨t4, rfl, m4 _ _ e4⟩ (.cons ⟨t5, rfl, m5 _ _ e5⟩ (.cons ⟨t6, rfl, m6 _ _ e6⟩ .nil)))))
                have hl7 := m0 _ _ hl2
                have hw7 := WysAt.keep hw2 (Tups.of_same m0)
                have T7 := T4.same m0
                have hd7 := m0 _ _ hd2
                clear m6 m5 m4 m3 m2 m0 k1 k2 k3 k4 k5 k6 k7 e1 e2 e3 e4 e5 e6 h1 h2 h3 h4 h5 h6 h7 hl2 hw2 T4 hd2 G2 G3 G4 G5 G6 H16
                refine ⟨_, rfl, d, _, ys2, rfl, hd7, D4, by decide, by decide, fun ov ys3 o0 o1 D5 => ?_⟩
                obtain ⟨on, rfl⟩ := Int.eq_ofNat_of_zero_le o0
                have f8 : Fr [d] G7 (upd G7 d (.lst ys3)) := Fr.put (by simp)
                have hl8 := f8 _ _ hl7 (by simpa using ld)
                have hw8 := WysAt.keep hw7 (frTups f8 hd7)
                have PO8 := tupVs_keep (frTups f8 hd7) PO
                have T8 := tabFr T7 f8 hd7
                have hd8 := upd_same (H := G7) (a := d) (o := .lst ys3)
                have lod : lo ≠ d := fun e => by rw [e, hd7] at e7; injection e7 with e7; injection e7 with e7; rw [e7] at D4; obtain ⟨_, _, _, h, _⟩ := D4; cases h
                have e8 := f8 _ _ e7 (by simpa using lod)
                generalize upd G7 d (.lst ys3) = H17 at hl8 hw8 PO8 T8 hd8 e8 ⊢
                clear hl7 hw7 PO T7 hd7 f8 e7 D4 G7 lod
                obtain ⟨xo, hxo⟩ : ∃ xo, oddT[on]? = some xo := ⟨_, List.getElem?_eq_getElem (show on < 6 by omega)⟩
                obtain ⟨ov, hov⟩ : ∃ ov, [V.ref t1, .ref t2, .ref t3, .ref t4, .ref t5, .ref t6][on]? = some ov := ⟨_, List.getElem?_eq_getElem (show on < 6 by omega)⟩
                obtain ⟨xo', hxo', t, rfl, ht⟩ := Paired.getP PO8 hov
                rw [hxo] at hxo'
                cases hxo'
                obtain ⟨so, bo⟩ := oddT_bad _ (List.mem_of_getElem? hxo)
                refine ⟨lo, _, _, .ref t, rfl, rfl, SqL.of e8, at_of (j := on) rfl hov, ?_⟩
                clear PO8 hov hxo e8
                refine ⟨.ref l, rfl, fun o1 u1 hc1 hd1 r1 => ⟨.int (at0 : Int), rfl, fun o2 u2 hc2 hd2 r2 => ⟨.ref t, rfl, fun o3 u3 hc3 hd3 r3 => ?_⟩⟩⟩
                have cv1 := ((cellv hc1 hd1 r1).same (lockS o2 hc2)).same (lockS o3 hc3)
                have cv2 := (cellv hc2 hd2 r2).same (lockS o3 hc3)
                have cv3 := cellv hc3 hd3 r3
                have sP2 := (lockS o1 hc1).trans (lockS o2 hc2)
                have sP := sP2.trans (lockS o3 hc3)
                have n1 := hc1
                have n2 := Same.free (lockS o1 hc1) hc2
                have n3 := Same.free sP2 hc3
                have n21 := ne_of_none (show _ = some _ from upd_same) hc2
                have n32 := ne_of_none (show _ = some _ from upd_same) hc3
                have n31 := ne_of_none (upd_old (show _ = some _ from upd_same) hc2) hc3
                have T9 := T8.same sP
                refine ⟨T9, fun f clos H7 hf g T10 L7 C7 => ?_⟩
                have F7 := FT.of_grow g T9
                have cw1 := cell_ft cv1 F7
                have cw2 := cell_ft cv2 F7
                have cw3 := cell_ft cv3 F7
                have nT : ∀ {b o}, H17 b = some o → (∀ ps, o ≠ .tbl ps) → b ≠ a.p_law := fun {b o} e ne y => by
                  obtain ⟨ps, h, _⟩ := T8
                  rw [y, h] at e; cases e; exact ne _ rfl
                have hl9 := g _ _ (nT hl8 fun _ y => by cases y) (sP _ _ hl8)
                have ht9 := g _ _ (nT ht fun _ y => by cases y) (sP _ _ ht)
                have hw9 := WysAt.keep (WysAt.keep hw8 (Tups.of_same sP)) F7.2
                refine ⟨f, "ways", 0, rfl, Wk.mono (k := 9) (Q := fun _ _ => False) (E := fun cls dd H' => Bad17 a "ways" 0 cls dd H' ∧ Same H7 H') ?_ (by decide) (fun _ _ y => y) fun cls dd H' y => ⟨y.1, fun H'' s'' => ⟨_, rfl, iteF ⟨_, _, _, _, _, _, _, _, _, _, _, rfl, ?_⟩⟩⟩⟩
                · refine lam_wk (k := 8) (N := ["_law_ways", "_law_odd", "_law_at"]) (σ0 := [some (.ref l), some (.ref t), some (.int (at0 : Int))]) (ps := []) L7 (C7.sc ["_law_ways", "_law_at", "_law_odd"] (by decide +kernel) ?_ ?_ rfl (by decide +kernel) (by simp) rfl rfl rfl) ⟨rfl, fun _ _ _ _ => rfl⟩ fun cd A outer s hr => ⟨_, (pe_call (ok_written (P := P) (w := w) (base := base) T ) (hr.mono (by decide)) (by rfl) T.m_written T.F_written.kp T.B_written .nil pass1 (pa_cons (pe_op op_cat (pe_op op_cat (pe_slice sl_list (pv 0) po_none (po_some (pv 2))) (pe_lst (pa_cons (pv 1) pa_nil))) (pe_slice sl_list (pv 0) (po_some (pv 2)) po_none)) pa_nil)), ?_⟩
                  · intro y hy
                    simp only [List.mem_cons, List.not_mem_nil, or_false] at hy
                    rcases hy with rfl | rfl | rfl
                    · exact ⟨_, _, rfl, cw1⟩
                    · exact ⟨_, _, rfl, cw2⟩
                    · exact ⟨_, _, rfl, cw3⟩
                  · intro j y v e1 e2
                    match j, e1, e2 with
                    | 0, e1, e2 => cases e1; cases e2; exact ⟨rfl, _, rfl, cw1⟩
                    | 1, e1, e2 => cases e1; cases e2; exact ⟨rfl, _, rfl, cw3⟩
                    | 2, e1, e2 => cases e1; cases e2; exact ⟨rfl, _, rfl, cw2⟩
                    | j + 3, e1, _ => simp at e1
                  · have c1 := cutV_length us none (some (at0 : Int))
                    have c2 := cutV_length us (some (at0 : Int)) none
                    refine ⟨_, rfl, _, rfl, _, rfl, l, us, rfl, SqL.of hl9, fun p1 q1 => ⟨_, rfl, sz_le (show 1 ≤ 1000000 by decide), fun p2 q2 => ?_⟩⟩
                    have sA := (Same.upd (o := .lst (cutV us none (some (at0 : Int)))) q1).trans (Same.upd (o := .lst [.ref t]) q2)
                    refine ⟨p1, p2, _, _, rfl, rfl, upd_old upd_same q2, upd_same, sz_le (by simp; omega), fun p3 q3 => ?_⟩
                    have sB := sA.trans (Same.upd (o := .lst (cutV us none (some (at0 : Int)) ++ [.ref t])) q3)
                    refine ⟨_, rfl, _, rfl, _, rfl, l, us, rfl, SqL.of (sB _ _ hl9), fun p4 q4 => ?_⟩
                    have sC := sB.trans (Same.upd (o := .lst (cutV us (some (at0 : Int)) none)) q4)
                    refine ⟨p3, p4, _, _, rfl, rfl, upd_old upd_same q4, upd_same, sz_le (by simp only [List.length_append, List.length_singleton]; omega), fun p5 q5 => ?_⟩
                    have sD := sC.trans (Same.upd (o := .lst (cutV us none (some (at0 : Int)) ++ [.ref t] ++ cutV us (some (at0 : Int)) none)) q5)
                    have pw := tupVs_keep (Tups.of_same sD) (wys_tup hw9)
                    have pa := Paired.app (Paired.app (cutP pw none (some (at0 : Int))) (.cons ⟨t, rfl, sD _ _ ht9⟩ .nil)) (cutP pw (some (at0 : Int)) none)
                    have bad : (cutW us.length (ws.map wyV) none (some (at0 : Int)) ++ [xo] ++ cutW us.length (ws.map wyV) (some (at0 : Int)) none).all wayV = false := by
                      rw [List.all_append, List.all_append]
                      simp [bo]
                    refine ⟨p5, _, _, rfl, upd_same, pa, by simp only [List.length_append, List.length_singleton]; omega, fun xs hx => ?_, fun ws2 e2 ok2 => ?_, fun _ H' s' => ⟨.inl ⟨rfl, rfl⟩, sD.trans s'⟩⟩
                    · rcases List.mem_append.mp hx with hx | hx
                      · rcases List.mem_append.mp hx with hx | hx
                        · exact wys_scal ws _ (cutW_mem hx)
                        · rw [List.mem_singleton.mp hx]; exact so
                      · exact wys_scal ws _ (cutW_mem hx)
                    · rw [e2, ways_ok ok2] at bad; cases bad
                · have sF : Grow a.p_law H17 (hid (hid (hid H'' (s.heap.objs.size + 1 + 1 + 1)) (s.heap.objs.size + 1)) (s.heap.objs.size + 1 + 1 + 1 + 1)) := fun b o nb e => by
                    rw [hid_ne (ne_of_none e n1), hid_ne (ne_of_none e n2), hid_ne (ne_of_none e n3)]
                    exact s'' _ _ (y.2 _ _ (g _ _ nb (sP _ _ e)))
                  have s12 := y.2.trans s''
                  exact ⟨Dice17.grow sF T8 ⟨ys3, hd8, D5⟩, tabHid (tabHid (tabHid (T10.same s12) (cw3.same s12)) (cellHid (cw2.same s12) n32)) (cellHid (cellHid (cw1.same s12) n31) n21)⟩
    · rintro σ' H' ⟨v2, v3, v4, v5, v6, v7, v8, v9, v10, v11, v12, rfl, hd, TO⟩
      exact k _

end
end WB
open PySem PySem.W PyProof.Rows
set_option maxRecDepth 100000 in
set_option maxHeartbeats 0 in
theorem PySem.Challenge.cw_worldbridge_k17_written_and_read_holds : PySem.Challenge.rw_worldbridge_k17_written_and_read.Holds := by
  w_on; o_law; k_head; (case hw => w_witness2)
  k_fill
  refine L2.walk_ofT (l := PySem.Challenge.rw_worldbridge_k17_written_and_read) (n := 63) (k := 13) (x := "_law_script") (CX := L2.CX0) (sp := WB.sp_law) rfl (by decide) rfl ⟨by decide, by decide⟩ (fun w h Y => PySem.W.km_in_of Y) ?F ?S ?C
  case F =>
    intro w mg fa h KX G Y hmg
    have T : ∃ (a : WB.Adr), WB.Txt (L2.KOf KX) mg a ∧ (∃ fd, a.d_law = fd ∧ ∀ (s : Shared) (u : Value), BindsTo s fd ⟨[u], []⟩ [("_law_script", u)]) ∧ PySem.W.TabsAt [(a.k_law, a.p_law)] h := by
      dsimp only [L2.KOf]
      refine' WB.tx_end (WB.txt_mk KX G ?g_ROWS ?g_OVER ?g_BACK ?b_ValueError ?b_abs ?b_all ?b_bool ?b_enumerate ?b_int ?b_isinstance ?b_len ?b_list ?b_range ?b_str ?b_super ?b_tuple ?aC_BridgeError ?aC_BadWorld ?aC_BadLetter ?aC_BadPlace ?aC_BadWays ?aC_Cut ?aC_Fallen ?aC_BadText ?xe_BridgeError ?xk_BridgeError ?xq0_BridgeError ?xq1_BridgeError ?xq2_BridgeError ?tk_BridgeError_BridgeError ?ki_BridgeError_BridgeError ?tk_BridgeError_BadWorld ?ki_BridgeError_BadWorld ?tk_BridgeError_BadLetter ?ki_BridgeError_BadLetter ?tk_BridgeError_BadPlace ?ki_BridgeError_BadPlace ?tk_BridgeError_BadWays ?ki_BridgeError_BadWays ?tk_BridgeError_Cut ?ki_BridgeError_Cut ?tk_BridgeError_Fallen ?ki_BridgeError_Fallen ?tk_BridgeError_BadText ?ki_BridgeError_BadText ?kv_BridgeError ?xe_BadWorld ?xk_BadWorld ?xq0_BadWorld ?xq1_BadWorld ?xq2_BadWorld ?tk_BadWorld_BridgeError ?ki_BadWorld_BridgeError ?tk_BadWorld_BadWorld ?ki_BadWorld_BadWorld ?tk_BadWorld_BadLetter ?ki_BadWorld_BadLetter ?tk_BadWorld_BadPlace ?ki_BadWorld_BadPlace ?tk_BadWorld_BadWays ?ki_BadWorld_BadWays ?tk_BadWorld_Cut ?ki_BadWorld_Cut ?tk_BadWorld_Fallen ?ki_BadWorld_Fallen ?tk_BadWorld_BadText ?ki_BadWorld_BadText ?kv_BadWorld ?xe_BadLetter ?xk_BadLetter ?xq0_BadLetter ?xq1_BadLetter ?xq2_BadLetter ?tk_BadLetter_BridgeError ?ki_BadLetter_BridgeError ?tk_BadLetter_BadWorld ?ki_BadLetter_BadWorld ?tk_BadLetter_BadLetter ?ki_BadLetter_BadLetter ?tk_BadLetter_BadPlace ?ki_BadLetter_BadPlace ?tk_BadLetter_BadWays ?ki_BadLetter_BadWays ?tk_BadLetter_Cut ?ki_BadLetter_Cut ?tk_BadLetter_Fallen ?ki_BadLetter_Fallen ?tk_BadLetter_BadText ?ki_BadLetter_BadText ?kv_BadLetter ?xe_BadPlace ?xk_BadPlace ?xq0_BadPlace ?xq1_BadPlace ?xq2_BadPlace ?tk_BadPlace_BridgeError ?ki_BadPlace_BridgeError ?tk_BadPlace_BadWorld ?ki_BadPlace_BadWorld ?tk_BadPlace_BadLetter ?ki_BadPlace_BadLetter ?tk_BadPlace_BadPlace ?ki_BadPlace_BadPlace ?tk_BadPlace_BadWays ?ki_BadPlace_BadWays ?tk_BadPlace_Cut ?ki_BadPlace_Cut ?tk_BadPlace_Fallen ?ki_BadPlace_Fallen ?tk_BadPlace_BadText ?ki_BadPlace_BadText ?kv_BadPlace ?xe_BadWays ?xk_BadWays ?xq0_BadWays ?xq1_BadWays ?xq2_BadWays ?tk_BadWays_BridgeError ?ki_BadWays_BridgeError ?tk_BadWays_BadWorld ?ki_BadWays_BadWorld ?tk_BadWays_BadLetter ?ki_BadWays_BadLetter ?tk_BadWays_BadPlace ?ki_BadWays_BadPlace ?tk_BadWays_BadWays ?ki_BadWays_BadWays ?tk_BadWays_Cut ?ki_BadWays_Cut ?tk_BadWays_Fallen ?ki_BadWays_Fallen ?tk_BadWays_BadText ?ki_BadWays_BadText ?kv_BadWays ?xe_Cut ?xk_Cut ?xq0_Cut ?xq1_Cut ?xq2_Cut ?tk_Cut_BridgeError ?ki_Cut_BridgeError ?tk_Cut_BadWorld ?ki_Cut_BadWorld ?tk_Cut_BadLetter ?ki_Cut_BadLetter ?tk_Cut_BadPlace ?ki_Cut_BadPlace ?tk_Cut_BadWays ?ki_Cut_BadWays ?tk_Cut_Cut ?ki_Cut_Cut ?tk_Cut_Fallen ?ki_Cut_Fallen ?tk_Cut_BadText ?ki_Cut_BadText ?kv_Cut ?xe_Fallen ?xk_Fallen ?xq0_Fallen ?xq1_Fallen ?xq2_Fallen ?tk_Fallen_BridgeError ?ki_Fallen_BridgeError ?tk_Fallen_BadWorld ?ki_Fallen_BadWorld ?tk_Fallen_BadLetter ?ki_Fallen_BadLetter ?tk_Fallen_BadPlace ?ki_Fallen_BadPlace ?tk_Fallen_BadWays ?ki_Fallen_BadWays ?tk_Fallen_Cut ?ki_Fallen_Cut ?tk_Fallen_Fallen ?ki_Fallen_Fallen ?tk_Fallen_BadText ?ki_Fallen_BadText ?kv_Fallen ?xw_BadText ?xk_BadText ?xq0_BadText ?xq1_BadText ?xq2_BadText ?xq3_BadText ?xq4_BadText ?xf_BadText ?xi_BadText ?xs_BadText ?l_BadText___init__ ?k_BadText___init__ ?lk_BadText___init__ ?zp_BadText___init__ ?lc_BadText___init__ ?xo_BadText ?tk_BadText_BridgeError ?ki_BadText_BridgeError ?tk_BadText_BadWorld ?ki_BadText_BadWorld ?tk_BadText_BadLetter ?ki_BadText_BadLetter ?tk_BadText_BadPlace ?ki_BadText_BadPlace ?tk_BadText_BadWays ?ki_BadText_BadWays ?tk_BadText_Cut ?ki_BadText_Cut ?tk_BadText_Fallen ?ki_BadText_Fallen ?tk_BadText_BadText ?ki_BadText_BadText ?kv_BadText ?a_is_whole ?l_is_whole ?k_is_whole ?p_is_whole ?a_is_between ?l_is_between ?k_is_between ?p_is_between ?a_is_row ?l_is_row ?k_is_row ?p_is_row ?a_is_way ?l_is_way ?k_is_way ?p_is_way ?a_check_each ?l_check_each ?k_check_each ?p_check_each ?a_written ?l_written ?k_written ?p_written ?a_read ?l_read ?k_read ?p_read ?a_read_way ?l_read_way ?k_read_way ?p_read_way ?a__law_dice ?l__law_dice ?k__law_dice ?p__law_dice ?a__law_off ?l__law_off ?k__law_off ?p__law_off ?a__law_alike ?l__law_alike ?k__law_alike ?p__law_alike ?a__law_refused ?l__law_refused ?k__law_refused ?p__law_refused ?a__law_line ?l__law_line ?k__law_line ?p__law_line ?a__law_changed ?l__law_changed ?k__law_changed ?p__law_changed ?a_law ?l_law ?k_law ?p_law ?zk_law ?lk_law ?zp_law ?zq_law ?zt_law) (fun s u => .of_eq rfl)
      (case g_ROWS => k_is)
      (case g_OVER => k_is)
      (case g_BACK => k_is)
      (case b_ValueError => k_is)
      (case b_abs => k_is)
      (case b_all => k_is)
      (case b_bool => k_is)
      (case b_enumerate => k_is)
      (case b_int => k_is)
      (case b_isinstance => k_is)
      (case b_len => k_is)
      (case b_list => k_is)
      (case b_range => k_is)
      (case b_str => k_is)
      (case b_super => k_is)
      (case b_tuple => k_is)
      (case aC_BridgeError => k_is)
      (case aC_BadWorld => k_is)
      (case aC_BadLetter => k_is)
      (case aC_BadPlace => k_is)
      (case aC_BadWays => k_is)
      (case aC_Cut => k_is)
      (case aC_Fallen => k_is)
      (case aC_BadText => k_is)
      (case xe_BridgeError => first | k_is | k_exc | kernel_rfl)
      (case xk_BridgeError => first | k_is | k_exc | kernel_rfl)
      (case xq0_BridgeError => first | k_is | k_exc | kernel_rfl)
      (case xq1_BridgeError => first | k_is | k_exc | kernel_rfl)
      (case xq2_BridgeError => first | k_is | k_exc | kernel_rfl)
      (case tk_BridgeError_BridgeError => first | k_is | k_exc | kernel_rfl)
      (case ki_BridgeError_BridgeError => first | k_is | k_exc | kernel_rfl)
      (case tk_BridgeError_BadWorld => first | k_is | k_exc | kernel_rfl)
      (case ki_BridgeError_BadWorld => first | k_is | k_exc | kernel_rfl)
      (case tk_BridgeError_BadLetter => first | k_is | k_exc | kernel_rfl)
      (case ki_BridgeError_BadLetter => first | k_is | k_exc | kernel_rfl)
      (case tk_BridgeError_BadPlace => first | k_is | k_exc | kernel_rfl)
      (case ki_BridgeError_BadPlace => first | k_is | k_exc | kernel_rfl)
      (case tk_BridgeError_BadWays => first | k_is | k_exc | kernel_rfl)
      (case ki_BridgeError_BadWays => first | k_is | k_exc | kernel_rfl)
      (case tk_BridgeError_Cut => first | k_is | k_exc | kernel_rfl)
      (case ki_BridgeError_Cut => first | k_is | k_exc | kernel_rfl)
      (case tk_BridgeError_Fallen => first | k_is | k_exc | kernel_rfl)
      (case ki_BridgeError_Fallen => first | k_is | k_exc | kernel_rfl)
      (case tk_BridgeError_BadText => first | k_is | k_exc | kernel_rfl)
      (case ki_BridgeError_BadText => first | k_is | k_exc | kernel_rfl)
      (case kv_BridgeError => first | k_is | k_exc | kernel_rfl)
      (case xe_BadWorld => first | k_is | k_exc | kernel_rfl)
      (case xk_BadWorld => first | k_is | k_exc | kernel_rfl)
      (case xq0_BadWorld => first | k_is | k_exc | kernel_rfl)
      (case xq1_BadWorld => first | k_is | k_exc | kernel_rfl)
      (case xq2_BadWorld => first | k_is | k_exc | kernel_rfl)
      (case tk_BadWorld_BridgeError => first | k_is | k_exc | kernel_rfl)
      (case ki_BadWorld_BridgeError => first | k_is | k_exc | kernel_rfl)
      (case tk_BadWorld_BadWorld => first | k_is | k_exc | kernel_rfl)
      (case ki_BadWorld_BadWorld => first | k_is | k_exc | kernel_rfl)
      (case tk_BadWorld_BadLetter => first | k_is | k_exc | kernel_rfl)
      (case ki_BadWorld_BadLetter => first | k_is | k_exc | kernel_rfl)
      (case tk_BadWorld_BadPlace => first | k_is | k_exc | kernel_rfl)
      (case ki_BadWorld_BadPlace => first | k_is | k_exc | kernel_rfl)
      (case tk_BadWorld_BadWays => first | k_is | k_exc | kernel_rfl)
      (case ki_BadWorld_BadWays => first | k_is | k_exc | kernel_rfl)
      (case tk_BadWorld_Cut => first | k_is | k_exc | kernel_rfl)
      (case ki_BadWorld_Cut => first | k_is | k_exc | kernel_rfl)
      (case tk_BadWorld_Fallen => first | k_is | k_exc | kernel_rfl)
      (case ki_BadWorld_Fallen => first | k_is | k_exc | kernel_rfl)
      (case tk_BadWorld_BadText => first | k_is | k_exc | kernel_rfl)
      (case ki_BadWorld_BadText => first | k_is | k_exc | kernel_rfl)
      (case kv_BadWorld => first | k_is | k_exc | kernel_rfl)
      (case xe_BadLetter => first | k_is | k_exc | kernel_rfl)
      (case xk_BadLetter => first | k_is | k_exc | kernel_rfl)
      (case xq0_BadLetter => first | k_is | k_exc | kernel_rfl)
      (case xq1_BadLetter => first | k_is | k_exc | kernel_rfl)
      (case xq2_BadLetter => first | k_is | k_exc | kernel_rfl)
      (case tk_BadLetter_BridgeError => first | k_is | k_exc | kernel_rfl)
      (case ki_BadLetter_BridgeError => first | k_is | k_exc | kernel_rfl)
      (case tk_BadLetter_BadWorld => first | k_is | k_exc | kernel_rfl)
      (case ki_BadLetter_BadWorld => first | k_is | k_exc | kernel_rfl)
      (case tk_BadLetter_BadLetter => first | k_is | k_exc | kernel_rfl)
      (case ki_BadLetter_BadLetter => first | k_is | k_exc | kernel_rfl)
      (case tk_BadLetter_BadPlace => first | k_is | k_exc | kernel_rfl)
      (case ki_BadLetter_BadPlace => first | k_is | k_exc | kernel_rfl)
      (case tk_BadLetter_BadWays => first | k_is | k_exc | kernel_rfl)
      (case ki_BadLetter_BadWays => first | k_is | k_exc | kernel_rfl)
      (case tk_BadLetter_Cut => first | k_is | k_exc | kernel_rfl)
      (case ki_BadLetter_Cut => first | k_is | k_exc | kernel_rfl)
      (case tk_BadLetter_Fallen => first | k_is | k_exc | kernel_rfl)
      (case ki_BadLetter_Fallen => first | k_is | k_exc | kernel_rfl)
      (case tk_BadLetter_BadText => first | k_is | k_exc | kernel_rfl)
      (case ki_BadLetter_BadText => first | k_is | k_exc | kernel_rfl)
      (case kv_BadLetter => first | k_is | k_exc | kernel_rfl)
      (case xe_BadPlace => first | k_is | k_exc | kernel_rfl)
      (case xk_BadPlace => first | k_is | k_exc | kernel_rfl)
      (case xq0_BadPlace => first | k_is | k_exc | kernel_rfl)
      (case xq1_BadPlace => first | k_is | k_exc | kernel_rfl)
      (case xq2_BadPlace => first | k_is | k_exc | kernel_rfl)
      (case tk_BadPlace_BridgeError => first | k_is | k_exc | kernel_rfl)
      (case ki_BadPlace_BridgeError => first | k_is | k_exc | kernel_rfl)
      (case tk_BadPlace_BadWorld => first | k_is | k_exc | kernel_rfl)
      (case ki_BadPlace_BadWorld => first | k_is | k_exc | kernel_rfl)
      (case tk_BadPlace_BadLetter => first | k_is | k_exc | kernel_rfl)
      (case ki_BadPlace_BadLetter => first | k_is | k_exc | kernel_rfl)
      (case tk_BadPlace_BadPlace => first | k_is | k_exc | kernel_rfl)
      (case ki_BadPlace_BadPlace => first | k_is | k_exc | kernel_rfl)
      (case tk_BadPlace_BadWays => first | k_is | k_exc | kernel_rfl)
      (case ki_BadPlace_BadWays => first | k_is | k_exc | kernel_rfl)
      (case tk_BadPlace_Cut => first | k_is | k_exc | kernel_rfl)
      (case ki_BadPlace_Cut => first | k_is | k_exc | kernel_rfl)
      (case tk_BadPlace_Fallen => first | k_is | k_exc | kernel_rfl)
      (case ki_BadPlace_Fallen => first | k_is | k_exc | kernel_rfl)
      (case tk_BadPlace_BadText => first | k_is | k_exc | kernel_rfl)
      (case ki_BadPlace_BadText => first | k_is | k_exc | kernel_rfl)
      (case kv_BadPlace => first | k_is | k_exc | kernel_rfl)
      (case xe_BadWays => first | k_is | k_exc | kernel_rfl)
      (case xk_BadWays => first | k_is | k_exc | kernel_rfl)
      (case xq0_BadWays => first | k_is | k_exc | kernel_rfl)
      (case xq1_BadWays => first | k_is | k_exc | kernel_rfl)
      (case xq2_BadWays => first | k_is | k_exc | kernel_rfl)
      (case tk_BadWays_BridgeError => first | k_is | k_exc | kernel_rfl)
      (case ki_BadWays_BridgeError => first | k_is | k_exc | kernel_rfl)
      (case tk_BadWays_BadWorld => first | k_is | k_exc | kernel_rfl)
      (case ki_BadWays_BadWorld => first | k_is | k_exc | kernel_rfl)
      (case tk_BadWays_BadLetter => first | k_is | k_exc | kernel_rfl)
      (case ki_BadWays_BadLetter => first | k_is | k_exc | kernel_rfl)
      (case tk_BadWays_BadPlace => first | k_is | k_exc | kernel_rfl)
      (case ki_BadWays_BadPlace => first | k_is | k_exc | kernel_rfl)
      (case tk_BadWays_BadWays => first | k_is | k_exc | kernel_rfl)
      (case ki_BadWays_BadWays => first | k_is | k_exc | kernel_rfl)
      (case tk_BadWays_Cut => first | k_is | k_exc | kernel_rfl)
      (case ki_BadWays_Cut => first | k_is | k_exc | kernel_rfl)
      (case tk_BadWays_Fallen => first | k_is | k_exc | kernel_rfl)
      (case ki_BadWays_Fallen => first | k_is | k_exc | kernel_rfl)
      (case tk_BadWays_BadText => first | k_is | k_exc | kernel_rfl)
      (case ki_BadWays_BadText => first | k_is | k_exc | kernel_rfl)
      (case kv_BadWays => first | k_is | k_exc | kernel_rfl)
      (case xe_Cut => first | k_is | k_exc | kernel_rfl)
      (case xk_Cut => first | k_is | k_exc | kernel_rfl)
      (case xq0_Cut => first | k_is | k_exc | kernel_rfl)
      (case xq1_Cut => first | k_is | k_exc | kernel_rfl)
      (case xq2_Cut => first | k_is | k_exc | kernel_rfl)
      (case tk_Cut_BridgeError => first | k_is | k_exc | kernel_rfl)
      (case ki_Cut_BridgeError => first | k_is | k_exc | kernel_rfl)
      (case tk_Cut_BadWorld => first | k_is | k_exc | kernel_rfl)
      (case ki_Cut_BadWorld => first | k_is | k_exc | kernel_rfl)
      (case tk_Cut_BadLetter => first | k_is | k_exc | kernel_rfl)
      (case ki_Cut_BadLetter => first | k_is | k_exc | kernel_rfl)
      (case tk_Cut_BadPlace => first | k_is | k_exc | kernel_rfl)
      (case ki_Cut_BadPlace => first | k_is | k_exc | kernel_rfl)
      (case tk_Cut_BadWays => first | k_is | k_exc | kernel_rfl)
      (case ki_Cut_BadWays => first | k_is | k_exc | kernel_rfl)
      (case tk_Cut_Cut => first | k_is | k_exc | kernel_rfl)
      (case ki_Cut_Cut => first | k_is | k_exc | kernel_rfl)
      (case tk_Cut_Fallen => first | k_is | k_exc | kernel_rfl)
      (case ki_Cut_Fallen => first | k_is | k_exc | kernel_rfl)
      (case tk_Cut_BadText => first | k_is | k_exc | kernel_rfl)
      (case ki_Cut_BadText => first | k_is | k_exc | kernel_rfl)
      (case kv_Cut => first | k_is | k_exc | kernel_rfl)
      (case xe_Fallen => first | k_is | k_exc | kernel_rfl)
      (case xk_Fallen => first | k_is | k_exc | kernel_rfl)
      (case xq0_Fallen => first | k_is | k_exc | kernel_rfl)
      (case xq1_Fallen => first | k_is | k_exc | kernel_rfl)
      (case xq2_Fallen => first | k_is | k_exc | kernel_rfl)
      (case tk_Fallen_BridgeError => first | k_is | k_exc | kernel_rfl)
      (case ki_Fallen_BridgeError => first | k_is | k_exc | kernel_rfl)
      (case tk_Fallen_BadWorld => first | k_is | k_exc | kernel_rfl)
      (case ki_Fallen_BadWorld => first | k_is | k_exc | kernel_rfl)
      (case tk_Fallen_BadLetter => first | k_is | k_exc | kernel_rfl)
      (case ki_Fallen_BadLetter => first | k_is | k_exc | kernel_rfl)
      (case tk_Fallen_BadPlace => first | k_is | k_exc | kernel_rfl)
      (case ki_Fallen_BadPlace => first | k_is | k_exc | kernel_rfl)
      (case tk_Fallen_BadWays => first | k_is | k_exc | kernel_rfl)
      (case ki_Fallen_BadWays => first | k_is | k_exc | kernel_rfl)
      (case tk_Fallen_Cut => first | k_is | k_exc | kernel_rfl)
      (case ki_Fallen_Cut => first | k_is | k_exc | kernel_rfl)
      (case tk_Fallen_Fallen => first | k_is | k_exc | kernel_rfl)
      (case ki_Fallen_Fallen => first | k_is | k_exc | kernel_rfl)
      (case tk_Fallen_BadText => first | k_is | k_exc | kernel_rfl)
      (case ki_Fallen_BadText => first | k_is | k_exc | kernel_rfl)
      (case kv_Fallen => first | k_is | k_exc | kernel_rfl)
      (case xw_BadText => first | k_is | k_exc | kernel_rfl)
      (case xk_BadText => first | k_is | k_exc | kernel_rfl)
      (case xq0_BadText => first | k_is | k_exc | kernel_rfl)
      (case xq1_BadText => first | k_is | k_exc | kernel_rfl)
      (case xq2_BadText => first | k_is | k_exc | kernel_rfl)
      (case xq3_BadText => first | k_is | k_exc | kernel_rfl)
      (case xq4_BadText => first | k_is | k_exc | kernel_rfl)
      (case xf_BadText => k_is)
      (case xi_BadText => first | k_is | k_exc | kernel_rfl)
      (case xs_BadText => first | k_is | k_exc | kernel_rfl)
      (case l_BadText___init__ => k_is)
      (case k_BadText___init__ => k_is)
      (case lk_BadText___init__ => k_is)
      (case zp_BadText___init__ => first | rfl | kernel_rfl)
      (case lc_BadText___init__ => k_is)
      (case xo_BadText => first | k_is | k_exc | kernel_rfl)
      (case tk_BadText_BridgeError => first | k_is | k_exc | kernel_rfl)
      (case ki_BadText_BridgeError => first | k_is | k_exc | kernel_rfl)
      (case tk_BadText_BadWorld => first | k_is | k_exc | kernel_rfl)
      (case ki_BadText_BadWorld => first | k_is | k_exc | kernel_rfl)
      (case tk_BadText_BadLetter => first | k_is | k_exc | kernel_rfl)
      (case ki_BadText_BadLetter => first | k_is | k_exc | kernel_rfl)
      (case tk_BadText_BadPlace => first | k_is | k_exc | kernel_rfl)
      (case ki_BadText_BadPlace => first | k_is | k_exc | kernel_rfl)
      (case tk_BadText_BadWays => first | k_is | k_exc | kernel_rfl)
      (case ki_BadText_BadWays => first | k_is | k_exc | kernel_rfl)
      (case tk_BadText_Cut => first | k_is | k_exc | kernel_rfl)
      (case ki_BadText_Cut => first | k_is | k_exc | kernel_rfl)
      (case tk_BadText_Fallen => first | k_is | k_exc | kernel_rfl)
      (case ki_BadText_Fallen => first | k_is | k_exc | kernel_rfl)
      (case tk_BadText_BadText => first | k_is | k_exc | kernel_rfl)
      (case ki_BadText_BadText => first | k_is | k_exc | kernel_rfl)
      (case kv_BadText => first | k_is | k_exc | kernel_rfl)
      (case a_is_whole => k_is)
      (case l_is_whole => k_is)
      (case k_is_whole => k_is)
      (case p_is_whole => k_is)
      (case a_is_between => k_is)
      (case l_is_between => k_is)
      (case k_is_between => k_is)
      (case p_is_between => k_is)
      (case a_is_row => k_is)
      (case l_is_row => k_is)
      (case k_is_row => k_is)
      (case p_is_row => k_is)
      (case a_is_way => k_is)
      (case l_is_way => k_is)
      (case k_is_way => k_is)
      (case p_is_way => k_is)
      (case a_check_each => k_is)
      (case l_check_each => k_is)
      (case k_check_each => k_is)
      (case p_check_each => k_is)
      (case a_written => k_is)
      (case l_written => k_is)
      (case k_written => k_is)
      (case p_written => k_is)
      (case a_read => k_is)
      (case l_read => k_is)
      (case k_read => k_is)
      (case p_read => k_is)
      (case a_read_way => k_is)
      (case l_read_way => k_is)
      (case k_read_way => k_is)
      (case p_read_way => k_is)
      (case a__law_dice => k_is)
      (case l__law_dice => k_is)
      (case k__law_dice => k_is)
      (case p__law_dice => k_is)
      (case a__law_off => k_is)
      (case l__law_off => k_is)
      (case k__law_off => k_is)
      (case p__law_off => k_is)
      (case a__law_alike => k_is)
      (case l__law_alike => k_is)
      (case k__law_alike => k_is)
      (case p__law_alike => k_is)
      (case a__law_refused => k_is)
      (case l__law_refused => k_is)
      (case k__law_refused => k_is)
      (case p__law_refused => k_is)
      (case a__law_line => k_is)
      (case l__law_line => k_is)
      (case k__law_line => k_is)
      (case p__law_line => k_is)
      (case a__law_changed => k_is)
      (case l__law_changed => k_is)
      (case k__law_changed => k_is)
      (case p__law_changed => k_is)
      (case a_law => k_is)
      (case l_law => k_is)
      (case k_law => k_is)
      (case p_law => k_is)
      (case zk_law => first | rfl | kernel_rfl)
      (case lk_law => k_is)
      (case zp_law => first | rfl | kernel_rfl)
      (case zq_law => first | rfl | kernel_rfl)
      (case zt_law => exact PySem.W.km_tabs_of Y _ (by first | k_mem | simp))
    obtain ⟨a, T, ⟨fd, hfd, hb⟩, hTT⟩ := T
    have e0 := hmg.symm.trans T.m_law
    cases e0
    haveI : L2.ProgOk (PySem.Challenge.rw_worldbridge_k17_written_and_read).prog := ⟨by decide +kernel, by decide +kernel⟩
    exact ⟨a.d_law, _, by rw [hfd]; exact hb, hTT, by kernel_rfl, fun base _ _ LB => WB.ok_law T (LB (a.k_law, a.p_law) (by simp))⟩
  case S => exact fun _ tabs H a ns hl hO hT hS => WB.sp_law_start hl hO hT hS
  case C => exact fun _ _ _ _ z => z

