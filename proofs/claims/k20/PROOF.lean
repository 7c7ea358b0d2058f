import PyProof.Rows.All
import Wide.All
import OpenK.AllK
import Wide.FinOn
import PySem.Challenge.RW_deedworlds_k20_models_renamed
import HandS.Base
import HandS.Call
import HandS.List
import HandS.Comp
import HandS.Iter
import HandS.Evl
import HandS.Words
import KE.GoesMore
import KE.GoesEnum
import PyProof.ReprRoads
import PyProof.AutoIntOps
import HandS.Ends
import HandS.ForMost
import HandS.IsInst
import HandS.Zip
import HandS.TupAny
import HandS.Conv
import HandS.NoneIn
import HandS.More
import HandS.Wide
import HandS.Walk
import HandS.ReCall
import KE.KIndexOf
import PyProof.Rows.RegFStrParts
import HandS.Codes
set_option Elab.async false
set_option linter.all false
set_option maxRecDepth 100000
set_option maxHeartbeats  4000000
section
/-! a rule of our own over the hand layer: for .. in enumerate(a tuple) -/
namespace Dw
open PySem PySem.Spec PyProof.Rows L2
/-- the walker of a tuple, and what counts beside it, as enumerate lays them -/
abbrev tupWalker (tp : Addr) : Obj := { cls := .type "tuple_iterator", data := .fields #[.ref tp, .int 0 0] }
abbrev counter (wk : Addr) : Obj := { cls := .type "enumerate", data := .fields #[.none, .bool false, .ref wk, rawInt 0, .none, .none] }
theorem new_enumT (tp : Addr) (cells : Array Value) (cap : Nat) (dc : Option Addr) (osl : Array (Option Value)) :
    Meets (Builtin.«enumerate.__new__» ⟨[.type "enumerate", .ref tp], []⟩) (fun _ R s => s.heap.get? tp = some { cls := .type "tuple", dict := dc, data := .seq cells cap, slots := osl } ∧
      R (.ok (.ret (.ref (s.heap.push (tupWalker tp)).objs.size))) { s with heap := (s.heap.push (tupWalker tp)).push (counter s.heap.objs.size) }) := by
  refine .of_wp fun prog w A R s pre => ?_
  obtain ⟨hp, glo, dep, tk, os⟩ := s
  obtain ⟨at_, goal⟩ := pre
  have isSub := sub_enumerate
  have isTup : Heap.IsTuple (Shared.heap ⟨hp, glo, dep, tk, os⟩) tp cells := ⟨_, at_, rfl, cap, rfl⟩
  wp_walk using AutoSeq1.wpAny_loadPart' at_
  refine wpAny_stack_any (fun _ => wpAny_pure ?_)
  split
  case h_1 cl _ _ _ _ _ =>
    generalize (cl == Value.type "enumerate") = same
    cases same <;> (wp_walk using AutoSeq1.wpAny_loadPart' at_, wpAny_pyIter_tuple isTup; exact ⟨_, rfl, goal⟩)
  case h_2 =>
    wp_walk using AutoSeq1.wpAny_loadPart' at_, wpAny_pyIter_tuple isTup
    exact ⟨_, rfl, goal⟩
/-- what stands behind enumerate(tuple): two new objects, all else as it was -/
structure Laid (old new : Heap) (tp : Addr) : Prop where
  cnt : IsEnum new (old.objs.size + 1) old.objs.size 0 .none
  wlk : new.IsTupleIter old.objs.size tp 0
  kept : ∀ b o, old.get? b = some o → new.get? b = some o
theorem laid_mk (old : Heap) (tp : Addr) : Laid old ((old.push (tupWalker tp)).push (counter old.objs.size)) tp := by
  have size1 : (old.push (tupWalker tp)).objs.size = old.objs.size + 1 := Heap.size_push ..
  have last := Heap.get?_push_size (old.push (tupWalker tp)) (o := counter old.objs.size) rfl
  rw [size1] at last
  exact ⟨last, ⟨tupWalker tp, Heap.get?_push_of_some _ (Heap.get?_push_size _ rfl), rfl, rfl⟩, fun b o q => Heap.get?_push_of_some _ (Heap.get?_push_of_some _ q)⟩
theorem call_enumT {prog : Program} {w : World} {A : Around} {E Q : Value → Shared → Prop} {s : Shared} {tp : Addr} {cells : Array Value} (isTup : s.heap.IsTuple tp cells)
    (next : ∀ new, Laid s.heap new tp → Q (.ref (s.heap.objs.size + 1)) { s with heap := new }) : wpAny (model prog w) A (call (.type "enumerate") [.ref tp]) Q E s := by
  obtain ⟨⟨cl, dc, dat, osl⟩, at_, isT, cap, isSeq⟩ := isTup
  have e1 : cl = .type "tuple" := isT
  have e2 : dat = .seq cells cap := isSeq
  subst e1
  subst e2
  have made := laid_mk s.heap tp
  have size1 : (s.heap.push (tupWalker tp)).objs.size = s.heap.objs.size + 1 := Heap.size_push ..
  refine callType_new F.called_enumerate (by decide) (F.typeCall_enumerate_1 _) (F.newCall_enumerate_1 _) (fun ob => F.args_object_init_2 ob _) F.entry_enumerate_new (new_enumT tp cells cap dc osl) (And.intro at_ ?_)
  have e3 : Value.ref (s.heap.push (tupWalker tp)).objs.size = .ref (s.heap.objs.size + 1) := by rw [size1]
  show _ ∧ _
  rw [e3]
  exact And.intro ⟨_, made.cnt, rfl⟩ (next _ made)
/-- the tuple at tp: its items, each in a new pair behind its place -/
def IteT (K : PySem.W.Frag) (tp : Addr) : It :=
  ⟨fun i H => ∃ (xs : List V) (x : V), SqT K H tp xs ∧ xs[i]? = some x, fun i H v H' => ∃ pr x, v = .ref pr ∧ H pr = none ∧ H' = upd H pr (.tup [.int (i : Nat), x]) ∧ ∀ xs, SqT K H tp xs → xs[i]? = some x, fun i H => ∃ xs : List V, SqT K H tp xs ∧ xs.length ≤ i⟩
/-- how the two objects stand ahead of turn i -/
def StandsT (tp cn wk : Addr) (i : Nat) (hp : Heap) : Prop := (∃ old, IsEnum hp cn wk ((i : Nat) : Int) old) ∧ hp.IsTupleIter wk tp i ∧ cn ≠ wk ∧ tp ≠ cn ∧ tp ≠ wk
theorem two {b x y : Addr} {P : Addr → Prop} (hb : b ∈ [x, y]) (px : P x) (py : P y) : P b := by
  rcases List.mem_cons.mp hb with same | same
  · exact same ▸ px
  · exact (List.mem_singleton.mp same) ▸ py
theorem turn_enumT {P : Program} {w : World} {K : PySem.W.Frag} {elts : List Expr} {kk : Nat} {tpos : Pos} (tp cn wk : Addr) : Turn P w K (.Tuple elts kk tpos) (IteT K tp) [cn, wk] cn (StandsT tp cn wk) where
  mem := List.mem_cons_self ..
  obj := by
    intro i hp st b hb
    obtain ⟨⟨_, isE⟩, ⟨o, at_, _, dat⟩, _⟩ := st
    exact two (P := fun b => ∃ o, hp.get? b = some o ∧ ∀ v, o.data ≠ .cell v) hb ⟨_, isE, fun _ q => nomatch q⟩ ⟨o, at_, fun v q => by rw [dat] at q; cases q⟩
  keep := by
    intro i hp hp' st same
    obtain ⟨⟨old, isE⟩, isI, far⟩ := st
    exact ⟨⟨old, same cn (List.mem_cons_self ..) _ isE⟩, isI.at fun o q => same wk (List.mem_cons_of_mem _ (List.mem_singleton.mpr rfl)) o q, far⟩
  item := by
    intro X eP ew eK calm i pins s σ H E I free st here
    subst eP ew eK
    obtain ⟨⟨old, isE⟩, isI, ne1, ne2, ne3⟩ := st
    obtain ⟨xs, x, isT, atx⟩ := here
    obtain ⟨cells, rel, isTup, _⟩ := I.tuple isT
    obtain ⟨u, atu, ru⟩ := rel.get atx
    have low : i < cells.toArray.size := by
      rw [List.size_toArray]
      exact (List.getElem?_eq_some_iff.mp atu).1
    have inCn : cn < s.heap.objs.size := Heap.lt_size isE
    have inWk : wk < s.heap.objs.size := let ⟨_, q, _⟩ := isI; Heap.lt_size q
    have far : cn ∉ [wk, tp] := fun z => by
      rcases List.mem_cons.mp z with one | one
      · exact ne1 one
      · exact ne2 (List.mem_singleton.mp one).symm
    have quiet : X.A.in1.handled = none := I.ok.hd calm
    refine wpAny_pyNext_enum_itemD (Draws.tuple (prog := X.prog) (w := X.w) quiet wk tp ne3 cells.toArray) isE ⟨isI, isTup⟩ low ne1 far fun v hp1 tk isv out st1 pair _ same => ?_
    have ev : v = u := by
      have q : cells.toArray[i]? = some v := isv
      rw [List.getElem?_toArray, atu] at q
      cases q
      rfl
    subst ev
    refine ⟨_, rfl, wpAny_letOwnedTupleGo_enum (s := { s with heap := hp1, toks := tk + 1 }) out fun hp2 isE2 but => ?_⟩
    have pair2 : hp2.get? s.heap.objs.size = some { cls := .type "tuple", data := .seq #[.int i tk, v] } := (but.2 _ (Nat.ne_of_gt inCn)).trans pair
    have fine : ObjOk X.prog X.w (upd H s.heap.objs.size (.tup [.int (i : Nat), x])) hp2 s.heap.objs.size (.tup [.int (i : Nat), x]) :=
      And.intro (show 2 ≤ sizeLine by decide) ⟨[.int i tk, v], .cons ⟨_, rfl⟩ (.cons ru .nil), _, pair2, rfl, _, rfl⟩
    have still : ∀ b ob, b ∉ [cn, wk] → s.heap.get? b = some ob → hp2.get? b = some ob := fun b ob nb q => by
      have n1 : b ≠ cn := fun z => nb (z ▸ List.mem_cons_self ..)
      have n2 : b ≠ wk := fun z => nb (z ▸ List.mem_cons_of_mem _ (List.mem_singleton.mpr rfl))
      rw [but.2 b n1]
      exact same b ob n1 n2 q
    have J := I.turnedNew (ch := [cn, wk]) (t' := tk + 1) still free (Nat.le_refl s.heap.objs.size) fine
    have up : (i : Int) + 1 = ((i + 1 : Nat) : Int) := (Int.natCast_succ i).symm
    rw [up] at isE2
    refine ⟨.ref s.heap.objs.size, _, J, rfl, ⟨_, x, rfl, I.hok.fresh (Nat.le_refl _), rfl, fun ys isY => ?_⟩, ⟨⟨v, isE2⟩, st1.1.at fun o q => (but.2 wk ne1.symm).trans q, ne1, ne2, ne3⟩, fun b hb => ?_⟩
    · rw [I.tuple_inj isY isT]
      exact atx
    · have inB : b < s.heap.objs.size := two (P := fun b => b < s.heap.objs.size) hb inCn inWk
      rw [upd_ne (Nat.ne_of_lt inB)]
      exact (free b hb).1
  done := by
    intro X eP ew eK calm i pins s σ H E I free st over
    subst eP ew eK
    obtain ⟨⟨old, isE⟩, isI, ne1, ne2, ne3⟩ := st
    obtain ⟨xs, isT, short⟩ := over
    obtain ⟨cells, rel, isTup, _⟩ := I.tuple isT
    obtain ⟨g0, g1, g2, g3, g4, g5⟩ := free wk (List.mem_cons_of_mem _ (List.mem_singleton.mpr rfl))
    have many : cells.toArray.size ≤ i := by
      rw [List.size_toArray, ← rel.length]
      exact short
    have quiet : X.A.in1.handled = none := I.ok.hd calm
    have D : Draws X.prog X.w X.A.in1 wk [wk, tp] i (fun _ _ => False) (fun j hp => j = i ∧ hp.IsTupleIter wk tp i ∧ hp.IsTuple tp cells.toArray) :=
      { live := fun _ _ q => let ⟨o, z, _⟩ := q.2.1; ⟨o, z⟩
        frame := fun _ _ _ q same => ⟨q.1, q.2.1.at fun o z => same wk (List.mem_cons_self ..) o z, q.2.2.at fun o z => same tp (List.mem_cons_of_mem _ (List.mem_singleton.mpr rfl)) o z⟩
        item := fun _ _ _ _ less q _ => absurd q.1 (Nat.ne_of_lt less)
        done := fun _ _ _ q ends => wpAny_nextOf_tuple_end quiet q.2.1 q.2.2 (Array.getElem?_eq_none many) ends }
    exact wpAny_pyNext_enum_endD D isE ⟨rfl, isI, isTup⟩ fun hp1 ext => ⟨rfl, I.turned (t' := s.toks) (fun b o nb q => ext b o nb q) g0 g1 g3 g4 g5⟩
  self := by
    intro A i s Q E st q
    obtain ⟨⟨_, isE⟩, _⟩ := st
    exact wpAny_pyIter_enum isE q
def iEnumT (K : PySem.W.Frag) (ta : TA) : TI := fun σ H R => ta σ H fun vs H1 => ∃ tp xs, vs = [.ref tp] ∧ SqT K H1 tp xs ∧ R (IteT K tp) H1
theorem pi_enumT {X : Cx} {e : Expr} {ta : TA} {p pos tpos : Pos} {elts : List Expr} {kk : Nat} (glob : Gl X "enumerate") (none_ : X.mg "enumerate" = none) (arg : PA X [e] ta) (star : starEach [e] X.env = [(false, eval e X.env)] := by rfl) :
    PI X (.Tuple elts kk tpos) (.Call (.Name "enumerate" p) [e] [] pos) (iEnumT X.K ta) := by
  constructor
  intro pins s σ H R I q0
  have given := arg.run pos pins s σ H _ I q0
  refine Call_ (ld_blt I glob none_ boot_enumerate (callWith_type1 (thn given fun us s1 got => ?_) star rfl))
  obtain ⟨vs, H1, J, rel, tp, xs, isOne, isT, q1⟩ := got
  subst isOne
  obtain ⟨u, isU, ru⟩ := vals1 rel
  subst isU
  cases (show u = Value.ref tp from ru)
  obtain ⟨cells, _, isTup, _⟩ := J.tuple isT
  have inTp : tp < s1.heap.objs.size := let ⟨_, at_, _⟩ := (show s1.heap.IsTuple tp cells.toArray from isTup); Heap.lt_size at_
  refine call_enumT isTup fun new made => wpAny_pyIter_enum made.cnt ?_
  have J2 : Inv X pins σ H1 { s1 with heap := new } := J.kept (t' := s1.toks) made.kept
  have stands : StandsT tp (s1.heap.objs.size + 1) s1.heap.objs.size 0 new := ⟨⟨.none, made.cnt⟩, made.wlk, Nat.succ_ne_self _, Nat.ne_of_lt (Nat.lt_succ_of_lt inTp), Nat.ne_of_lt inTp⟩
  refine ⟨s1.heap.objs.size + 1, [s1.heap.objs.size + 1, s1.heap.objs.size], _, _, H1, rfl, J2, turn_enumT tp _ _, stands, fun b hb => ?_, q1⟩
  have late : s1.heap.objs.size ≤ b := two (P := fun b => s1.heap.objs.size ≤ b) hb (Nat.le_succ _) (Nat.le_refl _)
  exact J.fpOk late (J.hok.fresh late)
end Dw
end
section
namespace Dw
open PySem PySem.Spec PyProof.Rows L2
/-! ### repr of data, where nothing is being shown around -/
def rRepr (X : Cx) : List V → Hp → VK → Prop := fun xs H Q => ∃ (a : Addr) (d : PyData), xs = [.ref a] ∧ Dp X.K H (.ref a) d ∧ X.A.guards = some [] ∧ d.showable = true ∧ d.hasDict = false ∧ d.depth ≤ 60 ∧ d.shown.length ≤ sizeLine ∧ Q (.str d.shown) H
theorem call_repr {X : Cx} {k : Nat} (hr : Room k X.A) : CallR X (.builtin "repr") (rRepr X) := by
  intro pins s σ H xs us Q I r h
  obtain ⟨a, d, e, hd, hg, hs, hn, hz, hl, q⟩ := h
  subst e
  obtain ⟨u, rfl, ru⟩ := vals1 r
  obtain ⟨as, rd⟩ := Dp.reads I d _ _ hd ru
  cases (show u = Value.ref a from ru)
  have hu := hr.units
  exact repr_of_reads' rd hs (PyData.noDict_hsm hn) hg (by omega) (fun _ _ e => e) (fun h' t tk keep => ⟨.str d.shown, H, I.kept keep, ⟨t, rfl⟩, q⟩) hl
/-! ### ** of a base that op_pow does not take -/
theorem op_powG {b e : Int} (h0 : 0 < e) (h1 : 1 < b) (hz : Builtin.Int.intTooBig (((Builtin.Int.intBits b : Nat) : Int) * e) = false) {X : Cx} :
    OpR X (binaryOp .Pow) (fun x y H Q => x = .int b ∧ y = .int e ∧ Q (.int (b ^ e.toNat)) H) := by
  intro pins s σ H x y v u Q I rx ry h
  obtain ⟨rfl, rfl, q⟩ := h
  obtain ⟨t1, rfl⟩ := (show ∃ t, v = Value.int b t from rx)
  obtain ⟨t2, rfl⟩ := (show ∃ t, u = Value.int e t from ry)
  refine AutoIntOps.pow_4 (by omega) (by simp; omega) (by simp; omega) (by simp; omega) (by rw [hz]; decide) ?_
  exact ⟨.int (b ^ e.toNat), H, I.tok _, ⟨_, rfl⟩, q⟩
end Dw
end
section
/-! the law's own def, entered from the caller's place itself (so that it is known there that nothing is being shown) -/
namespace Dw
open PySem PySem.Spec PyProof.Rows L2
/-- a def of one parameter, entered at a told place A -/
theorem enter1 {P : Program} {w : World} {K : PySem.W.Frag} {mg : Str → Option Value} {base : Heap} {k : Nat} {x qual : Str} {st : Stmt} {f : Addr} {fd : FuncData} {N : List Str} {A : Around} {outer : List Env} {s : Shared} {H : Hp} {v : V} {u : Value} {Q : VK}
    (F : Fun K qual qual st f fd) (S : FnScope N [x] (defScope st)) (bd : BindsTo s fd ⟨[u], []⟩ [(x, u)]) (room : Room (k + 1) A) (e0 : Env0 P w K mg base A outer s H) (rv : RelV v u)
    (body : ∀ cdv : Value, ∃ t, PSs (cxOf CX0 P w K mg base N qual (defScope st) f cdv A outer s H E0).nox (defBody st) t ∧ t { nx := fun _ H' => Q .non H', rt := Q } (start N [v]) H) :
    codeAny (model P w) A (.call (.ref f) ⟨[u], []⟩) (CR CX0 outer P w H s Q E0) s := by
  obtain ⟨oc, od, kV, doc, pm, an, cdv, ct, osl, efd, look, code⟩ := F.ex
  subst efd
  obtain ⟨t, der, rd⟩ := body cdv
  have kept : ∀ b o, base.get? b = some o → s.heap.get? b = some o := fun b o e => (e0.bs b o e).1
  have inK : K.In s.heap := e0.mod.kin.keeps kept
  refine codeAny_call_function room.depth (inK f _ look) rfl S.co S.gen rfl (PySem.W.codeRec_of inK code) (bd _ _ _ _ ?_)
  have kinds : ∀ y ∈ [(x, u)], (defScope st).names.lookup y.1 = some .local ∨ ((defScope st).names.lookup y.1 = some .cell ∧ ((cellsFrom (s.heap.objs.size + 1) (defScope st).names []).lookup y.1).isSome = true) := by
    intro y hy
    rw [List.mem_singleton.mp hy]
    cases S.par x (List.mem_singleton.mpr rfl) with
    | inl one => exact Or.inl one
    | inr one => exact Or.inr ⟨one, PySem.W.cellsFrom_some _ _ _ (Or.inl one)⟩
  refine wpAny_newFunctionEnv_cells S.kind kinds (fun env isEnv s1 ic => ?_)
  subst isEnv
  have noLim : s.heap.NoLimit := e0.mod.nolimit.keeps kept
  refine ⟨noLim.keeps ic.toInCall.keep, codeAny_func ?_⟩
  have start0 : Inv (cxOf CX0 P w K mg base N qual (defScope st) f cdv A outer s H E0) [] (start N [v]) H s1 := inv_start S room.hd e0 rfl (.cons rv .nil) ic
  refine wpAny_mono (der.nox.run [] s1 (start N [v]) H _ start0 rd) (fun flow s2 done => ?_) (fun _ _ bad => bad)
  match flow, done with
  | .next, ⟨_, H2, inv, q⟩ => exact ⟨.non, H2, inv.os, inv.bare, inv.base, inv.hok, rfl, q⟩
  | .ret _, ⟨v2, _, H2, inv, rel, q⟩ => exact ⟨v2, H2, inv.os, inv.bare, inv.base, inv.hok, rel, q⟩
  | .brk, ⟨_, _, _, q⟩ => exact q.elim
  | .cont, ⟨_, _, _, q⟩ => exact q.elim
/-- how the script stands ahead of the law: tracked as locked, or one of the written part's own -/
def scriptHp (K : PySem.W.Frag) (a : Addr) (ob : Obj) (ns : List Int) : Hp := fun b => if b = a ∧ K.lookup a = none then some (.frz ob (.lst (ns.map V.int))) else none
section
variable {K : PySem.W.Frag} {a : Addr} {ob : Obj} {ns : List Int}
theorem scriptHp_some {b : Addr} {u : HO} (h : scriptHp K a ob ns b = some u) : b = a ∧ K.lookup a = none ∧ u = .frz ob (.lst (ns.map V.int)) := by
  unfold scriptHp at h
  split at h
  · rename_i c
    exact ⟨c.1, c.2, (Option.some.inj h).symm⟩
  · cases h
theorem scriptHp_at (h : K.lookup a = none) : scriptHp K a ob ns a = some (.frz ob (.lst (ns.map V.int))) := if_pos ⟨rfl, h⟩
theorem scriptHp_no {b : Addr} (h : b ≠ a) : scriptHp K a ob ns b = none := if_neg fun c => h c.1
end
/-- the end of a law row whose def is walked from the caller's place -/
theorem walkG {l : PySem.W.OpenLaw} {n k : Nat} {q : Program} {loose : List Str} {XP : (Str → Option Value) → Heap → Prop} {YP : World → Heap → Prop} {d : DefRec} {K : Params → PySem.W.Frag} {x : Str}
    (hn : l.most = some n) (hn2 : n ≤ sizeLine) (hdf : d.params.defaults = []) (room : Room (k + 1) callerA) (hY : ∀ (w : World) (h : Heap), YP w h → (K w.params).In h)
    (F : ∀ (w : World) (mg : Str → Option Value) (fa : Addr) (h : Heap),
      (K w.params).In h → h.Ns mainGlobals mg → mg d.name = some (.ref fa) →
      ∃ (fd : FuncData) (st : Stmt) (N : List Str), Fun (K w.params) d.name d.name st fa fd ∧ FnScope N [x] (defScope st) ∧ (∀ (s : Shared) (u : Value), BindsTo s fd ⟨[u], []⟩ [(x, u)]) ∧
        ∀ (base : Heap) (s : Shared) (H : Hp) (cdv : Value) (a : Addr) (ns : List Int), (K w.params).In base → base.Ns mainGlobals mg → ns.length ≤ n → SqL (K w.params) H a (ns.map V.int) →
          ∃ t, PSs (cxOf CX0 l.prog w (K w.params) mg base N d.name (defScope st) fa cdv callerA [] s H E0).nox (defBody st) t ∧ t { nx := fun _ _ => False, rt := fun v _ => v = .bl true } (start N [.ref a]) H) :
    PySem.W.WalkO q loose XP YP l.row.toRowW d [] (fun g us => PySem.call g us) := by
  refine Att.attach_call hn hdf (fun w _ s mg mb fa _ _ _ _ a vs ns G Y _ _ _ gl isL nums len gens => ?_)
  have inK := hY w s.heap Y
  obtain ⟨fd, st, N, Fn, S, bd, body⟩ := F w mg fa s.heap inK G.T.g gl
  let H : Hp := scriptHp (K w.params) a { cls := .type "list", data := .seq vs.toArray } ns
  have rel : Vals (ns.map V.int) vs := vals_ints nums
  have small : vs.length ≤ sizeLine := by rw [nums.length]; exact Nat.le_trans len hn2
  have okH : HOk l.prog w H s.heap := by
    intro b u e
    obtain ⟨rfl, _, rfl⟩ := scriptHp_some e
    exact ⟨isL, by rw [List.length_map]; exact Nat.le_trans len hn2, vs, _, rel, isL⟩
  have seq : SqL (K w.params) H a (ns.map V.int) := by
    cases lk : (K w.params).lookup a with
    | none => exact Or.inl (Or.inr ⟨_, scriptHp_at lk⟩)
    | some o =>
      have same : o = { cls := .type "list", data := .seq vs.toArray } := Option.some.inj ((inK a o lk).symm.trans isL)
      exact Or.inr ⟨o, vs.toArray, _, lk, by rw [same], by rw [same], by rw [same], by rw [List.size_toArray]; exact small, by simpa using rel⟩
  have freeK : ∀ b o, (K w.params).lookup b = some o → H b = none := by
    intro b o e
    by_cases hb : b = a
    · subst hb
      exact if_neg fun c => by rw [c.2] at e; cases e
    · exact scriptHp_no hb
  have freeD : ∀ b o es ep, s.heap.get? b = some o → o.data = .dict es ep → H b = none := by
    intro b o es ep e dat
    by_cases hb : b = a
    · subst hb
      rw [isL] at e
      cases e
      cases dat
    · exact scriptHp_no hb
  have names : ∀ b m, s.heap.Ns b m → (hidT s.heap H).Ns b m := fun b m ⟨o, es, ep, e, dat, r⟩ => ⟨o, es, ep, hidT_get e (freeD b o es ep e dat), dat, r⟩
  have inB : (K w.params).In (hidT s.heap H) := fun b o e => hidT_get (inK b o e) (freeK b o e)
  have noL : (hidT s.heap H).NoLimit := by
    obtain ⟨mc, c1, c2⟩ := G.T.nolimit
    exact ⟨mc, names _ _ c1, c2⟩
  have e0 : Env0 l.prog w (K w.params) mg (hidT s.heap H) callerA [] s H :=
    { frames := rfl, mod := ⟨inB, names _ _ G.T.g, ⟨mb, names _ _ G.T.b, G.T.builtins⟩, noL⟩, bs := fun b o e => of_hidT e, bsz := Nat.le_of_eq (hidT_size _ _), funs := trivial, frf := fun b hb => absurd (show b ∈ ([] : List Addr) from hb) (by simp), hok := okH, bare := .of_eq gens }
  have run := enter1 (P := l.prog) (v := .ref a) (Q := fun v _ => v = .bl true) Fn S (bd s (.ref a)) room e0 rfl (fun cdv => by
    obtain ⟨t, t1, t2⟩ := body (hidT s.heap H) s H cdv a ns inB (names _ _ G.T.g) len seq
    refine ⟨t, t1, ?_⟩
    have no : (fun (_ : L2.St) (_ : Hp) => (V.non = V.bl true)) = fun _ _ => False := by
      funext _ _
      exact propext ⟨fun z => V.noConfusion z, False.elim⟩
    show t { nx := fun (_ : L2.St) (_ : Hp) => V.non = V.bl true, rt := fun v _ => v = .bl true } (start N [.ref a]) H
    rw [no]
    exact t2)
  refine codeAny_mono run (fun r s2 done => ?_)
  match r, done with
  | .error _, bad => exact bad.elim
  | .ok .next, bad => exact bad.elim
  | .ok .brk, bad => exact bad.elim
  | .ok .cont, bad => exact bad.elim
  | .ok (.ret _), ⟨_, H2, os, bare, un, ok2, rr, isT⟩ =>
    subst isT
    cases (show _ = Value.bool true from rr)
    refine ⟨rfl, OldK.of_keep (fun b o e => ?_), os, bare⟩
    cases tr : H b with
    | none => exact un.keep b o e tr (fun z => absurd (show b ∈ ([] : List Addr) from z) (by simp)) (by simp)
    | some u =>
      obtain ⟨hb, _, hu⟩ := scriptHp_some tr
      subst hb hu
      have still := un.frzs _ _ _ tr
      rw [isL] at e
      cases e
      exact (ok2 _ _ still).1
end Dw
end
section
/-! what a reading evaluates to: more words over Evl; tuples of natural numbers; defs by their names -/
namespace Dw
open PySem PySem.Spec PyProof.Rows L2 Evl
/-! ### defs by their names -/
/-- a def of the text behind the top, all of its parameters without defaults -/
structure Df (K : PySem.W.Frag) (mg : Str → Option Value) (x : Str) (st : Stmt) (ps : List Str) : Prop where
  ex : ∃ (f : Addr) (fd : FuncData), Fun K x x st f fd ∧ mg x = some (.ref f) ∧ Binds K fd ps []
/-- a def that keeps a promise -/
structure Cl (P : Program) (w : World) (K : PySem.W.Frag) (mg : Str → Option Value) (base : Heap) (k : Nat) (x : Str) (sp : Sp) : Prop where
  ex : ∃ (f : Addr) (fd : FuncData) (ps : List Str), FnOk P w K mg base CX0 k f fd ps sp ∧ mg x = some (.ref f) ∧ PySem.W.keepIn K (.ref f) = true ∧ Binds K fd ps []
theorem cl_of {P : Program} {w : World} {K : PySem.W.Frag} {mg : Str → Option Value} {base : Heap} {x : Str} {st : Stmt} {N ps : List Str} {k : Nat} {sp : Sp} (D : Df K mg x st ps) (S : FnScope N ps (defScope st)) (len : ∀ vs H Q E, sp vs H Q E → vs.length = ps.length)
    (body : ∀ (f : Addr) (cdv : Value) (A : Around) (outer : List Env) (s : Shared) (H : Hp) (vs : List V) (Q : VK) (E : XK), Room k (A.deeper (envOfC x (defScope st) s.heap.objs.size f cdv)) → sp vs H Q E →
      ∃ t, PSs (cxOf CX0 P w K mg base N x (defScope st) f cdv A outer s H E).nox (defBody st) t ∧ t { nx := fun _ H' => Q .non H', rt := Q } (start N vs) H) : Cl P w K mg base (k + 1) x sp := by
  obtain ⟨f, fd, F, m, b⟩ := D.ex
  exact ⟨f, fd, ps, F.ok S len (fun cdv A outer s H vs Q E hr h => body f cdv A outer s H vs Q E hr h), m, F.kp, b⟩
theorem pe_cl {X : Cx} {k j : Nat} {x : Str} {sp : Sp} {p pos : Pos} {e : Expr} {es : List Expr} {t : TA} (c : Cl X.prog X.w X.K X.mg X.base k x sp) (hr : Room j X.A) (hk : k ≤ j) (hg : Gl X x) (ha : PA X (e :: es) t)
    (dbg : (x == ("__debug__" : Str)) = false := by decide) (str : starEach (e :: es) X.env = (false, eval e X.env) :: starEach es X.env := by rfl) (bck : (backTo pos (starEach es X.env)).any (·.1) = false := by rfl) :
    PE X (.Call (.Name x p) (e :: es) [] pos) (tCall sp [] E0 t) := by
  obtain ⟨f, fd, ps, F, m, kp, b⟩ := c.ex
  exact pe_call F (hr.mono hk) hg m kp b .nil pass0 ha dbg str bck
/-- a pure promise: of some a what must hold, and what comes back, all that stood left as it was -/
def spX {α : Type} (pre : α → List V → Hp → Prop) (post : α → V → Hp → Prop) : Sp := fun vs H Q _ => ∃ a, pre a vs H ∧ ∀ v H', Ex H H' → post a v H' → Q v H'
/-! ### values of any kind, by what holds of them -/
def EvP (te : TE) (σ : L2.St) (H : Hp) (P : V → Hp → Prop) : Prop := ∀ H1, Ex H H1 → ∀ Q : VK, (∀ v H2, Ex H1 H2 → P v H2 → Q v H2) → te σ H1 Q
section
variable {K : PySem.W.Frag} {σ : L2.St} {H H' : Hp} {ta tb te : TE} {x y z v : V} {P : V → Hp → Prop}
theorem EvP.mono (e : Ex H H') (h : EvP te σ H P) : EvP te σ H' P := fun H1 a Q q => h H1 (e.trans a) Q q
theorem EvP.imp {P' : V → Hp → Prop} (h : EvP te σ H P) (i : ∀ v H', Ex H H' → P v H' → P' v H') : EvP te σ H P' := fun H1 e Q q => h H1 e Q fun v H2 e2 p => q v H2 e2 (i v H2 (e.trans e2) p)
theorem ep_ev (h : Ev te σ H v) (p : ∀ H', Ex H H' → P v H') : EvP te σ H P := fun H1 e Q q => h H1 e Q fun H2 e2 => q v H2 e2 (p H2 (e.trans e2))
theorem ev_ep (h : EvP te σ H fun u _ => u = v) : Ev te σ H v := fun H1 e Q q => h H1 e Q fun u H2 e2 p => by subst p; exact q H2 e2
/-- a call by a pure promise -/
theorem ep_call {α : Type} {pre : α → List V → Hp → Prop} {post : α → V → Hp → Prop} (a : α) {vs : List V} {E : XK} {ta : TA} (h : EvA ta σ H vs) (hp : ∀ H1, Ex H H1 → pre a vs H1) : EvP (tCall (spX pre post) [] E ta) σ H (post a) := fun H1 e Q q =>
  h H1 e _ fun H2 e2 => by
    rw [List.append_nil]
    exact ⟨a, hp H2 (e.trans e2), fun v H3 e3 p => q v H3 (e2.trans e3) p⟩
theorem ev_callV {α : Type} {pre : α → List V → Hp → Prop} {post : α → V → Hp → Prop} (a : α) {vs : List V} {E : XK} {ta : TA} (h : EvA ta σ H vs) (hp : ∀ H1, Ex H H1 → pre a vs H1) (hv : ∀ u H', post a u H' → u = v) : Ev (tCall (spX pre post) [] E ta) σ H v :=
  ev_ep ((ep_call a h hp).imp fun u H' _ p => hv u H' p)
/-! isinstance -/
theorem ev_isi {c : V} {t u : Value} {b : Bool} (ha : Ev ta σ H x) (hc : Ev tb σ H c) (k : ClsV c u) (ty : ∀ H1, Ex H H1 → TyX K H1 x t) (e : PySem.W.kitOne K t u = some b) : Ev (tCB (rIsi K) (tCons ta (tCons tb tNil))) σ H (.bl b) := fun H1 e1 Q q =>
  ha H1 e1 _ fun H2 e2 => hc H2 (e1.trans e2) _ fun H3 e3 => ⟨x, c, t, u, b, rfl, k, ty H3 ((e1.trans e2).trans e3), e, q H3 (e2.trans e3)⟩
theorem tyx_int (i : Int) : TyX K H (.int i) (.type "int") := .base (.int i)
theorem tyx_str (s : Str) : TyX K H (.str s) (.type "str") := .base (.str s)
theorem tyx_bl (b : Bool) : TyX K H (.bl b) (.type "bool") := .base (.bl b)
theorem tyx_non : TyX K H .non (.type "NoneType") := .base .non
theorem tyx_tup {a : Addr} {xs : List V} (h : SqT K H a xs) : TyX K H (.ref a) (.type "tuple") := by
  rcases h with (h | ⟨o, h⟩) | ⟨o, its, n, lk, c, _⟩
  · exact .base (.tup h)
  · exact .fTuple h
  · exact .kTuple lk c
theorem kit_tt : PySem.W.kitOne K (.type "tuple") (.type "tuple") = some true := kit_ty (by decide +kernel)
theorem kit_ii : PySem.W.kitOne K (.type "int") (.type "int") = some true := kit_ty (by decide +kernel)
theorem kit_ib : PySem.W.kitOne K (.type "int") (.type "bool") = some false := kit_ty (by decide +kernel)
theorem kit_ss : PySem.W.kitOne K (.type "str") (.type "str") = some true := kit_ty (by decide +kernel)
/-! len -/
theorem ev_lenT {p : Addr} {xs : List V} (ha : Ev ta σ H (.ref p)) (h : SqT K H p xs) : Ev (tCB (rLenS K) (tCons ta tNil)) σ H (.int (xs.length : Int)) := fun H1 e Q q =>
  ha H1 e _ fun H2 e2 => ⟨p, xs, rfl, Or.inr (ex_t (e.trans e2) h), q H2 e2⟩
def rLenTx : List V → Hp → VK → Prop := fun xs H Q => ∃ z, xs = [.str z] ∧ z.length ≤ sizeLine ∧ Q (.int z.length) H
theorem ev_lenS {z : Str} (ha : Ev ta σ H (.str z)) (h : z.length ≤ 100000) : Ev (tCB rLenTx (tCons ta tNil)) σ H (.int (z.length : Int)) := fun H1 e Q q =>
  ha H1 e _ fun H2 e2 => ⟨z, rfl, sz_of h, q H2 e2⟩
/-- a < b < c and the like -/
theorem ev_chain {r r' : R2} {tc : TE} {x y z : V} {a b : Bool} (ha : Ev ta σ H x) (hb : Ev tb σ H y) (hc : a = true → Ev tc σ H z) (h1 : RV r x y H (.bl a)) (h2 : a = true → RV r' y z H (.bl b)) : Ev (tChain r r' ta tb tc) σ H (.bl (a && b)) := fun H1 e Q q =>
  ha H1 e _ fun H2 e2 => hb H2 (e.trans e2) _ fun H3 e3 => h1 H3 ((e.trans e2).trans e3) _ fun H4 e4 => ⟨a, rfl, by
    have e14 := (e2.trans e3).trans e4
    cases a with
    | true =>
      show tc σ H4 _
      refine hc rfl H4 (e.trans e14) _ fun H5 e5 => ?_
      exact h2 rfl H5 ((e.trans e14).trans e5) Q fun H6 e6 => q H6 ((e14.trans e5).trans e6)
    | false =>
      show Q (.bl false) H4
      exact q H4 e14⟩
theorem et_val {b : Bool} (h : Ev te σ H (.bl b)) : EvT (tB te) σ H b := et_B h
/-- truth of a def's truth value -/
theorem et_truB {b : Bool} (h : Ev te σ H (.bl b)) : EvT (fun σ H Q => te σ H fun x H' => ∃ k, TruV K x H' k ∧ Q k H') σ H b := fun H1 e Q q =>
  h H1 e _ fun H2 e2 => ⟨b, rfl, q H2 e2⟩
theorem et_isN {x : V} (h : Ev ta σ H x) : EvT (tTest (tOp (fun x y H Q => y = .non ∧ Q (.bl (!decide (x = .non))) H) ta (tC .non))) σ H (!decide (x = .non)) := fun H1 e Q q =>
  h H1 e _ fun H2 e2 => ⟨rfl, _, rfl, q H2 e2⟩
end
/-! ### tuples of natural numbers -/
abbrev vi (k : Nat) : V := .int (k : Int)
theorem atI_vi {xs : List V} {k : Nat} {v : V} (h : xs[k]? = some v) : atI xs (k : Int) = some v := atI_nat h
/-- all tuples that stood stand (lists may have changed) -/
def ET (K : PySem.W.Frag) (H H' : Hp) : Prop := ∀ a xs, SqT K H a xs → SqT K H' a xs
theorem ET.refl {K : PySem.W.Frag} {H : Hp} : ET K H H := fun _ _ h => h
theorem ET.trans {K : PySem.W.Frag} {H H1 H2 : Hp} (a : ET K H H1) (b : ET K H1 H2) : ET K H H2 := fun p xs h => b p xs (a p xs h)
theorem Ex.et {K : PySem.W.Frag} {H H' : Hp} (e : Evl.Ex H H') : ET K H H' := fun _ _ h => ex_t e h
theorem ET.upd {K : PySem.W.Frag} {H H' : Hp} {l : Addr} {xs ys : List V} (e : ET K H H') (h : H' l = some (.lst xs)) : ET K H (upd H' l (.lst ys)) := fun a zs q => by
  rcases e a zs q with (q | ⟨o, q⟩) | q
  · have ne : a ≠ l := fun z => by rw [z, h] at q; cases q
    exact .inl (.inl (by rw [upd_ne ne]; exact q))
  · have ne : a ≠ l := fun z => by rw [z, h] at q; cases q
    exact .inl (.inr ⟨o, by rw [upd_ne ne]; exact q⟩)
  · exact .inr q
def Nats (K : PySem.W.Frag) (H : Hp) (v : V) (ns : List Nat) : Prop := ∃ a, v = .ref a ∧ SqT K H a (ns.map vi)
theorem Nats.et {K : PySem.W.Frag} {H H' : Hp} {v : V} {ns : List Nat} (e : ET K H H') (h : Nats K H v ns) : Nats K H' v ns := let ⟨a, q, s⟩ := h; ⟨a, q, e _ _ s⟩
theorem Nats.ex {K : PySem.W.Frag} {H H' : Hp} {v : V} {ns : List Nat} (e : Evl.Ex H H') (h : Nats K H v ns) : Nats K H' v ns := h.et (Dw.Ex.et e)
def AllN (K : PySem.W.Frag) (H : Hp) (vs : List V) (ts : List (List Nat)) : Prop := Paired (Nats K H) vs ts
theorem paired_imp {α β : Type} {R S : α → β → Prop} (h : ∀ a b, R a b → S a b) : ∀ {xs : List α} {ys : List β}, Paired R xs ys → Paired S xs ys
  | _, _, .nil => .nil
  | _, _, .cons a b => .cons (h _ _ a) (paired_imp h b)
theorem paired_get {α β : Type} {R : α → β → Prop} : ∀ {xs : List α} {ys : List β} {i : Nat} {y : β}, Paired R xs ys → ys[i]? = some y → ∃ x, xs[i]? = some x ∧ R x y
  | _, _, _, _, .nil, h => by simp at h
  | _, _, 0, _, .cons a _, h => by
    have e := Option.some.inj h
    subst e
    exact ⟨_, rfl, a⟩
  | _, _, i + 1, y, .cons _ b, h => by
    obtain ⟨x, e, r⟩ := paired_get (i := i) b h
    exact ⟨x, e, r⟩
theorem paired_len {α β : Type} {R : α → β → Prop} : ∀ {xs : List α} {ys : List β}, Paired R xs ys → xs.length = ys.length
  | _, _, .nil => rfl
  | _, _, .cons _ b => congrArg (· + 1) (paired_len b)
theorem paired_snoc {α β : Type} {R : α → β → Prop} {x : α} {y : β} (r : R x y) : ∀ {xs : List α} {ys : List β}, Paired R xs ys → Paired R (xs ++ [x]) (ys ++ [y])
  | _, _, .nil => .cons r .nil
  | _, _, .cons a b => .cons a (paired_snoc r b)
/-- a tuple of tuples of natural numbers -/
def Tabs (K : PySem.W.Frag) (H : Hp) (v : V) (ts : List (List Nat)) : Prop := ∃ a vs, v = .ref a ∧ SqT K H a vs ∧ Paired (Nats K H) vs ts
theorem Tabs.et {K : PySem.W.Frag} {H H' : Hp} {v : V} {ts : List (List Nat)} (e : ET K H H') (h : Tabs K H v ts) : Tabs K H' v ts := let ⟨a, vs, q, s, p⟩ := h; ⟨a, vs, q, e _ _ s, paired_imp (fun _ _ n => n.et e) p⟩
theorem Tabs.ex {K : PySem.W.Frag} {H H' : Hp} {v : V} {ts : List (List Nat)} (e : Evl.Ex H H') (h : Tabs K H v ts) : Tabs K H' v ts := h.et (Dw.Ex.et e)
/-- a deed; a signature -/
def Deed (K : PySem.W.Frag) (H : Hp) (v : V) (p : Str × Nat) : Prop := ∃ b, v = .ref b ∧ SqT K H b [.str p.1, vi p.2]
theorem Deed.et {K : PySem.W.Frag} {H H' : Hp} {v : V} {p : Str × Nat} (e : ET K H H') (h : Deed K H v p) : Deed K H' v p := let ⟨b, q, s⟩ := h; ⟨b, q, e _ _ s⟩
def Sig (K : PySem.W.Frag) (H : Hp) (v : V) (sg : List (Str × Nat)) : Prop := ∃ a vs, v = .ref a ∧ SqT K H a vs ∧ Paired (Deed K H) vs sg
theorem Sig.et {K : PySem.W.Frag} {H H' : Hp} {v : V} {sg : List (Str × Nat)} (e : ET K H H') (h : Sig K H v sg) : Sig K H' v sg := let ⟨a, vs, q, s, p⟩ := h; ⟨a, vs, q, e _ _ s, paired_imp (fun _ _ n => n.et e) p⟩
theorem Sig.ex {K : PySem.W.Frag} {H H' : Hp} {v : V} {sg : List (Str × Nat)} (e : Evl.Ex H H') (h : Sig K H v sg) : Sig K H' v sg := h.et (Dw.Ex.et e)
/-- a model: its size and its tables -/
def Mdl (K : PySem.W.Frag) (H : Hp) (v : V) (n : Nat) (ts : List (List Nat)) : Prop := ∃ a u, v = .ref a ∧ SqT K H a [vi n, u] ∧ Tabs K H u ts
theorem Mdl.et {K : PySem.W.Frag} {H H' : Hp} {v : V} {n : Nat} {ts : List (List Nat)} (e : ET K H H') (h : Mdl K H v n ts) : Mdl K H' v n ts := let ⟨a, u, q, s, p⟩ := h; ⟨a, u, q, e _ _ s, p.et e⟩
theorem Mdl.ex {K : PySem.W.Frag} {H H' : Hp} {v : V} {n : Nat} {ts : List (List Nat)} (e : Evl.Ex H H') (h : Mdl K H v n ts) : Mdl K H' v n ts := h.et (Dw.Ex.et e)
end Dw
end
section
/-! loops and comprehensions over anything that is walked; statements by what holds of a value -/
namespace Dw
open PySem PySem.Spec PyProof.Rows L2 Evl
section
variable {K : PySem.W.Frag} {σ : L2.St} {H H' : Hp} {ta tb te : TE} {t : TT} {x y z v : V} {P : V → Hp → Prop} {D : Ends} {tu tz : TS} {g : TG}
/-! ### statements -/
theorem s_asgP {i : Nat} (h : EvP te σ H P) (k : ∀ v H1, Ex H H1 → P v H1 → D.nx (σ.set i (some v)) H1) : tAsg te (gName i) D σ H := h H (Ex.refl H) _ fun v H1 e p => k v H1 e p
theorem q_asgP {i : Nat} (h : EvP te σ H P) (k : ∀ v H1, Ex H H1 → P v H1 → tz D (σ.set i (some v)) H1) : tSeq (tAsg te (gName i)) tz D σ H := s_asgP (D := { D with nx := tz D }) h k
theorem s_retP (h : EvP te σ H P) (k : ∀ v H1, Ex H H1 → P v H1 → D.rt v H1) : tRet te D σ H := h H (Ex.refl H) _ fun v H1 e p => k v H1 e p
theorem s_dropP (h : EvP te σ H P) (k : ∀ v H1, Ex H H1 → P v H1 → D.nx σ H1) : tDrop te D σ H := h H (Ex.refl H) _ fun v H1 e p => k v H1 e p
theorem q_dropP (h : EvP te σ H P) (k : ∀ v H1, Ex H H1 → P v H1 → tz D σ H1) : tSeq (tDrop te) tz D σ H := s_dropP (D := { D with nx := tz D }) h k
/-- xs.append(e), e by what holds of it -/
theorem s_appP {l : Addr} {xs : List V} (hl : H l = some (.lst xs)) (ha : Ev ta σ H (.ref l)) (h : EvP te σ H P) (hz : xs.length < 100000) (k : ∀ v H1, Ex H H1 → P v H1 → D.nx σ (upd H1 l (.lst (xs ++ [v])))) :
    tDrop (tBM K "list" rAppend ta (tCons te tNil)) D σ H := by
  refine ha H (Ex.refl H) _ fun H1 e1 => ?_
  exact
  ⟨Or.inl ⟨rfl, xs, sq_of (e1 l _ hl)⟩, h H1 e1 _ fun v H2 e2 p => ⟨l, xs, v, rfl, rfl, e2 l _ (e1 l _ hl), sz_lt hz, k v H2 (e1.trans e2) p⟩⟩
/-- arguments, the last of them by what holds of it -/
def EvAP (ta : TA) (σ : L2.St) (H : Hp) (P : List V → Hp → Prop) : Prop := ∀ H1, Ex H H1 → ∀ Q : List V → Hp → Prop, (∀ vs H2, Ex H1 H2 → P vs H2 → Q vs H2) → ta σ H1 Q
theorem eap_ev {ta : TA} {vs : List V} (h : EvA ta σ H vs) {P : List V → Hp → Prop} (p : ∀ H', Ex H H' → P vs H') : EvAP ta σ H P := fun H1 e Q q => h H1 e Q fun H2 e2 => q vs H2 e2 (p H2 (e.trans e2))
theorem eap_cons {tr : TA} {P : V → Hp → Prop} {R : List V → Hp → Prop} (h : EvP te σ H P) (hr : EvAP tr σ H R) (keep : ∀ v H1 H2, Ex H1 H2 → P v H1 → P v H2) : EvAP (tCons te tr) σ H (fun vs H' => ∃ v r, vs = v :: r ∧ P v H' ∧ R r H') := fun H1 e Q q =>
  h H1 e _ fun v H2 e2 p => hr H2 (e.trans e2) _ fun r H3 e3 pr => q (v :: r) H3 (e2.trans e3) ⟨v, r, rfl, keep v H2 H3 e3 p, pr⟩
/-- a call by a pure promise, its arguments by what holds of them -/
theorem ep_callP {α : Type} {pre : α → List V → Hp → Prop} {post : α → V → Hp → Prop} {R : List V → Hp → Prop} (a : α) {E : XK} {ta : TA} (h : EvAP ta σ H R) (hp : ∀ vs H1, Ex H H1 → R vs H1 → pre a vs H1) : EvP (tCall (spX pre post) [] E ta) σ H (post a) := fun H1 e Q q =>
  h H1 e _ fun vs H2 e2 r => by
    rw [List.append_nil]
    exact ⟨a, hp vs H2 (e.trans e2) r, fun v H3 e3 p => q v H3 (e2.trans e3) p⟩
/-! ### all -/
theorem ev_all {bs : List Bool} (h : EvL te σ H (bs.map V.bl)) : Ev (tCB (rAll K) (tCons te tNil)) σ H (.bl (bs.all id)) := fun H1 e Q q =>
  h H1 e _ fun p H2 _ e2 hp => ⟨p, bs, rfl, sq_of hp, q H2 e2⟩
/-! ### comprehensions -/
theorem et_yes : EvT tYes σ H true := fun H1 _ _ q => q H1 (Ex.refl H1)
/-- one for over anything whose turns leave the heap as it was -/
theorem el_lcIt {J : It} {n : Nat} {G : Hp → Prop} {Y : Nat → Hp → V → Hp → Prop} {wi : TI} {Px : Nat → V → Prop} {j : Nat} {vs : List Nat} (w : Walk J n G Y)
    (hw0 : ∀ H0, Ex H H0 → ∀ R : It → Hp → Prop, (∀ H1, Ex H0 H1 → R J H1) → wi σ H0 R) (hG : ∀ H1, Ex H H1 → G H1) (hY : ∀ i H x H', Y i H x H' → H' = H ∧ Px i x)
    (f : Nat → Bool) (u : Nat → V) (hn : n ≤ 40000) (hwp : ∀ x, wipe ((wipe σ vs).set j (some x)) vs = wipe σ vs)
    (ht : ∀ i x H1, Ex H H1 → i < n → Px i x → EvT t ((wipe σ vs).set j (some x)) H1 (f i)) (he : ∀ i x H1, Ex H H1 → i < n → Px i x → f i = true → Ev te ((wipe σ vs).set j (some x)) H1 (u i)) :
    EvL (tLc wi (gName j) t te vs) σ H (given n f u) := fun H0 e Q q => hw0 H0 e _ fun H1 e1 Dl hD =>
  lc_it w (Cw H1 f u Dl) ⟨hD, Ex.new hD, upd_same⟩ (fun i H2 _ p => hG H2 ((e.trans e1).trans p.2.1)) (fun i x H2 H3 hi p y => by
    obtain ⟨rfl, px⟩ := hY i H2 x H3 y
    exact ⟨hwp x, cw_turn p (by omega) (ht i x H1 (e.trans e1) hi px) (fun hf => he i x H1 (e.trans e1) hi px hf)⟩)
    (fun H2 p => q Dl H2 (fresh_back e1 p.1) (e1.trans p.2.1) p.2.2)
theorem given_all (n : Nat) (u : Nat → V) : given n (fun _ => true) u = (List.range n).map u := by
  unfold given
  rw [List.filter_eq_self.mpr (fun _ _ => rfl)]
/-- .. without a test -/
theorem el_lcAll {J : It} {n : Nat} {G : Hp → Prop} {Y : Nat → Hp → V → Hp → Prop} {wi : TI} {Px : Nat → V → Prop} {j : Nat} {vs : List Nat} (w : Walk J n G Y)
    (hw0 : ∀ H0, Ex H H0 → ∀ R : It → Hp → Prop, (∀ H1, Ex H0 H1 → R J H1) → wi σ H0 R) (hG : ∀ H1, Ex H H1 → G H1) (hY : ∀ i H x H', Y i H x H' → H' = H ∧ Px i x)
    (u : Nat → V) (hn : n ≤ 40000) (hwp : ∀ x, wipe ((wipe σ vs).set j (some x)) vs = wipe σ vs) (he : ∀ i x H1, Ex H H1 → i < n → Px i x → Ev te ((wipe σ vs).set j (some x)) H1 (u i)) :
    EvL (tLc wi (gName j) tYes te vs) σ H ((List.range n).map u) := by
  have h := el_lcIt w hw0 hG hY (fun _ => true) u hn hwp (fun _ _ _ _ _ _ => et_yes) (fun i x H1 e hi px _ => he i x H1 e hi px)
  rw [given_all] at h
  exact h
theorem w_str {z : Str} (h : Ev te σ H (.str z)) : ∀ H0, Ex H H0 → ∀ R : It → Hp → Prop, (∀ H1, Ex H0 H1 → R (Its z) H1) → iStr te σ H0 R := fun H0 e R r => h H0 e _ fun H1 e1 => ⟨z, rfl, r H1 e1⟩
theorem w_tup {a : Addr} {xs : List V} (h : Ev te σ H (.ref a)) (hx : SqT K H a xs) : ∀ H0, Ex H H0 → ∀ R : It → Hp → Prop, (∀ H1, Ex H0 H1 → R (Itt K a) H1) → iTup K te σ H0 R := fun H0 e R r => h H0 e _ fun H1 e1 => ⟨a, rfl, ⟨xs, ex_t (e.trans e1) hx⟩, r H1 e1⟩
theorem w_rng {ta : TA} {n : Nat} (h : EvA ta σ H [vi n]) (hn : n ≤ 40000) : ∀ H0, Ex H H0 → ∀ R : It → Hp → Prop, (∀ H1, Ex H0 H1 → R (Itr 0 n) H1) → iRng1 ta σ H0 R := fun H0 e R r => h H0 e _ fun H1 e1 => ⟨n, rfl, by omega, by omega, r H1 e1⟩
/-- over a tuple, a value for each item -/
theorem el_lcT {a : Addr} {xs : List V} {tl : TE} {j : Nat} {vs : List Nat} (h : Ev tl σ H (.ref a)) (hx : SqT K H a xs) (u : Nat → V) (hn : xs.length ≤ 40000) (hwp : ∀ x, wipe ((wipe σ vs).set j (some x)) vs = wipe σ vs)
    (he : ∀ i x H1, Ex H H1 → xs[i]? = some x → Ev te ((wipe σ vs).set j (some x)) H1 (u i)) : EvL (tLc (iTup K tl) (gName j) tYes te vs) σ H ((List.range xs.length).map u) :=
  el_lcAll walk_tup (w_tup h hx) (fun H1 e => ex_t e hx) (Px := fun i x => xs[i]? = some x) (fun i H x H' y => y) u hn hwp (fun i x H1 e _ px => he i x H1 e px)
theorem el_lcS {z : Str} {tl : TE} {j : Nat} {vs : List Nat} (h : Ev tl σ H (.str z)) (u : Nat → V) (hn : z.cps.size ≤ 40000) (hwp : ∀ x, wipe ((wipe σ vs).set j (some x)) vs = wipe σ vs)
    (he : ∀ i c H1, Ex H H1 → z.cps[i]? = some c → Ev te ((wipe σ vs).set j (some (.str ⟨#[c]⟩))) H1 (u i)) : EvL (tLc (iStr tl) (gName j) tYes te vs) σ H ((List.range z.cps.size).map u) :=
  el_lcAll walk_str (w_str h) (fun _ _ => trivial) (Px := fun i x => ∃ c, z.cps[i]? = some c ∧ x = .str ⟨#[c]⟩) (fun i H x H' y => y) u hn hwp (fun i x H1 e _ ⟨c, hc, hx⟩ => by subst hx; exact he i c H1 e hc)
theorem el_lcR {ta : TA} {n : Nat} {j : Nat} {vs : List Nat} (h : EvA ta σ H [vi n]) (u : Nat → V) (hn : n ≤ 40000) (hwp : ∀ x, wipe ((wipe σ vs).set j (some x)) vs = wipe σ vs)
    (he : ∀ i H1, Ex H H1 → i < n → Ev te ((wipe σ vs).set j (some (vi i))) H1 (u i)) : EvL (tLc (iRng1 ta) (gName j) tYes te vs) σ H ((List.range n).map u) :=
  el_lcAll walk_range (w_rng h hn) (fun _ _ => trivial) (Px := fun i x => x = vi i) (fun i H x H' y => ⟨y.1, by rw [y.2]; show V.int (0 + (i : Int)) = _; rw [Int.zero_add]⟩) u hn hwp (fun i x H1 e hi px => by subst px; exact he i H1 e hi)
/-! ### loops that give pairs -/
theorem walk_enumT {a : Addr} {xs : List V} : Walk (IteT K a) xs.length (fun H => SqT K H a xs) (YPair (fun i => some (vi i)) (fun i => xs[i]?)) := by
  refine ⟨fun i H hi q => ⟨xs, xs[i], q, List.getElem?_eq_getElem hi⟩, fun H q => ⟨xs, q, Nat.le_refl _⟩, fun i H v H' _ q y => ?_⟩
  obtain ⟨T, x, h1, h2, h3, h4⟩ := y
  exact ⟨T, vi i, x, h1, h2, h3, rfl, h4 xs q⟩
theorem q_enumT {a : Addr} {xs : List V} {ta : TA} {j1 j2 : Nat} (h : EvA ta σ H [.ref a]) (hx : SqT K H a xs) (Pv : Nat → L2.St → Hp → Prop) (h0 : ∀ H1, Ex H H1 → Pv 0 σ H1) (hl : ∀ i σ' H', i ≤ xs.length → Pv i σ' H' → SqT K H' a xs)
    (hs : ∀ i x σ' H' H'', xs[i]? = some x → Pv i σ' H' → Ex H' H'' → tu { D with nx := Pv (i + 1), ct := Pv (i + 1), bk := tz D } ((σ'.set j1 (some (vi i))).set j2 (some x)) H'') (hd : ∀ σ' H', Pv xs.length σ' H' → tz D σ' H') :
    tSeq (tFor (iEnumT K ta) (gTup K 2 (gCons (gName j1) (gCons (gName j2) gNil))) tu) tz D σ H :=
  h H (Ex.refl H) _ fun H1 e => ⟨a, xs, rfl, ex_t e hx, for_it (D := { D with nx := tz D }) walk_enumT Pv (h0 H1 e) hl (fun i v σ' H2 H3 hi p y => by
    obtain ⟨T, x1, x2, rfl, nT, rfl, e1, e2⟩ := y
    cases e1
    exact ⟨T, _, rfl, st_of upd_same, rfl, _, _, rfl, _, _, rfl, rfl, hs i x2 σ' H2 _ e2 p (Ex.new nT)⟩) hd⟩
theorem s_enumT {a : Addr} {xs : List V} {ta : TA} {j1 j2 : Nat} (h : EvA ta σ H [.ref a]) (hx : SqT K H a xs) (Pv : Nat → L2.St → Hp → Prop) (h0 : ∀ H1, Ex H H1 → Pv 0 σ H1) (hl : ∀ i σ' H', i ≤ xs.length → Pv i σ' H' → SqT K H' a xs)
    (hs : ∀ i x σ' H' H'', xs[i]? = some x → Pv i σ' H' → Ex H' H'' → tu { D with nx := Pv (i + 1), ct := Pv (i + 1), bk := D.nx } ((σ'.set j1 (some (vi i))).set j2 (some x)) H'') (hd : ∀ σ' H', Pv xs.length σ' H' → D.nx σ' H') :
    tFor (iEnumT K ta) (gTup K 2 (gCons (gName j1) (gCons (gName j2) gNil))) tu D σ H :=
  h H (Ex.refl H) _ fun H1 e => ⟨a, xs, rfl, ex_t e hx, for_it walk_enumT Pv (h0 H1 e) hl (fun i v σ' H2 H3 hi p y => by
    obtain ⟨T, x1, x2, rfl, nT, rfl, e1, e2⟩ := y
    cases e1
    exact ⟨T, _, rfl, st_of upd_same, rfl, _, _, rfl, _, _, rfl, rfl, hs i x2 σ' H2 _ e2 p (Ex.new nT)⟩) hd⟩
/-- enumerate of a list -/
theorem q_enumL {a : Addr} {xs : List V} {ta : TA} {j1 j2 : Nat} (h : EvA ta σ H [.ref a]) (hx : SqL K H a xs) (Pv : Nat → L2.St → Hp → Prop) (h0 : ∀ H1, Ex H H1 → Pv 0 σ H1) (hl : ∀ i σ' H', i ≤ xs.length → Pv i σ' H' → SqL K H' a xs)
    (hs : ∀ i x σ' H' H'', xs[i]? = some x → Pv i σ' H' → Ex H' H'' → tu { D with nx := Pv (i + 1), ct := Pv (i + 1), bk := tz D } ((σ'.set j1 (some (vi i))).set j2 (some x)) H'') (hd : ∀ σ' H', Pv xs.length σ' H' → tz D σ' H') :
    tSeq (tFor (iEnum K ta) (gTup K 2 (gCons (gName j1) (gCons (gName j2) gNil))) tu) tz D σ H :=
  h H (Ex.refl H) _ fun H1 e => ⟨a, xs, rfl, ex_l e hx, for_it (D := { D with nx := tz D }) walk_enum Pv (h0 H1 e) hl (fun i v σ' H2 H3 hi p y => by
    obtain ⟨T, x1, x2, rfl, nT, rfl, e1, e2⟩ := y
    cases e1
    exact ⟨T, _, rfl, st_of upd_same, rfl, _, _, rfl, _, _, rfl, rfl, hs i x2 σ' H2 _ e2 p (Ex.new nT)⟩) hd⟩
end
end Dw
end
section
/-! comprehensions of two fors; new tuples of lists; lists made and changed -/
namespace Dw
open PySem PySem.Spec PyProof.Rows L2 Evl
section
variable {K : PySem.W.Frag} {σ : L2.St} {H H' : Hp} {ta tb te : TE} {t : TT} {x y z v : V} {P : V → Hp → Prop} {D : Ends} {tu tz : TS} {g : TG}
theorem el_lc2T {a b : Addr} {xs ys : List V} {tl tl1 : TE} {j j1 : Nat} {vs vs1 : List Nat} (h : Ev tl σ H (.ref a)) (hx : SqT K H a xs) (h1 : ∀ x H1, Ex H H1 → Ev tl1 ((wipe σ vs).set j (some x)) H1 (.ref b)) (hy : SqT K H b ys) (u : Nat → Nat → V)
    (hn : xs.length ≤ 100) (hm : ys.length ≤ 100) (hw : ∀ x, wipe ((wipe σ vs).set j (some x)) vs = wipe σ vs) (hw1 : ∀ x y, wipe ((wipe ((wipe σ vs).set j (some x)) vs1).set j1 (some y)) vs1 = wipe ((wipe σ vs).set j (some x)) vs1)
    (he : ∀ i x k y H1, Ex H H1 → xs[i]? = some x → ys[k]? = some y → Ev te ((wipe ((wipe σ vs).set j (some x)) vs1).set j1 (some y)) H1 (u i k)) :
    EvL (tLc2 (iTup K tl) (gName j) tYes (iTup K tl1) (gName j1) tYes te vs vs1) σ H ((List.range xs.length).flatMap fun i => (List.range ys.length).map (u i)) := by
  intro H0 e Q q
  refine w_tup h hx H0 e _ fun H1 e1 Dl nD => ?_
  have e01 : Ex H H1 := e.trans e1
  let outer : Nat → List V := fun i => (List.range i).flatMap fun i => (List.range ys.length).map (u i)
  have lenO : ∀ i, (outer i).length = i * ys.length := by
    intro i
    induction i with
    | zero => show (0 : Nat) = 0 * ys.length; rw [Nat.zero_mul]
    | succ i ih =>
      show ((List.range (i + 1)).flatMap _).length = _
      rw [List.range_succ, List.flatMap_append, List.length_append]
      have e3 : ((List.range i).flatMap fun i => (List.range ys.length).map (u i)).length = i * ys.length := ih
      rw [e3, List.flatMap_singleton, List.length_map, List.length_range, Nat.add_mul, Nat.one_mul]
  refine ⟨fun i m H' => m = xs.length - i ∧ i ≤ xs.length ∧ Ex H1 H' ∧ H' Dl = some (.lst (outer i)), ⟨_, rfl, Nat.zero_le _, Ex.new nD, upd_same⟩, ?_⟩
  rintro i m H2 ⟨rfl, hi, e2, hD⟩
  by_cases hlt : i < xs.length
  · refine .inr ⟨⟨xs, xs[i], ex_t (e01.trans e2) hx, List.getElem?_eq_getElem hlt⟩, fun H' => Ex H1 H' ∧ H' Dl = some (.lst (outer (i + 1))), fun H' ⟨p1, p2⟩ => ⟨_, by omega, rfl, hlt, p1, p2⟩, fun x H3 yl => ?_⟩
    obtain ⟨rfl, hxi⟩ := yl
    have hxi' := hxi xs (ex_t (e01.trans e2) hx)
    refine ⟨hw x, et_yes H3 (Ex.refl _) _ fun H4 e4 => ?_⟩
    refine iteT ?_
    have e14 : Ex H1 H4 := e2.trans e4
    refine w_tup (h1 x H4 (e01.trans e14)) (ex_t (e01.trans e14) hy) H4 (Ex.refl _) _ fun H5 e5 => ?_
    have e15 : Ex H1 H5 := e14.trans e5
    have hD5 : H5 Dl = some (.lst (outer i)) := e5 _ _ (e4 _ _ hD)
    refine ⟨fun k m H' => m = ys.length - k ∧ k ≤ ys.length ∧ Ex H1 H' ∧ H' Dl = some (.lst (outer i ++ (List.range k).map (u i))), ⟨_, rfl, Nat.zero_le _, e15, by rw [hD5]; show _ = some (HO.lst (outer i ++ [])); rw [List.append_nil]⟩, ?_⟩
    rintro k m H6 ⟨rfl, hk, e6, hD6⟩
    by_cases klt : k < ys.length
    · refine .inr ⟨⟨ys, ys[k], ex_t (e01.trans e6) hy, List.getElem?_eq_getElem klt⟩, fun H' => Ex H1 H' ∧ H' Dl = some (.lst (outer i ++ (List.range (k + 1)).map (u i))), fun H' ⟨p1, p2⟩ => ⟨_, by omega, rfl, klt, p1, p2⟩, fun y H7 yl => ?_⟩
      obtain ⟨rfl, hyk⟩ := yl
      have hyk' := hyk ys (ex_t (e01.trans e6) hy)
      refine ⟨hw1 x y, et_yes H7 (Ex.refl _) _ fun H8 e8 => ?_⟩
      refine iteT ?_
      have e18 : Ex H1 H8 := e6.trans e8
      refine he i x k y H8 (e01.trans e18) hxi' hyk' H8 (Ex.refl _) _ fun H9 e9 => ⟨_, e9 _ _ (e8 _ _ hD6), ?_, (e18.trans e9).mut nD, ?_⟩
      · rw [List.length_append, lenO, List.length_map, List.length_range]
        have b1 : i * ys.length ≤ 100 * 100 := Nat.mul_le_mul (by omega) hm
        exact sz_lt (by omega)
      · rw [upd_same, List.range_succ, List.map_append, List.append_assoc]
        rfl
    · have ek : k = ys.length := by omega
      subst ek
      refine .inl ⟨⟨ys, ex_t (e01.trans e6) hy, Nat.le_refl _⟩, e6, ?_⟩
      rw [hD6]
      show _ = some (HO.lst ((List.range (i + 1)).flatMap fun i => (List.range ys.length).map (u i)))
      rw [List.range_succ, List.flatMap_append, List.flatMap_singleton]
  · have ei : i = xs.length := by omega
    subst ei
    exact .inl ⟨⟨xs, ex_t (e01.trans e2) hx, Nat.le_refl _⟩, q Dl H2 (fresh_back e1 nD) (e1.trans e2) hD⟩
/-- tuple(a new list) -/
def rTupOf (K : PySem.W.Frag) : List V → Hp → VK → Prop := fun xs H Q => ∃ p ys, xs = [.ref p] ∧ ((SqL K H p ys ∧ ∀ l, H l = none → Q (.ref l) (upd H l (.tup ys))) ∨ (SqT K H p ys ∧ Q (.ref p) H))
theorem eu_tupN {xs : List V} (h : EvL te σ H xs) : EvU (tCB (rTupOf K) (tCons te tNil)) σ H xs := fun H1 e Q q =>
  h H1 e _ fun p H2 _ e2 hp => ⟨p, xs, rfl, .inl ⟨sq_of hp, fun l nl => q l _ (fresh_back e2 nl) (e2.trans (Ex.new nl)) upd_same⟩⟩
/-- tuple(a list that stands) -/
theorem eu_tupL {xs : List V} {p : Addr} (h : Ev te σ H (.ref p)) (hp : SqL K H p xs) : EvU (tCB (rTupOf K) (tCons te tNil)) σ H xs := fun H1 e Q q =>
  h H1 e _ fun H2 e2 => ⟨p, xs, rfl, .inl ⟨ex_l (e.trans e2) hp, fun l nl => q l _ (fresh_back e2 nl) (e2.trans (Ex.new nl)) upd_same⟩⟩
theorem ep_nats {xs : List V} {ns : List Nat} (h : EvU te σ H xs) (e : xs = ns.map vi) : EvP te σ H (fun v H' => Nats K H' v ns) := fun H1 e1 Q q =>
  h H1 e1 Q fun p H2 _ e2 hp => q (.ref p) H2 e2 ⟨p, rfl, by rw [← e]; exact st_of hp⟩
/-- [x] * n -/
theorem el_rep {xs : List V} {n : Nat} (ha : EvL ta σ H xs) (hb : Ev tb σ H (vi n)) (hz : xs.length * n ≤ 100000) (hn : n ≤ 100000) : EvL (tOp rRep ta tb) σ H (List.replicate n xs).flatten := fun H1 e Q q =>
  ha H1 e _ fun p H2 np e2 hp => hb H2 (e.trans e2) _ fun H3 e3 => ⟨p, (n : Int), xs, rfl, rfl, e3 _ _ hp, by omega, by omega, by rw [Int.toNat_natCast]; exact sz_of hz, fun l nl => by
    rw [Int.toNat_natCast]
    exact q l _ (fresh_back (e2.trans e3) nl) ((e2.trans e3).trans (Ex.new nl)) upd_same⟩
theorem rep1 (n : Nat) (v : V) : (List.replicate n [v]).flatten = List.replicate n v := by
  induction n with
  | zero => rfl
  | succ n ih => rw [List.replicate_succ, List.flatten_cons, ih, List.replicate_succ]; rfl
end
end Dw
end
section
/-! zip of two tuples; tuples of values by what holds of them -/
namespace Dw
open PySem PySem.Spec PyProof.Rows L2 Evl RZ
section
variable {K : PySem.W.Frag} {σ : L2.St} {H H' : Hp} {ta tb te : TE} {t : TT} {x y z v : V} {P : V → Hp → Prop} {D : Ends} {tu tz : TS} {g : TG}
theorem walk_zipT {a b : Addr} {xs ys : List V} (hl : xs.length = ys.length) : Walk (ItzT K a b) xs.length (fun H => SqT K H a xs ∧ SqT K H b ys) (YPair (fun i => xs[i]?) (fun i => ys[i]?)) := by
  refine ⟨fun i H hi q => ⟨xs, ys, xs[i], ys[i]'(by rw [← hl]; exact hi), q.1, q.2, List.getElem?_eq_getElem hi, List.getElem?_eq_getElem (by rw [← hl]; exact hi)⟩, fun H q => ⟨xs, ys, q.1, q.2, .inl (Nat.le_refl _)⟩, fun i H v H' _ q y => ?_⟩
  obtain ⟨T, x1, x2, h1, h2, h3, h4, h5⟩ := y
  exact ⟨T, x1, x2, h1, h2, h3, h4 xs q.1, h5 ys q.2⟩
theorem q_zipT {a b : Addr} {xs ys : List V} {ta : TA} (h : EvA ta σ H [.ref a, .ref b]) (hx : SqT K H a xs) (hy : SqT K H b ys) (hl : xs.length = ys.length) (Pv : Nat → L2.St → Hp → Prop) (h0 : ∀ H1, Ex H H1 → Pv 0 σ H1) (hk : ∀ i σ' H', i ≤ xs.length → Pv i σ' H' → SqT K H' a xs ∧ SqT K H' b ys)
    (hs : ∀ i x y T σ' H', xs[i]? = some x → ys[i]? = some y → Pv i σ' H' → H' T = none → g (.ref T) σ' (upd H' T (.tup [x, y])) fun σ2 H2 => tu { D with nx := Pv (i + 1), ct := Pv (i + 1), bk := tz D } σ2 H2) (hd : ∀ σ' H', Pv xs.length σ' H' → tz D σ' H') :
    tSeq (tFor (iZipA K ta) g tu) tz D σ H :=
  h H (Ex.refl H) _ fun H1 e => ⟨a, b, xs, ys, rfl, .inr ⟨ex_t e hx, ex_t e hy, for_it (D := { D with nx := tz D }) (walk_zipT hl) Pv (h0 H1 e) hk (fun i v σ' H2 H3 hi p y => by
    obtain ⟨T, x1, x2, rfl, nT, rfl, e1, e2⟩ := y
    exact hs i x1 x2 T σ' H2 e1 e2 p nT) hd⟩⟩
/-- (a, b, ..), its items by what holds of them -/
theorem ep_tup {ta : TA} {R : List V → Hp → Prop} {n : Nat} (h : EvAP ta σ H R) (len : ∀ vs H1, R vs H1 → vs.length = n) (hn : n ≤ 100000) (keep : ∀ vs H1 H2, Ex H1 H2 → R vs H1 → R vs H2) :
    EvP (tTup ta) σ H (fun v H' => ∃ p vs, v = .ref p ∧ H' p = some (.tup vs) ∧ R vs H') := fun H1 e Q q =>
  h H1 e _ fun vs H2 e2 r => ⟨by rw [len vs H2 r]; exact sz_of hn, fun p np => q (.ref p) _ (e2.trans (Ex.new np)) ⟨p, vs, rfl, upd_same, keep vs H2 _ (Ex.new np) r⟩⟩
theorem eap_nil : EvAP tNil σ H (fun vs _ => vs = []) := fun H1 _ _ q => q [] H1 (Ex.refl H1) rfl
end
end Dw
end
section
/-! a new tuple told with its own object (so that its methods may be called); tuple.index of ints -/
namespace Dw
open PySem PySem.Spec PyProof.Rows L2 Evl
/-! readings opened by one step -/
section
variable {σ : L2.St} {H : Hp} {ta tb te : TE} {D : Ends} {g : TG}
theorem do_cons {tr : TA} {Q : List V → Hp → Prop} (h : ta σ H fun x H1 => tr σ H1 fun xs H2 => Q (x :: xs) H2) : tCons ta tr σ H Q := h
theorem do_nil {Q : List V → Hp → Prop} (h : Q [] H) : tNil σ H Q := h
theorem do_op {r : R2} {Q : VK} (h : ta σ H fun x H1 => tb σ H1 fun y H2 => r x y H2 Q) : tOp r ta tb σ H Q := h
theorem do_tup {t : TA} {Q : VK} (h : t σ H fun xs H1 => xs.length ≤ sizeLine ∧ ∀ p, H1 p = none → Q (.ref p) (upd H1 p (.tup xs))) : tTup t σ H Q := h
theorem do_lst {t : TA} {Q : VK} (h : t σ H fun xs H1 => xs.length ≤ sizeLine ∧ ∀ p, H1 p = none → Q (.ref p) (upd H1 p (.lst xs))) : tLst t σ H Q := h
theorem do_cb {r : List V → Hp → VK → Prop} {t : TA} {Q : VK} (h : t σ H fun vs H1 => r vs H1 Q) : tCB r t σ H Q := h
theorem do_test {Q : Bool → Hp → Prop} (h : te σ H fun x H' => ∃ k, x = .bl k ∧ Q k H') : tTest te σ H Q := h
theorem do_ret (h : te σ H D.rt) : tRet te D σ H := h
theorem do_asg (h : te σ H fun x H1 => g x σ H1 D.nx) : tAsg te g D σ H := h
theorem do_seq {t u : TS} (h : t { D with nx := u D } σ H) : tSeq t u D σ H := h
theorem do_if {c : TT} {t u : TS} (h : c σ H fun b H1 => if b = true then t D σ H1 else u D σ H1) : tIfS c t u D σ H := h
theorem do_ev {v : V} {Q : VK} (h : Ev te σ H v) (k : ∀ H1, Ex H H1 → Q v H1) : te σ H Q := h H (Ex.refl H) Q k
theorem do_evL {xs : List V} {Q : VK} (h : EvL te σ H xs) (k : ∀ p H1, H p = none → Ex H H1 → H1 p = some (.lst xs) → Q (.ref p) H1) : te σ H Q := h H (Ex.refl H) Q k
theorem do_evU {xs : List V} {Q : VK} (h : EvU te σ H xs) (k : ∀ p H1, H p = none → Ex H H1 → H1 p = some (.tup xs) → Q (.ref p) H1) : te σ H Q := h H (Ex.refl H) Q k
theorem do_evP {P : V → Hp → Prop} {Q : VK} (h : EvP te σ H P) (k : ∀ v H1, Ex H H1 → P v H1 → Q v H1) : te σ H Q := h H (Ex.refl H) Q k
end
section
variable {X : Cx}
def rTupF (K : PySem.W.Frag) : List V → Hp → VK → Prop := fun xs H Q => ∃ p ys, xs = [.ref p] ∧ SqL K H p ys ∧ ∀ l o, H l = none → o.dict = none → Q (.ref l) (upd H l (.frz o (.tup ys)))
theorem call_tupF : CallR X (.type "tuple") (rTupF X.K) := by
  intro pins s σ H xs us Q I r h
  obtain ⟨p, ys, e, isL, q⟩ := h
  subst e
  obtain ⟨u, hu, ru⟩ := vals1 r
  subst hu
  cases (show u = Value.ref p from ru)
  obtain ⟨its, rel, at_, small⟩ := I.list isL
  have many : its.toArray.size ≤ sizeLine := by
    rw [List.size_toArray, ← rel.length]
    exact small
  refine call_tuple_list at_.isList (fun h2 keep => ?_) many
  have J : Inv X pins σ H { s with heap := h2 } := I.kept (t' := s.toks) keep
  let ob : Obj := { cls := .type "tuple", data := .seq its.toArray }
  have got : (h2.push ob).get? h2.objs.size = some ob := Heap.get?_push_size _ rfl
  have okN : ObjOk X.prog X.w (upd H h2.objs.size (.frz ob (.tup ys))) (h2.push ob) h2.objs.size (.frz ob (.tup ys)) := ⟨got, small, its, rel, ob, got, rfl, _, rfl⟩
  have J2 := J.laid (t' := s.toks) (h' := h2.push ob) (fun b o e => Heap.get?_push_of_some _ e) (Nat.le_refl h2.objs.size) okN
  exact ⟨.ref h2.objs.size, _, J2, rfl, q _ ob (J.hok.fresh (Nat.le_refl _)) rfl⟩
/-- a tuple told with its own object -/
def tyFrz (x : V) (H : Hp) : Prop := ∃ a o xs, x = .ref a ∧ H a = some (.frz o (.tup xs)) ∧ o.dict = none
theorem ty_frz : TyOk X "tuple" tyFrz := by
  intro pins σ H s x v I r ty
  obtain ⟨a, o, xs, e, ha, hd⟩ := ty
  subst e
  cases (show v = Value.ref a from r)
  have held : ObjOk X.prog X.w H s.heap a (.frz o (.tup xs)) := I.hok a _ ha
  obtain ⟨at_, _, its, _, o2, at2, c, _⟩ := held
  rw [at_] at at2
  cases at2
  exact ⟨⟨o, at_, c⟩, fun b e => by cases e; exact ⟨o, at_, hd⟩⟩
def rTIndex (K : PySem.W.Frag) : V → List V → Hp → VK → Prop := fun x xs H Q => ∃ (p : Addr) (ns : List Int) (k : Int), x = .ref p ∧ xs = [.int k] ∧ SqT K H p (ns.map V.int) ∧ k ∈ ns ∧ Q (.int (ns.idxOf k : Nat)) H
theorem ints_of : ∀ {ns : List Int} {us : List Value}, Vals (ns.map V.int) us → IntsAre us ns
  | [], _, .nil => .nil
  | n :: ns, _, .cons (b := u) r t => by
    obtain ⟨tk, e⟩ := (show ∃ t, u = Value.int n t from r)
    subst e
    exact .cons n tk (ints_of t)
theorem mt_tindex (K : PySem.W.Frag) (hK : X.K = K := by rfl) : MtR X "tuple.index" (rTIndex K) := by
  subst hK
  intro pins s σ H x xs v us Q I rx rs h
  obtain ⟨p, ns, k, e1, e2, isT, mem, q⟩ := h
  subst e1 e2
  cases (show v = Value.ref p from rx)
  obtain ⟨u, hu, tk, ht⟩ := vals1 rs
  subst hu ht
  obtain ⟨its, rel, at_, _⟩ := I.tuple isT
  exact PySem.SeqAt.tuple_index_ints at_ (ints_of rel) mem ⟨.int (ns.idxOf k : Nat), H, I.tok _, ⟨_, rfl⟩, q⟩
end
end Dw
end
section
/-! data of tracked things: what repr and == want of it -/
namespace Dw
open PySem PySem.Spec PyProof.Rows L2 Evl
/-- small data: depth at most k, weight at most W -/
structure Gd (k W : Nat) (d : PyData) : Prop where
  lay : d.canLay0 = true
  dep : d.depth ≤ k
  wgt : d.weight ≤ W
  its : d.intsShort 13 = true
  sho : d.showable = true
theorem Gd.mono {k W k' W' : Nat} {d : PyData} (h : Gd k W d) (a : k ≤ k') (b : W ≤ W') : Gd k' W' d := ⟨h.lay, Nat.le_trans h.dep a, Nat.le_trans h.wgt b, h.its, h.sho⟩
theorem log_low {n : Nat} (h : n ≤ 1000) : n.log2 ≤ 9 := by
  by_cases z : n = 0
  · subst z
    decide
  · exact Nat.le_of_lt_succ ((Nat.log2_lt z).mpr (by have e : 2 ^ 10 = 1024 := by decide
                                                     omega))
theorem gd_int {n : Nat} (h : n ≤ 1000) : Gd 0 10 (.int (n : Int)) := by
  have l := log_low h
  refine ⟨by rw [PyData.canLay0], by rw [PyData.depth]; exact Nat.le_refl _, ?_, ?_, ?_⟩
  · rw [PyData.weight, Int.natAbs_natCast]
    split <;> omega
  · rw [PyData.intsShort]
    exact decide_eq_true (PyData.shown_int_le2 (by omega) (by omega))
  · rw [PyData.showable, Int.natAbs_natCast]
    exact decide_eq_true (by omega)
theorem gd_str {z : Str} (h : ∀ c ∈ z.cps.toList, c < 0x110000) (l : z.cps.size ≤ 100) : Gd 0 100 (.str z) := by
  refine ⟨?_, by rw [PyData.depth]; exact Nat.le_refl _, by rw [PyData.weight]; exact l, by rw [PyData.intsShort], by rw [PyData.showable]⟩
  rw [PyData.canLay0]
  show z.cps.all (· < 0x110000) = true
  rw [Array.all_eq_true]
  intro i hi
  exact decide_eq_true (h _ (by rw [Array.mem_toList_iff]; exact Array.getElem_mem hi))
theorem gd_all {k W : Nat} : ∀ {ds : List PyData}, (∀ d ∈ ds, Gd k W d) → PyData.canLayAll0 ds = true ∧ PyData.depthAll ds ≤ k ∧ PyData.weightAll ds ≤ ds.length * (W + 1) ∧ PyData.intsShortAll 13 ds = true ∧ PyData.showableAll ds = true
  | [], _ => ⟨by rw [PyData.canLayAll0], by rw [PyData.depthAll]; exact Nat.zero_le _, by rw [PyData.weightAll]; exact Nat.zero_le _, by rw [PyData.intsShortAll], by rw [PyData.showableAll]⟩
  | d :: ds, h => by
    obtain ⟨a, b, c, e, f⟩ := gd_all (ds := ds) fun x hx => h x (List.mem_cons_of_mem _ hx)
    have g := h d (List.mem_cons_self ..)
    refine ⟨by rw [PyData.canLayAll0, g.lay, a]; rfl, by rw [PyData.depthAll]; exact Nat.max_le.mpr ⟨g.dep, b⟩, ?_, by rw [PyData.intsShortAll, g.its, e]; rfl, by rw [PyData.showableAll, g.sho, f]; rfl⟩
    have w := g.wgt
    rw [PyData.weightAll, List.length_cons, Nat.succ_mul]
    omega
theorem gd_tup {k W L : Nat} {ds : List PyData} (h : ∀ d ∈ ds, Gd k W d) (l : ds.length ≤ L) : Gd (k + 1) (L * (W + 1)) (.tuple ds) := by
  obtain ⟨a, b, c, e, f⟩ := gd_all h
  exact ⟨by rw [PyData.canLay0]; exact a, by rw [PyData.depth]; omega, by rw [PyData.weight]; exact Nat.le_trans c (Nat.mul_le_mul_right _ l), by rw [PyData.intsShort]; exact e, by rw [PyData.showable]; exact f⟩
theorem gd_lst {k W L : Nat} {ds : List PyData} (h : ∀ d ∈ ds, Gd k W d) (l : ds.length ≤ L) : Gd (k + 1) (L * (W + 1)) (.list ds) := by
  obtain ⟨a, b, c, e, f⟩ := gd_all h
  exact ⟨by rw [PyData.canLay0]; exact a, by rw [PyData.depth]; omega, by rw [PyData.weight]; exact Nat.le_trans c (Nat.mul_le_mul_right _ l), by rw [PyData.intsShort]; exact e, by rw [PyData.showable]; exact f⟩
theorem Gd.len {k W : Nat} {d : PyData} (h : Gd k W d) (a : k ≤ 60) (b : W ≤ 1000000) : d.shown.length ≤ sizeLine := by
  have w := h.wgt
  have dp := h.dep
  have l0 : d.layable0 = true := by
    show (d.canLay0 && decide (d.depth ≤ 64) && decide (d.weight ≤ 2 ^ 20)) = true
    have e : (2 : Nat) ^ 20 = 1048576 := by decide
    rw [h.lay, decide_eq_true (show d.depth ≤ 64 by omega), decide_eq_true (show d.weight ≤ 2 ^ 20 by omega)]
    rfl
  have z := shown_le13 l0 h.its
  rw [sizeLine_eq]
  omega
theorem Gd.shaped {k W : Nat} {d : PyData} (h : Gd k W d) (a : k ≤ 60) : SeqAt.shaped d = true := by
  have dp := h.dep
  show (d.canLay0 && decide (d.depth ≤ 64)) = true
  rw [h.lay, decide_eq_true (show d.depth ≤ 64 by omega)]
  rfl
/-! things of the hand layer as data -/
section
variable {K : PySem.W.Frag} {H : Hp}
def dN (ns : List Nat) : PyData := .tuple (ns.map fun n => .int ((n : Nat) : Int))
theorem dps_nats : ∀ ns : List Nat, DpAll K H (ns.map vi) (ns.map fun n => .int ((n : Nat) : Int))
  | [] => .nil
  | n :: ns => .cons (.int _) (dps_nats ns)
theorem Nats.dp {v : V} {ns : List Nat} (h : Nats K H v ns) : Dp K H v (dN ns) := by
  obtain ⟨a, e, s⟩ := h
  subst e
  exact .tup s (dps_nats ns)
theorem dps_paired {β : Type} {R : V → β → Prop} {f : β → PyData} (h : ∀ v b, R v b → Dp K H v (f b)) : ∀ {vs : List V} {bs : List β}, Paired R vs bs → DpAll K H vs (bs.map f)
  | [], [], .nil => .nil
  | _ :: _, _ :: _, .cons r p => .cons (h _ _ r) (dps_paired h p)
def dM (n : Nat) (ts : List (List Nat)) : PyData := .tuple [.int (n : Int), .tuple (ts.map dN)]
theorem Mdl.dp {v : V} {n : Nat} {ts : List (List Nat)} (h : Mdl K H v n ts) : Dp K H v (dM n ts) := by
  obtain ⟨a, u, e, s, b, vs, e2, s2, p⟩ := h
  subst e e2
  exact .tup s (.cons (.int _) (.cons (.tup s2 (dps_paired (fun _ _ z => Nats.dp z) p)) .nil))
def dS (sg : List (Str × Nat)) : PyData := .tuple (sg.map fun p => .tuple [.str p.1, .int ((p.2 : Nat) : Int)])
theorem Sig.dp {v : V} {sg : List (Str × Nat)} (h : Sig K H v sg) : Dp K H v (dS sg) := by
  obtain ⟨a, vs, e, s, p⟩ := h
  subst e
  refine .tup s (dps_paired (fun v q z => ?_) p)
  obtain ⟨b, e, s⟩ := z
  subst e
  exact .tup s (.cons (.str _) (.cons (.int _) .nil))
theorem gd_nats {ns : List Nat} (h : ∀ n ∈ ns, n ≤ 1000) (l : ns.length ≤ 36) : Gd 1 396 (dN ns) := by
  refine gd_tup (k := 0) (W := 10) (L := 36) (fun d hd => ?_) (by rw [List.length_map]; exact l)
  obtain ⟨n, hn, e⟩ := List.mem_map.mp hd
  subst e
  exact gd_int (h n hn)
theorem gd_mdl {n : Nat} {ts : List (List Nat)} (hn : n ≤ 1000) (h : ∀ t ∈ ts, (∀ k ∈ t, k ≤ 1000) ∧ t.length ≤ 36) (l : ts.length ≤ 4) : Gd 3 3178 (dM n ts) := by
  refine gd_tup (k := 2) (W := 1588) (L := 2) (fun d hd => ?_) (Nat.le_refl 2)
  rcases List.mem_cons.mp hd with e | hd
  · subst e
    exact (gd_int hn).mono (by decide) (by decide)
  · rw [List.mem_singleton.mp hd]
    refine gd_tup (k := 1) (W := 396) (L := 4) (fun d hd => ?_) (by rw [List.length_map]; exact l)
    obtain ⟨t, ht, e⟩ := List.mem_map.mp hd
    subst e
    exact gd_nats (h t ht).1 (h t ht).2
theorem gd_sig {sg : List (Str × Nat)} (h : ∀ p ∈ sg, (∀ c ∈ p.1.cps.toList, c < 0x110000) ∧ p.1.cps.size ≤ 100 ∧ p.2 ≤ 1000) (l : sg.length ≤ 4) : Gd 2 812 (dS sg) := by
  refine gd_tup (k := 1) (W := 202) (L := 4) (fun d hd => ?_) (by rw [List.length_map]; exact l)
  obtain ⟨p, hp, e⟩ := List.mem_map.mp hd
  subst e
  obtain ⟨a, b, c⟩ := h p hp
  refine gd_tup (k := 0) (W := 100) (L := 2) (fun d hd => ?_) (Nat.le_refl 2)
  rcases List.mem_cons.mp hd with e | hd
  · subst e
    exact gd_str a b
  · rw [List.mem_singleton.mp hd]
    exact (gd_int c).mono (by decide) (by decide)
/-- x != y of the same data -/
theorem rv_neD {x y : V} {d : PyData} {k W : Nat} (hx : ∀ H1, Ex H H1 → Dp K H1 x d) (hy : ∀ H1, Ex H H1 → Dp K H1 y d) (h : Gd k W d) (a : k ≤ 60) : RV (rNeD K) x y H (.bl false) := fun H1 e Q q =>
  ⟨d, d, hx H1 e, hy H1 e, h.shaped a, h.shaped a, by rw [SeqAt.eqv_refl d h.lay]; exact q H1 (Ex.refl H1)⟩
end
end Dw
end
section
/-! the mathematics of renaming, over plain lists of natural numbers -/
namespace M20
/-- the k-th, 0 where there is none -/
abbrev g (l : List Nat) (k : Nat) : Nat := l.getD k 0
theorem g_eq {l : List Nat} {k : Nat} (h : k < l.length) : l[k]? = some (g l k) := by
  show l[k]? = some (l.getD k 0)
  rw [List.getD_eq_getElem?_getD, List.getElem?_eq_getElem h]
  rfl
theorem ext {l m : List Nat} (h : l.length = m.length) (e : ∀ k, k < l.length → g l k = g m k) : l = m := by
  apply List.ext_getElem? 
  intro k
  by_cases hk : k < l.length
  · rw [g_eq hk, g_eq (h ▸ hk), e k hk]
  · rw [List.getElem?_eq_none_iff.mpr (by omega), List.getElem?_eq_none_iff.mpr (by omega)]
theorem g_map {f : Nat → Nat} {n k : Nat} (h : k < n) : g ((List.range n).map f) k = f k := by
  show ((List.range n).map f).getD k 0 = f k
  rw [List.getD_eq_getElem?_getD, List.getElem?_map, List.getElem?_range h]
  rfl
/-- an order of the size n -/
structure Ord (n : Nat) (o : List Nat) : Prop where
  len : o.length = n
  low : ∀ k, k < n → g o k < n
  inj : ∀ j k, j < n → k < n → g o j = g o k → j = k
/-- what is called k -/
def bk (o : List Nat) : List Nat := (List.range o.length).map fun k => o.idxOf k
theorem bk_len (o : List Nat) : (bk o).length = o.length := by simp [bk]
theorem idx_of {n : Nat} {o : List Nat} (h : Ord n o) {k : Nat} (hk : k < n) : o.idxOf (g o k) = k := by
  have h1 : k < o.length := by rw [h.len]; exact hk
  have hm : g o k ∈ o := List.mem_iff_getElem?.mpr ⟨k, g_eq h1⟩
  have h2 : o.idxOf (g o k) < o.length := List.idxOf_lt_length_of_mem hm
  have h3 : o[o.idxOf (g o k)]? = some (g o k) := by
    rw [List.getElem?_eq_getElem h2, List.getElem_idxOf h2]
  rw [g_eq h2] at h3
  exact h.inj _ _ (by rw [← h.len]; exact h2) hk (Option.some.inj h3)
theorem len_le : ∀ (l m : List Nat), l.Nodup → (∀ x ∈ l, x ∈ m) → l.length ≤ m.length
  | [], _, _, _ => Nat.zero_le _
  | x :: l, m, nd, sub => by
    have hx : x ∈ m := sub x List.mem_cons_self
    have h1 := List.nodup_cons.mp nd
    have h2 := len_le l (m.erase x) h1.2 (fun y hy => (List.mem_erase_of_ne (show y ≠ x from fun e => h1.1 (by rw [← e]; exact hy))).mpr (sub y (List.mem_cons_of_mem _ hy)))
    rw [List.length_erase_of_mem hx] at h2
    have : 0 < m.length := List.length_pos_of_mem hx
    rw [List.length_cons]
    omega
/-- an injective map of the numbers below n hits them all -/
theorem hits : ∀ (n : Nat) (o : List Nat), Ord n o → ∀ k, k < n → k ∈ o := by
  intro n o h k hk
  have nd : o.Nodup := by
    rw [List.nodup_iff_pairwise_ne, List.pairwise_iff_getElem]
    intro i j hi hj hij e
    have hi' : i < n := by rw [← h.len]; exact hi
    have hj' : j < n := by rw [← h.len]; exact hj
    have e1 : g o i = g o j := by
      have a := g_eq hi
      have b := g_eq hj
      rw [List.getElem?_eq_getElem hi] at a
      rw [List.getElem?_eq_getElem hj] at b
      exact (Option.some.inj a).symm.trans (e.trans (Option.some.inj b))
    have := h.inj i j hi' hj' e1
    omega
  have low : ∀ x ∈ o, x < n := by
    intro x hx
    obtain ⟨i, hi, e⟩ := List.mem_iff_getElem.mp hx
    have hi' : i < n := by rw [← h.len]; exact hi
    have a := g_eq hi
    rw [List.getElem?_eq_getElem hi] at a
    have : x = g o i := e.symm.trans (Option.some.inj a)
    rw [this]
    exact h.low i hi'
  by_cases hm : k ∈ o
  · exact hm
  · have h1 := len_le (k :: o) (List.range n) (List.nodup_cons.mpr ⟨hm, nd⟩) (fun x hx => List.mem_range.mpr (by
      rcases List.mem_cons.mp hx with e | e
      · rw [e]; exact hk
      · exact low x e))
    rw [List.length_cons, List.length_range, h.len] at h1
    omega
theorem bk_low {n : Nat} {o : List Nat} (h : Ord n o) {k : Nat} (hk : k < n) : g (bk o) k < n := by
  rw [bk, g_map (by rw [h.len]; exact hk), ← h.len]
  exact List.idxOf_lt_length_of_mem (hits n o h k hk)
/-- there and back -/
theorem bk_g {n : Nat} {o : List Nat} (h : Ord n o) {k : Nat} (hk : k < n) : g (bk o) (g o k) = k := by
  rw [bk, g_map (by rw [h.len]; exact h.low k hk)]
  exact idx_of h hk
theorem g_bk {n : Nat} {o : List Nat} (h : Ord n o) {k : Nat} (hk : k < n) : g o (g (bk o) k) = k := by
  rw [bk, g_map (by rw [h.len]; exact hk)]
  have h2 : o.idxOf k < o.length := List.idxOf_lt_length_of_mem (hits n o h k hk)
  have h3 : o[o.idxOf k]? = some k := by rw [List.getElem?_eq_getElem h2, List.getElem_idxOf h2]
  rw [g_eq h2] at h3
  exact Option.some.inj h3
theorem bk_ord {n : Nat} {o : List Nat} (h : Ord n o) : Ord n (bk o) := ⟨by rw [bk_len, h.len], fun _ hk => bk_low h hk, fun j k hj hk e => by
  rw [← g_bk h hj, ← g_bk h hk, e]⟩
theorem bk_bk {n : Nat} {o : List Nat} (h : Ord n o) : bk (bk o) = o := ext (by rw [bk_len, bk_len]) fun k hk => by
  have hk' : k < n := by rw [bk_len, bk_len, h.len] at hk; exact hk
  have e : g (bk o) (g (bk (bk o)) k) = k := g_bk (bk_ord h) hk'
  have e2 : g (bk o) (g o k) = k := bk_g h hk'
  exact (bk_ord h).inj _ _ (bk_low (bk_ord h) hk') (h.low k hk') (e.trans e2.symm)
/-- by the one and then by the other -/
def cmp (a b : List Nat) : List Nat := a.map fun k => g b k
theorem cmp_g {n : Nat} {a b : List Nat} (ha : Ord n a) {k : Nat} (hk : k < n) : g (cmp a b) k = g b (g a k) := by
  show (a.map fun k => g b k).getD k 0 = _
  rw [List.getD_eq_getElem?_getD, List.getElem?_map, g_eq (by rw [ha.len]; exact hk)]
  rfl
theorem cmp_ord {n : Nat} {a b : List Nat} (ha : Ord n a) (hb : Ord n b) : Ord n (cmp a b) := ⟨by simp [cmp, ha.len], fun k hk => by
  rw [cmp_g ha hk]
  exact hb.low _ (ha.low k hk), fun j k hj hk e => by
  rw [cmp_g ha hj, cmp_g ha hk] at e
  exact ha.inj _ _ hj hk (hb.inj _ _ (ha.low j hj) (ha.low k hk) e)⟩
theorem bk_cmp {n : Nat} {a b : List Nat} (ha : Ord n a) (hb : Ord n b) {k : Nat} (hk : k < n) : g (bk (cmp a b)) k = g (bk a) (g (bk b) k) := by
  have hc := cmp_ord ha hb
  have h1 := bk_low hb hk
  have h2 := bk_low ha h1
  apply hc.inj _ _ (bk_low hc hk) h2
  rw [g_bk hc hk, cmp_g ha h2, g_bk ha h1, g_bk hb hk]
/-! a table of a deed of p places over n numbers -/
structure Tab (n p : Nat) (t : List Nat) : Prop where
  len : t.length = n ^ p
  low : ∀ k, k < n ^ p → g t k < n
/-- the place from which the renamed table has its s-th number -/
def src (n p : Nat) (b : List Nat) (s : Nat) : Nat := if p = 0 then 0 else if p = 1 then g b s else g b (s / n) * n + g b (s % n)
def ren (n p : Nat) (o t : List Nat) : List Nat := (List.range (n ^ p)).map fun s => g o (g t (src n p (bk o) s))
theorem mul_lt {n a b : Nat} (ha : a < n) (hb : b < n) : a * n + b < n * n := by
  have : (a + 1) * n ≤ n * n := Nat.mul_le_mul_right n ha
  rw [Nat.add_mul, Nat.one_mul] at this
  omega
theorem src_low {n p : Nat} {b : List Nat} (hp : p ≤ 2) (hb : ∀ k, k < n → g b k < n) {s : Nat} (hs : s < n ^ p) : src n p b s < n ^ p := by
  unfold src
  match p, hp with
  | 0, _ => simp
  | 1, _ =>
    rw [if_neg (by decide), if_pos rfl]
    rw [Nat.pow_one] at hs ⊢
    exact hb s hs
  | 2, _ =>
    rw [if_neg (by decide), if_neg (by decide)]
    rw [Nat.pow_two] at hs ⊢
    have hn : 0 < n := by
      rcases Nat.eq_zero_or_pos n with e | e
      · subst e; omega
      · exact e
    exact mul_lt (hb _ (Nat.div_lt_of_lt_mul hs)) (hb _ (Nat.mod_lt _ hn))
theorem ren_len (n p : Nat) (o t : List Nat) : (ren n p o t).length = n ^ p := by simp [ren]
theorem ren_g {n p : Nat} {o t : List Nat} {s : Nat} (hs : s < n ^ p) : g (ren n p o t) s = g o (g t (src n p (bk o) s)) := g_map hs
theorem ren_tab {n p : Nat} {o t : List Nat} (hp : p ≤ 2) (ho : Ord n o) (ht : Tab n p t) : Tab n p (ren n p o t) := ⟨ren_len n p o t, fun k hk => by
  rw [ren_g hk]
  exact ho.low _ (ht.low _ (src_low hp (fun _ h => bk_low ho h) hk))⟩
theorem src_src {n p : Nat} {a b : List Nat} (hp : p ≤ 2) (ha : Ord n a) (hb : Ord n b) {s : Nat} (hs : s < n ^ p) : src n p (bk a) (src n p (bk b) s) = src n p (bk (cmp a b)) s := by
  unfold src
  match p, hp with
  | 0, _ => simp
  | 1, _ =>
    rw [if_neg (by decide), if_pos rfl, if_neg (by decide), if_pos rfl, if_neg (by decide), if_pos rfl]
    rw [Nat.pow_one] at hs
    exact (bk_cmp ha hb hs).symm
  | 2, _ =>
    rw [if_neg (by decide), if_neg (by decide), if_neg (by decide), if_neg (by decide), if_neg (by decide), if_neg (by decide)]
    rw [Nat.pow_two] at hs
    have hn : 0 < n := by
      rcases Nat.eq_zero_or_pos n with e | e
      · subst e; omega
      · exact e
    have h1 : s / n < n := Nat.div_lt_of_lt_mul hs
    have h2 : s % n < n := Nat.mod_lt _ hn
    have b2 := bk_low hb h2
    rw [bk_cmp ha hb h1, bk_cmp ha hb h2]
    rw [Nat.add_comm (g (bk b) (s / n) * n), Nat.add_mul_div_right _ _ hn, Nat.div_eq_of_lt b2, Nat.zero_add, Nat.add_mul_mod_self_right, Nat.mod_eq_of_lt b2]
theorem ren_ren {n p : Nat} {a b t : List Nat} (hp : p ≤ 2) (ha : Ord n a) (hb : Ord n b) (ht : Tab n p t) : ren n p b (ren n p a t) = ren n p (cmp a b) t := ext (by rw [ren_len, ren_len]) fun s hs => by
  rw [ren_len] at hs
  have h1 := src_low hp (fun _ h => bk_low hb h) hs
  rw [ren_g hs, ren_g h1, ren_g hs, src_src hp ha hb hs]
  have h2 := src_low hp (fun _ h => bk_low (cmp_ord ha hb) h) hs
  exact (cmp_g ha (ht.low _ h2)).symm
theorem id_ord (n : Nat) : Ord n (List.range n) := ⟨List.length_range, fun k hk => by
  rw [← List.map_id (List.range n), g_map hk]; exact hk, fun j k hj hk e => by
  rw [← List.map_id (List.range n), g_map hj, g_map hk] at e; exact e⟩
theorem g_id {n k : Nat} (h : k < n) : g (List.range n) k = k := by
  rw [← List.map_id (List.range n), g_map h]
  rfl
theorem bk_id {n k : Nat} (h : k < n) : g (bk (List.range n)) k = k := by
  have e := bk_g (id_ord n) h
  rw [g_id h] at e
  exact e
theorem src_id {n p : Nat} (hp : p ≤ 2) {s : Nat} (hs : s < n ^ p) : src n p (bk (List.range n)) s = s := by
  unfold src
  match p, hp with
  | 0, _ => simp at hs; simp [hs]
  | 1, _ =>
    rw [if_neg (by decide), if_pos rfl]
    rw [Nat.pow_one] at hs
    exact bk_id hs
  | 2, _ =>
    rw [if_neg (by decide), if_neg (by decide)]
    rw [Nat.pow_two] at hs
    have hn : 0 < n := by
      rcases Nat.eq_zero_or_pos n with e | e
      · subst e; omega
      · exact e
    rw [bk_id (Nat.div_lt_of_lt_mul hs), bk_id (Nat.mod_lt _ hn), Nat.mul_comm]
    exact Nat.div_add_mod s n
theorem ren_id {n p : Nat} {t : List Nat} (hp : p ≤ 2) (ht : Tab n p t) : ren n p (List.range n) t = t := ext (by rw [ren_len, ht.len]) fun s hs => by
  rw [ren_len] at hs
  rw [ren_g hs, src_id hp hs]
  exact g_id (ht.low s hs)
theorem cmp_bk {n : Nat} {o : List Nat} (h : Ord n o) : cmp o (bk o) = List.range n := ext (by simp [cmp, h.len]) fun k hk => by
  have hk' : k < n := by simp [cmp, h.len] at hk; exact hk
  rw [cmp_g h hk', bk_g h hk', g_id hk']
theorem ren_back {n p : Nat} {o t : List Nat} (hp : p ≤ 2) (ho : Ord n o) (ht : Tab n p t) : ren n p (bk o) (ren n p o t) = t := by
  rw [ren_ren hp ho (bk_ord ho) ht, cmp_bk ho, ren_id hp ht]
/-! the law's own way: each number of the table put at its place -/
def spot (n p : Nat) (o : List Nat) (k : Nat) : Nat := g o (k % n) * (if 0 < p then 1 else 0) + g o (k / n % n) * n * (if p = 2 then 1 else 0)
theorem spot_low {n p : Nat} {o : List Nat} (hp : p ≤ 2) (ho : Ord n o) {k : Nat} (hk : k < n ^ p) : spot n p o k < n ^ p := by
  unfold spot
  match p, hp with
  | 0, _ => simp
  | 1, _ =>
    rw [Nat.pow_one] at hk ⊢
    rw [if_pos (by decide), if_neg (by decide), Nat.mul_zero, Nat.mul_one, Nat.add_zero, Nat.mod_eq_of_lt hk]
    exact ho.low k hk
  | 2, _ =>
    rw [Nat.pow_two] at hk ⊢
    have hn : 0 < n := by
      rcases Nat.eq_zero_or_pos n with e | e
      · subst e; omega
      · exact e
    rw [if_pos (by decide), if_pos rfl, Nat.mul_one, Nat.mul_one, Nat.add_comm]
    exact mul_lt (ho.low _ (Nat.mod_lt _ hn)) (ho.low _ (Nat.mod_lt _ hn))
theorem src_spot {n p : Nat} {o : List Nat} (hp : p ≤ 2) (ho : Ord n o) {k : Nat} (hk : k < n ^ p) : src n p (bk o) (spot n p o k) = k := by
  unfold spot src
  match p, hp with
  | 0, _ => simp at hk; simp [hk]
  | 1, _ =>
    rw [Nat.pow_one] at hk
    rw [if_neg (by decide), if_pos rfl, if_pos (by decide), if_neg (by decide), Nat.mul_zero, Nat.mul_one, Nat.add_zero, Nat.mod_eq_of_lt hk]
    exact bk_g ho hk
  | 2, _ =>
    rw [Nat.pow_two] at hk
    have hn : 0 < n := by
      rcases Nat.eq_zero_or_pos n with e | e
      · subst e; omega
      · exact e
    have h1 : k / n < n := Nat.div_lt_of_lt_mul hk
    have h2 : k % n < n := Nat.mod_lt _ hn
    rw [if_neg (by decide), if_neg (by decide), if_pos (by decide), if_pos rfl, Nat.mul_one, Nat.mul_one, Nat.mod_eq_of_lt h1]
    have b2 := ho.low _ h2
    rw [Nat.add_mul_div_right _ _ hn, Nat.div_eq_of_lt b2, Nat.zero_add, Nat.add_mul_mod_self_right, Nat.mod_eq_of_lt b2, bk_g ho h1, bk_g ho h2, Nat.mul_comm]
    exact Nat.div_add_mod k n
theorem spot_src {n p : Nat} {o : List Nat} (hp : p ≤ 2) (ho : Ord n o) {s : Nat} (hs : s < n ^ p) : spot n p o (src n p (bk o) s) = s := by
  unfold spot src
  match p, hp with
  | 0, _ => simp at hs; simp [hs]
  | 1, _ =>
    rw [Nat.pow_one] at hs
    rw [if_neg (by decide), if_pos rfl, if_pos (by decide), if_neg (by decide), Nat.mul_zero, Nat.mul_one, Nat.add_zero, Nat.mod_eq_of_lt (bk_low ho hs)]
    exact g_bk ho hs
  | 2, _ =>
    rw [Nat.pow_two] at hs
    have hn : 0 < n := by
      rcases Nat.eq_zero_or_pos n with e | e
      · subst e; omega
      · exact e
    have h1 : s / n < n := Nat.div_lt_of_lt_mul hs
    have h2 : s % n < n := Nat.mod_lt _ hn
    have b1 := bk_low ho h1
    have b2 := bk_low ho h2
    rw [if_neg (by decide), if_neg (by decide), if_pos (by decide), if_pos rfl, Nat.mul_one, Nat.mul_one]
    rw [Nat.add_comm (g (bk o) (s / n) * n), Nat.add_mul_mod_self_right, Nat.mod_eq_of_lt b2, Nat.add_mul_div_right _ _ hn, Nat.div_eq_of_lt b2, Nat.zero_add, Nat.mod_eq_of_lt b1, g_bk ho h1, g_bk ho h2, Nat.add_comm, Nat.mul_comm]
    exact Nat.div_add_mod s n
/-- the first k numbers put -/
def led (n p : Nat) (o t : List Nat) : Nat → List Nat
  | 0 => t
  | k + 1 => (led n p o t k).set (spot n p o k) (g o (g t k))
theorem led_len (n p : Nat) (o t : List Nat) : ∀ k, (led n p o t k).length = t.length
  | 0 => rfl
  | k + 1 => by rw [led, List.length_set, led_len n p o t k]
theorem g_set {l : List Nat} {i k v : Nat} (hi : i < l.length) : g (l.set i v) k = if i = k then v else g l k := by
  show (l.set i v).getD k 0 = _
  rw [List.getD_eq_getElem?_getD, List.getElem?_set]
  by_cases e : i = k
  · subst e
    rw [if_pos rfl, if_pos hi, if_pos rfl]
    rfl
  · rw [if_neg e, if_neg e]
    show _ = l.getD k 0
    rw [List.getD_eq_getElem?_getD]
theorem led_g {n p : Nat} {o t : List Nat} (hp : p ≤ 2) (ho : Ord n o) (ht : Tab n p t) : ∀ k, k ≤ n ^ p → ∀ s, s < n ^ p → src n p (bk o) s < k → g (led n p o t k) s = g o (g t (src n p (bk o) s))
  | 0, _, _, _, h => absurd h (Nat.not_lt_zero _)
  | k + 1, hk, s, hs, h => by
    rw [led, g_set (by rw [led_len, ht.len]; exact spot_low hp ho hk)]
    by_cases e : spot n p o k = s
    · rw [if_pos e, ← e, src_spot hp ho hk]
    · rw [if_neg e]
      apply led_g hp ho ht k (Nat.le_of_lt hk) s hs
      rcases Nat.lt_succ_iff_lt_or_eq.mp h with q | q
      · exact q
      · exact absurd (by rw [← q]; exact spot_src hp ho hs) e
theorem led_ren {n p : Nat} {o t : List Nat} (hp : p ≤ 2) (ho : Ord n o) (ht : Tab n p t) : led n p o t (n ^ p) = ren n p o t := ext (by rw [led_len, ren_len, ht.len]) fun s hs => by
  rw [led_len, ht.len] at hs
  rw [ren_g hs]
  exact led_g hp ho ht _ (Nat.le_refl _) s hs (src_low hp (fun _ h => bk_low ho h) hs)
end M20
end
section
namespace K20
open PySem PySem.Spec PyProof.Rows L2 Evl Dw M20
open C8 (fnScope_by)
/-! ### the text -/
def topS (i : Nat) : Stmt := PySem.Challenge.pw_deedworlds_k20_models_renamed.main.body.getD i (.Pass ⟨0, 0, 0, 0⟩)
abbrev s_is_whole : Stmt := topS 6
theorem sc_is_whole : FnScope ["thing"] ["thing"] (defScope s_is_whole) := fnScope_by (by decide +kernel)
abbrev s_is_below : Stmt := topS 7
theorem sc_is_below : FnScope ["thing", "size"] ["thing", "size"] (defScope s_is_below) := fnScope_by (by decide +kernel)
abbrev s_are_unlike_below : Stmt := topS 8
theorem sc_are_unlike_below : FnScope ["things", "size", "met", "number"] ["things", "size"] (defScope s_are_unlike_below) := fnScope_by (by decide +kernel)
abbrev s_power : Stmt := topS 9
theorem sc_power : FnScope ["base", "many", "told", "step"] ["base", "many"] (defScope s_power) := fnScope_by (by decide +kernel)
abbrev s_is_name : Stmt := topS 16
theorem sc_is_name : FnScope ["thing", "sign"] ["thing"] (defScope s_is_name) := fnScope_by (by decide +kernel)
abbrev s_is_deed : Stmt := topS 17
theorem sc_is_deed : FnScope ["thing"] ["thing"] (defScope s_is_deed) := fnScope_by (by decide +kernel)
abbrev s_signature_wrong : Stmt := topS 18
theorem sc_signature_wrong : FnScope ["thing", "k", "deed", "names", "name"] ["thing"] (defScope s_signature_wrong) := fnScope_by (by decide +kernel)
abbrev s_need_signature : Stmt := topS 19
theorem sc_need_signature : FnScope ["signature"] ["signature"] (defScope s_need_signature) := fnScope_by (by decide +kernel)
abbrev s_is_size : Stmt := topS 21
theorem sc_is_size : FnScope ["thing"] ["thing"] (defScope s_is_size) := fnScope_by (by decide +kernel)
abbrev s_first_odd_cell : Stmt := topS 22
theorem sc_first_odd_cell : FnScope ["size", "tables", "k", "table", "at", "number"] ["size", "tables"] (defScope s_first_odd_cell) := fnScope_by (by decide +kernel)
abbrev s_model_wrong : Stmt := topS 23
theorem sc_model_wrong : FnScope ["signature", "thing", "size", "tables", "k", "deed", "odd"] ["signature", "thing"] (defScope s_model_wrong) := fnScope_by (by decide +kernel)
abbrev s_need_model : Stmt := topS 24
theorem sc_need_model : FnScope ["signature", "model"] ["signature", "model"] (defScope s_need_model) := fnScope_by (by decide +kernel)
abbrev s_is_order : Stmt := topS 26
theorem sc_is_order : FnScope ["thing", "size"] ["thing", "size"] (defScope s_is_order) := fnScope_by (by decide +kernel)
abbrev s_turned_back : Stmt := topS 27
theorem sc_turned_back : FnScope ["order", "back", "number", "called"] ["order"] (defScope s_turned_back) := fnScope_by (by decide +kernel)
abbrev s_renamed_table : Stmt := topS 28
theorem sc_renamed_table : FnScope ["size", "places", "table", "order", "back", "number", "one", "other"] ["size", "places", "table", "order"] (defScope s_renamed_table) := fnScope_by (by decide +kernel)
abbrev s_renamed_tables : Stmt := topS 29
theorem sc_renamed_tables : FnScope ["signature", "size", "tables", "order", "told", "name", "places", "table"] ["signature", "size", "tables", "order"] (defScope s_renamed_tables) := fnScope_by (by decide +kernel)
abbrev s_renamed : Stmt := topS 31
theorem sc_renamed : FnScope ["signature", "model", "order", "size", "tables"] ["signature", "model", "order"] (defScope s_renamed) := fnScope_by (by decide +kernel)
abbrev s_composed : Stmt := topS 32
theorem sc_composed : FnScope ["one", "other", "called"] ["one", "other"] (defScope s_composed) := fnScope_by (by decide +kernel)
abbrev s_renamed_by : Stmt := topS 33
theorem sc_renamed_by : FnScope ["one", "other"] ["one", "other"] (defScope s_renamed_by) := fnScope_by (by decide +kernel)
abbrev s_purse : Stmt := topS 35
theorem sc_purse : FnScope ["_law_script", "_law_cells", "_law_k"] ["_law_script"] (defScope s_purse) := fnScope_by (by decide +kernel)
abbrev s_draw : Stmt := topS 36
theorem sc_draw : FnScope ["_law_purse_here", "_law_out_of", "_law_cells", "_law_turn", "_law_at", "_law_cell", "_law_number", "_law_other"] ["_law_purse_here", "_law_out_of"] (defScope s_draw) := fnScope_by (by decide +kernel)
abbrev s_mixed : Stmt := topS 38
theorem sc_mixed : FnScope ["_law_purse_here", "_law_things", "_law_found_here", "_law_thing"] ["_law_purse_here", "_law_things"] (defScope s_mixed) := fnScope_by (by decide +kernel)
abbrev s_sgn : Stmt := topS 39
theorem sc_sgn : FnScope ["_law_purse_here", "_law_most", "_law_names_here", "_law_some_here", "_law_k"] ["_law_purse_here", "_law_most"] (defScope s_sgn) := fnScope_by (by decide +kernel)
abbrev s_tbl : Stmt := topS 40
theorem sc_tbl : FnScope ["_law_purse_here", "_law_size", "_law_places", "_law_way_here", "_law_turned", "_law_by", "_law_brought", "_law_k", "_law_one", "_law_other", "_law_some_here"] ["_law_purse_here", "_law_size", "_law_places"] (defScope s_tbl) := fnScope_by (by decide +kernel)
abbrev s_mdl : Stmt := topS 41
theorem sc_mdl : FnScope ["_law_purse_here", "_law_signature_here", "_law_size", "_law_name", "_law_places"] ["_law_purse_here", "_law_signature_here", "_law_size"] (defScope s_mdl) := fnScope_by (by decide +kernel)
abbrev s_ordr : Stmt := topS 42
theorem sc_ordr : FnScope ["_law_purse_here", "_law_size"] ["_law_purse_here", "_law_size"] (defScope s_ordr) := fnScope_by (by decide +kernel)
abbrev s_led : Stmt := topS 43
theorem sc_led : FnScope ["_law_signature_here", "_law_model_here", "_law_order_here", "_law_size", "_law_tables", "_law_found_here", "_law_name", "_law_places", "_law_table_here", "_law_brought", "_law_k", "_law_spot"] ["_law_signature_here", "_law_model_here", "_law_order_here"] (defScope s_led) := fnScope_by (by decide +kernel)
abbrev s_bck : Stmt := topS 45
theorem sc_bck : FnScope ["_law_order_here", "_law_number"] ["_law_order_here"] (defScope s_bck) := fnScope_by (by decide +kernel)
abbrev s_law : Stmt := topS 46
theorem sc_law : FnScope ["_law_script", "_law_purse_here", "_law_time", "_law_signature_here", "_law_size", "_law_model_here", "_law_one", "_law_other", "_law_kept", "_law_once", "_law_both", "_law_number", "_law_table_here"] ["_law_script"] (defScope s_law) := fnScope_by (by decide +kernel)
/-- what the module's names hold -/
structure Txt (mg : Str → Option Value) : Prop where
  z_isinstance : mg "isinstance" = none
  z_int : mg "int" = none
  z_bool : mg "bool" = none
  z_str : mg "str" = none
  z_tuple : mg "tuple" = none
  z_list : mg "list" = none
  z_len : mg "len" = none
  z_range : mg "range" = none
  z_all : mg "all" = none
  z_enumerate : mg "enumerate" = none
  z_zip : mg "zip" = none
  z_abs : mg "abs" = none
  z_max : mg "max" = none
  z_min : mg "min" = none
  z_repr : mg "repr" = none
  c_MOST_NAME : ∃ t, mg "MOST_NAME" = some (.int 4 t)
  c_MOST_DEEDS : ∃ t, mg "MOST_DEEDS" = some (.int 4 t)
  c_MOST_PLACES : ∃ t, mg "MOST_PLACES" = some (.int 2 t)
  c_MOST_SIZE : ∃ t, mg "MOST_SIZE" = some (.int 6 t)
  c_NAME_LETTERS : ∃ t, mg "NAME_LETTERS" = some (.str "abcdefghijklmnopqrst" t)
section
variable {X : Cx} {x : Str} {pos : Pos}
theorem pe_gi {i : Int} (hg : Gl X x) (h : ∃ t, X.mg x = some (.int i t)) (hn : x ≠ "__name__" := by decide) (hd : (x == ("__debug__" : Str)) = false := by decide) : PE X (.Name x pos) (tC (.int i)) := by
  obtain ⟨t, e⟩ := h
  exact pe_glob hg e ⟨t, rfl⟩ (hd := hd)
theorem pe_gs {z : Str} (hg : Gl X x) (h : ∃ t, X.mg x = some (.str z t)) (hn : x ≠ "__name__" := by decide) (hd : (x == ("__debug__" : Str)) = false := by decide) : PE X (.Name x pos) (tC (.str z)) := by
  obtain ⟨t, e⟩ := h
  exact pe_glob hg e ⟨t, rfl⟩ (hd := hd)
theorem pe_ty (n : String) (hg : Gl X x) (hm : X.mg x = none) (hv : bootBuiltins x = some (.type n)) (hn : x ≠ "__name__" := by decide) (hd : (x == ("__debug__" : Str)) = false := by decide) : PE X (.Name x pos) (tC (.ty n)) := pe_bltn hg hm hv rfl (hn := hn) (hd := hd)
theorem ip_mul : PIp X .Mult (rI CMul fun i j => .int (i * j)) := iop_mul
end
section
variable {P : Program} {w : World} {K : PySem.W.Frag} {mg : Str → Option Value} {base : Heap}
/-! ### is_whole, is_below, power -/
def sp_is_whole : Sp := spX (fun (i : Int) vs _ => vs = [.int i]) (fun _ v _ => v = .bl true)
theorem c_is_whole (T : Txt mg) (D : Df K mg "is_whole" s_is_whole ["thing"]) : Cl P w K mg base 1 "is_whole" sp_is_whole := by
  refine cl_of (k := 0) D sc_is_whole (fun vs H Q E h => ?_) (fun f cdv A outer s H vs Q E hr h => ?_)
  · obtain ⟨i, rfl, _⟩ := h
    rfl
  · obtain ⟨i, rfl, q⟩ := h
    refine ⟨_, (pss_one (ps_ret (pe_and (pe_callB call_isi (by rfl) T.z_isinstance (by decide +kernel) (pa_cons (pv 0) (pa_cons (pe_ty "int" (by rfl) T.z_int (by decide +kernel)) pa_nil))) (pe_one (pe_not (pe_callB call_isi (by rfl) T.z_isinstance (by decide +kernel) (pa_cons (pv 0) (pa_cons (pe_ty "bool" (by rfl) T.z_bool (by decide +kernel)) pa_nil)))))))), ?_⟩
    exact s_ret (ev_andV (ev_isi (ev_var rfl) ev_c (.ty _) (fun _ _ => tyx_int i) kit_ii) (fun _ => ev_notV (ev_isi (ev_var rfl) ev_c (.ty _) (fun _ _ => tyx_int i) kit_ib))) fun H1 e => q _ H1 e rfl
def sp_is_below : Sp := spX (fun (p : Int × Int) vs _ => vs = [.int p.1, .int p.2] ∧ 0 ≤ p.1 ∧ p.1 < p.2) (fun _ v _ => v = .bl true)
theorem c_is_below (T : Txt mg) (D : Df K mg "is_below" s_is_below ["thing", "size"]) (c_is_whole : Cl P w K mg base 1 "is_whole" sp_is_whole) : Cl P w K mg base 2 "is_below" sp_is_below := by
  refine cl_of (k := 1) D sc_is_below (fun vs H Q E h => ?_) (fun f cdv A outer s H vs Q E hr h => ?_)
  · obtain ⟨p, ⟨rfl, _⟩, _⟩ := h
    rfl
  · obtain ⟨⟨i, n⟩, ⟨rfl, h0, h1⟩, q⟩ := h
    refine ⟨_, (pss_one (ps_ret (pe_and (pe_cl c_is_whole hr (by first | decide | omega) (by rfl) (pa_cons (pv 0) pa_nil)) (pe_one (pe_chain op_le op_lt pe_int (pv 0) (pv 1)))))), ?_⟩
    refine s_ret (ev_andV (ev_callV (v := .bl true) i (ea_cons (ev_var rfl) ea_nil) (fun _ _ => rfl) (fun _ _ p => p)) (fun _ => ev_chain ev_c (ev_var rfl) (fun _ => ev_var rfl) rv_I0 (fun _ => rv_I0))) fun H1 e => q _ H1 e ?_
    show V.bl (true && (decide (0 ≤ i) && decide (i < n))) = _
    rw [decide_eq_true h0, decide_eq_true h1]
    rfl
def sp_power : Sp := spX (fun (p : Nat × Nat) vs _ => vs = [vi p.1, vi p.2] ∧ p.1 ≤ 6 ∧ p.2 ≤ 2) (fun p v _ => v = vi (p.1 ^ p.2))
theorem c_power (T : Txt mg) (D : Df K mg "power" s_power ["base", "many"]) : Cl P w K mg base 1 "power" sp_power := by
  refine cl_of (k := 0) D sc_power (fun vs H Q E h => ?_) (fun f cdv A outer s H vs Q E hr h => ?_)
  · obtain ⟨p, ⟨rfl, _⟩, _⟩ := h
    rfl
  · obtain ⟨⟨b, m⟩, ⟨rfl, hb, hm⟩, q⟩ := h
    refine ⟨_, (pss_cons (ps_set (i := 2) sc_power.nd rfl (.inl rfl) pe_int)
      (pss_cons (ps_for PassesOwn.never (by rfl) (pi_range1 (by rfl) T.z_range (pa_cons (pv 1) pa_nil)) (pg_name (i := 3) sc_power.nd rfl (.inl rfl))
        (pss_one (ps_aug (i := 2) sc_power.nd rfl (.inl rfl) (pv 0) ip_mul)))
      (pss_one (ps_ret (pv 2))))), ?_⟩
    refine q_asg ev_c fun H1 e1 => ?_
    refine q_forR1 (ea_cons (ev_var rfl) ea_nil) (by omega) (fun i σ H' => ∃ y, σ = [some (vi b), some (vi m), some (vi (b ^ i)), y] ∧ Ex H H') (fun H2 e2 => ⟨none, rfl, e1.trans e2⟩) (fun i σ H' hi ⟨y, hσ, e⟩ => ?_) (fun σ H' ⟨y, hσ, e⟩ => ?_)
    · subst hσ
      refine ⟨_, rfl, _, rfl, ((b ^ i : Nat) : Int), (b : Int), rfl, rfl, .inr ⟨by omega, by omega⟩, some (vi i), ?_, e⟩
      show [some (vi b), some (vi m), some (.int (((b ^ i : Nat) : Int) * (b : Int))), some (vi i)] = [some (vi b), some (vi m), some (vi (b ^ (i + 1))), some (vi i)]
      rw [Nat.pow_succ]
      show _ = [some (vi b), some (vi m), some (.int ((b ^ i * b : Nat) : Int)), some (vi i)]
      rw [Int.natCast_mul]
    · subst hσ
      exact s_ret (ev_var rfl) fun H2 e2 => q _ H2 (e.trans e2) rfl
end
end K20
end
section
namespace K20
open PySem PySem.Spec PyProof.Rows L2 Evl Dw M20
section
variable {P : Program} {w : World} {K : PySem.W.Frag} {mg : Str → Option Value} {base : Heap}
theorem ix_tupK {X : Cx} (K : PySem.W.Frag) (h : X.K = K := by rfl) : IxR X (rIxT K) := by
  subst h
  exact ix_tup
theorem pi_tupK {X : Cx} {tg l : Expr} {tl : TE} (K : PySem.W.Frag) (hl : PE X l tl) (h : X.K = K := by rfl) : PI X tg l (iTup K tl) := by
  subst h
  exact pi_tup hl
/-! ### names, deeds, signatures -/
def letters : Str := "abcdefghijklmnopqrst"
structure Name (z : Str) : Prop where
  l1 : 1 ≤ z.length
  l4 : z.length ≤ 4
  abc : ∀ c ∈ z.cps.toList, c ∈ letters.cps.toList
def sp_is_name : Sp := spX (fun (z : Str) vs _ => vs = [.str z] ∧ Name z) (fun _ v _ => v = .bl true)
theorem c_is_name (T : Txt mg) (D : Df K mg "is_name" s_is_name ["thing"]) : Cl P w K mg base 1 "is_name" sp_is_name := by
  refine cl_of (k := 0) D sc_is_name (fun vs H Q E h => ?_) (fun f cdv A outer s H vs Q E hr h => ?_)
  · obtain ⟨p, ⟨rfl, _⟩, _⟩ := h
    rfl
  · obtain ⟨z, ⟨rfl, hz⟩, q⟩ := h
    refine ⟨_, (pss_cons (ps_if (PW.pt (pw_or (pt_not (pt_val (pe_callB call_isi (by rfl) T.z_isinstance (by decide +kernel) (pa_cons (pv 0) (pa_cons (pe_ty "str" (by rfl) T.z_str (by decide +kernel)) pa_nil))))) (pw_or1 (pt_not (pt_chain op_le op_le pe_int (pe_callB call_len_str (by rfl) T.z_len PySem.boot_len (pa_cons (pv 0) pa_nil)) (pe_gi (by rfl) T.c_MOST_NAME))))))
        (pss_one (ps_ret pe_bl))
        pss_nil)
      (pss_one (ps_ret (pe_callB (cr_all rfl) (by rfl) T.z_all (by decide +kernel) (pa_cons (pe_lc (own := [("sign", 1)]) (g := (gName 1)) (by rfl) sc_is_name.nd (pi_str (pv 0)) (blkOk_by (own := [("sign", 1)]) (N := ["thing", "sign"]) (sc := defScope s_is_name) (by decide +kernel)) (fun _ _ _ _ _ => (pg_name (i := 1) sc_is_name.nd rfl (.inl rfl))) (fun _ _ _ _ _ => pts_nil) (fun _ _ _ _ _ => (pe_cmpR op_in_sign (pv 1) (pe_gs (by rfl) T.c_NAME_LETTERS) (by rfl)))) pa_nil))))), ?_⟩
    have h1 := hz.l1
    have h4 := hz.l4
    have hs : z.cps.size = z.length := rfl
    refine q_when (b := false) (et_is (et_or (et_not (et_val (ev_isi (ev_var rfl) ev_c (.ty _) (fun _ _ => tyx_str z) kit_ss))) (fun _ => et_not (et_test (ev_chain ev_c (ev_lenS (ev_var rfl) (by omega)) (fun _ => ev_c) rv_I0 (fun _ => rv_I0))))) ?_) (fun hb => by cases hb) (fun _ H1 e1 => ?_)
    · show (!true || !(decide ((1 : Int) ≤ (z.length : Int)) && decide ((z.length : Int) ≤ 4))) = false
      rw [decide_eq_true (by omega), decide_eq_true (by omega)]
      rfl
    · refine s_ret (ev_all (bs := List.replicate z.cps.size true) ?_) fun H2 e2 => q _ H2 (e1.trans e2) ?_
      · have e : (List.replicate z.cps.size true).map V.bl = (List.range z.cps.size).map (fun _ => V.bl true) := by
          rw [List.map_const', List.length_range, List.map_replicate]
        rw [e]
        refine el_lcS (ev_var rfl) (fun _ => .bl true) (by omega) (fun _ => rfl) (fun i c H2 e2 hc => ?_)
        refine ev_op (ev_var rfl) ev_c ?_
        have hm : c ∈ letters.cps.toList := hz.abc c (by
          obtain ⟨hi, e⟩ := Array.getElem?_eq_some_iff.mp hc
          rw [← e]
          exact Array.getElem_mem_toList hi)
        exact fun H3 _ Q q3 => ⟨c, letters, rfl, rfl, by rw [decide_eq_true hm]; exact q3 H3 (Ex.refl H3)⟩
      · show V.bl ((List.replicate z.cps.size true).all id) = V.bl true
        rw [show (List.replicate z.cps.size true).all id = true from List.all_eq_true.mpr (fun b hb => (List.mem_replicate.mp hb).2)]
def sp_is_deed (K : PySem.W.Frag) : Sp := spX (fun (p : Str × Nat) vs H => (∃ v, vs = [v] ∧ Deed K H v p) ∧ Name p.1 ∧ p.2 ≤ 2) (fun _ v _ => v = .bl true)
theorem c_is_deed (T : Txt mg) (D : Df K mg "is_deed" s_is_deed ["thing"]) (c_is_name : Cl P w K mg base 1 "is_name" sp_is_name) (c_is_below : Cl P w K mg base 2 "is_below" sp_is_below) : Cl P w K mg base 3 "is_deed" (sp_is_deed K) := by
  refine cl_of (k := 2) D sc_is_deed (fun vs H Q E h => ?_) (fun f cdv A outer s H vs Q E hr h => ?_)
  · obtain ⟨p, ⟨⟨v, rfl, _⟩, _⟩, _⟩ := h
    rfl
  · obtain ⟨⟨z, p⟩, ⟨⟨v, rfl, b, rfl, hb⟩, hz, hp⟩, q⟩ := h
    refine ⟨_, (pss_one (ps_ret (pe_and (pe_callB call_isi (by rfl) T.z_isinstance (by decide +kernel) (pa_cons (pv 0) (pa_cons (pe_ty "tuple" (by rfl) T.z_tuple (by decide +kernel)) pa_nil))) (pe_and (pe_cmpR op_eq (pe_callB call_len_seq (by rfl) T.z_len PySem.boot_len (pa_cons (pv 0) pa_nil)) pe_int (nomark _)) (pe_and (pe_cl c_is_name hr (by first | decide | omega) (by rfl) (pa_cons (pe_ix ix_tup (pv 0) pe_int (fun _ _ => rfl)) pa_nil)) (pe_one (pe_cl c_is_below hr (by first | decide | omega) (by rfl) (pa_cons (pe_ix ix_tup (pv 0) pe_int (fun _ _ => rfl)) (pa_cons (pe_op op_add (pe_gi (by rfl) T.c_MOST_PLACES) pe_int) pa_nil))))))))), ?_⟩
    refine s_ret (ev_andV (ev_isi (ev_var rfl) ev_c (.ty _) (fun _ e => tyx_tup (ex_t e hb)) kit_tt) (fun _ => ev_andV (ev_op (ev_lenT (ev_var rfl) hb) ev_c (rv_eq rfl)) (fun _ =>
      ev_andV (ev_callV (v := .bl true) z (ea_cons (ev_op (ev_var rfl) ev_c (rv_ixT hb (atI_vi (k := 0) rfl))) ea_nil) (fun _ _ => ⟨rfl, hz⟩) (fun _ _ p => p)) (fun _ =>
        ev_callV (v := .bl true) (((p : Nat) : Int), (3 : Int)) (ea_cons (ev_op (ev_var rfl) ev_c (rv_ixT hb (atI_vi (k := 1) rfl))) (ea_cons (ev_op ev_c ev_c rv_I0) ea_nil)) (fun _ _ => ⟨rfl, by show (0 : Int) ≤ (p : Int); omega, by show (p : Int) < 3; have : p ≤ 2 := hp; omega⟩) (fun _ _ p => p))))) fun H1 e => q _ H1 e rfl
/-- a signature as the law draws it -/
structure SigOk (sg : List (Str × Nat)) : Prop where
  l1 : 1 ≤ sg.length
  l4 : sg.length ≤ 4
  nm : ∀ p ∈ sg, Name p.1
  pl : ∀ p ∈ sg, p.2 ≤ 2
  nd : (sg.map (·.1)).Nodup
def sp_signature_wrong (K : PySem.W.Frag) : Sp := spX (fun (sg : List (Str × Nat)) vs H => (∃ v, vs = [v] ∧ Sig K H v sg) ∧ SigOk sg) (fun _ v _ => v = .non)
theorem c_signature_wrong (T : Txt mg) (D : Df K mg "signature_wrong" s_signature_wrong ["thing"]) (c_is_deed : Cl P w K mg base 3 "is_deed" (sp_is_deed K)) : Cl P w K mg base 4 "signature_wrong" (sp_signature_wrong K) := by
  refine cl_of (k := 3) D sc_signature_wrong (fun vs H Q E h => ?_) (fun f cdv A outer s H vs Q E hr h => ?_)
  · obtain ⟨p, ⟨⟨v, rfl, _⟩, _⟩, _⟩ := h
    rfl
  · obtain ⟨sg, ⟨⟨v, rfl, a, us, rfl, hS, hP⟩, ok⟩, q⟩ := h
    refine ⟨_, (pss_cons (ps_if (PW.pt (pw_or (pt_not (pt_val (pe_callB call_isi (by rfl) T.z_isinstance (by decide +kernel) (pa_cons (pv 0) (pa_cons (pe_ty "tuple" (by rfl) T.z_tuple (by decide +kernel)) pa_nil))))) (pw_or1 (pt_not (pt_chain op_le op_le pe_int (pe_callB call_len_seq (by rfl) T.z_len PySem.boot_len (pa_cons (pv 0) pa_nil)) (pe_gi (by rfl) T.c_MOST_DEEDS))))))
        (pss_one (ps_ret (pe_tup (pa_cons pe_str pa_nil))))
        pss_nil)
      (pss_cons (ps_for PassesOwn.never (by rfl) (pi_enumT (by rfl) T.z_enumerate (pa_cons (pv 0) pa_nil)) (pg_tup (by rfl) (pgs_cons (pg_name (i := 1) sc_signature_wrong.nd rfl (.inl rfl)) (pgs_cons (pg_name (i := 2) sc_signature_wrong.nd rfl (.inl rfl)) pgs_nil)))
        (pss_one (ps_if (pt_not (pt_val (pe_cl c_is_deed hr (by first | decide | omega) (by rfl) (pa_cons (pv 2) pa_nil))))
          (pss_one (ps_ret (pe_tup (pa_cons pe_str (pa_cons (pv 1) pa_nil)))))
          pss_nil)))
      (pss_cons (ps_setLc (i := 3) (own := [("deed", 2)]) (g := (gName 2)) (by rfl) sc_signature_wrong.nd rfl rfl (sw_true rfl rfl rfl (by decide +kernel)) (pi_tup (pv 0)) (blkOk_by (own := [("deed", 2)]) (N := ["thing", "k", "deed", "names", "name"]) (sc := defScope s_signature_wrong) (by decide +kernel)) (fun _ _ _ _ _ => (pg_name (i := 2) sc_signature_wrong.nd rfl (.inl rfl))) (fun _ _ _ _ _ => pts_nil) (fun _ _ _ _ _ => (pe_ix (ix_tupK K) (pv 2) pe_int (fun _ _ => rfl))))
      (pss_cons (ps_for PassesOwn.never (by rfl) (pi_enum (by rfl) T.z_enumerate (pa_cons (pv 3) pa_nil)) (pg_tup (by rfl) (pgs_cons (pg_name (i := 1) sc_signature_wrong.nd rfl (.inl rfl)) (pgs_cons (pg_name (i := 4) sc_signature_wrong.nd rfl (.inl rfl)) pgs_nil)))
        (pss_one (ps_if (pt_cmpR op_in_seq (pv 4) (pe_slice sl_list (pv 3) po_none (po_some (pv 1))) (by rfl))
          (pss_one (ps_ret (pe_tup (pa_cons pe_str (pa_cons (pv 1) pa_nil)))))
          pss_nil)))
      (pss_one (ps_ret pe_non)))))), ?_⟩
    have h1 := ok.l1
    have h4 := ok.l4
    have hl : us.length = sg.length := paired_len hP
    refine q_when (b := false) (et_is (et_or (et_not (et_val (ev_isi (ev_var rfl) ev_c (.ty _) (fun _ e => tyx_tup (ex_t e hS)) kit_tt))) (fun _ => et_not (et_test (ev_chain ev_c (ev_lenT (ev_var rfl) hS) (fun _ => ev_c) rv_I0 (fun _ => rv_I0))))) ?_) (fun hb => by cases hb) (fun _ H1 e1 => ?_)
    · show (!true || !(decide ((1 : Int) ≤ (us.length : Int)) && decide ((us.length : Int) ≤ 4))) = false
      rw [decide_eq_true (by omega), decide_eq_true (by omega)]
      rfl
    -- each is a deed
    refine q_enumT (ea_cons (ev_var rfl) ea_nil) (ex_t e1 hS) (fun i σ H' => Ex H H' ∧ ∃ y1 y2, σ = [some (.ref a), y1, y2, none, none]) (fun H2 e2 => ⟨e1.trans e2, none, none, rfl⟩) (fun i σ H' _ ⟨e, _⟩ => ex_t e hS) (fun i x σ H2 H3 hx ⟨e, y1, y2, hσ⟩ e3 => ?_) (fun σ H2 ⟨e2, y1, y2, hσ⟩ => ?_)
    · subst hσ
      have hi : i < sg.length := by rw [← hl]; exact (List.getElem?_eq_some_iff.mp hx).1
      obtain ⟨x', ex', dx⟩ := paired_get hP (List.getElem?_eq_getElem hi)
      have : x' = x := Option.some.inj (ex'.symm.trans hx)
      subst this
      have hm : sg[i] ∈ sg := List.getElem_mem hi
      have e03 : Ex H H3 := e.trans e3
      refine s_when (b := false) (et_is (et_not (et_val (ev_callV (v := .bl true) sg[i] (ea_cons (ev_var rfl) ea_nil) (fun H4 e4 => ⟨⟨_, rfl, dx.et (Dw.Ex.et (e03.trans e4))⟩, ok.nm _ hm, ok.pl _ hm⟩) (fun _ _ p => p)))) rfl) (fun hb => by cases hb) (fun _ H4 e4 => ⟨e03.trans e4, _, _, rfl⟩)
    · subst hσ
      -- the names
      have names : EvL (tLc (iTup K (tVar 0)) (gName 2) tYes (tOp (rIxT K) (tVar 2) (tC (.int 0))) [2]) [some (.ref a), y1, y2, none, none] H2 ((List.range us.length).map fun i => .str (sg.getD i ("", 0)).1) := by
        refine el_lcT (ev_var rfl) (ex_t e2 hS) _ (by omega) (fun _ => rfl) (fun i x H3 e3 hx => ?_)
        have hi : i < sg.length := by rw [← hl]; exact (List.getElem?_eq_some_iff.mp hx).1
        obtain ⟨x', ex', b, hb, hd⟩ := paired_get hP (List.getElem?_eq_getElem hi)
        have : x' = x := Option.some.inj (ex'.symm.trans hx)
        subst this
        subst hb
        rw [List.getD_eq_getElem?_getD, List.getElem?_eq_getElem hi]
        exact ev_op (ev_var rfl) ev_c (rv_ixT (ex_t (e2.trans e3) hd) (atI_vi (k := 0) rfl))
      rw [hl] at names
      have eN : ((List.range sg.length).map fun i => V.str (sg.getD i ("", 0)).1) = (sg.map (·.1)).map V.str := by
        apply List.ext_getElem?
        intro i
        by_cases hi : i < sg.length
        · rw [List.getElem?_map, List.getElem?_range hi, List.getElem?_map, List.getElem?_map, List.getElem?_eq_getElem hi]
          show some (V.str (sg.getD i ("", 0)).1) = some (V.str sg[i].1)
          rw [List.getD_eq_getElem?_getD, List.getElem?_eq_getElem hi]
          rfl
        · rw [List.getElem?_eq_none_iff.mpr (by simp; omega), List.getElem?_eq_none_iff.mpr (by simp; omega)]
      rw [eN] at names
      refine q_asgL names fun p H3 np e3 hp => ?_
      have e03 : Ex H H3 := e2.trans e3
      refine q_enumL (K := K) (ea_cons (ev_var rfl) ea_nil) (sq_of hp) (fun i σ H' => Ex H3 H' ∧ ∃ z1 z4, σ = [some (.ref a), z1, y2, some (.ref p), z4]) (fun H4 e4 => ⟨e4, _, _, rfl⟩) (fun i σ H' _ ⟨e, _⟩ => ex_l e (sq_of hp)) (fun i x σ H4 H5 hx ⟨e4, z1, z4, hσ⟩ e5 => ?_) (fun σ H4 ⟨e4, z1, z4, hσ⟩ => ?_)
      · subst hσ
        have hi : i < (sg.map (·.1)).length := by simpa using (List.getElem?_eq_some_iff.mp hx).1
        have ex : x = .str (sg.map (·.1))[i] := by
          rw [List.getElem?_map, List.getElem?_eq_getElem hi] at hx
          exact (Option.some.inj hx).symm
        subst ex
        have cut : cutV ((sg.map (·.1)).map V.str) none (some (i : Int)) = ((sg.map (·.1)).take i).map V.str := by
          unfold cutV
          rw [HT.sIx_none, HT.sIx_nat, List.length_map, Nat.sub_zero, List.drop_zero, ← List.map_take, Nat.min_eq_left (Nat.le_of_lt hi)]
        have flat : (((sg.map (·.1)).take i).map V.str).all flatV = true := List.all_eq_true.mpr (fun v hv => by
          obtain ⟨z, _, rfl⟩ := List.mem_map.mp hv
          rfl)
        have out : inV (.str (sg.map (·.1))[i]) (((sg.map (·.1)).take i).map V.str) = false := by
          unfold inV
          rw [List.any_eq_false]
          intro v hv
          obtain ⟨z, hz, rfl⟩ := List.mem_map.mp hv
          show ¬ (z == (sg.map (·.1))[i]) = true
          intro he
          have he' : z = (sg.map (·.1))[i] := eq_of_beq he
          obtain ⟨j, hj, ej⟩ := List.mem_take_iff_getElem.mp hz
          have hji : j < i := by omega
          have := (List.getElem_inj ok.nd).mp (ej.trans he')
          omega
        have eL : Ex H3 H5 := e4.trans e5
        have sl : EvL (tSl (rSlL K) (tVar 3) tNoPart (tPart (tVar 1))) [some (.ref a), some (vi i), y2, some (.ref p), some (.str (sg.map (·.1))[i])] H5 (((sg.map (·.1)).take i).map V.str) := by
          rw [← cut]
          exact el_sl (ev_var rfl) eo_none (eo_some (ev_var rfl)) (ex_l eL (sq_of hp))
        exact s_when (b := false) (et_is (et_test (ev_opL (ev_var rfl) sl (fun r H6 hr6 _ => rv_isL (sq_of hr6) rfl flat))) out) (fun hb => by cases hb) (fun _ H6 e6 => ⟨eL.trans e6, _, _, rfl⟩)
      · subst hσ
        exact s_ret ev_c fun H5 e5 => q _ H5 ((e03.trans e4).trans e5) rfl
def sp_need_signature (K : PySem.W.Frag) : Sp := spX (fun (sg : List (Str × Nat)) vs H => (∃ v, vs = [v] ∧ Sig K H v sg) ∧ SigOk sg) (fun _ v _ => v = .non)
theorem c_need_signature (T : Txt mg) (D : Df K mg "need_signature" s_need_signature ["signature"]) (c_signature_wrong : Cl P w K mg base 4 "signature_wrong" (sp_signature_wrong K)) : Cl P w K mg base 5 "need_signature" (sp_need_signature K) := by
  refine cl_of (k := 4) D sc_need_signature (fun vs H Q E h => ?_) (fun f cdv A outer s H vs Q E hr h => ?_)
  · obtain ⟨p, ⟨⟨v, rfl, _⟩, _⟩, _⟩ := h
    rfl
  · obtain ⟨sg, ⟨⟨v, rfl, hS⟩, ok⟩, q⟩ := h
    refine ⟨_, (pss_one (ps_if (pt_cmpR op_notN (pe_cl c_signature_wrong hr (by first | decide | omega) (by rfl) (pa_cons (pv 0) pa_nil)) pe_non (nomark _))
        (pss_one ps_never)
        pss_nil)), ?_⟩
    exact s_when (b := false) (et_is (et_isN (ev_callV (v := .non) sg (ea_cons (ev_var rfl) ea_nil) (fun H1 e1 => ⟨⟨_, rfl, hS.ex e1⟩, ok⟩) (fun _ _ p => p))) rfl) (fun hb => by cases hb) (fun _ H1 e1 => q _ H1 e1 rfl)
/-! ### models looked at -/
def sp_is_size : Sp := spX (fun (n : Nat) vs _ => vs = [vi n] ∧ 1 ≤ n ∧ n ≤ 6) (fun _ v _ => v = .bl true)
theorem c_is_size (T : Txt mg) (D : Df K mg "is_size" s_is_size ["thing"]) (c_is_whole : Cl P w K mg base 1 "is_whole" sp_is_whole) : Cl P w K mg base 2 "is_size" sp_is_size := by
  refine cl_of (k := 1) D sc_is_size (fun vs H Q E h => ?_) (fun f cdv A outer s H vs Q E hr h => ?_)
  · obtain ⟨p, ⟨rfl, _⟩, _⟩ := h
    rfl
  · obtain ⟨n, ⟨rfl, h1, h6⟩, q⟩ := h
    refine ⟨_, (pss_one (ps_ret (pe_and (pe_cl c_is_whole hr (by first | decide | omega) (by rfl) (pa_cons (pv 0) pa_nil)) (pe_one (pe_chain op_le op_le pe_int (pv 0) (pe_gi (by rfl) T.c_MOST_SIZE)))))), ?_⟩
    refine s_ret (ev_andV (ev_callV (v := .bl true) (n : Int) (ea_cons (ev_var rfl) ea_nil) (fun _ _ => rfl) (fun _ _ p => p)) (fun _ => ev_chain ev_c (ev_var rfl) (fun _ => ev_c) rv_I0 (fun _ => rv_I0))) fun H1 e => q _ H1 e ?_
    show V.bl (true && (decide ((1 : Int) ≤ (n : Int)) && decide ((n : Int) ≤ 6))) = _
    rw [decide_eq_true (by omega), decide_eq_true (by omega)]
    rfl
def sp_first_odd_cell (K : PySem.W.Frag) : Sp := spX (fun (p : Nat × List (List Nat)) vs H => (∃ v, vs = [vi p.1, v] ∧ Tabs K H v p.2) ∧ ∀ t ∈ p.2, ∀ k ∈ t, k < p.1) (fun _ v _ => v = .non)
theorem c_first_odd_cell (T : Txt mg) (D : Df K mg "first_odd_cell" s_first_odd_cell ["size", "tables"]) (c_is_below : Cl P w K mg base 2 "is_below" sp_is_below) : Cl P w K mg base 3 "first_odd_cell" (sp_first_odd_cell K) := by
  refine cl_of (k := 2) D sc_first_odd_cell (fun vs H Q E h => ?_) (fun f cdv A outer s H vs Q E hr h => ?_)
  · obtain ⟨p, ⟨⟨v, rfl, _⟩, _⟩, _⟩ := h
    rfl
  · obtain ⟨⟨n, ts⟩, ⟨⟨v, rfl, a, us, rfl, hS, hP⟩, low⟩, q⟩ := h
    refine ⟨_, (pss_cons (ps_for PassesOwn.never (by rfl) (pi_enumT (by rfl) T.z_enumerate (pa_cons (pv 1) pa_nil)) (pg_tup (by rfl) (pgs_cons (pg_name (i := 2) sc_first_odd_cell.nd rfl (.inl rfl)) (pgs_cons (pg_name (i := 3) sc_first_odd_cell.nd rfl (.inl rfl)) pgs_nil)))
        (pss_one (ps_for PassesOwn.never (by rfl) (pi_enumT (by rfl) T.z_enumerate (pa_cons (pv 3) pa_nil)) (pg_tup (by rfl) (pgs_cons (pg_name (i := 4) sc_first_odd_cell.nd rfl (.inl rfl)) (pgs_cons (pg_name (i := 5) sc_first_odd_cell.nd rfl (.inl rfl)) pgs_nil)))
          (pss_one (ps_if (pt_not (pt_val (pe_cl c_is_below hr (by first | decide | omega) (by rfl) (pa_cons (pv 5) (pa_cons (pv 0) pa_nil)))))
            (pss_one (ps_ret (pe_tup (pa_cons (pv 2) (pa_cons (pv 4) pa_nil)))))
            pss_nil)))))
      (pss_one (ps_ret pe_non))), ?_⟩
    refine q_enumT (ea_cons (ev_var rfl) ea_nil) hS (fun i σ H' => Ex H H' ∧ ∃ y2 y3 y4 y5, σ = [some (vi n), some (.ref a), y2, y3, y4, y5]) (fun H2 e2 => ⟨e2, none, none, none, none, rfl⟩) (fun i σ H' _ ⟨e, _⟩ => ex_t e hS) (fun i x σ H2 H3 hx ⟨e, y2, y3, y4, y5, hσ⟩ e3 => ?_) (fun σ H2 ⟨e2, _, _, _, _, hσ⟩ => ?_)
    · subst hσ
      have hi : i < ts.length := by rw [← paired_len hP]; exact (List.getElem?_eq_some_iff.mp hx).1
      obtain ⟨x', ex', b, hb, hd⟩ := paired_get hP (List.getElem?_eq_getElem hi)
      have : x' = x := Option.some.inj (ex'.symm.trans hx)
      subst this
      subst hb
      have e03 : Ex H H3 := e.trans e3
      refine s_enumT (ea_cons (ev_var rfl) ea_nil) (ex_t e03 hd) (fun j σ H' => Ex H H' ∧ ∃ y4 y5, σ = [some (vi n), some (.ref a), some (vi i), some (.ref b), y4, y5]) (fun H4 e4 => ⟨e03.trans e4, _, _, rfl⟩) (fun j σ H' _ ⟨e, _⟩ => ex_t e hd) (fun j y σ H4 H5 hy ⟨e4, z4, z5, hσ⟩ e5 => ?_) (fun σ H4 ⟨e4, z4, z5, hσ⟩ => ?_)
      · subst hσ
        have hj : j < ts[i].length := by simpa using (List.getElem?_eq_some_iff.mp hy).1
        have ey : y = vi ts[i][j] := by
          rw [List.getElem?_map, List.getElem?_eq_getElem hj] at hy
          exact (Option.some.inj hy).symm
        subst ey
        have lo : ts[i][j] < n := low _ (List.getElem_mem hi) _ (List.getElem_mem hj)
        exact s_when (b := false) (et_is (et_not (et_val (ev_callV (v := .bl true) (((ts[i][j] : Nat) : Int), (n : Int)) (ea_cons (ev_var rfl) (ea_cons (ev_var rfl) ea_nil)) (fun H4 e4 => ⟨rfl, by show (0 : Int) ≤ ((ts[i][j] : Nat) : Int); omega, by show ((ts[i][j] : Nat) : Int) < (n : Int); omega⟩) (fun _ _ p => p)))) rfl) (fun hb => by cases hb) (fun _ H6 e6 => ⟨(e4.trans e5).trans e6, _, _, rfl⟩)
      · subst hσ
        exact ⟨e4, _, _, _, _, rfl⟩
    · subst hσ
      exact s_ret ev_c fun H3 e3 => q _ H3 (e2.trans e3) rfl
/-- a model of a signature, as tables of natural numbers -/
structure MdlOk (sg : List (Str × Nat)) (n : Nat) (ts : List (List Nat)) : Prop where
  n1 : 1 ≤ n
  n6 : n ≤ 6
  len : ts.length = sg.length
  tab : ∀ i (h1 : i < sg.length) (h2 : i < ts.length), Tab n sg[i].2 ts[i]
theorem MdlOk.low {sg : List (Str × Nat)} {n : Nat} {ts : List (List Nat)} (m : MdlOk sg n ts) : ∀ t ∈ ts, ∀ k ∈ t, k < n := by
  intro t ht k hk
  obtain ⟨i, hi, e⟩ := List.mem_iff_getElem.mp ht
  subst e
  have tb := m.tab i (by rw [← m.len]; exact hi) hi
  obtain ⟨j, hj, e⟩ := List.mem_iff_getElem.mp hk
  have h := tb.low j (by rw [← tb.len]; exact hj)
  have g1 := g_eq hj
  rw [List.getElem?_eq_getElem hj, e] at g1
  rw [← Option.some.inj g1] at h
  exact h
def sp_model_wrong (K : PySem.W.Frag) : Sp := spX (fun (p : List (Str × Nat) × Nat × List (List Nat)) vs H => (∃ u v, vs = [u, v] ∧ Sig K H u p.1 ∧ Mdl K H v p.2.1 p.2.2) ∧ SigOk p.1 ∧ MdlOk p.1 p.2.1 p.2.2) (fun _ v _ => v = .non)
theorem c_model_wrong (T : Txt mg) (D : Df K mg "model_wrong" s_model_wrong ["signature", "thing"]) (c_need_signature : Cl P w K mg base 5 "need_signature" (sp_need_signature K)) (c_is_size : Cl P w K mg base 2 "is_size" sp_is_size)
    (c_power : Cl P w K mg base 1 "power" sp_power) (c_first_odd_cell : Cl P w K mg base 3 "first_odd_cell" (sp_first_odd_cell K)) : Cl P w K mg base 6 "model_wrong" (sp_model_wrong K) := by
  refine cl_of (k := 5) D sc_model_wrong (fun vs H Q E h => ?_) (fun f cdv A outer s H vs Q E hr h => ?_)
  · obtain ⟨p, ⟨⟨u, v, rfl, _⟩, _⟩, _⟩ := h
    rfl
  · obtain ⟨⟨sg, n, ts⟩, ⟨⟨u, v, rfl, hG, hM⟩, sok, mok⟩, q⟩ := h
    refine ⟨_, (pss_cons (ps_expr (pe_cl c_need_signature hr (by first | decide | omega) (by rfl) (pa_cons (pv 0) pa_nil)))
      (pss_cons (ps_if (PW.pt (pw_or (pt_not (pt_val (pe_callB call_isi (by rfl) T.z_isinstance (by decide +kernel) (pa_cons (pv 1) (pa_cons (pe_ty "tuple" (by rfl) T.z_tuple (by decide +kernel)) pa_nil))))) (pw_or1 (pt_cmpR op_ne (pe_callB call_len_seq (by rfl) T.z_len PySem.boot_len (pa_cons (pv 1) pa_nil)) pe_int (nomark _)))))
        (pss_one (ps_ret (pe_tup (pa_cons pe_str pa_nil))))
        pss_nil)
      (pss_cons (ps_asg (pv 1) (pg_tup (by rfl) (pgs_cons (pg_name (i := 2) sc_model_wrong.nd rfl (.inl rfl)) (pgs_cons (pg_name (i := 3) sc_model_wrong.nd rfl (.inl rfl)) pgs_nil))))
      (pss_cons (ps_if (pt_not (pt_val (pe_cl c_is_size hr (by first | decide | omega) (by rfl) (pa_cons (pv 2) pa_nil))))
        (pss_one (ps_ret (pe_tup (pa_cons pe_str pa_nil))))
        pss_nil)
      (pss_cons (ps_if (PW.pt (pw_or (pt_not (pt_val (pe_callB call_isi (by rfl) T.z_isinstance (by decide +kernel) (pa_cons (pv 3) (pa_cons (pe_ty "tuple" (by rfl) T.z_tuple (by decide +kernel)) pa_nil))))) (pw_or1 (pt_cmpR op_ne (pe_callB call_len_seq (by rfl) T.z_len PySem.boot_len (pa_cons (pv 3) pa_nil)) (pe_callB call_len_seq (by rfl) T.z_len PySem.boot_len (pa_cons (pv 0) pa_nil)) (nomark _)))))
        (pss_one (ps_ret (pe_tup (pa_cons pe_str pa_nil))))
        pss_nil)
      (pss_cons (ps_for PassesOwn.never (by rfl) (pi_enumT (by rfl) T.z_enumerate (pa_cons (pv 0) pa_nil)) (pg_tup (by rfl) (pgs_cons (pg_name (i := 4) sc_model_wrong.nd rfl (.inl rfl)) (pgs_cons (pg_name (i := 5) sc_model_wrong.nd rfl (.inl rfl)) pgs_nil)))
        (pss_one (ps_if (PW.pt (pw_or (pt_not (pt_val (pe_callB call_isi (by rfl) T.z_isinstance (by decide +kernel) (pa_cons (pe_ix ix_tup (pv 3) (pv 4) (fun _ _ => rfl)) (pa_cons (pe_ty "tuple" (by rfl) T.z_tuple (by decide +kernel)) pa_nil))))) (pw_or1 (pt_cmpR op_ne (pe_callB call_len_seq (by rfl) T.z_len PySem.boot_len (pa_cons (pe_ix ix_tup (pv 3) (pv 4) (fun _ _ => rfl)) pa_nil)) (pe_cl c_power hr (by first | decide | omega) (by rfl) (pa_cons (pv 2) (pa_cons (pe_ix ix_tup (pv 5) pe_int (fun _ _ => rfl)) pa_nil))) (nomark _)))))
          (pss_one (ps_ret (pe_tup (pa_cons pe_str (pa_cons (pv 4) pa_nil)))))
          pss_nil)))
      (pss_cons (ps_set (i := 6) sc_model_wrong.nd rfl (.inl rfl) (pe_cl c_first_odd_cell hr (by first | decide | omega) (by rfl) (pa_cons (pv 2) (pa_cons (pv 3) pa_nil))))
      (pss_one (ps_ret (pe_ifExp (pt_cmpR op_isN (pv 6) pe_non (nomark _)) pe_non (pe_tup (pa_cons pe_str (pa_cons (pe_ix ix_tup (pv 6) pe_int (fun _ _ => rfl)) (pa_cons (pe_ix ix_tup (pv 6) pe_int (fun _ _ => rfl)) pa_nil)))))))))))))), ?_⟩
    obtain ⟨a, us, rfl, hS, hP⟩ := id hG
    obtain ⟨b, tv, rfl, hB, c, tvs, rfl, hC, hT⟩ := id hM
    have n1 := mok.n1
    have n6 := mok.n6
    have lS : us.length = sg.length := paired_len hP
    have lT : tvs.length = ts.length := paired_len hT
    have lM : ts.length = sg.length := mok.len
    refine q_drop (ev_callV (v := .non) sg (ea_cons (ev_var rfl) ea_nil) (fun H1 e1 => ⟨⟨_, rfl, hG.ex e1⟩, sok⟩) (fun _ _ p => p)) fun H1 e1 => ?_
    refine q_when (b := false) (et_is (et_or (et_not (et_val (ev_isi (ev_var rfl) ev_c (.ty _) (fun _ e => tyx_tup (ex_t (e1.trans e) hB)) kit_tt))) (fun _ => et_test (ev_op (ev_lenT (ev_var rfl) (ex_t e1 hB)) ev_c (rv_ne rfl)))) rfl) (fun hb => by cases hb) (fun _ H2 e2 => ?_)
    have e02 := e1.trans e2
    -- size, tables = thing
    refine ⟨.ref b, rfl, b, _, rfl, ex_t e02 hB, rfl, _, _, rfl, _, _, rfl, rfl, ?_⟩
    refine q_when (b := false) (et_is (et_not (et_val (ev_callV (v := .bl true) n (ea_cons (ev_var rfl) ea_nil) (fun _ _ => ⟨rfl, n1, n6⟩) (fun _ _ p => p)))) rfl) (fun hb => by cases hb) (fun _ H3 e3 => ?_)
    have e03 := e02.trans e3
    refine q_when (b := false) (et_is (et_or (et_not (et_val (ev_isi (ev_var rfl) ev_c (.ty _) (fun _ e => tyx_tup (ex_t (e03.trans e) hC)) kit_tt))) (fun _ => et_test (ev_op (ev_lenT (ev_var rfl) (ex_t e03 hC)) (ev_lenT (ev_var rfl) (ex_t e03 hS)) (rv_ne rfl)))) ?_) (fun hb => by cases hb) (fun _ H4 e4 => ?_)
    · show (!true || !decide (V.int (tvs.length : Int) = V.int (us.length : Int))) = false
      rw [lT, lS, lM, decide_eq_true rfl]
      rfl
    have e04 := e03.trans e4
    refine q_enumT (ea_cons (ev_var rfl) ea_nil) (ex_t e04 hS) (fun i σ H' => Ex H H' ∧ ∃ y4 y5, σ = [some (.ref a), some (.ref b), some (vi n), some (.ref c), y4, y5, none]) (fun H5 e5 => ⟨e04.trans e5, none, none, rfl⟩) (fun i σ H' _ ⟨e, _⟩ => ex_t e hS) (fun i x σ H5 H6 hx ⟨e, y4, y5, hσ⟩ e6 => ?_) (fun σ H5 ⟨e5, y4, y5, hσ⟩ => ?_)
    · subst hσ
      have hi : i < sg.length := by rw [← lS]; exact (List.getElem?_eq_some_iff.mp hx).1
      have hi2 : i < ts.length := by rw [lM]; exact hi
      obtain ⟨x', ex', d, hd, dd⟩ := paired_get hP (List.getElem?_eq_getElem hi)
      have : x' = x := Option.some.inj (ex'.symm.trans hx)
      subst this
      subst hd
      obtain ⟨y', ey', r, hr', rr⟩ := paired_get hT (List.getElem?_eq_getElem hi2)
      subst hr'
      have e06 : Ex H H6 := e.trans e6
      have tb := mok.tab i hi hi2
      have p2 : sg[i].2 ≤ 2 := sok.pl _ (List.getElem_mem hi)
      have tk : Ev (tOp (rIxT K) (tVar 3) (tVar 4)) [some (.ref a), some (.ref b), some (vi n), some (.ref c), some (vi i), some (.ref d), none] H6 (.ref r) := ev_op (ev_var rfl) (ev_var rfl) (rv_ixT (ex_t e06 hC) (atI_vi ey'))
      refine s_when (b := false) (et_is (et_or (et_not (et_val (ev_isi tk ev_c (.ty _) (fun _ e => tyx_tup (ex_t (e06.trans e) rr)) kit_tt))) (fun _ => et_test (ev_op (ev_lenT tk (ex_t e06 rr)) (ev_callV (v := vi (n ^ sg[i].2)) (n, sg[i].2) (ea_cons (ev_var rfl) (ea_cons (ev_op (ev_var rfl) ev_c (rv_ixT (ex_t e06 dd) (atI_vi (k := 1) rfl))) ea_nil)) (fun _ _ => ⟨rfl, n6, p2⟩) (fun _ _ p => p)) (rv_ne rfl)))) ?_) (fun hb => by cases hb) (fun _ H7 e7 => ⟨e06.trans e7, _, _, rfl⟩)
      show (!true || !decide (V.int (((ts[i].map vi).length : Nat) : Int) = vi (n ^ sg[i].2))) = false
      rw [List.length_map, tb.len, decide_eq_true rfl]
      rfl
    · subst hσ
      refine q_asg (ev_callV (v := .non) (n, ts) (ea_cons (ev_var rfl) (ea_cons (ev_var rfl) ea_nil)) (fun H6 e6 => ⟨⟨_, rfl, c, tvs, rfl, ex_t (e5.trans e6) hC, paired_imp (fun _ _ z => z.ex (e5.trans e6)) hT⟩, mok.low⟩) (fun _ _ p => p)) fun H6 e6 => ?_
      refine s_ret (ev_if (b := true) ?_ (fun _ => ev_c) (fun hb => by cases hb)) fun H7 e7 => q _ H7 ((e5.trans e6).trans e7) rfl
      exact fun H7 e7 Q q => ⟨_, rfl, rfl, _, rfl, q H7 (Ex.refl H7)⟩
def sp_need_model (K : PySem.W.Frag) : Sp := spX (fun (p : List (Str × Nat) × Nat × List (List Nat)) vs H => (∃ u v, vs = [u, v] ∧ Sig K H u p.1 ∧ Mdl K H v p.2.1 p.2.2) ∧ SigOk p.1 ∧ MdlOk p.1 p.2.1 p.2.2) (fun _ v _ => v = .non)
theorem c_need_model (T : Txt mg) (D : Df K mg "need_model" s_need_model ["signature", "model"]) (c_model_wrong : Cl P w K mg base 6 "model_wrong" (sp_model_wrong K)) : Cl P w K mg base 7 "need_model" (sp_need_model K) := by
  refine cl_of (k := 6) D sc_need_model (fun vs H Q E h => ?_) (fun f cdv A outer s H vs Q E hr h => ?_)
  · obtain ⟨p, ⟨⟨u, v, rfl, _⟩, _⟩, _⟩ := h
    rfl
  · obtain ⟨p, ⟨⟨u, v, rfl, hG, hM⟩, sok, mok⟩, q⟩ := h
    refine ⟨_, (pss_one (ps_if (pt_cmpR op_notN (pe_cl c_model_wrong hr (by first | decide | omega) (by rfl) (pa_cons (pv 0) (pa_cons (pv 1) pa_nil))) pe_non (nomark _))
        (pss_one ps_never)
        pss_nil)), ?_⟩
    exact s_when (b := false) (et_is (et_isN (ev_callV (v := .non) p (ea_cons (ev_var rfl) (ea_cons (ev_var rfl) ea_nil)) (fun H1 e1 => ⟨⟨_, _, rfl, hG.ex e1, hM.ex e1⟩, sok, mok⟩) (fun _ _ p => p))) rfl) (fun hb => by cases hb) (fun _ H1 e1 => q _ H1 e1 rfl)
end
end K20
end
section
namespace K20
open PySem PySem.Spec PyProof.Rows L2 Evl Dw M20
/-! ### more mathematics -/
/-- the first i numbers met -/
def met (n : Nat) (o : List Nat) (i : Nat) : List Bool := (List.range n).map fun k => decide (o.idxOf k < i)
theorem met_0 (n : Nat) (o : List Nat) : met n o 0 = List.replicate n false := by
  unfold met
  rw [show (fun k => decide (o.idxOf k < 0)) = fun _ => false from funext fun k => decide_eq_false (Nat.not_lt_zero _), List.map_const', List.length_range]
theorem met_at {n : Nat} {o : List Nat} (h : Ord n o) {i : Nat} (hi : i < n) : (met n o i)[g o i]? = some false := by
  unfold met
  rw [List.getElem?_map, List.getElem?_range (h.low i hi)]
  show some (decide (o.idxOf (g o i) < i)) = some false
  rw [idx_of h hi, decide_eq_false (Nat.lt_irrefl _)]
theorem idx_is {n : Nat} {o : List Nat} (h : Ord n o) {k i : Nat} (hk : k < n) (e : o.idxOf k = i) : g o i = k := by
  have := g_bk h hk
  rw [bk, g_map (by rw [h.len]; exact hk), e] at this
  exact this
theorem met_set {n : Nat} {o : List Nat} (h : Ord n o) {i : Nat} (hi : i < n) : (met n o i).set (g o i) true = met n o (i + 1) := by
  apply List.ext_getElem?
  intro k
  have hl : (met n o i).length = n := by simp [met]
  rw [List.getElem?_set, hl]
  by_cases hk : k < n
  · have e2 : (met n o (i + 1))[k]? = some (decide (o.idxOf k < i + 1)) := by
      unfold met
      rw [List.getElem?_map, List.getElem?_range hk]
      rfl
    have e1 : (met n o i)[k]? = some (decide (o.idxOf k < i)) := by
      unfold met
      rw [List.getElem?_map, List.getElem?_range hk]
      rfl
    rw [e2]
    by_cases e : g o i = k
    · rw [if_pos e, if_pos (by rw [e]; exact hk), ← e, idx_of h hi, decide_eq_true (Nat.lt_succ_self _)]
    · rw [if_neg e, e1]
      have ne : o.idxOf k ≠ i := fun z => e (idx_is h hk z)
      by_cases q : o.idxOf k < i
      · rw [decide_eq_true q, decide_eq_true (Nat.lt_succ_of_lt q)]
      · rw [decide_eq_false q, decide_eq_false (by omega)]
  · rw [List.getElem?_eq_none_iff.mpr (show (met n o (i + 1)).length ≤ k by simp [met]; omega)]
    have := h.low i hi
    rw [if_neg (by omega), List.getElem?_eq_none_iff.mpr (by rw [hl]; omega)]
/-- the first i numbers called back -/
def bks (n : Nat) (o : List Nat) (i : Nat) : List Nat := (List.range n).map fun k => if o.idxOf k < i then o.idxOf k else 0
theorem bks_0 (n : Nat) (o : List Nat) : bks n o 0 = List.replicate n 0 := by
  unfold bks
  rw [show (fun k => if o.idxOf k < 0 then o.idxOf k else 0) = fun _ => 0 from funext fun k => if_neg (Nat.not_lt_zero _), List.map_const', List.length_range]
theorem bks_len (n : Nat) (o : List Nat) (i : Nat) : (bks n o i).length = n := by simp [bks]
theorem bks_set {n : Nat} {o : List Nat} (h : Ord n o) {i : Nat} (hi : i < n) : (bks n o i).set (g o i) i = bks n o (i + 1) := by
  apply List.ext_getElem?
  intro k
  have hl : (bks n o i).length = n := bks_len n o i
  rw [List.getElem?_set, hl]
  by_cases hk : k < n
  · have e2 : (bks n o (i + 1))[k]? = some (if o.idxOf k < i + 1 then o.idxOf k else 0) := by
      unfold bks
      rw [List.getElem?_map, List.getElem?_range hk]
      rfl
    have e1 : (bks n o i)[k]? = some (if o.idxOf k < i then o.idxOf k else 0) := by
      unfold bks
      rw [List.getElem?_map, List.getElem?_range hk]
      rfl
    rw [e2]
    by_cases e : g o i = k
    · rw [if_pos e, if_pos (by rw [e]; exact hk), ← e, idx_of h hi, if_pos (Nat.lt_succ_self _)]
    · rw [if_neg e, e1]
      have ne : o.idxOf k ≠ i := fun z => e (idx_is h hk z)
      by_cases q : o.idxOf k < i
      · rw [if_pos q, if_pos (Nat.lt_succ_of_lt q)]
      · rw [if_neg q, if_neg (by omega)]
  · rw [List.getElem?_eq_none_iff.mpr (show (bks n o (i + 1)).length ≤ k by rw [bks_len]; omega)]
    have := h.low i hi
    rw [if_neg (by omega), List.getElem?_eq_none_iff.mpr (by rw [hl]; omega)]
theorem bks_all {n : Nat} {o : List Nat} (h : Ord n o) : bks n o n = bk o := by
  unfold bks bk
  rw [h.len]
  apply List.map_congr_left
  intro k hk
  have hk' := List.mem_range.mp hk
  rw [if_pos (by rw [← h.len]; exact List.idxOf_lt_length_of_mem (hits n o h k hk'))]
theorem flat_range {α : Type} (m : Nat) (hm : 0 < m) (f : Nat → Nat → α) : ∀ n, ((List.range n).flatMap fun i => (List.range m).map (f i)) = (List.range (n * m)).map fun s => f (s / m) (s % m)
  | 0 => by rw [Nat.zero_mul]; rfl
  | n + 1 => by
    rw [List.range_succ, List.flatMap_append, flat_range m hm f n, List.flatMap_singleton, Nat.add_mul, Nat.one_mul, List.range_add, List.map_append, List.map_map]
    congr 1
    apply List.map_congr_left
    intro k hk
    have hk' := List.mem_range.mp hk
    show f n k = f ((n * m + k) / m) ((n * m + k) % m)
    rw [Nat.add_comm (n * m) k, Nat.add_mul_div_right _ _ hm, Nat.div_eq_of_lt hk', Nat.zero_add, Nat.add_mul_mod_self_right, Nat.mod_eq_of_lt hk']
theorem vi_get {l : List Nat} {k : Nat} (h : k < l.length) : (l.map vi)[k]? = some (vi (g l k)) := by
  rw [List.getElem?_map, g_eq h]
  rfl
section
variable {P : Program} {w : World} {K : PySem.W.Frag} {mg : Str → Option Value} {base : Heap}
/-! ### orders -/
def sp_is_order (K : PySem.W.Frag) : Sp := spX (fun (p : Nat × List Nat) vs H => (∃ v, vs = [v, vi p.1] ∧ Nats K H v p.2) ∧ Ord p.1 p.2 ∧ p.1 ≤ 6) (fun _ v _ => v = .bl true)
theorem c_are_unlike_below (T : Txt mg) (D : Df K mg "are_unlike_below" s_are_unlike_below ["things", "size"]) (c_is_below : Cl P w K mg base 2 "is_below" sp_is_below) : Cl P w K mg base 3 "are_unlike_below" (sp_is_order K) := by
  refine cl_of (k := 2) D sc_are_unlike_below (fun vs H Q E h => ?_) (fun f cdv A outer s H vs Q E hr h => ?_)
  · obtain ⟨p, ⟨⟨v, rfl, _⟩, _⟩, _⟩ := h
    rfl
  · obtain ⟨⟨n, o⟩, ⟨⟨v, rfl, a, rfl, hS⟩, ord, n6⟩, q⟩ := h
    refine ⟨_, (pss_cons (ps_set (i := 2) sc_are_unlike_below.nd rfl (.inl rfl) (pe_op op_rep (pe_lst (pa_cons pe_bl pa_nil)) (pv 1)))
      (pss_cons (ps_for PassesOwn.never (by rfl) (pi_tup (pv 0)) (pg_name (i := 3) sc_are_unlike_below.nd rfl (.inl rfl))
        (pss_cons (ps_if (PW.pt (pw_or (pt_not (pt_val (pe_cl c_is_below hr (by first | decide | omega) (by rfl) (pa_cons (pv 3) (pa_cons (pv 1) pa_nil))))) (pw_or1 (pt_val (pe_ix ix_list (pv 2) (pv 3) (fun _ _ => rfl))))))
          (pss_one (ps_ret pe_bl))
          pss_nil)
        (pss_one (ps_asg pe_bl (pg_sub (pv 2) (pv 3) set_list)))))
      (pss_one (ps_ret pe_bl)))), ?_⟩
    have n6' : n ≤ 6 := n6
    have ln : o.length = n := ord.len
    have lo : (o.map vi).length = n := by rw [List.length_map, ln]
    refine q_asgL (el_rep (el_lst (ea_cons ev_c ea_nil) (by decide)) (ev_var rfl) (by show 1 * n ≤ _; omega) (by omega)) fun m H2 nm e2 hm => ?_
    rw [rep1] at hm
    have nH : H m = none := nm
    refine q_forT (ev_var rfl) (ex_t e2 hS) (fun i σ H' => Ex H H' ∧ H' m = some (.lst ((met n o i).map V.bl)) ∧ ∃ y, σ = [some (.ref a), some (vi n), some (.ref m), y]) (fun H3 e3 => ⟨e2.trans e3, by rw [met_0, List.map_replicate]; exact e3 _ _ hm, none, rfl⟩) (fun i σ H' _ ⟨e, _⟩ => ex_t e hS) (fun i x σ H3 hx ⟨e3, hm3, y, hσ⟩ => ?_) (fun σ H3 ⟨e3, _, y, hσ⟩ => ?_)
    · subst hσ
      have hi : i < n := by rw [← lo]; exact (List.getElem?_eq_some_iff.mp hx).1
      have ex : x = vi (g o i) := by
        rw [vi_get (by rw [ln]; exact hi)] at hx
        exact (Option.some.inj hx).symm
      subst ex
      have low : g o i < n := ord.low i hi
      have ml : ((met n o i).map V.bl).length = n := by simp [met]
      have at0 : ((met n o i).map V.bl)[g o i]? = some (.bl false) := by rw [List.getElem?_map, met_at ord hi]; rfl
      refine q_when (b := false) (et_is (et_or (et_not (et_val (ev_callV (v := .bl true) (((g o i : Nat) : Int), (n : Int)) (ea_cons (ev_var rfl) (ea_cons (ev_var rfl) ea_nil)) (fun _ _ => ⟨rfl, by show (0 : Int) ≤ ((g o i : Nat) : Int); omega, by show ((g o i : Nat) : Int) < (n : Int); omega⟩) (fun _ _ p => p)))) (fun _ => et_val (ev_op (ev_var rfl) (ev_var rfl) (rv_ixL (sq_of hm3) (atI_vi at0))))) rfl) (fun hb => by cases hb) (fun _ H4 e4 => ?_)
      refine s_setL (e4 _ _ hm3) ev_c (ev_var rfl) (ev_var rfl) (by rw [ml]; exact low) (fun H5 e5 => ⟨((e3.trans e4).trans e5).mut nH, ?_, _, rfl⟩)
      rw [upd_same, ← met_set ord hi, List.map_set]
    · subst hσ
      exact s_ret ev_c fun H4 e4 => q _ H4 (e3.trans e4) rfl
theorem c_is_order (T : Txt mg) (D : Df K mg "is_order" s_is_order ["thing", "size"]) (c_are_unlike_below : Cl P w K mg base 3 "are_unlike_below" (sp_is_order K)) : Cl P w K mg base 4 "is_order" (sp_is_order K) := by
  refine cl_of (k := 3) D sc_is_order (fun vs H Q E h => ?_) (fun f cdv A outer s H vs Q E hr h => ?_)
  · obtain ⟨p, ⟨⟨v, rfl, _⟩, _⟩, _⟩ := h
    rfl
  · obtain ⟨⟨n, o⟩, ⟨⟨v, rfl, a, rfl, hS⟩, ord, n6⟩, q⟩ := h
    refine ⟨_, (pss_one (ps_ret (pe_and (pe_callB call_isi (by rfl) T.z_isinstance (by decide +kernel) (pa_cons (pv 0) (pa_cons (pe_ty "tuple" (by rfl) T.z_tuple (by decide +kernel)) pa_nil))) (pe_and (pe_cmpR op_eq (pe_callB call_len_seq (by rfl) T.z_len PySem.boot_len (pa_cons (pv 0) pa_nil)) (pv 1) (nomark _)) (pe_one (pe_cl c_are_unlike_below hr (by first | decide | omega) (by rfl) (pa_cons (pv 0) (pa_cons (pv 1) pa_nil)))))))), ?_⟩
    have n6' : n ≤ 6 := n6
    have ln : o.length = n := ord.len
    have lo : (o.map vi).length = n := by rw [List.length_map, ln]
    refine s_ret (v := .bl (true && (decide (V.int ((o.map vi).length : Int) = vi n) && true))) (ev_andV (a := true) (ev_isi (ev_var rfl) ev_c (.ty _) (fun _ e => tyx_tup (ex_t e hS)) kit_tt) (fun _ => ev_andV (ev_op (ev_lenT (ev_var rfl) hS) (ev_var rfl) (rv_eq rfl)) (fun _ => ev_callV (v := .bl true) (n, o) (ea_cons (ev_var rfl) (ea_cons (ev_var rfl) ea_nil)) (fun H1 e1 => ⟨⟨_, rfl, a, rfl, ex_t e1 hS⟩, ord, n6⟩) (fun _ _ p => p)))) fun H1 e1 => q _ H1 e1 ?_
    show V.bl (true && (decide (V.int ((o.map vi).length : Int) = vi n) && true)) = V.bl true
    rw [lo, decide_eq_true rfl]
    rfl
def sp_turned_back (K : PySem.W.Frag) : Sp := spX (fun (p : Nat × List Nat) vs H => (∃ v, vs = [v] ∧ Nats K H v p.2) ∧ Ord p.1 p.2 ∧ p.1 ≤ 6) (fun p v H => Nats K H v (bk p.2))
theorem c_turned_back (T : Txt mg) (D : Df K mg "turned_back" s_turned_back ["order"]) : Cl P w K mg base 1 "turned_back" (sp_turned_back K) := by
  refine cl_of (k := 0) D sc_turned_back (fun vs H Q E h => ?_) (fun f cdv A outer s H vs Q E hr h => ?_)
  · obtain ⟨p, ⟨⟨v, rfl, _⟩, _⟩, _⟩ := h
    rfl
  · obtain ⟨⟨n, o⟩, ⟨⟨v, rfl, a, rfl, hS⟩, ord, n6⟩, q⟩ := h
    refine ⟨_, (pss_cons (ps_set (i := 1) sc_turned_back.nd rfl (.inl rfl) (pe_op op_rep (pe_lst (pa_cons pe_int pa_nil)) (pe_callB call_len_seq (by rfl) T.z_len PySem.boot_len (pa_cons (pv 0) pa_nil))))
      (pss_cons (ps_for PassesOwn.never (by rfl) (pi_enumT (by rfl) T.z_enumerate (pa_cons (pv 0) pa_nil)) (pg_tup (by rfl) (pgs_cons (pg_name (i := 2) sc_turned_back.nd rfl (.inl rfl)) (pgs_cons (pg_name (i := 3) sc_turned_back.nd rfl (.inl rfl)) pgs_nil)))
        (pss_one (ps_asg (pv 2) (pg_sub (pv 1) (pv 3) set_list))))
      (pss_one (ps_ret (pe_callTy call_tuple_of (by rfl) T.z_tuple (by decide +kernel) (pa_cons (pv 1) pa_nil)))))), ?_⟩
    have n6' : n ≤ 6 := n6
    have ln : o.length = n := ord.len
    have lo : (o.map vi).length = n := by rw [List.length_map, ln]
    have len : Ev (tCB (rLenS K) (tCons (tVar 0) tNil)) [some (.ref a), none, none, none] H (vi n) := by
      have := ev_lenT (σ := [some (.ref a), none, none, none]) (ta := tVar 0) (ev_var rfl) hS
      rw [lo] at this
      exact this
    refine q_asgL (el_rep (el_lst (ea_cons ev_c ea_nil) (by decide)) len (by show 1 * n ≤ _; omega) (by omega)) fun m H2 nm e2 hm => ?_
    rw [rep1] at hm
    refine q_enumT (ea_cons (ev_var rfl) ea_nil) (ex_t e2 hS) (fun i σ H' => Ex H H' ∧ H' m = some (.lst ((bks n o i).map vi)) ∧ ∃ y2 y3, σ = [some (.ref a), some (.ref m), y2, y3]) (fun H3 e3 => ⟨e2.trans e3, by rw [bks_0, List.map_replicate]; exact e3 _ _ hm, none, none, rfl⟩) (fun i σ H' _ ⟨e, _⟩ => ex_t e hS) (fun i x σ H3 H4 hx ⟨e3, hm3, y2, y3, hσ⟩ e4 => ?_) (fun σ H3 ⟨e3, hm3, y2, y3, hσ⟩ => ?_)
    · subst hσ
      have hi : i < n := by rw [← lo]; exact (List.getElem?_eq_some_iff.mp hx).1
      have ex : x = vi (g o i) := by
        rw [vi_get (by rw [ln]; exact hi)] at hx
        exact (Option.some.inj hx).symm
      subst ex
      have low : g o i < n := ord.low i hi
      refine s_setL (e4 _ _ hm3) (ev_var rfl) (ev_var rfl) (ev_var rfl) (by rw [List.length_map, bks_len]; exact low) (fun H5 e5 => ⟨((e3.trans e4).trans e5).mut nm, ?_, _, _, rfl⟩)
      rw [upd_same, ← bks_set ord hi, List.map_set]
    · subst hσ
      rw [lo, bks_all ord] at hm3
      exact s_retP (ep_nats (K := K) (eu_tupL (ev_var rfl) (sq_of hm3)) rfl) fun v H4 e4 p => q _ H4 (e3.trans e4) p
/-! ### tables renamed -/
def sp_renamed_table (K : PySem.W.Frag) : Sp := spX (fun (p : Nat × Nat × List Nat × List Nat) vs H => (∃ v u, vs = [vi p.1, vi p.2.1, v, u] ∧ Nats K H v p.2.2.1 ∧ Nats K H u p.2.2.2) ∧ Tab p.1 p.2.1 p.2.2.1 ∧ Ord p.1 p.2.2.2 ∧ 1 ≤ p.1 ∧ p.1 ≤ 6 ∧ p.2.1 ≤ 2)
  (fun p v H => Nats K H v (ren p.1 p.2.1 p.2.2.2 p.2.2.1))
theorem c_renamed_table (T : Txt mg) (D : Df K mg "renamed_table" s_renamed_table ["size", "places", "table", "order"]) (c_turned_back : Cl P w K mg base 1 "turned_back" (sp_turned_back K)) : Cl P w K mg base 2 "renamed_table" (sp_renamed_table K) := by
  refine cl_of (k := 1) D sc_renamed_table (fun vs H Q E h => ?_) (fun f cdv A outer s H vs Q E hr h => ?_)
  · obtain ⟨p, ⟨⟨v, u, rfl, _⟩, _⟩, _⟩ := h
    rfl
  · obtain ⟨⟨n, p, t, o⟩, ⟨⟨v, u, rfl, hV, hU⟩, tab, ord, n1, n6, p2⟩, q⟩ := h
    refine ⟨_, (pss_cons (ps_set (i := 4) sc_renamed_table.nd rfl (.inr rfl) (pe_cl c_turned_back hr (by first | decide | omega) (by rfl) (pa_cons (pv 3) pa_nil)))
      (pss_cons (ps_if (pt_cmpR op_eq (pv 1) pe_int (nomark _))
        (pss_one (ps_ret (pe_tup (pa_cons (pe_ix ix_tup (pv 3) (pe_ix ix_tup (pv 2) pe_int (fun _ _ => rfl)) (fun _ _ => rfl)) pa_nil))))
        pss_nil)
      (pss_cons (ps_if (pt_cmpR op_eq (pv 1) pe_int (nomark _))
        (pss_one (ps_ret (pe_callTy call_tuple_of (by rfl) T.z_tuple (by decide +kernel) (pa_cons (pe_lc (own := [("number", 5)]) (g := (gName 5)) (by rfl) sc_renamed_table.nd (pi_tup (pv 4)) (blkOk_by (own := [("number", 5)]) (N := ["size", "places", "table", "order", "back", "number", "one", "other"]) (sc := defScope s_renamed_table) (by decide +kernel)) (fun _ _ _ _ _ => (pg_name (i := 5) sc_renamed_table.nd rfl (.inl rfl))) (fun _ _ _ _ _ => pts_nil) (fun _ _ _ _ _ => (pe_ix (ix_tupK K) (pv 3) (pe_ix (ix_tupK K) (pv 2) (pv 5) (fun _ _ => rfl)) (fun _ _ => rfl)))) pa_nil))))
        pss_nil)
      (pss_one (ps_ret (pe_callTy call_tuple_of (by rfl) T.z_tuple (by decide +kernel) (pa_cons (pe_lc2 (own := [("one", 6), ("other", 7)]) (g := (gName 6)) (g1 := (gName 7)) (vs1 := [7]) (by rfl) sc_renamed_table.nd (pi_tup (pv 4)) (blkOk_by (own := [("one", 6), ("other", 7)]) (N := ["size", "places", "table", "order", "back", "number", "one", "other"]) (sc := defScope s_renamed_table) (by decide +kernel)) (by decide) (fun _ _ _ _ _ => (pg_name (i := 6) sc_renamed_table.nd rfl (.inl rfl))) (fun _ _ _ _ _ => pts_nil) (fun _ _ _ _ _ => (pi_tupK K (pv 4))) (fun _ _ _ _ _ => (pg_name (i := 7) sc_renamed_table.nd rfl (.inl rfl))) (fun _ _ _ _ _ => pts_nil) (fun _ _ _ _ _ => (pe_ix (ix_tupK K) (pv 3) (pe_ix (ix_tupK K) (pv 2) (pe_op op_add (pe_op op_mul (pv 6) (pv 0)) (pv 7)) (fun _ _ => rfl)) (fun _ _ => rfl)))) pa_nil))))))), ?_⟩
    replace tab : Tab n p t := tab
    replace ord : Ord n o := ord
    replace n1 : 1 ≤ n := n1
    replace n6 : n ≤ 6 := n6
    replace p2 : p ≤ 2 := p2
    obtain ⟨a, rfl, hA⟩ := id hV
    obtain ⟨b, rfl, hB⟩ := id hU
    have low : ∀ k, k < n ^ p → g t k < n := tab.low
    have pick : ∀ {te : TE} {σ : L2.St} {H1 : Hp} {k : Nat}, Ex H H1 → σ[2]? = some (some (.ref a)) → σ[3]? = some (some (.ref b)) → k < n ^ p → Ev te σ H1 (vi k) → Ev (tOp (rIxT K) (tVar 3) (tOp (rIxT K) (tVar 2) te)) σ H1 (vi (g o (g t k))) := by
      intro te σ H1 k e h2 h3 hk hte
      exact ev_op (ev_var h3) (ev_op (ev_var h2) hte (rv_ixT (ex_t e hA) (atI_vi (vi_get (by rw [tab.len]; exact hk))))) (rv_ixT (ex_t e hB) (atI_vi (vi_get (by rw [ord.len]; exact low k hk))))
    refine q_asgP (ep_call (n, o) (ea_cons (ev_var rfl) ea_nil) (fun H1 e1 => ⟨⟨_, rfl, hU.ex e1⟩, ord, n6⟩)) fun v H1 e1 hv => ?_
    obtain ⟨c, rfl, hC⟩ := hv
    replace hC : SqT K H1 c ((bk o).map vi) := hC
    have bl : (bk o).length = n := by rw [bk_len, ord.len]
    have bm : ((bk o).map vi).length = n := by rw [List.length_map, bl]
    refine q_when (et_test (ev_op (ev_var rfl) ev_c (rv_eq rfl))) (fun hb H2 e2 => ?_) (fun hb H2 e2 => ?_)
    · have p0 : p = 0 := by
        have z : (p : Int) = 0 := V.int.inj (of_decide_eq_true hb)
        omega
      subst p0
      refine s_retP (ep_nats (K := K) (ns := ren n 0 o t) (eu_tup (ea_cons (pick (k := 0) (e1.trans e2) rfl rfl (by simp) ev_c) ea_nil) (by show 1 ≤ 100000; decide)) rfl) fun v H3 e3 hv => q _ H3 ((e1.trans e2).trans e3) hv
    · have p0 : p ≠ 0 := fun z => by
        subst z
        exact absurd rfl (of_decide_eq_false hb)
      refine q_when (et_test (ev_op (ev_var rfl) ev_c (rv_eq rfl))) (fun hb H3 e3 => ?_) (fun hb H3 e3 => ?_)
      · have p1 : p = 1 := by
          have z : (p : Int) = 1 := V.int.inj (of_decide_eq_true hb)
          omega
        subst p1
        have e03 : Ex H H3 := (e1.trans e2).trans e3
        refine s_retP (ep_nats (K := K) (ns := ren n 1 o t) (eu_tupN (el_lcT (K := K) (ev_var rfl) (ex_t (e2.trans e3) hC) (fun i => vi (g o (g t (g (bk o) i)))) (by omega) (fun _ => rfl) (fun i x H4 e4 hx => ?_))) ?_) fun v H4 e4 hv => q _ H4 (e03.trans e4) hv
        · have hi : i < n := by rw [← bm]; exact (List.getElem?_eq_some_iff.mp hx).1
          rw [vi_get (by rw [bl]; exact hi)] at hx
          have ex := Option.some.inj hx
          subst ex
          exact pick (e03.trans e4) rfl rfl (by rw [Nat.pow_one]; exact bk_low ord hi) (ev_var rfl)
        · rw [bm]
          unfold ren
          rw [Nat.pow_one, List.map_map]
          rfl
      · have p2' : p = 2 := by
          have : p ≠ 1 := fun z => by
            subst z
            exact absurd rfl (of_decide_eq_false hb)
          omega
        subst p2'
        have e03 : Ex H H3 := (e1.trans e2).trans e3
        refine s_retP (ep_nats (K := K) (ns := ren n 2 o t) (eu_tupN (el_lc2T (K := K) (ev_var rfl) (ex_t (e2.trans e3) hC) (fun x H4 e4 => ev_var rfl) (ex_t (e2.trans e3) hC) (fun i k => vi (g o (g t (g (bk o) i * n + g (bk o) k)))) (by omega) (by omega) (fun _ => rfl) (fun _ _ => rfl) (fun i x k y H4 e4 hx hy => ?_))) ?_) fun v H4 e4 hv => q _ H4 (e03.trans e4) hv
        · have hi : i < n := by rw [← bm]; exact (List.getElem?_eq_some_iff.mp hx).1
          have hk : k < n := by rw [← bm]; exact (List.getElem?_eq_some_iff.mp hy).1
          rw [vi_get (by rw [bl]; exact hi)] at hx
          rw [vi_get (by rw [bl]; exact hk)] at hy
          have ex := Option.some.inj hx
          have ey := Option.some.inj hy
          subst ex
          subst ey
          have bi := bk_low ord hi
          have bk' := bk_low ord hk
          have sum : Ev (tOp (rI0 fun i j => .int (i + j)) (tOp (rI CMul fun i j => .int (i * j)) (tVar 6) (tVar 0)) (tVar 7)) [some (vi n), some (vi 2), some (.ref a), some (.ref b), some (.ref c), none, some (vi (g (bk o) i)), some (vi (g (bk o) k))] H4 (vi (g (bk o) i * n + g (bk o) k)) := by
            have := ev_op (r := rI0 fun i j => .int (i + j)) (H := H4) (σ := [some (vi n), some (vi 2), some (.ref a), some (.ref b), some (.ref c), none, some (vi (g (bk o) i)), some (vi (g (bk o) k))]) (ev_op (r := rI CMul fun i j => .int (i * j)) (ta := tVar 6) (tb := tVar 0) (ev_var rfl) (ev_var rfl) (rv_I (Or.inr ⟨by omega, by omega⟩))) (tb := tVar 7) (ev_var rfl) rv_I0
            refine ev_is this ?_
            show V.int (((g (bk o) i : Nat) : Int) * (n : Int) + ((g (bk o) k : Nat) : Int)) = V.int ((g (bk o) i * n + g (bk o) k : Nat) : Int)
            rw [Int.natCast_add, Int.natCast_mul]
          exact pick (e03.trans e4) rfl rfl (by rw [Nat.pow_two]; exact mul_lt bi bk') sum
        · rw [bm, flat_range n n1]
          unfold ren
          rw [Nat.pow_two, List.map_map]
          rfl
end
end K20
end
section
namespace K20
open PySem PySem.Spec PyProof.Rows L2 Evl RZ Dw M20
/-- all tables renamed -/
def rens (n : Nat) (o : List Nat) (sg : List (Str × Nat)) (ts : List (List Nat)) : List (List Nat) := List.zipWith (fun p t => ren n p.2 o t) sg ts
theorem rens_len {n : Nat} {o : List Nat} {sg : List (Str × Nat)} {ts : List (List Nat)} (h : ts.length = sg.length) : (rens n o sg ts).length = sg.length := by
  unfold rens
  rw [List.length_zipWith, h, Nat.min_self]
theorem rens_at {n : Nat} {o : List Nat} {sg : List (Str × Nat)} {ts : List (List Nat)} {i : Nat} (h1 : i < sg.length) (h2 : i < ts.length) : (rens n o sg ts)[i]? = some (ren n sg[i].2 o ts[i]) := by
  unfold rens
  rw [List.getElem?_zipWith, List.getElem?_eq_getElem h1, List.getElem?_eq_getElem h2]
theorem rens_ok {n : Nat} {o : List Nat} {sg : List (Str × Nat)} {ts : List (List Nat)} (m : MdlOk sg n ts) (so : SigOk sg) (ho : Ord n o) : MdlOk sg n (rens n o sg ts) := by
  refine ⟨m.n1, m.n6, rens_len m.len, fun i h1 h2 => ?_⟩
  have h3 : i < ts.length := by rw [m.len]; exact h1
  have e := rens_at (n := n) (o := o) h1 h3
  rw [List.getElem?_eq_getElem h2] at e
  rw [Option.some.inj e]
  exact ren_tab (so.pl _ (List.getElem_mem h1)) ho (m.tab i h1 h3)
section
variable {P : Program} {w : World} {K : PySem.W.Frag} {mg : Str → Option Value} {base : Heap}
def sp_renamed_tables (K : PySem.W.Frag) : Sp := spX (fun (p : List (Str × Nat) × Nat × List (List Nat) × List Nat) vs H => (∃ u v x, vs = [u, vi p.2.1, v, x] ∧ Sig K H u p.1 ∧ Tabs K H v p.2.2.1 ∧ Nats K H x p.2.2.2) ∧ SigOk p.1 ∧ MdlOk p.1 p.2.1 p.2.2.1 ∧ Ord p.2.1 p.2.2.2)
  (fun p v H => Tabs K H v (rens p.2.1 p.2.2.2 p.1 p.2.2.1))
theorem c_renamed_tables (T : Txt mg) (D : Df K mg "renamed_tables" s_renamed_tables ["signature", "size", "tables", "order"]) (c_renamed_table : Cl P w K mg base 2 "renamed_table" (sp_renamed_table K)) : Cl P w K mg base 3 "renamed_tables" (sp_renamed_tables K) := by
  refine cl_of (k := 2) D sc_renamed_tables (fun vs H Q E h => ?_) (fun f cdv A outer s H vs Q E hr h => ?_)
  · obtain ⟨p, ⟨⟨u, v, x, rfl, _⟩, _⟩, _⟩ := h
    rfl
  · obtain ⟨⟨sg, n, ts, o⟩, ⟨⟨u, v, x, rfl, hG, hT, hO⟩, sok, mok, ord⟩, q⟩ := h
    refine ⟨_, (pss_cons (ps_set (i := 4) sc_renamed_tables.nd rfl (.inl rfl) (pe_lst pa_nil))
      (pss_cons (ps_for PassesOwn.never (by rfl) (pi_zipA (by rfl) T.z_zip (pa_cons (pv 0) (pa_cons (pv 2) pa_nil))) (pg_tup (by rfl) (pgs_cons (pg_tup (by rfl) (pgs_cons (pg_name (i := 5) sc_renamed_tables.nd rfl (.inl rfl)) (pgs_cons (pg_name (i := 6) sc_renamed_tables.nd rfl (.inl rfl)) pgs_nil))) (pgs_cons (pg_name (i := 7) sc_renamed_tables.nd rfl (.inl rfl)) pgs_nil)))
        (pss_one (ps_expr (pe_bm PySem.F.plainAttrs_list PySem.F.slot_list_append PySem.F.type_list_append mt_append (pv 4) (pa_cons (pe_cl c_renamed_table hr (by first | decide | omega) (by rfl) (pa_cons (pv 1) (pa_cons (pv 6) (pa_cons (pv 7) (pa_cons (pv 3) pa_nil))))) pa_nil)))))
      (pss_one (ps_ret (pe_callTy call_tuple_of (by rfl) T.z_tuple (by decide +kernel) (pa_cons (pv 4) pa_nil)))))), ?_⟩
    replace sok : SigOk sg := sok
    replace mok : MdlOk sg n ts := mok
    replace ord : Ord n o := ord
    obtain ⟨a, us, rfl, hS, hP⟩ := id hG
    obtain ⟨b, tvs, rfl, hB, hR⟩ := id hT
    replace hP : Paired (Deed K H) us sg := hP
    replace hR : Paired (Nats K H) tvs ts := hR
    have lS : us.length = sg.length := paired_len hP
    have lT : tvs.length = ts.length := paired_len hR
    have lM : ts.length = sg.length := mok.len
    refine q_asgL (el_lst ea_nil (Nat.zero_le _)) fun m H1 nm e1 hm => ?_
    refine q_zipT (ea_cons (ev_var rfl) (ea_cons (ev_var rfl) ea_nil)) (ex_t e1 hS) (ex_t e1 hB) (by rw [lS, lT, lM]) (fun i σ H' => Ex H H' ∧ (∃ ws, H' m = some (.lst ws) ∧ Paired (Nats K H') ws ((rens n o sg ts).take i)) ∧ ∃ y5 y6 y7, σ = [some (.ref a), some (vi n), some (.ref b), some x, some (.ref m), y5, y6, y7])
      (fun H2 e2 => ⟨e1.trans e2, ⟨[], e2 _ _ hm, .nil⟩, none, none, none, rfl⟩) (fun i σ H' _ ⟨e, _⟩ => ⟨ex_t e hS, ex_t e hB⟩) (fun i d tv p σ H2 hd ht ⟨e2, ⟨ws, hws, pws⟩, y5, y6, y7, hσ⟩ np => ?_) (fun σ H2 ⟨e2, ⟨ws, hws, pws⟩, y5, y6, y7, hσ⟩ => ?_)
    · subst hσ
      have hi : i < sg.length := by rw [← lS]; exact (List.getElem?_eq_some_iff.mp hd).1
      have hi2 : i < ts.length := by rw [lM]; exact hi
      obtain ⟨d', ed', c, hc, dc⟩ := paired_get hP (List.getElem?_eq_getElem hi)
      have : d' = d := Option.some.inj (ed'.symm.trans hd)
      subst this
      subst hc
      obtain ⟨t', et', nt⟩ := paired_get hR (List.getElem?_eq_getElem hi2)
      have : t' = tv := Option.some.inj (et'.symm.trans ht)
      subst this
      have e3 : Ex H2 (upd H2 p (.tup [.ref c, t'])) := Ex.new np
      have e03 : Ex H (upd H2 p (.tup [.ref c, t'])) := e2.trans e3
      -- (name, places), table
      refine ⟨p, _, rfl, st_of upd_same, rfl, _, _, rfl, ⟨c, _, rfl, ex_t e03 dc, rfl, _, _, rfl, _, _, rfl, rfl, ?_⟩⟩
      refine ⟨_, _, rfl, rfl, ?_⟩
      refine s_appP (e3 _ _ hws) (ev_var rfl) (ep_call (n, sg[i].2, ts[i], o) (ea_cons (ev_var rfl) (ea_cons (ev_var rfl) (ea_cons (ev_var rfl) (ea_cons (ev_var rfl) ea_nil)))) (fun H4 e4 => ⟨⟨_, _, rfl, nt.ex (e03.trans e4), hO.ex (e03.trans e4)⟩, mok.tab i hi hi2, ord, mok.n1, mok.n6, sok.pl _ (List.getElem_mem hi)⟩)) ?_ (fun v H4 e4 hv => ?_)
      · have l1 := paired_len pws
        rw [List.length_take, rens_len lM] at l1
        have := sok.l4
        omega
      · have e04 : Ex H H4 := e03.trans e4
        have nH : H m = none := nm
        have hm4 : H4 m = some (.lst ws) := e4 _ _ (e3 _ _ hws)
        refine ⟨e04.mut nH, ⟨ws ++ [v], upd_same, ?_⟩, _, _, _, rfl⟩
        have et : ET K H4 (upd H4 m (.lst (ws ++ [v]))) := ET.refl.upd hm4
        rw [List.take_add_one, rens_at hi hi2]
        exact paired_snoc (Nats.et et hv) (paired_imp (fun _ _ z => Nats.et (ET.trans (Dw.Ex.et (e3.trans e4)) et) z) pws)
    · subst hσ
      have full : (rens n o sg ts).take us.length = rens n o sg ts := List.take_of_length_le (by rw [rens_len lM, lS]; exact Nat.le_refl _)
      rw [full] at pws
      refine eu_tupL (K := K) (ev_var rfl) (sq_of hws) H2 (Ex.refl _) _ fun p H3 np e3 hp => q _ H3 (e2.trans e3) ⟨p, ws, rfl, st_of hp, paired_imp (fun _ _ z => z.ex e3) pws⟩
def sp_renamed (K : PySem.W.Frag) : Sp := spX (fun (p : List (Str × Nat) × Nat × List (List Nat) × List Nat) vs H => (∃ u v x, vs = [u, v, x] ∧ Sig K H u p.1 ∧ Mdl K H v p.2.1 p.2.2.1 ∧ Nats K H x p.2.2.2) ∧ SigOk p.1 ∧ MdlOk p.1 p.2.1 p.2.2.1 ∧ Ord p.2.1 p.2.2.2)
  (fun p v H => Mdl K H v p.2.1 (rens p.2.1 p.2.2.2 p.1 p.2.2.1))
theorem c_renamed (T : Txt mg) (D : Df K mg "renamed" s_renamed ["signature", "model", "order"]) (c_need_model : Cl P w K mg base 7 "need_model" (sp_need_model K)) (c_is_order : Cl P w K mg base 4 "is_order" (sp_is_order K)) (c_renamed_tables : Cl P w K mg base 3 "renamed_tables" (sp_renamed_tables K)) : Cl P w K mg base 8 "renamed" (sp_renamed K) := by
  refine cl_of (k := 7) D sc_renamed (fun vs H Q E h => ?_) (fun f cdv A outer s H vs Q E hr h => ?_)
  · obtain ⟨p, ⟨⟨u, v, x, rfl, _⟩, _⟩, _⟩ := h
    rfl
  · obtain ⟨⟨sg, n, ts, o⟩, ⟨⟨u, v, x, rfl, hG, hM, hO⟩, sok, mok, ord⟩, q⟩ := h
    refine ⟨_, (pss_cons (ps_expr (pe_cl c_need_model hr (by first | decide | omega) (by rfl) (pa_cons (pv 0) (pa_cons (pv 1) pa_nil))))
      (pss_cons (ps_asg (pv 1) (pg_tup (by rfl) (pgs_cons (pg_name (i := 3) sc_renamed.nd rfl (.inl rfl)) (pgs_cons (pg_name (i := 4) sc_renamed.nd rfl (.inl rfl)) pgs_nil))))
      (pss_cons (ps_if (pt_not (pt_val (pe_cl c_is_order hr (by first | decide | omega) (by rfl) (pa_cons (pv 2) (pa_cons (pv 3) pa_nil)))))
        (pss_one ps_never)
        pss_nil)
      (pss_one (ps_ret (pe_tup (pa_cons (pv 3) (pa_cons (pe_cl c_renamed_tables hr (by first | decide | omega) (by rfl) (pa_cons (pv 0) (pa_cons (pv 3) (pa_cons (pv 4) (pa_cons (pv 2) pa_nil))))) pa_nil)))))))), ?_⟩
    replace sok : SigOk sg := sok
    replace mok : MdlOk sg n ts := mok
    replace ord : Ord n o := ord
    obtain ⟨b, tv, rfl, hB, hT⟩ := id hM
    replace hT : Tabs K H tv ts := hT
    refine q_drop (ev_callV (v := .non) (sg, n, ts) (ea_cons (ev_var rfl) (ea_cons (ev_var rfl) ea_nil)) (fun H1 e1 => ⟨⟨_, _, rfl, hG.ex e1, hM.ex e1⟩, sok, mok⟩) (fun _ _ p => p)) fun H1 e1 => ?_
    refine ⟨.ref b, rfl, b, _, rfl, ex_t e1 hB, rfl, _, _, rfl, _, _, rfl, rfl, ?_⟩
    refine q_when (b := false) (et_is (et_not (et_val (ev_callV (v := .bl true) (n, o) (ea_cons (ev_var rfl) (ea_cons (ev_var rfl) ea_nil)) (fun H2 e2 => ⟨⟨_, rfl, hO.ex (e1.trans e2)⟩, ord, mok.n6⟩) (fun _ _ p => p)))) rfl) (fun hb => by cases hb) (fun _ H2 e2 => ?_)
    have e02 : Ex H H2 := e1.trans e2
    refine s_retP (ep_tup (n := 2) (eap_cons (P := fun v _ => v = vi n) (ep_ev (ev_var rfl) (fun _ _ => rfl)) (eap_cons (ep_call (sg, n, ts, o) (ea_cons (ev_var rfl) (ea_cons (ev_var rfl) (ea_cons (ev_var rfl) (ea_cons (ev_var rfl) ea_nil)))) (fun H3 e3 => ⟨⟨_, _, _, rfl, hG.ex (e02.trans e3), hT.ex (e02.trans e3), hO.ex (e02.trans e3)⟩, sok, mok, ord⟩)) eap_nil (fun v H3 H4 e p => Tabs.ex e p)) (fun v _ _ _ p => p))
      (fun vs H3 ⟨v1, r1, h1, _, v2, r2, h2, _, h3⟩ => by subst h1 h2 h3; rfl) (by decide) (fun vs H3 H4 e ⟨v1, r1, h1, p1, v2, r2, h2, p2, h3⟩ => ⟨v1, r1, h1, p1, v2, r2, h2, Tabs.ex e p2, h3⟩)) fun v H3 e3 ⟨p, vs, hv, hp, v1, r1, h1, p1, v2, r2, h2, p2, h3⟩ => ?_
    subst hv h1 h2 h3 p1
    exact q _ H3 (e02.trans e3) ⟨p, v2, rfl, st_of hp, p2⟩
def sp_composed (K : PySem.W.Frag) : Sp := spX (fun (p : Nat × List Nat × List Nat) vs H => (∃ u v, vs = [u, v] ∧ Nats K H u p.2.1 ∧ Nats K H v p.2.2) ∧ Ord p.1 p.2.1 ∧ Ord p.1 p.2.2 ∧ p.1 ≤ 6) (fun p v H => Nats K H v (cmp p.2.1 p.2.2))
theorem c_composed (T : Txt mg) (D : Df K mg "composed" s_composed ["one", "other"]) : Cl P w K mg base 1 "composed" (sp_composed K) := by
  refine cl_of (k := 0) D sc_composed (fun vs H Q E h => ?_) (fun f cdv A outer s H vs Q E hr h => ?_)
  · obtain ⟨p, ⟨⟨u, v, rfl, _⟩, _⟩, _⟩ := h
    rfl
  · obtain ⟨⟨n, o1, o2⟩, ⟨⟨u, v, rfl, ⟨a, rfl, hA⟩, b, rfl, hB⟩, r1, r2, n6⟩, q⟩ := h
    refine ⟨_, (pss_one (ps_ret (pe_callTy call_tuple_of (by rfl) T.z_tuple (by decide +kernel) (pa_cons (pe_lc (own := [("called", 2)]) (g := (gName 2)) (by rfl) sc_composed.nd (pi_tup (pv 0)) (blkOk_by (own := [("called", 2)]) (N := ["one", "other", "called"]) (sc := defScope s_composed) (by decide +kernel)) (fun _ _ _ _ _ => (pg_name (i := 2) sc_composed.nd rfl (.inl rfl))) (fun _ _ _ _ _ => pts_nil) (fun _ _ _ _ _ => (pe_ix (ix_tupK K) (pv 1) (pv 2) (fun _ _ => rfl)))) pa_nil)))), ?_⟩
    replace r1 : Ord n o1 := r1
    replace r2 : Ord n o2 := r2
    replace n6 : n ≤ 6 := n6
    replace hA : SqT K H a (o1.map vi) := hA
    replace hB : SqT K H b (o2.map vi) := hB
    have l1 : (o1.map vi).length = n := by rw [List.length_map, r1.len]
    refine s_retP (ep_nats (K := K) (ns := cmp o1 o2) (eu_tupN (el_lcT (K := K) (ev_var rfl) hA (fun i => vi (g o2 (g o1 i))) (by omega) (fun _ => rfl) (fun i x H1 e1 hx => ?_))) ?_) fun v H1 e1 hv => q _ H1 e1 hv
    · have hi : i < n := by rw [← l1]; exact (List.getElem?_eq_some_iff.mp hx).1
      rw [vi_get (by rw [r1.len]; exact hi)] at hx
      have ex := Option.some.inj hx
      subst ex
      exact ev_op (ev_var rfl) (ev_var rfl) (rv_ixT (ex_t e1 hB) (atI_vi (vi_get (by rw [r2.len]; exact r1.low i hi))))
    · rw [l1]
      apply List.ext_getElem?
      intro i
      by_cases hi : i < n
      · have lc : i < (cmp o1 o2).length := by unfold cmp; rw [List.length_map, r1.len]; exact hi
        rw [List.getElem?_map, List.getElem?_range hi, vi_get lc, cmp_g r1 hi]
        rfl
      · rw [List.getElem?_eq_none_iff.mpr (by simp; omega), List.getElem?_eq_none_iff.mpr (by simp [cmp, r1.len]; omega)]
theorem c_renamed_by (T : Txt mg) (D : Df K mg "renamed_by" s_renamed_by ["one", "other"]) (c_is_order : Cl P w K mg base 4 "is_order" (sp_is_order K)) (c_composed : Cl P w K mg base 1 "composed" (sp_composed K)) : Cl P w K mg base 5 "renamed_by" (sp_composed K) := by
  refine cl_of (k := 4) D sc_renamed_by (fun vs H Q E h => ?_) (fun f cdv A outer s H vs Q E hr h => ?_)
  · obtain ⟨p, ⟨⟨u, v, rfl, _⟩, _⟩, _⟩ := h
    rfl
  · obtain ⟨⟨n, o1, o2⟩, ⟨⟨u, v, rfl, hU, hV⟩, r1, r2, n6⟩, q⟩ := h
    refine ⟨_, (pss_cons (ps_if (PW.pt (pw_or (pt_not (pt_val (pe_callB call_isi (by rfl) T.z_isinstance (by decide +kernel) (pa_cons (pv 0) (pa_cons (pe_ty "tuple" (by rfl) T.z_tuple (by decide +kernel)) pa_nil))))) (pw_or1 (pt_not (pt_val (pe_cl c_is_order hr (by first | decide | omega) (by rfl) (pa_cons (pv 0) (pa_cons (pe_callB call_len_seq (by rfl) T.z_len PySem.boot_len (pa_cons (pv 0) pa_nil)) pa_nil))))))))
        (pss_one ps_never)
        pss_nil)
      (pss_cons (ps_if (pt_not (pt_val (pe_cl c_is_order hr (by first | decide | omega) (by rfl) (pa_cons (pv 1) (pa_cons (pe_callB call_len_seq (by rfl) T.z_len PySem.boot_len (pa_cons (pv 0) pa_nil)) pa_nil)))))
        (pss_one ps_never)
        pss_nil)
      (pss_one (ps_ret (pe_cl c_composed hr (by first | decide | omega) (by rfl) (pa_cons (pv 0) (pa_cons (pv 1) pa_nil))))))), ?_⟩
    replace r1 : Ord n o1 := r1
    replace r2 : Ord n o2 := r2
    replace n6 : n ≤ 6 := n6
    obtain ⟨a, rfl, hA⟩ := id hU
    replace hA : SqT K H a (o1.map vi) := hA
    have l1 : (o1.map vi).length = n := by rw [List.length_map, r1.len]
    have len : ∀ {σ : L2.St} {H1 : Hp}, Ex H H1 → σ[0]? = some (some (.ref a)) → Ev (tCB (rLenS K) (tCons (tVar 0) tNil)) σ H1 (vi n) := by
      intro σ H1 e h0
      have := ev_lenT (ta := tVar 0) (ev_var h0) (ex_t e hA)
      rw [l1] at this
      exact this
    refine q_when (b := false) (et_is (et_or (et_not (et_val (ev_isi (ev_var rfl) ev_c (.ty _) (fun _ e => tyx_tup (ex_t e hA)) kit_tt))) (fun _ => et_not (et_val (ev_callV (v := .bl true) (n, o1) (ea_cons (ev_var rfl) (ea_cons (len (Ex.refl _) rfl) ea_nil)) (fun H1 e1 => ⟨⟨_, rfl, hU.ex e1⟩, r1, n6⟩) (fun _ _ p => p))))) rfl) (fun hb => by cases hb) (fun _ H1 e1 => ?_)
    refine q_when (b := false) (et_is (et_not (et_val (ev_callV (v := .bl true) (n, o2) (ea_cons (ev_var rfl) (ea_cons (len e1 rfl) ea_nil)) (fun H2 e2 => ⟨⟨_, rfl, hV.ex (e1.trans e2)⟩, r2, n6⟩) (fun _ _ p => p)))) rfl) (fun hb => by cases hb) (fun _ H2 e2 => ?_)
    exact s_retP (ep_call (n, o1, o2) (ea_cons (ev_var rfl) (ea_cons (ev_var rfl) ea_nil)) (fun H3 e3 => ⟨⟨_, _, rfl, hU.ex ((e1.trans e2).trans e3), hV.ex ((e1.trans e2).trans e3)⟩, r1, r2, n6⟩)) fun v H3 e3 hv => q _ H3 ((e1.trans e2).trans e3) hv
end
end K20
end
section
namespace K20
open PySem PySem.Spec PyProof.Rows L2 Evl RZ Dw M20
theorem big1200 : Builtin.Int.intTooBig (((Builtin.Int.intBits (10 ^ 60) : Nat) : Int) * 20) = false := by decide +kernel
theorem pow1200 {X : Cx} : OpR X (binaryOp .Pow) (fun x y H Q => x = .int (10 ^ 60) ∧ y = .int 20 ∧ Q (.int ((10 ^ 60) ^ (20 : Int).toNat)) H) := op_powG (b := 10 ^ 60) (e := 20) (by decide) (by decide) big1200
/-! ### the purse -/
/-- a purse at p, its cells at c, t draws done -/
def Pur (H : Hp) (p c : Addr) (t : Nat) : Prop := H p = some (.lst [.ref c, vi t]) ∧ ∃ cs : List Int, cs ≠ [] ∧ cs.length ≤ 63 ∧ H c = some (.lst (cs.map V.int))
/-- all but these two as it was -/
def Off (H H' : Hp) (p c : Addr) : Prop := ∀ b o, b ≠ p → b ≠ c → H b = some o → H' b = some o
theorem Off.refl {H : Hp} {p c : Addr} : Off H H p c := fun _ _ _ _ h => h
theorem Off.trans {H H1 H2 : Hp} {p c : Addr} (a : Off H H1 p c) (b : Off H1 H2 p c) : Off H H2 p c := fun x o h1 h2 h => b x o h1 h2 (a x o h1 h2 h)
theorem Off.of_ex {H H' : Hp} {p c : Addr} (e : Ex H H') : Off H H' p c := fun b o _ _ h => e b o h
theorem Pur.ex {H H' : Hp} {p c : Addr} {t : Nat} (e : Ex H H') (h : Pur H p c t) : Pur H' p c t := ⟨e _ _ h.1, let ⟨cs, h1, h2, h3⟩ := h.2; ⟨cs, h1, h2, e _ _ h3⟩⟩
theorem Pur.ne {H : Hp} {p c : Addr} {t : Nat} (h : Pur H p c t) : p ≠ c := fun e => by
  obtain ⟨h1, cs, h2, _, h3⟩ := h
  rw [e, h3] at h1
  have h4 := HO.lst.inj (Option.some.inj h1)
  cases cs with
  | nil => exact h2 rfl
  | cons x r =>
    have h5 := (List.cons.inj h4).1
    cases h5
theorem Pur.at1 {H : Hp} {p c : Addr} {t : Nat} (h : Pur H p c t) : ∃ o, H p = some o := ⟨_, h.1⟩
theorem Pur.at2 {H : Hp} {p c : Addr} {t : Nat} (h : Pur H p c t) : ∃ o, H c = some o := let ⟨_, cs, _, _, h3⟩ := h; ⟨_, h3⟩
/-- a new address is neither -/
theorem Pur.fresh {H : Hp} {p c b : Addr} {t : Nat} (h : Pur H p c t) (n : H b = none) : b ≠ p ∧ b ≠ c := by
  constructor
  · intro e
    rw [e, h.1] at n
    cases n
  · intro e
    obtain ⟨_, cs, _, _, h3⟩ := h
    rw [e, h3] at n
    cases n
theorem Off.et {K : PySem.W.Frag} {H H' : Hp} {p c : Addr} {t : Nat} (o : Off H H' p c) (h : Pur H p c t) : ET K H H' := fun a xs q => by
  have no : ∀ u, H a = some u → (∀ ys, u ≠ .lst ys) → H' a = some u := fun u hu hl => o a u (fun e => by rw [e, h.1] at hu; exact hl _ (Option.some.inj hu).symm) (fun e => by
    obtain ⟨_, cs, _, _, h3⟩ := h
    rw [e, h3] at hu
    exact hl _ (Option.some.inj hu).symm) hu
  rcases q with (q | ⟨ob, q⟩) | q
  · exact .inl (.inl (no _ q fun _ z => by cases z))
  · exact .inl (.inr ⟨ob, no _ q fun _ z => by cases z⟩)
  · exact .inr q
section
variable {P : Program} {w : World} {K : PySem.W.Frag} {mg : Str → Option Value} {base : Heap}
def sp_purse (K : PySem.W.Frag) : Sp := fun vs H Q _ => ∃ (a : Addr) (ns : List Int), vs = [.ref a] ∧ SqL K H a (ns.map V.int) ∧ ns.length ≤ 63 ∧ ∀ p c H', Ex H H' → H p = none → H c = none → Pur H' p c 0 → Q (.ref p) H'
theorem ints_shaped (cs : List Int) : SeqAt.shaped (.list (cs.map PyData.int)) = true := by
  have h1 : ∀ l : List Int, PyData.canLayAll0 (l.map PyData.int) = true := by
    intro l
    induction l with
    | nil => rfl
    | cons x r ih => show (PyData.canLay0 (.int x) && PyData.canLayAll0 (r.map PyData.int)) = true; rw [ih]; rfl
  have h2 : ∀ l : List Int, PyData.depthAll (l.map PyData.int) = 0 := by
    intro l
    induction l with
    | nil => rfl
    | cons x r ih => show max (PyData.depth (.int x)) (PyData.depthAll (r.map PyData.int)) = 0; rw [ih]; rfl
  show (PyData.canLayAll0 (cs.map PyData.int) && decide (PyData.depthAll (cs.map PyData.int) + 1 ≤ 64)) = true
  rw [h1, h2]
  rfl
theorem dp_ints {H : Hp} {a : Addr} {cs : List Int} (h : SqL K H a (cs.map V.int)) : Dp K H (.ref a) (.list (cs.map PyData.int)) := by
  refine .lst h ?_
  have : ∀ l : List Int, DpAll K H (l.map V.int) (l.map PyData.int) := by
    intro l
    induction l with
    | nil => exact .nil
    | cons x r ih => exact .cons (.int x) ih
  exact this cs
theorem c_purse (T : Txt mg) (D : Df K mg "_law_purse" s_purse ["_law_script"]) : Cl P w K mg base 1 "_law_purse" (sp_purse K) := by
  refine cl_of (k := 0) D sc_purse (fun vs H Q E h => ?_) (fun f cdv A outer s H vs Q E hr h => ?_)
  · obtain ⟨a, ns, rfl, _⟩ := h
    rfl
  · obtain ⟨a, ns, rfl, hS, len, q⟩ := h
    refine ⟨_, (pss_cons (ps_set (i := 1) sc_purse.nd rfl (.inl rfl) (pe_slice sl_list (pv 0) po_none (po_some pe_int)))
      (pss_cons (ps_for PassesOwn.never (by rfl) (pi_range1 (by rfl) T.z_range (pa_cons (pe_callB call_len_seq (by rfl) T.z_len PySem.boot_len (pa_cons (pv 1) pa_nil)) pa_nil)) (pg_name (i := 2) sc_purse.nd rfl (.inl rfl))
        (pss_one (ps_if (pt_cmpR op_ge (pe_callB call_abs (by rfl) T.z_abs (by decide +kernel) (pa_cons (pe_ix ix_list (pv 1) (pv 2) (fun _ _ => rfl)) pa_nil)) (pe_op op_pow pe_int pe_int) (nomark _))
          (pss_one (ps_asg (pe_op op_mod (pe_ix ix_list (pv 1) (pv 2) (fun _ _ => rfl)) (pe_op pow1200 (pe_op op_pow pe_int pe_int) pe_int)) (pg_sub (pv 1) (pv 2) set_list)))
          pss_nil)))
      (pss_cons (ps_if (pt_cmpR (op_eqD hr.units) (pv 1) (pe_lst pa_nil) (nomark _))
        (pss_one (ps_set (i := 1) sc_purse.nd rfl (.inl rfl) (pe_lst (pa_cons pe_int pa_nil))))
        pss_nil)
      (pss_one (ps_ret (pe_lst (pa_cons (pv 1) (pa_cons pe_int pa_nil)))))))), ?_⟩
    have cut : cutV (ns.map V.int) none (some 63) = ns.map V.int := by
      unfold cutV
      rw [HT.sIx_none, show HT.sIx (ns.map V.int).length (ns.map V.int).length (some 63) = min 63 (ns.map V.int).length from HT.sIx_nat _ _ 63, Nat.sub_zero, List.drop_zero, List.length_map]
      exact List.take_of_length_le (by rw [List.length_map]; omega)
    have sl : EvL (tSl (rSlL K) (tVar 0) tNoPart (tPart (tC (.int 63)))) [some (.ref a), none, none] H (ns.map V.int) := by
      have := el_sl (σ := [some (.ref a), none, none]) (te := tVar 0) (ev_var rfl) eo_none (eo_some (i := 63) (te := tC (.int 63)) ev_c) hS
      rw [cut] at this
      exact this
    refine q_asgL sl fun c H1 nc e1 hc => ?_
    have l63 : ∀ cs : List Int, cs.length = ns.length → (cs.map V.int).length ≤ 63 := fun cs h => by rw [List.length_map, h]; exact len
    have lenE : EvA (tCons (tCB (rLenS K) (tCons (tVar 1) tNil)) tNil) [some (.ref a), some (.ref c), none] H1 [.int (ns.length : Int)] := by
      have := ev_len (K := K) (σ := [some (.ref a), some (.ref c), none]) (ta := tVar 1) (ev_var rfl) (sq_of hc)
      rw [List.length_map] at this
      exact ea_cons this ea_nil
    refine q_forR1 lenE (by omega) (fun i σ H' => Ex H H' ∧ (∃ cs : List Int, cs.length = ns.length ∧ H' c = some (.lst (cs.map V.int))) ∧ ∃ y, σ = [some (.ref a), some (.ref c), y]) (fun H2 e2 => ⟨e1.trans e2, ⟨ns, rfl, e2 _ _ hc⟩, _, rfl⟩) (fun i σ H2 hi ⟨e2, ⟨cs, lc, hcs⟩, y, hσ⟩ => ?_) (fun σ H2 ⟨e2, ⟨cs, lc, hcs⟩, y, hσ⟩ => ?_)
    · subst hσ
      have hi' : i < cs.length := by rw [lc]; omega
      have it : Ev (tOp (rIxL K) (tVar 1) (tVar 2)) [some (.ref a), some (.ref c), some (vi i)] H2 (.int cs[i]) := ev_op (ev_var rfl) (ev_var rfl) (rv_ixL (sq_of hcs) (atI_vi (by rw [List.getElem?_map, List.getElem?_eq_getElem hi']; rfl)))
      refine s_when (et_test (ev_op (ev_cb (z := .int (if cs[i] < 0 then -cs[i] else cs[i])) (ea_cons it ea_nil) (fun H3 _ Q q3 => ⟨_, rfl, q3 H3 (Ex.refl _)⟩)) (ev_op ev_c ev_c (rv_I ⟨by decide, by decide, by decide⟩)) rv_I0)) (fun _ H3 e3 => ?_) (fun _ H3 e3 => ⟨e2.trans e3, ⟨cs, lc, e3 _ _ hcs⟩, _, rfl⟩)
      refine s_setL (e3 _ _ hcs) (ev_op (it.mono e3) (ev_op (ev_op ev_c ev_c (rv_I ⟨by decide, by decide, by decide⟩)) ev_c (fun H4 _ Q q4 => ⟨rfl, rfl, q4 H4 (Ex.refl _)⟩)) (rv_I (by decide))) (ev_var rfl) (ev_var rfl) (by rw [List.length_map]; exact hi') (fun H4 e4 => ⟨((e2.trans e3).trans e4).mut nc, ⟨cs.set i (cs[i] % (10 ^ 60) ^ (20 : Int).toNat), by rw [List.length_set, lc], ?_⟩, _, rfl⟩)
      rw [upd_same, List.map_set]
    · subst hσ
      have dp := dp_ints (K := K) (sq_of hcs)
      have test : EvT (tTest (tOp (rEqD K) (tVar 1) (tLst tNil))) [some (.ref a), some (.ref c), y] H2 (PyData.eqv (.list (cs.map PyData.int)) (.list [])) := fun H3 e3 Q q3 => ⟨_, rfl, Nat.zero_le _, fun r nr => ⟨_, _, dp_ints (sq_of (by rw [upd_ne (ne_of_none (e3 _ _ hcs) nr)]; exact e3 _ _ hcs)), .lst (sq_of upd_same) .nil, ints_shaped cs, rfl, _, rfl, q3 _ (Ex.new nr)⟩⟩
      refine q_when test (fun hb H3 e3 => ?_) (fun hb H3 e3 => ?_)
      · refine s_asgL (el_lst (ea_cons ev_c ea_nil) (by decide)) fun d H4 nd e4 hd => ?_
        have e04 : Ex H H4 := (e2.trans e3).trans e4
        have nd0 : H d = none := fresh_back (e2.trans e3) nd
        refine s_retL (el_lst (ea_cons (ev_var rfl) (ea_cons ev_c ea_nil)) (by show 2 ≤ 100000; decide)) fun p H5 np e5 hp => q p d H5 (e04.trans e5) (fresh_back e04 np) nd0 ⟨hp, [0], by simp, by decide, e5 _ _ hd⟩
      · have ne : cs ≠ [] := fun z => by
          subst z
          exact absurd hb (by decide)
        have e03 : Ex H H3 := e2.trans e3
        have l63' : cs.length ≤ 63 := by rw [lc]; exact len
        refine s_retL (el_lst (ea_cons (ev_var rfl) (ea_cons ev_c ea_nil)) (by show 2 ≤ 100000; decide)) fun p H5 np e5 hp => q p c H5 (e03.trans e5) (fresh_back e03 np) nc ⟨hp, cs, ne, l63', e5 _ _ (e3 _ _ hcs)⟩
end
end K20
end
section
namespace K20
open PySem PySem.Spec PyProof.Rows L2 Evl RZ Dw M20
section
variable {P : Program} {w : World} {K : PySem.W.Frag} {mg : Str → Option Value} {base : Heap}
/-- a draw: a number below n, one more done -/
def sp_draw : Sp := fun vs H Q _ => ∃ (p c : Addr) (t n : Nat), vs = [.ref p, vi n] ∧ Pur H p c t ∧ t ≤ 100000 ∧ 1 ≤ n ∧ n ≤ 1000 ∧ ∀ k H', k < n → Off H H' p c → Pur H' p c (t + 1) → Q (vi k) H'
theorem vi_mod {x : Int} {n : Nat} (h : 1 ≤ n) : ∃ k, k < n ∧ V.int (x % (n : Int)) = vi k := by
  have h1 : 0 ≤ x % (n : Int) := Int.emod_nonneg _ (by omega)
  have h2 : x % (n : Int) < n := Int.emod_lt_of_pos _ (by omega)
  exact ⟨(x % (n : Int)).toNat, by omega, by show V.int _ = V.int _; rw [Int.toNat_of_nonneg h1]⟩
theorem c_draw (T : Txt mg) (D : Df K mg "_law_draw" s_draw ["_law_purse_here", "_law_out_of"]) : Cl P w K mg base 1 "_law_draw" sp_draw := by
  refine cl_of (k := 0) D sc_draw (fun vs H Q E h => ?_) (fun f cdv A outer s H vs Q E hr h => ?_)
  · obtain ⟨p, c, t, n, rfl, _⟩ := h
    rfl
  · obtain ⟨p, c, t, n, rfl, pu, t1, n1, n2, q⟩ := h
    refine ⟨_, (pss_cons (ps_asg (pv 0) (pg_unl (by rfl) (pgs_cons (pg_name (i := 2) sc_draw.nd rfl (.inl rfl)) (pgs_cons (pg_name (i := 3) sc_draw.nd rfl (.inl rfl)) pgs_nil))))
      (pss_cons (ps_set (i := 4) sc_draw.nd rfl (.inl rfl) (pe_op op_mod (pv 3) (pe_callB call_len_seq (by rfl) T.z_len PySem.boot_len (pa_cons (pv 2) pa_nil))))
      (pss_cons (ps_set (i := 5) sc_draw.nd rfl (.inl rfl) (pe_ix ix_list (pv 2) (pv 4) (fun _ _ => rfl)))
      (pss_cons (ps_asg (pe_op op_add (pv 3) pe_int) (pg_sub (pv 0) pe_int set_list))
      (pss_cons (ps_if (pt_cmpR op_ge (pv 5) (pe_op op_pow pe_int pe_int) (nomark _))
        (pss_cons (ps_asg (pe_op op_fdiv (pv 5) (pv 1)) (pg_sub (pv 2) (pv 4) set_list))
        (pss_one (ps_ret (pe_op op_mod (pv 5) (pv 1)))))
        pss_nil)
      (pss_cons (ps_set (i := 6) sc_draw.nd rfl (.inl rfl) (pe_op op_mod (pe_op op_add (pe_op op_add (pe_op op_mul (pe_op op_mod (pv 5) pe_int) pe_int) (pe_op op_mul (pe_op op_mul (pv 3) (pv 3)) pe_int)) pe_int) pe_int))
      (pss_cons (ps_set (i := 6) sc_draw.nd rfl (.inl rfl) (pe_op op_mod (pe_op op_mul (pv 6) (pv 6)) pe_int))
      (pss_cons (ps_set (i := 6) sc_draw.nd rfl (.inl rfl) (pe_op op_mod (pe_op op_mul (pv 6) (pv 6)) pe_int))
      (pss_cons (ps_if (pt_cmpR op_gt (pv 1) (pe_op op_pow pe_int pe_int) (nomark _))
        (pss_cons (ps_set (i := 7) sc_draw.nd rfl (.inl rfl) (pe_op op_mod (pe_op op_add (pe_op op_add (pe_op op_mul (pv 6) pe_int) (pe_op op_mul (pv 3) pe_int)) pe_int) pe_int))
        (pss_one (ps_set (i := 6) sc_draw.nd rfl (.inl rfl) (pe_op op_mul (pv 6) (pe_op op_add (pe_op op_mul (pe_op op_mul (pv 7) (pv 7)) (pv 7)) pe_int)))))
        pss_nil)
      (pss_one (ps_ret (pe_op op_mod (pv 6) (pv 1))))))))))))), ?_⟩
    have ne := pu.ne
    obtain ⟨hp, cs, cne, c63, hc⟩ := id pu
    -- cells, turn = purse
    refine ⟨.ref p, rfl, p, _, rfl, sq_of hp, rfl, _, _, rfl, _, _, rfl, rfl, ?_⟩
    have cl : 0 < cs.length := List.length_pos_iff.mpr cne
    have lenE : Ev (tCB (rLenS K) (tCons (tVar 2) tNil)) [some (.ref p), some (vi n), some (.ref c), some (vi t), none, none, none, none] H (.int (cs.length : Int)) := by
      have := ev_len (K := K) (σ := [some (.ref p), some (vi n), some (.ref c), some (vi t), none, none, none, none]) (ta := tVar 2) (ev_var rfl) (sq_of hc)
      rw [List.length_map] at this
      exact this
    refine q_asg (v := vi (t % cs.length)) (ev_is (ev_op (ev_var rfl) lenE (rv_I (by show (0 : Int) < (cs.length : Int); omega))) (by show V.int ((t : Int) % (cs.length : Int)) = V.int ((t % cs.length : Nat) : Int); rw [Int.natCast_emod])) fun H1 e1 => ?_
    have ai : t % cs.length < cs.length := Nat.mod_lt _ cl
    refine q_asg (v := .int cs[t % cs.length]) (ev_op (ev_var rfl) (ev_var rfl) (rv_ixL (ex_l e1 (sq_of hc)) (atI_vi (by rw [List.getElem?_map, List.getElem?_eq_getElem ai]; rfl)))) fun H2 e2 => ?_
    have e02 := e1.trans e2
    -- purse[1] = turn + 1
    refine q_setL (j := 1) (e02 _ _ hp) (ev_op (ev_var rfl) ev_c rv_I0) (ev_var rfl) ev_c (by show 1 < 2; decide) fun H3 e3 => ?_
    have e03 := e02.trans e3
    have hp4 : (upd H3 p (.lst [.ref c, vi (t + 1)])) p = some (.lst [.ref c, vi (t + 1)]) := upd_same
    have hc4 : (upd H3 p (.lst [.ref c, vi (t + 1)])) c = some (.lst (cs.map V.int)) := by rw [upd_ne (Ne.symm ne)]; exact e03 _ _ hc
    have off4 : Off H (upd H3 p (.lst [.ref c, vi (t + 1)])) p c := fun b o b1 b2 hb => by rw [upd_ne b1]; exact e03 _ _ hb
    have st : (upd H3 p (.lst (List.set [V.ref c, vi t] 1 (V.int ((t : Int) + 1))))) = upd H3 p (.lst [.ref c, vi (t + 1)]) := by
      show upd H3 p (.lst [.ref c, .int ((t : Int) + 1)]) = upd H3 p (.lst [.ref c, .int ((t + 1 : Nat) : Int)])
      rw [Int.natCast_add]
      rfl
    rw [st]
    generalize upd H3 p (.lst [.ref c, vi (t + 1)]) = H4 at hp4 hc4 off4
    have pu4 : Pur H4 p c (t + 1) := ⟨hp4, cs, cne, c63, hc4⟩
    refine q_when (et_test (ev_op (ev_var rfl) (ev_op ev_c ev_c (rv_I ⟨by decide, by decide, by decide⟩)) rv_I0)) (fun _ H5 e5 => ?_) (fun _ H5 e5 => ?_)
    · refine q_setL (e5 _ _ hc4) (ev_op (ev_var rfl) (ev_var rfl) (rv_I ⟨by omega, by omega⟩)) (ev_var rfl) (ev_var rfl) (by rw [List.length_map]; exact ai) fun H6 e6 => ?_
      obtain ⟨k, hk, ek⟩ := vi_mod (x := cs[t % cs.length]) n1
      refine s_ret (v := vi k) (ev_is (ev_op (ev_var rfl) (ev_var rfl) (rv_I (by show (0 : Int) < (n : Int); omega))) ek) fun H7 e7 => q k H7 hk (fun b o b1 b2 hb => e7 _ _ (by rw [upd_ne b2]; exact e6 _ _ (e5 _ _ (off4 b o b1 b2 hb)))) ⟨e7 _ _ (by rw [upd_ne ne]; exact e6 _ _ (e5 _ _ hp4)), cs.set (t % cs.length) (cs[t % cs.length] / (n : Int)), ?_, ?_, ?_⟩
      · intro z
        have := congrArg List.length z
        rw [List.length_set] at this
        have z0 : cs.length = 0 := this
        omega
      · rw [List.length_set]; exact c63
      · refine e7 _ _ ?_
        rw [upd_same, List.map_set]
    · refine q_asg (ev_op (ev_op (ev_op (ev_op (ev_op (ev_var rfl) ev_c (rv_I (by decide))) ev_c (rv_I (.inr ⟨by decide, by decide⟩))) (ev_op (ev_op (ev_var rfl) (ev_var rfl) (rv_I (.inl ⟨by omega, by omega⟩))) ev_c (rv_I (.inr ⟨by decide, by decide⟩))) rv_I0) ev_c rv_I0) ev_c (rv_I (by decide))) fun H6 e6 => ?_
      have small : ∀ x m : Int, 0 < m → m < 2 ^ 40 → CMul (x % m) (x % m) := fun x m h1 h2 => .inl ⟨by have := Int.emod_nonneg x (show m ≠ 0 by omega); omega, by have := Int.emod_lt_of_pos x h1; omega⟩
      refine q_asg (ev_op (ev_op (ev_var rfl) (ev_var rfl) (rv_I (small _ _ (by decide) (by decide)))) ev_c (rv_I (by decide))) fun H7 e7 => ?_
      refine q_asg (ev_op (ev_op (ev_var rfl) (ev_var rfl) (rv_I (small _ _ (by decide) (by decide)))) ev_c (rv_I (by decide))) fun H8 e8 => ?_
      refine q_when (b := false) (et_is (et_test (ev_op (ev_var rfl) (ev_op ev_c ev_c (rv_I ⟨by decide, by decide, by decide⟩)) rv_I0)) ?_) (fun hb => by cases hb) (fun _ H9 e9 => ?_)
      · show decide ((10 : Int) ^ (9 : Int).toNat < (n : Int)) = false
        refine decide_eq_false ?_
        have : (10 : Int) ^ (9 : Int).toNat = 1000000000 := by decide
        rw [this]
        omega
      · have e49 := (((e5.trans e6).trans e7).trans e8).trans e9
        have fin : ∀ x : Int, tRet (tOp (rI (fun _ j => 0 < j) fun i j => .int (i % j)) (tVar 6) (tVar 1)) { nx := fun _ H' => Q .non H', rt := Q } [some (.ref p), some (vi n), some (.ref c), some (vi t), some (vi (t % cs.length)), some (.int cs[t % cs.length]), some (.int x), none] H9 := fun x => by
          obtain ⟨k, hk, ek⟩ := vi_mod (x := x) n1
          exact s_ret (v := vi k) (ev_is (ev_op (ev_var rfl) (ev_var rfl) (rv_I (by show (0 : Int) < (n : Int); omega))) ek) fun Ha ea => q k Ha hk (fun b o b1 b2 hb => (e49.trans ea) _ _ (off4 b o b1 b2 hb)) (pu4.ex (e49.trans ea))
        exact fin _
/-- _law_draw(purse, e), e worth n -/
theorem do_draw {σ : L2.St} {H : Hp} {ta tb : TE} {p c : Addr} {t n : Nat} {E : XK} {Q : VK} (hp : Ev ta σ H (.ref p)) (hn : Ev tb σ H (vi n)) (pu : Pur H p c t) (t1 : t ≤ 100000) (n1 : 1 ≤ n) (n2 : n ≤ 1000) (q : ∀ k H', k < n → Off H H' p c → Pur H' p c (t + 1) → Q (vi k) H') :
    tCall sp_draw [] E (tCons ta (tCons tb tNil)) σ H Q :=
  ea_cons hp (ea_cons hn ea_nil) H (Ex.refl H) _ fun H1 e1 => ⟨p, c, t, n, rfl, pu.ex e1, t1, n1, n2, fun k H' hk o p' => q k H' hk ((Off.of_ex e1).trans o) p'⟩
end
end K20
end
section
namespace K20
open PySem PySem.Spec PyProof.Rows L2 Evl RZ Dw M20
theorem Off.sql {K : PySem.W.Frag} {H H' : Hp} {p c l : Addr} {xs : List V} (o : Off H H' p c) (h1 : l ≠ p) (h2 : l ≠ c) (h : SqL K H l xs) : SqL K H' l xs := by
  rcases h with (h | ⟨ob, h⟩) | h
  · exact .inl (.inl (o _ _ h1 h2 h))
  · exact .inl (.inr ⟨ob, o _ _ h1 h2 h⟩)
  · exact .inr h
theorem Off.upd {H H' : Hp} {p c l : Addr} {o : HO} (f : Off H H' p c) (n : H l = none) : Off H (upd H' l o) p c := fun b u b1 b2 h => by
  rw [upd_ne (ne_of_none h n)]
  exact f b u b1 b2 h
theorem Off.back {H H' : Hp} {p c l : Addr} (f : Off H H' p c) (h1 : l ≠ p) (h2 : l ≠ c) (n : H' l = none) : H l = none := by
  cases e : H l with
  | none => rfl
  | some o =>
    rw [f l o h1 h2 e] at n
    cases n
theorem Pur.upd {H : Hp} {p c l : Addr} {t : Nat} {o : HO} (h : Pur H p c t) (h1 : l ≠ p) (h2 : l ≠ c) : Pur (upd H l o) p c t := ⟨by rw [upd_ne (Ne.symm h1)]; exact h.1, let ⟨cs, a, b, d⟩ := h.2; ⟨cs, a, b, by rw [upd_ne (Ne.symm h2)]; exact d⟩⟩
section
variable {P : Program} {w : World} {K : PySem.W.Frag} {mg : Str → Option Value} {base : Heap}
section
variable {σ : L2.St} {H : Hp} {D : Ends} {tu tz : TS}
/-- for x in range(e), e by what holds of it -/
theorem q_forRX {ta : TA} {j : Nat} (C : Nat → Hp → Prop) (h : ∀ Q : List V → Hp → Prop, (∀ n H1, C n H1 → Q [vi n] H1) → ta σ H Q) (hn : ∀ n H1, C n H1 → n ≤ 100000) (Pv : Nat → Nat → L2.St → Hp → Prop) (h0 : ∀ n H1, C n H1 → Pv n 0 σ H1)
    (hs : ∀ n i σ' H', i < n → Pv n i σ' H' → tu { D with nx := Pv n (i + 1), ct := Pv n (i + 1), bk := tz D } (σ'.set j (some (vi i))) H') (hd : ∀ n σ' H', Pv n n σ' H' → tz D σ' H') : tSeq (tFor (iRng1 ta) (gName j) tu) tz D σ H :=
  h _ fun n H1 c => ⟨(n : Int), rfl, by have := hn n H1 c; omega, by have := hn n H1 c; omega, for_range (D := { D with nx := tz D }) (lo := 0) (n := ((n : Nat) : Int).toNat) (Pv n) (h0 n H1 c) (fun i σ' H' hi p => by
    have e0 : (0 : Int) + (i : Int) = (i : Int) := Int.zero_add _
    show tu { D with nx := Pv n (i + 1), ct := Pv n (i + 1), bk := tz D } (σ'.set j (some (.int ((0 : Int) + (i : Int))))) H'
    rw [e0]
    exact hs n i σ' H' (by rw [Int.toNat_natCast] at hi; exact hi) p) (fun σ' H' p => hd n σ' H' (by rw [Int.toNat_natCast] at p; exact p))⟩
end
/-! ### a list mixed -/
def sp_mixed (K : PySem.W.Frag) : Sp := fun vs H Q _ => ∃ (p c l : Addr) (t : Nat) (xs : List V), vs = [.ref p, .ref l] ∧ Pur H p c t ∧ t ≤ 90000 ∧ SqL K H l xs ∧ l ≠ p ∧ l ≠ c ∧ xs.length ≤ 100 ∧
  ∀ m ys H', ys.Perm xs → H m = none → Off H H' p c → Pur H' p c (t + xs.length) → H' m = some (.lst ys) → Q (.ref m) H'
theorem c_mixed (T : Txt mg) (D : Df K mg "_law_mixed" s_mixed ["_law_purse_here", "_law_things"]) (c_draw : Cl P w K mg base 1 "_law_draw" sp_draw) : Cl P w K mg base 2 "_law_mixed" (sp_mixed K) := by
  refine cl_of (k := 1) D sc_mixed (fun vs H Q E h => ?_) (fun f cdv A outer s H vs Q E hr h => ?_)
  · obtain ⟨p, c, l, t, xs, rfl, _⟩ := h
    rfl
  · obtain ⟨p, c, l, t, xs, rfl, pu, t1, hl, lp, lc, x100, q⟩ := h
    refine ⟨_, (pss_cons (ps_set (i := 2) sc_mixed.nd rfl (.inl rfl) (pe_lst pa_nil))
      (pss_cons (ps_for PassesOwn.never (by rfl) (pi_list (pv 1)) (pg_name (i := 3) sc_mixed.nd rfl (.inl rfl))
        (pss_one (ps_expr (pe_bm PySem.F.plainAttrs_list PySem.F.slot_list_insert PySem.F.type_list_insert mt_insert (pv 2) (pa_cons (pe_cl c_draw hr (by first | decide | omega) (by rfl) (pa_cons (pv 0) (pa_cons (pe_op op_add (pe_callB call_len_seq (by rfl) T.z_len PySem.boot_len (pa_cons (pv 2) pa_nil)) pe_int) pa_nil))) (pa_cons (pv 3) pa_nil))))))
      (pss_one (ps_ret (pv 2))))), ?_⟩
    refine q_asgL (el_lst ea_nil (Nat.zero_le _)) fun m H1 nm e1 hm => ?_
    obtain ⟨mp, mc⟩ := pu.fresh nm
    refine q_forLn (ev_var rfl) (ex_l e1 hl) (fun i σ H' => Off H H' p c ∧ Pur H' p c (t + i) ∧ (∃ ys, H' m = some (.lst ys) ∧ ys.Perm (xs.take i)) ∧ ∃ y, σ = [some (.ref p), some (.ref l), some (.ref m), y]) (fun H2 e2 => ⟨.of_ex (e1.trans e2), pu.ex (e1.trans e2), ⟨[], e2 _ _ hm, .nil⟩, none, rfl⟩) (fun i σ H' _ ⟨o, _⟩ => o.sql lp lc hl) (fun i x σ H2 hx ⟨o2, pu2, ⟨ys, hys, perm⟩, y, hσ⟩ => ?_) (fun σ H2 ⟨o2, pu2, ⟨ys, hys, perm⟩, y, hσ⟩ => ?_)
    · subst hσ
      have hi : i < xs.length := (List.getElem?_eq_some_iff.mp hx).1
      have ly : ys.length = i := by rw [perm.length_eq, List.length_take]; omega
      have lenE : Ev (tOp (rI0 fun i j => .int (i + j)) (tCB (rLenS K) (tCons (tVar 2) tNil)) (tC (.int 1))) [some (.ref p), some (.ref l), some (.ref m), some x] H2 (vi (i + 1)) := by
        have := ev_op (r := rI0 fun i j => .int (i + j)) (ev_len (K := K) (σ := [some (.ref p), some (.ref l), some (.ref m), some x]) (ta := tVar 2) (ev_var rfl) (sq_of hys)) (ev_c (v := .int 1)) rv_I0
        rw [ly] at this
        exact this
      refine ⟨.ref m, rfl, Or.inl ⟨rfl, _, sq_of hys⟩, ?_⟩
      refine do_draw (ev_var rfl) lenE pu2 (by omega) (by omega) (by omega) fun k H3 hk o3 pu3 => ?_
      have hm3 : H3 m = some (.lst ys) := o3 _ _ mp mc hys
      refine ⟨x, rfl, m, ys, (k : Int), x, rfl, rfl, hm3, sz_lt (by omega), by omega, by omega, ?_⟩
      refine ⟨(o2.trans o3).upd nm, (pu3.upd mp mc), ⟨_, upd_same, ?_⟩, _, rfl⟩
      rw [Int.toNat_natCast, List.take_add_one, hx]
      have h1 : (ys.take k ++ [x] ++ ys.drop k).Perm (x :: (ys.take k ++ ys.drop k)) := by
        rw [List.append_assoc]
        exact List.perm_middle
      rw [List.take_append_drop] at h1
      refine h1.trans ((List.Perm.cons x perm).trans ?_)
      exact List.perm_append_singleton x (xs.take i) |>.symm
    · subst hσ
      rw [List.take_length] at perm
      exact s_ret (ev_var rfl) fun H3 e3 => q m ys H3 perm nm (o2.trans (.of_ex e3)) (pu2.ex e3) (e3 _ _ hys)
/-- a call of _law_mixed -/
theorem do_mixed {σ : L2.St} {H : Hp} {ta tb : TE} {p c l : Addr} {t : Nat} {xs : List V} {E : XK} {Q : VK} (hp : Ev ta σ H (.ref p)) (hb : EvL tb σ H xs) (pu : Pur H p c t) (t1 : t ≤ 90000) (x100 : xs.length ≤ 100)
    (q : ∀ m ys H', ys.Perm xs → H m = none → Off H H' p c → Pur H' p c (t + xs.length) → H' m = some (.lst ys) → Q (.ref m) H') : tCall (sp_mixed K) [] E (tCons ta (tCons tb tNil)) σ H Q :=
  hp H (Ex.refl H) _ fun H1 e1 => hb H1 e1 _ fun l H2 nl e2 hl => ⟨p, c, l, t, xs, rfl, pu.ex (e1.trans e2), t1, sq_of hl, ((pu.ex e1).fresh nl).1, ((pu.ex e1).fresh nl).2, x100, fun m ys H3 perm nm o p3 hm => q m ys H3 perm (fresh_back (e1.trans e2) nm) ((Off.of_ex (e1.trans e2)).trans o) p3 hm⟩
/-! ### an order drawn -/
/-- a tuple of natural numbers, told with its own object -/
def FNats (H : Hp) (v : V) (ns : List Nat) : Prop := ∃ a ob, v = .ref a ∧ H a = some (.frz ob (.tup (ns.map vi))) ∧ ob.dict = none
theorem FNats.nats {H : Hp} {v : V} {ns : List Nat} (h : FNats H v ns) : Nats K H v ns := let ⟨a, ob, q, s, _⟩ := h; ⟨a, q, .inl (.inr ⟨ob, s⟩)⟩
theorem FNats.ex {H H' : Hp} {v : V} {ns : List Nat} (e : Ex H H') (h : FNats H v ns) : FNats H' v ns := let ⟨a, ob, q, s, d⟩ := h; ⟨a, ob, q, e _ _ s, d⟩
theorem FNats.off {H H' : Hp} {v : V} {ns : List Nat} {p c : Addr} {t : Nat} (pu : Pur H p c t) (o : Off H H' p c) (h : FNats H v ns) : FNats H' v ns := by
  obtain ⟨a, ob, q, s, d⟩ := h
  refine ⟨a, ob, q, o _ _ (fun e => ?_) (fun e => ?_) s, d⟩
  · rw [e, pu.1] at s
    cases s
  · obtain ⟨_, cs, _, _, h3⟩ := pu
    rw [e, h3] at s
    cases s
def sp_order : Sp := fun vs H Q _ => ∃ (p c : Addr) (t n : Nat), vs = [.ref p, vi n] ∧ Pur H p c t ∧ t ≤ 90000 ∧ n ≤ 6 ∧ ∀ v o H', Off H H' p c → Pur H' p c (t + n) → FNats H' v o → Ord n o → Q v H'
theorem rg0 (n : Nat) : rgV 0 (n : Int) = (List.range n).map vi := by
  unfold rgV
  rw [Int.sub_zero, Int.toNat_natCast]
  apply List.map_congr_left
  intro k _
  show V.int (0 + (k : Int)) = V.int (k : Int)
  rw [Int.zero_add]
theorem el_lrg {σ : L2.St} {H : Hp} {te : TE} {n : Nat} (h : Ev te σ H (vi n)) (hn : n ≤ 1000) : EvL (tLstRg (tRg1 te)) σ H ((List.range n).map vi) := fun H1 e Q q =>
  h H1 e _ fun H2 e2 => ⟨(n : Int), rfl, ⟨by omega, by omega, by omega, by omega, by omega⟩, fun r nr => by
    rw [rg0]
    exact q r _ (fresh_back e2 nr) (e2.trans (Ex.new nr)) upd_same⟩
def unint : V → Nat
  | .int i => i.toNat
  | _ => 0
theorem perm_nats {ys : List V} {n : Nat} (h : ys.Perm ((List.range n).map vi)) : ∃ o, ys = o.map vi ∧ Ord n o := by
  have e1 : ((List.range n).map vi).map unint = List.range n := by
    rw [List.map_map]
    have : (unint ∘ vi) = id := funext fun k => Int.toNat_natCast k
    rw [this, List.map_id]
  have p := h.map unint
  rw [e1] at p
  refine ⟨ys.map unint, ?_, ?_⟩
  · rw [List.map_map]
    have : ys.map (vi ∘ unint) = ys.map id := List.map_congr_left fun v hv => by
      obtain ⟨k, _, rfl⟩ := List.mem_map.mp (h.mem_iff.mp hv)
      show vi (unint (vi k)) = vi k
      show V.int (((k : Int).toNat : Nat) : Int) = V.int (k : Int)
      rw [Int.toNat_natCast]
    rw [this, List.map_id]
  · have nd : (ys.map unint).Nodup := p.nodup_iff.mpr List.nodup_range
    have len : (ys.map unint).length = n := by rw [p.length_eq, List.length_range]
    refine ⟨len, fun k hk => ?_, fun j k hj hk e => ?_⟩
    · have : g (ys.map unint) k ∈ ys.map unint := List.mem_iff_getElem?.mpr ⟨k, g_eq (by rw [len]; exact hk)⟩
      exact List.mem_range.mp (p.mem_iff.mp this)
    · have h1 := g_eq (l := ys.map unint) (k := j) (by rw [len]; exact hj)
      have h2 := g_eq (l := ys.map unint) (k := k) (by rw [len]; exact hk)
      rw [List.getElem?_eq_getElem (by rw [len]; exact hj)] at h1
      rw [List.getElem?_eq_getElem (by rw [len]; exact hk)] at h2
      exact (List.getElem_inj nd).mp ((Option.some.inj h1).trans (e.trans (Option.some.inj h2).symm))
theorem c_order (T : Txt mg) (D : Df K mg "_law_order" s_ordr ["_law_purse_here", "_law_size"]) (c_mixed : Cl P w K mg base 2 "_law_mixed" (sp_mixed K)) : Cl P w K mg base 3 "_law_order" sp_order := by
  refine cl_of (k := 2) D sc_ordr (fun vs H Q E h => ?_) (fun f cdv A outer s H vs Q E hr h => ?_)
  · obtain ⟨p, c, t, n, rfl, _⟩ := h
    rfl
  · obtain ⟨p, c, t, n, rfl, pu, t1, n6, q⟩ := h
    refine ⟨_, (pss_one (ps_ret (pe_callTy call_tupF (by rfl) T.z_tuple (by decide +kernel) (pa_cons (pe_cl c_mixed hr (by decide) (by rfl) (pa_cons (pv 0) (pa_cons (pe_listRg rfl (by rfl) T.z_list (prg_1 (by rfl) T.z_range (pv 1))) pa_nil))) pa_nil)))), ?_⟩
    refine do_mixed (l := p) (ev_var rfl) (el_lrg (ev_var rfl) (by omega)) pu t1 (by simp; omega) fun m ys H1 perm nm o1 pu1 hm => ?_
    rw [List.length_map, List.length_range] at pu1
    obtain ⟨o, rfl, ord⟩ := perm_nats perm
    refine ⟨m, _, rfl, sq_of hm, fun r ob nr dn => q _ o _ (o1.trans (.of_ex (Ex.new nr))) (pu1.ex (Ex.new nr)) ⟨r, ob, rfl, upd_same, dn⟩ ord⟩
/-! ### a signature drawn -/
def okN : List Str := ["m", "e", "co", "sq", "a", "back"]
theorem okN_nd : okN.Nodup := by decide +kernel
theorem okN_name : ∀ z ∈ okN, Name z := by
  have h : ∀ z ∈ okN, 1 ≤ z.length ∧ z.length ≤ 4 ∧ ∀ c ∈ z.cps.toList, c ∈ letters.cps.toList := by decide +kernel
  exact fun z hz => ⟨(h z hz).1, (h z hz).2.1, (h z hz).2.2⟩
def unstr : V → Str
  | .str z => z
  | _ => ""
theorem perm_strs {ys : List V} {zs : List Str} (h : ys.Perm (zs.map V.str)) : ∃ us : List Str, ys = us.map V.str ∧ us.Perm zs := by
  have e1 : (zs.map V.str).map unstr = zs := by
    rw [List.map_map]
    have : (unstr ∘ V.str) = id := rfl
    rw [this, List.map_id]
  have p := h.map unstr
  rw [e1] at p
  refine ⟨ys.map unstr, ?_, p⟩
  rw [List.map_map]
  have : ys.map (V.str ∘ unstr) = ys.map id := List.map_congr_left fun v hv => by
    obtain ⟨k, _, rfl⟩ := List.mem_map.mp (h.mem_iff.mp hv)
    rfl
  rw [this, List.map_id]
def sp_signature (K : PySem.W.Frag) : Sp := fun vs H Q _ => ∃ (p c : Addr) (t : Nat), vs = [.ref p, vi 4] ∧ Pur H p c t ∧ t ≤ 80000 ∧ ∀ v sg t' H', Off H H' p c → Pur H' p c t' → t' ≤ t + 20 → Sig K H' v sg → SigOk sg → Q v H'
def pls : List Nat := [0, 1, 2, 2]
theorem c_signature (T : Txt mg) (D : Df K mg "_law_signature" s_sgn ["_law_purse_here", "_law_most"]) (c_draw : Cl P w K mg base 1 "_law_draw" sp_draw) (c_mixed : Cl P w K mg base 2 "_law_mixed" (sp_mixed K)) : Cl P w K mg base 3 "_law_signature" (sp_signature K) := by
  refine cl_of (k := 2) D sc_sgn (fun vs H Q E h => ?_) (fun f cdv A outer s H vs Q E hr h => ?_)
  · obtain ⟨p, c, t, rfl, _⟩ := h
    rfl
  · obtain ⟨p, c, t, rfl, pu, t1, q⟩ := h
    refine ⟨_, (pss_cons (ps_set (i := 2) sc_sgn.nd rfl (.inl rfl) (pe_cl c_mixed hr (by first | decide | omega) (by rfl) (pa_cons (pv 0) (pa_cons (pe_lst (pa_cons pe_str (pa_cons pe_str (pa_cons pe_str (pa_cons pe_str (pa_cons pe_str (pa_cons pe_str pa_nil))))))) pa_nil))))
      (pss_cons (ps_set (i := 3) sc_sgn.nd rfl (.inl rfl) (pe_lst pa_nil))
      (pss_cons (ps_for PassesOwn.never (by rfl) (pi_range1 (by rfl) T.z_range (pa_cons (pe_op op_add pe_int (pe_cl c_draw hr (by first | decide | omega) (by rfl) (pa_cons (pv 0) (pa_cons (pv 1) pa_nil)))) pa_nil)) (pg_name (i := 4) sc_sgn.nd rfl (.inl rfl))
        (pss_one (ps_expr (pe_bm PySem.F.plainAttrs_list PySem.F.slot_list_append PySem.F.type_list_append mt_append (pv 3) (pa_cons (pe_tup (pa_cons (pe_ix ix_list (pv 2) (pv 4) (fun _ _ => rfl)) (pa_cons (pe_ix ix_list (pe_lst (pa_cons pe_int (pa_cons pe_int (pa_cons pe_int (pa_cons pe_int pa_nil))))) (pe_cl c_draw hr (by first | decide | omega) (by rfl) (pa_cons (pv 0) (pa_cons pe_int pa_nil))) (fun _ _ => rfl)) pa_nil))) pa_nil)))))
      (pss_one (ps_ret (pe_callTy call_tuple_of (by rfl) T.z_tuple (by decide +kernel) (pa_cons (pv 3) pa_nil))))))), ?_⟩
    -- the names
    refine do_mixed (l := p) (ev_var rfl) (el_lst (vs := okN.map V.str) (ea_cons ev_c (ea_cons ev_c (ea_cons ev_c (ea_cons ev_c (ea_cons ev_c (ea_cons ev_c ea_nil)))))) (by show 6 ≤ 100000; decide)) pu (by omega) (by show 6 ≤ 100; decide) fun m ys H1 perm nm o1 pu1 hm => ?_
    replace pu1 : Pur H1 p c (t + 6) := pu1
    obtain ⟨zs, rfl, pz⟩ := perm_strs perm
    have lz : zs.length = 6 := pz.length_eq
    have ndz : zs.Nodup := pz.nodup_iff.mpr okN_nd
    obtain ⟨mp, mc⟩ := pu.fresh nm
    show tSeq _ _ _ _ H1
    refine q_asgL (el_lst ea_nil (Nat.zero_le _)) fun l H2 nl e2 hl => ?_
    obtain ⟨lp, lc⟩ := pu1.fresh nl
    have lm : l ≠ m := fun e => by rw [e, hm] at nl; cases nl
    have hm2 := e2 _ _ hm
    have pu2 := pu1.ex e2
    have nlH : H l = none := o1.back lp lc nl
    have o2 : Off H H2 p c := o1.trans (.of_ex e2)
    refine q_forRX (fun n H3 => 1 ≤ n ∧ n ≤ 4 ∧ Off H2 H3 p c ∧ Pur H3 p c (t + 7)) (fun Q h => ?_) (fun n H3 h => by omega)
      (fun n i σ H' => (1 ≤ n ∧ n ≤ 4) ∧ Off H H' p c ∧ Pur H' p c (t + 7 + i) ∧ H' m = some (.lst (zs.map V.str)) ∧ (∃ ws sg, H' l = some (.lst ws) ∧ Paired (Deed K H') ws sg ∧ sg.map (·.1) = zs.take i ∧ ∀ q ∈ sg, q.2 ≤ 2) ∧ ∃ y, σ = [some (.ref p), some (vi 4), some (.ref m), some (.ref l), y])
      (fun n H3 ⟨a, b, o3, pu3⟩ => ⟨⟨a, b⟩, o2.trans o3, pu3, o3 _ _ mp mc hm2, ⟨[], [], o3 _ _ lp lc hl, .nil, rfl, fun _ z => nomatch z⟩, _, rfl⟩) (fun n i σ H3 hi ⟨⟨a, b⟩, o3, pu3, hm3, ⟨ws, sg, hws, pws, nms, pl2⟩, y, hσ⟩ => ?_) (fun n σ H3 ⟨⟨a, b⟩, o3, pu3, hm3, ⟨ws, sg, hws, pws, nms, pl2⟩, y, hσ⟩ => ?_)
    · refine do_draw (ev_var rfl) (ev_var rfl) pu2 (by omega) (by decide) (by decide) fun k H3 hk o3 pu3 => ⟨1, (k : Int), rfl, rfl, ?_⟩
      have e : V.int (1 + (k : Int)) = vi (k + 1) := by
        show V.int (1 + (k : Int)) = V.int ((k + 1 : Nat) : Int)
        rw [Int.natCast_add, Int.add_comm]
        rfl
      show Q [V.int (1 + (k : Int))] H3
      rw [e]
      exact h (k + 1) H3 ⟨by omega, by omega, o3, pu3⟩
    · subst hσ
      have hz : i < zs.length := by omega
      refine ⟨.ref l, rfl, .inl ⟨rfl, _, sq_of hws⟩, ?_⟩
      have nameE : Ev (tOp (rIxL K) (tVar 2) (tVar 4)) [some (.ref p), some (vi 4), some (.ref m), some (.ref l), some (vi i)] H3 (.str zs[i]) := ev_op (ev_var rfl) (ev_var rfl) (rv_ixL (sq_of hm3) (atI_vi (by rw [List.getElem?_map, List.getElem?_eq_getElem hz]; rfl)))
      refine nameE H3 (Ex.refl _) _ fun H4 e4 => ?_
      have plsE : EvL (tLst (tCons (tC (.int 0)) (tCons (tC (.int 1)) (tCons (tC (.int 2)) (tCons (tC (.int 2)) tNil))))) [some (.ref p), some (vi 4), some (.ref m), some (.ref l), some (vi i)] H4 (pls.map vi) := el_lst (ea_cons ev_c (ea_cons ev_c (ea_cons ev_c (ea_cons ev_c ea_nil)))) (by show 4 ≤ 100000; decide)
      refine do_cons (do_op (do_evL plsE fun d H5 nd e5 hd => ?_))
      have e35 := e4.trans e5
      refine do_draw (ev_var rfl) (ev_c (v := vi 4)) (pu3.ex e35) (by omega) (by decide) (by decide) fun k H6 hk o6 pu6 => ?_
      obtain ⟨dp, dc⟩ := (pu3.ex e4).fresh nd
      refine ⟨d, pls.map vi, (k : Int), vi (g pls k), rfl, rfl, sq_of (o6 _ _ dp dc hd), atI_vi (vi_get hk), ?_⟩
      refine ⟨by show 2 ≤ sizeLine; decide, fun r nr => ?_⟩
      have hl6 : H6 l = some (.lst ws) := o6 _ _ lp lc (e35 _ _ hws)
      have hl7 : (upd H6 r (.tup [.str zs[i], vi (g pls k)])) l = some (.lst ws) := by rw [upd_ne (ne_of_none hl6 nr)]; exact hl6
      have lw : ws.length ≤ 4 := by
        have h1 := paired_len pws
        have h2 := congrArg List.length nms
        rw [List.length_map, List.length_take] at h2
        omega
      refine ⟨l, ws, .ref r, rfl, rfl, hl7, sz_lt (by omega), ?_⟩
      have o36 : Off H3 H6 p c := (Off.of_ex e35).trans o6
      have o37 : Off H3 (upd H6 r (.tup [.str zs[i], vi (g pls k)])) p c := o36.trans (.of_ex (Ex.new nr))
      obtain ⟨rp, rc⟩ := pu6.fresh nr
      have et : ET K H3 (upd (upd H6 r (.tup [.str zs[i], vi (g pls k)])) l (.lst (ws ++ [.ref r]))) := ET.upd (o37.et pu3) hl7
      have hm6 : H6 m = some (.lst (zs.map V.str)) := o6 _ _ mp mc (e35 _ _ hm3)
      refine ⟨⟨a, b⟩, (o3.trans o37).upd nlH, (pu6.upd rp rc).upd lp lc, ?_, ⟨ws ++ [.ref r], sg ++ [(zs[i], g pls k)], upd_same, paired_snoc ?_ (paired_imp (fun _ _ z => z.et et) pws), ?_, fun x hx => ?_⟩, _, rfl⟩
      · rw [upd_ne (Ne.symm lm), upd_ne (ne_of_none hm6 nr)]
        exact hm6
      · refine ⟨r, rfl, st_of ?_⟩
        rw [upd_ne (fun e => by rw [e] at nr; rw [nr] at hl6; cases hl6), upd_same]
      · rw [List.map_append, nms, List.take_add_one, List.getElem?_eq_getElem hz]
        rfl
      · rcases List.mem_append.mp hx with z | z
        · exact pl2 x z
        · rw [List.mem_singleton.mp z]
          have : ∀ k, k < 4 → g pls k ≤ 2 := by decide
          exact this k hk
    · subst hσ
      have ls : sg.length = n := by
        have h2 := congrArg List.length nms
        rw [List.length_map, List.length_take] at h2
        omega
      have ok : SigOk sg := ⟨by omega, by omega, fun x hx => okN_name _ (pz.mem_iff.mp (List.mem_of_mem_take (by rw [← nms]; exact List.mem_map.mpr ⟨x, hx, rfl⟩))), pl2, by rw [nms]; exact (List.take_sublist _ _).nodup ndz⟩
      refine eu_tupL (K := K) (ev_var rfl) (sq_of hws) H3 (Ex.refl _) _ fun r H4 nr e4 hr4 => q _ sg (t + 7 + n) H4 (o3.trans (.of_ex e4)) (pu3.ex e4) (by omega) ⟨r, ws, rfl, st_of hr4, paired_imp (fun _ _ z => z.et (Dw.Ex.et e4)) pws⟩ ok
end
end K20
end
section
namespace K20
open PySem PySem.Spec PyProof.Rows L2 Evl RZ Dw M20
/-- a comprehension whose element may do anything, by what holds between its turns -/
theorem do_lcIt {J : It} {n : Nat} {G : Hp → Prop} {Y : Nat → Hp → V → Hp → Prop} {wi : TI} {g : TG} {te : TE} {σ : L2.St} {H : Hp} {vs : List Nat} {Q : VK} (w : Walk J n G Y) (hw0 : ∀ R : It → Hp → Prop, (∀ H1, Ex H H1 → R J H1) → wi σ H R) (Pv : Addr → Nat → Hp → Prop)
    (h0 : ∀ D H1, Ex H H1 → H1 D = none → Pv D 0 (upd H1 D (.lst []))) (hG : ∀ D i H', i ≤ n → Pv D i H' → G H')
    (hs : ∀ D i x H' H'', i < n → Pv D i H' → Y i H' x H'' → g x (wipe σ vs) H'' fun σ2 H2 => wipe σ2 vs = wipe σ vs ∧ if true = true then te σ2 H2 fun y H4 => ∃ acc, H4 D = some (.lst acc) ∧ acc.length < sizeLine ∧ Pv D (i + 1) (upd H4 D (.lst (acc ++ [y]))) else Pv D (i + 1) H2)
    (hd : ∀ D H', Pv D n H' → Q (.ref D) H') : tLc wi g tYes te vs σ H Q :=
  hw0 _ fun H1 e1 Dl nD => lc_it w (Pv Dl) (h0 Dl H1 e1 nD) (hG Dl) (fun i x H2 H3 hi p y => hs Dl i x H2 H3 hi p y) (fun H2 p => hd Dl H2 p)
theorem do_name {i : Nat} {v : V} {σ : L2.St} {H : Hp} {Q : L2.St → Hp → Prop} (h : Q (σ.set i (some v)) H) : gName i v σ H Q := h
theorem do_set {i : Nat} {te : TE} {tz : TS} {D : Ends} {σ : L2.St} {H : Hp} (h : te σ H fun x H1 => tz D (σ.set i (some x)) H1) : tSeq (tAsg te (gName i)) tz D σ H := h
theorem do_sub {to ti : TE} {t : TSet} {v : V} {σ : L2.St} {H : Hp} {Q : L2.St → Hp → Prop} (h : to σ H fun o H1 => ti σ H1 fun i H2 => t o i v H2 fun H3 => Q σ H3) : gSub to ti t v σ H Q := h
/-- something put behind a list -/
theorem do_app {K : PySem.W.Frag} {ta te : TE} {l : Addr} {xs : List V} {D : Ends} {σ : L2.St} {H : Hp} (hl : H l = some (.lst xs)) (ha : Ev ta σ H (.ref l))
    (h : ∀ H1, Ex H H1 → te σ H1 fun v H2 => ∃ a ys y, V.ref l = .ref a ∧ [v] = [y] ∧ H2 a = some (.lst ys) ∧ ys.length < sizeLine ∧ D.nx σ (upd H2 a (.lst (ys ++ [y])))) : tDrop (tBM K "list" rAppend ta (tCons te tNil)) D σ H :=
  ha H (Ex.refl H) _ fun H1 e1 => ⟨Or.inl ⟨rfl, xs, sq_of (e1 l _ hl)⟩, h H1 e1⟩
theorem vi_addmod (a b n : Nat) : V.int ((((a : Nat) : Int) + ((b : Nat) : Int)) % (n : Int)) = vi ((a + b) % n) := by
  rw [← Int.natCast_add, ← Int.natCast_emod]
theorem vi_max (a b : Nat) : V.int (if (b : Int) > (a : Int) then (b : Int) else (a : Int)) = vi (max a b) := by
  by_cases h : a < b
  · rw [if_pos (by omega), Nat.max_eq_right (Nat.le_of_lt h)]
  · rw [if_neg (by omega), Nat.max_eq_left (by omega)]
theorem vi_min (a b : Nat) : V.int (if (b : Int) < (a : Int) then (b : Int) else (a : Int)) = vi (min a b) := by
  by_cases h : b < a
  · rw [if_pos (by omega), Nat.min_eq_right (Nat.le_of_lt h)]
  · rw [if_neg (by omega), Nat.min_eq_left (by omega)]
section
variable {P : Program} {w : World} {K : PySem.W.Frag} {mg : Str → Option Value} {base : Heap}
/-! ### a table drawn -/
def sp_table (K : PySem.W.Frag) : Sp := fun vs H Q _ => ∃ (p c : Addr) (t n pl : Nat), vs = [.ref p, vi n, vi pl] ∧ Pur H p c t ∧ t ≤ 80000 ∧ 1 ≤ n ∧ n ≤ 6 ∧ pl ≤ 2 ∧ ∀ v tb t' H', Off H H' p c → Pur H' p c t' → t' ≤ t + 100 → Nats K H' v tb → Tab n pl tb → Q v H'
theorem tab_of {n pl : Nat} {ks : List Nat} (h1 : ks.length = n ^ pl) (h2 : ∀ k ∈ ks, k < n) : Tab n pl ks := ⟨h1, fun k hk => h2 _ (List.mem_iff_getElem?.mpr ⟨k, g_eq (by rw [h1]; exact hk)⟩)⟩
theorem c_table (T : Txt mg) (D : Df K mg "_law_table" s_tbl ["_law_purse_here", "_law_size", "_law_places"]) (c_draw : Cl P w K mg base 1 "_law_draw" sp_draw) (c_mixed : Cl P w K mg base 2 "_law_mixed" (sp_mixed K)) : Cl P w K mg base 3 "_law_table" (sp_table K) := by
  refine cl_of (k := 2) D sc_tbl (fun vs H Q E h => ?_) (fun f cdv A outer s H vs Q E hr h => ?_)
  · obtain ⟨p, c, t, n, pl, rfl, _⟩ := h
    rfl
  · obtain ⟨p, c, t, n, pl, rfl, pu, t1, n1, n6, p2, q⟩ := h
    refine ⟨_, (pss_cons (ps_set (i := 3) sc_tbl.nd rfl (.inl rfl) (pe_cl c_draw hr (by first | decide | omega) (by rfl) (pa_cons (pv 0) (pa_cons pe_int pa_nil))))
      (pss_cons (ps_if (pt_cmpR op_eq (pv 2) pe_int (nomark _))
        (pss_one (ps_ret (pe_tup (pa_cons (pe_cl c_draw hr (by first | decide | omega) (by rfl) (pa_cons (pv 0) (pa_cons (pv 1) pa_nil))) pa_nil))))
        pss_nil)
      (pss_cons (ps_if (pt_cmpR op_eq (pv 2) pe_int (nomark _))
        (pss_cons (ps_set (i := 4) sc_tbl.nd rfl (.inl rfl) (pe_cl c_mixed hr (by first | decide | omega) (by rfl) (pa_cons (pv 0) (pa_cons (pe_listRg rfl (by rfl) T.z_list (prg_1 (by rfl) T.z_range (pv 1))) pa_nil))))
        (pss_one (ps_ret (pe_ix ix_list (pe_lst (pa_cons (pe_callTy call_tuple_of (by rfl) T.z_tuple (by decide +kernel) (pa_cons (pe_lc (own := [("_law_k", 7)]) (g := (gName 7)) (by rfl) sc_tbl.nd (pi_range1 (by rfl) T.z_range (pa_cons (pv 1) pa_nil)) (blkOk_by (own := [("_law_k", 7)]) (N := ["_law_purse_here", "_law_size", "_law_places", "_law_way_here", "_law_turned", "_law_by", "_law_brought", "_law_k", "_law_one", "_law_other", "_law_some_here"]) (sc := defScope s_tbl) (by decide +kernel)) (fun _ _ _ _ _ => (pg_name (i := 7) sc_tbl.nd rfl (.inl rfl))) (fun _ _ _ _ _ => pts_nil) (fun _ _ _ _ _ => (pe_cl c_draw hr (by first | decide | omega) (by rfl) (pa_cons (pv 0) (pa_cons (pv 1) pa_nil))))) pa_nil)) (pa_cons (pe_callTy call_tuple_of (by rfl) T.z_tuple (by decide +kernel) (pa_cons (pv 4) pa_nil)) pa_nil))) (pe_op op_mod (pv 3) pe_int) (fun _ _ => rfl)))))
        pss_nil)
      (pss_cons (ps_set (i := 5) sc_tbl.nd rfl (.inl rfl) (pe_cl c_draw hr (by first | decide | omega) (by rfl) (pa_cons (pv 0) (pa_cons (pv 1) pa_nil))))
      (pss_cons (ps_set (i := 6) sc_tbl.nd rfl (.inl rfl) (pe_lst pa_nil))
      (pss_cons (ps_for PassesOwn.never (by rfl) (pi_range1 (by rfl) T.z_range (pa_cons (pe_op op_mul (pv 1) (pv 1)) pa_nil)) (pg_name (i := 7) sc_tbl.nd rfl (.inl rfl))
        (pss_cons (ps_par (i := 8) (j := 9) (by rfl) sc_tbl.nd rfl rfl (by decide) rfl rfl (pa_cons (pe_op op_fdiv (pv 7) (pv 1)) (pa_cons (pe_op op_mod (pv 7) (pv 1)) pa_nil)) (by rfl))
        (pss_cons (ps_set (i := 10) sc_tbl.nd rfl (.inl rfl) (pe_lst (pa_cons (pe_op op_mod (pe_op op_add (pv 8) (pv 9)) (pv 1)) (pa_cons (pe_callB (call_max2 rfl) (by rfl) T.z_max (by decide +kernel) (pa_cons (pv 8) (pa_cons (pv 9) pa_nil))) (pa_cons (pe_callB (call_min2 rfl) (by rfl) T.z_min (by decide +kernel) (pa_cons (pv 8) (pa_cons (pv 9) pa_nil))) (pa_cons (pv 5) (pa_cons (pv 8) (pa_cons (pv 9) pa_nil))))))))
        (pss_one (ps_expr (pe_bm PySem.F.plainAttrs_list PySem.F.slot_list_append PySem.F.type_list_append mt_append (pv 6) (pa_cons (pe_ix ix_list (pe_op op_cat (pv 10) (pe_lst (pa_cons (pe_cl c_draw hr (by first | decide | omega) (by rfl) (pa_cons (pv 0) (pa_cons (pv 1) pa_nil))) pa_nil))) (pv 3) (fun _ _ => rfl)) pa_nil)))))))
      (pss_cons (ps_if (pt_cmpR op_eq (pe_cl c_draw hr (by first | decide | omega) (by rfl) (pa_cons (pv 0) (pa_cons pe_int pa_nil))) pe_int (nomark _))
        (pss_one (ps_asg (pe_cl c_draw hr (by first | decide | omega) (by rfl) (pa_cons (pv 0) (pa_cons (pv 1) pa_nil))) (pg_sub (pv 6) (pe_cl c_draw hr (by first | decide | omega) (by rfl) (pa_cons (pv 0) (pa_cons (pe_op op_mul (pv 1) (pv 1)) pa_nil))) set_list)))
        pss_nil)
      (pss_one (ps_ret (pe_callTy call_tuple_of (by rfl) T.z_tuple (by decide +kernel) (pa_cons (pv 6) pa_nil))))))))))), ?_⟩
    have nn : n * n ≤ 36 := Nat.mul_le_mul n6 n6
    have nn1 : 1 ≤ n * n := Nat.mul_le_mul n1 n1
    -- way = draw(purse, 7)
    refine do_seq (do_asg (do_draw (ev_var rfl) (ev_c (v := vi 7)) pu (by omega) (by decide) (by decide) fun way H1 hw o1 pu1 => ?_))
    show tSeq _ _ _ [some (.ref p), some (vi n), some (vi pl), some (vi way), none, none, none, none, none, none, none] H1
    refine q_when (et_test (ev_op (ev_var rfl) ev_c (rv_eq rfl))) (fun hb H2 e2 => ?_) (fun hb H2 e2 => ?_)
    · have p0 : pl = 0 := by
        have z : (pl : Int) = 0 := V.int.inj (of_decide_eq_true hb)
        omega
      subst p0
      refine do_ret (do_tup (do_cons (do_draw (ev_var rfl) (ev_var rfl) (pu1.ex e2) (by omega) n1 (by omega) fun k H3 hk o3 pu3 => ?_)))
      refine ⟨by show 1 ≤ sizeLine; decide, fun r nr => q _ [k] (t + 2) _ (((o1.trans (.of_ex e2)).trans o3).trans (.of_ex (Ex.new nr))) (pu3.ex (Ex.new nr)) (by omega) ⟨r, rfl, st_of upd_same⟩ (tab_of rfl (fun x hx => by rw [List.mem_singleton.mp hx]; exact hk))⟩
    · refine q_when (et_test (ev_op (ev_var rfl) ev_c (rv_eq rfl))) (fun hb1 H3 e3 => ?_) (fun hb1 H3 e3 => ?_)
      · have p1 : pl = 1 := by
          have z : (pl : Int) = 1 := V.int.inj (of_decide_eq_true hb1)
          omega
        subst p1
        have e13 := e2.trans e3
        refine do_set ((do_mixed (l := p) (ev_var rfl) (el_lrg (ev_var rfl) (by omega)) (pu1.ex e13) (by omega) (by simp; omega) fun m ys H4 perm nm o4 pu4 hm => ?_))
        rw [List.length_map, List.length_range] at pu4
        obtain ⟨o, rfl, ord⟩ := perm_nats perm
        obtain ⟨mp, mc⟩ := (pu1.ex e13).fresh nm
        have o14 : Off H H4 p c := (o1.trans (.of_ex e13)).trans o4
        refine do_ret (do_op (do_lst (do_cons (do_cb (do_cons ?_)))))
        refine do_lcIt walk_range (fun R r => w_rng (n := n) (ea_cons (ev_var rfl) ea_nil) (by omega) H4 (Ex.refl _) R r) (fun D i H' => H4 D = none ∧ Off H4 H' p c ∧ Pur H' p c (t + 1 + n + i) ∧ ∃ ks : List Nat, H' D = some (.lst (ks.map vi)) ∧ ks.length = i ∧ ∀ k ∈ ks, k < n)
          (fun D H5 e5 nD => ⟨fresh_back e5 nD, .of_ex (e5.trans (Ex.new nD)), (pu4.ex (e5.trans (Ex.new nD))), [], upd_same, rfl, fun _ z => nomatch z⟩) (fun _ _ _ _ _ => trivial) (fun D i x H5 H6 hi ⟨nD, o5, pu5, ks, hks, lk, low⟩ y => ?_) (fun D H5 ⟨nD, o5, pu5, ks, hks, lk, low⟩ => ?_)
        · obtain ⟨rfl, rfl⟩ := y
          obtain ⟨Dp, Dc⟩ := pu4.fresh nD
          refine ⟨rfl, iteT (do_draw (ev_var rfl) (ev_var rfl) pu5 (by omega) n1 (by omega) fun k H7 hk o7 pu7 => ⟨ks.map vi, o7 _ _ Dp Dc hks, sz_lt (by rw [List.length_map]; omega), nD, (o5.trans o7).upd nD, pu7.upd Dp Dc, ks ++ [k], ?_, by rw [List.length_append, lk]; rfl, fun x hx => ?_⟩)⟩
          · rw [upd_same, List.map_append]
            rfl
          · rcases List.mem_append.mp hx with z | z
            · exact low x z
            · rw [List.mem_singleton.mp z]
              exact hk
        · -- tuple(the list), tuple(turned)
          obtain ⟨Dp, Dc⟩ := pu4.fresh nD
          refine ⟨D, _, rfl, .inl ⟨sq_of hks, fun r nr => ?_⟩⟩
          have hm5 : H5 m = some (.lst (o.map vi)) := o5 _ _ mp mc hm
          have hm6 : (upd H5 r (.tup (ks.map vi))) m = some (.lst (o.map vi)) := Ex.new nr _ _ hm5
          have pu6 := pu5.ex (Ex.new (o := .tup (ks.map vi)) nr)
          refine do_cons (do_evU (eu_tupL (K := K) (ev_var rfl) (sq_of hm6)) fun r2 H7 nr2 e7 hr2 => ?_)
          refine ⟨by show 2 ≤ sizeLine; decide, fun l nl => ?_⟩
          have e68 : Ex (upd H5 r (.tup (ks.map vi))) (upd H7 l (.lst [.ref r, .ref r2])) := e7.trans (Ex.new nl)
          have o18 : Off H (upd H7 l (.lst [.ref r, .ref r2])) p c := ((o14.trans o5).trans (.of_ex (Ex.new nr))).trans (.of_ex e68)
          have pu8 := pu6.ex e68
          have hr8 : (upd H7 l (.lst [.ref r, .ref r2])) r = some (.tup (ks.map vi)) := e68 _ _ upd_same
          have hr28 : (upd H7 l (.lst [.ref r, .ref r2])) r2 = some (.tup (o.map vi)) := Ex.new nl _ _ hr2
          refine do_ev (v := vi (way % 2)) (ev_is (ev_op (ev_var rfl) ev_c (rv_I (by decide))) (by show V.int ((way : Int) % 2) = V.int ((way % 2 : Nat) : Int); rw [Int.natCast_emod]; rfl)) fun H9 e9 => ?_
          have b9 := o18.trans (.of_ex e9)
          have pu9 := pu8.ex e9
          have hl9 : H9 l = some (.lst [.ref r, .ref r2]) := e9 _ _ upd_same
          have le : t + 1 + n + n ≤ t + 100 := by omega
          rcases Nat.mod_two_eq_zero_or_one way with z | z
          · rw [z]
            exact ⟨l, _, 0, .ref r, rfl, rfl, sq_of hl9, rfl, q _ ks _ H9 b9 pu9 le ⟨r, rfl, st_of (e9 _ _ hr8)⟩ (tab_of (by rw [lk, Nat.pow_one]) low)⟩
          · rw [z]
            refine ⟨l, _, 1, .ref r2, rfl, rfl, sq_of hl9, rfl, q _ o _ H9 b9 pu9 le ⟨r2, rfl, st_of (e9 _ _ hr28)⟩ ⟨by rw [ord.len, Nat.pow_one], fun k hk => ord.low k (by rw [Nat.pow_one] at hk; exact hk)⟩⟩
      · have p2' : pl = 2 := by
          have a0 : pl ≠ 0 := fun z => by
            subst z
            exact absurd rfl (of_decide_eq_false hb)
          have a1 : pl ≠ 1 := fun z => by
            subst z
            exact absurd rfl (of_decide_eq_false hb1)
          omega
        subst p2'
        have e13 := e2.trans e3
        refine do_seq (do_asg (do_draw (ev_var rfl) (ev_var rfl) (pu1.ex e13) (by omega) n1 (by omega) fun by' H4 hby o4 pu4 => ?_))
        show tSeq _ _ _ [some (.ref p), some (vi n), some (vi 2), some (vi way), none, some (vi by'), none, none, none, none, none] H4
        have o14 : Off H H4 p c := (o1.trans (.of_ex e13)).trans o4
        refine q_asgL (el_lst ea_nil (Nat.zero_le _)) fun l H5 nl e5 hl => ?_
        obtain ⟨lp, lc⟩ := pu4.fresh nl
        have nlH : H l = none := o14.back lp lc nl
        have o15 : Off H H5 p c := o14.trans (.of_ex e5)
        have pu5 := pu4.ex e5
        have sq : Ev (tOp (rI CMul fun i j => .int (i * j)) (tVar 1) (tVar 1)) [some (.ref p), some (vi n), some (vi 2), some (vi way), none, some (vi by'), some (.ref l), none, none, none, none] H5 (vi (n * n)) := ev_is (ev_op (ev_var rfl) (ev_var rfl) (rv_I (.inl ⟨by omega, by omega⟩))) (by show V.int ((n : Int) * (n : Int)) = V.int ((n * n : Nat) : Int); rw [Int.natCast_mul])
        refine q_forRX (fun m H6 => m = n * n ∧ Ex H5 H6) (fun Q h => ea_cons sq ea_nil H5 (Ex.refl _) Q fun H6 e6 => h (n * n) H6 ⟨rfl, e6⟩) (fun m H6 h => by omega)
          (fun m i σ H' => m = n * n ∧ Off H H' p c ∧ Pur H' p c (t + 2 + i) ∧ (∃ ks : List Nat, H' l = some (.lst (ks.map vi)) ∧ ks.length = i ∧ ∀ k ∈ ks, k < n) ∧ ∃ y7 y8 y9 y10, σ = [some (.ref p), some (vi n), some (vi 2), some (vi way), none, some (vi by'), some (.ref l), y7, y8, y9, y10])
          (fun m H6 ⟨h, e6⟩ => ⟨h, o15.trans (.of_ex e6), pu5.ex e6, ⟨[], e6 _ _ hl, rfl, fun _ z => nomatch z⟩, _, _, _, _, rfl⟩) (fun m i σ H6 hi ⟨hm, o6, pu6, ⟨ks, hks, lk, low⟩, y7, y8, y9, y10, hσ⟩ => ?_) (fun m σ H6 ⟨hm, o6, pu6, ⟨ks, hks, lk, low⟩, y7, y8, y9, y10, hσ⟩ => ?_)
        · subst hσ
          subst hm
          have n0 : 0 < n := n1
          have hq : i / n < n := Nat.div_lt_of_lt_mul hi
          have hr' : i % n < n := Nat.mod_lt _ n0
          -- one, other = k // size, k % size
          have parE : EvA (tCons (tOp (rI CDiv fun i j => .int (i / j)) (tVar 7) (tVar 1)) (tCons (tOp (rI (fun _ j => 0 < j) fun i j => .int (i % j)) (tVar 7) (tVar 1)) tNil)) [some (.ref p), some (vi n), some (vi 2), some (vi way), none, some (vi by'), some (.ref l), some (vi i), y8, y9, y10] H6 [vi (i / n), vi (i % n)] :=
            ea_cons (ev_is (ev_op (ev_var rfl) (ev_var rfl) (rv_I ⟨by omega, by omega⟩)) (by show V.int ((i : Int) / (n : Int)) = V.int ((i / n : Nat) : Int); rw [Int.natCast_ediv])) (ea_cons (ev_is (ev_op (ev_var rfl) (ev_var rfl) (rv_I (by show (0 : Int) < (n : Int); omega))) (by show V.int ((i : Int) % (n : Int)) = V.int ((i % n : Nat) : Int); rw [Int.natCast_emod])) ea_nil)
          refine do_seq (parE H6 (Ex.refl _) _ fun H7 e7 => ⟨_, _, rfl, ?_⟩)
          show tSeq _ _ _ [some (.ref p), some (vi n), some (vi 2), some (vi way), none, some (vi by'), some (.ref l), some (vi i), some (vi (i / n)), some (vi (i % n)), y10] H7
          have someE : EvL (tLst (tCons (tOp (rI (fun _ j => 0 < j) fun i j => .int (i % j)) (tOp (rI0 fun i j => .int (i + j)) (tVar 8) (tVar 9)) (tVar 1)) (tCons (tCB rMax2 (tCons (tVar 8) (tCons (tVar 9) tNil))) (tCons (tCB (fun xs H Q => ∃ i j, xs = [.int i, .int j] ∧ Q (.int (if j < i then j else i)) H) (tCons (tVar 8) (tCons (tVar 9) tNil))) (tCons (tVar 5) (tCons (tVar 8) (tCons (tVar 9) tNil)))))))
              [some (.ref p), some (vi n), some (vi 2), some (vi way), none, some (vi by'), some (.ref l), some (vi i), some (vi (i / n)), some (vi (i % n)), y10] H7 ([(i / n + i % n) % n, max (i / n) (i % n), min (i / n) (i % n), by', i / n, i % n].map vi) :=
            el_lst (ea_cons (ev_is (ev_op (ev_op (ev_var rfl) (ev_var rfl) rv_I0) (ev_var rfl) (rv_I (by show (0 : Int) < (n : Int); omega))) (vi_addmod (i / n) (i % n) n)) (ea_cons (ev_is (ev_max2 (ev_var rfl) (ev_var rfl)) (vi_max _ _)) (ea_cons (ev_is (ev_cb (z := .int (if ((i % n : Nat) : Int) < ((i / n : Nat) : Int) then ((i % n : Nat) : Int) else ((i / n : Nat) : Int))) (ea_cons (ev_var rfl) (ea_cons (ev_var rfl) ea_nil)) (fun H8 _ Q q8 => ⟨_, _, rfl, q8 H8 (Ex.refl _)⟩)) (vi_min _ _)) (ea_cons (ev_var rfl) (ea_cons (ev_var rfl) (ea_cons (ev_var rfl) ea_nil)))))) (by show 6 ≤ 100000; decide)
          refine q_asgL someE fun sl H8 nsl e8 hsl => ?_
          have e68 : Ex H6 H8 := e7.trans e8
          have o8 : Off H H8 p c := o6.trans (.of_ex e68)
          have pu8 := pu6.ex e68
          have hl8 : H8 l = some (.lst (ks.map vi)) := e68 _ _ hks
          obtain ⟨slp, slc⟩ := (pu6.ex e7).fresh nsl
          have lsl : l ≠ sl := fun z => by
            subst z
            rw [e7 _ _ hks] at nsl
            cases nsl
          refine do_app hl8 (ev_var rfl) fun H9 e9 => do_op (do_op (do_ev (ev_var rfl) fun H10 e10 => do_lst (do_cons (do_draw (ev_var rfl) (ev_var rfl) (pu8.ex (e9.trans e10)) (by omega) n1 (by omega) fun k H11 hk o11 pu11 => ?_))))
          have e810 := e9.trans e10
          have hsl11 : H11 sl = some (.lst ([(i / n + i % n) % n, max (i / n) (i % n), min (i / n) (i % n), by', i / n, i % n].map vi)) := o11 _ _ slp slc (e810 _ _ hsl)
          have hl11 : H11 l = some (.lst (ks.map vi)) := o11 _ _ lp lc (e810 _ _ hl8)
          refine ⟨by show 1 ≤ sizeLine; decide, fun r nr => ⟨sl, r, _, _, rfl, rfl, Ex.new nr _ _ hsl11, upd_same, by show 7 ≤ sizeLine; decide, fun r2 nr2 => do_ev (ev_var rfl) fun H12 e12 => ?_⟩⟩
          have e1112 : Ex H11 H12 := ((Ex.new nr).trans (Ex.new nr2)).trans e12
          have seven : ∀ x ∈ [(i / n + i % n) % n, max (i / n) (i % n), min (i / n) (i % n), by', i / n, i % n, k], x < n := by
            have h1 : (i / n + i % n) % n < n := Nat.mod_lt _ n0
            intro x hx
            simp only [List.mem_cons, List.not_mem_nil, or_false] at hx
            rcases hx with rfl | rfl | rfl | rfl | rfl | rfl | rfl
            · exact h1
            · exact Nat.max_lt.mpr ⟨hq, hr'⟩
            · exact Nat.lt_of_le_of_lt (Nat.min_le_left _ _) hq
            · exact hby
            · exact hq
            · exact hr'
            · exact hk
          obtain ⟨kk, hkk⟩ : ∃ kk, [(i / n + i % n) % n, max (i / n) (i % n), min (i / n) (i % n), by', i / n, i % n, k][way]? = some kk := ⟨_, List.getElem?_eq_getElem hw⟩
          have kkn : kk < n := seven kk (List.mem_iff_getElem?.mpr ⟨way, hkk⟩)
          have hat : ([(i / n + i % n) % n, max (i / n) (i % n), min (i / n) (i % n), by', i / n, i % n, k].map vi)[way]? = some (vi kk) := by
            rw [List.getElem?_map, hkk]
            rfl
          refine ⟨r2, _, (way : Int), vi kk, rfl, rfl, sq_of (e12 _ _ upd_same), atI_nat hat, ⟨l, _, _, rfl, rfl, e1112 _ _ hl11, sz_lt (by rw [List.length_map, lk]; omega), ?_⟩⟩
          refine ⟨rfl, ((o8.trans (.of_ex e810)).trans (o11.trans (.of_ex e1112))).upd nlH, (pu11.ex e1112).upd lp lc, ⟨ks ++ [kk], ?_, by rw [List.length_append, lk]; rfl, fun x hx => ?_⟩, _, _, _, _, rfl⟩
          · rw [upd_same, List.map_append]
            rfl
          · rcases List.mem_append.mp hx with z | z
            · exact low x z
            · rw [List.mem_singleton.mp z]
              exact kkn
        · subst hσ
          subst hm
          have fin : ∀ (H' : Hp) (ks : List Nat) (t' : Nat), Off H H' p c → Pur H' p c t' → t' ≤ t + 100 → H' l = some (.lst (ks.map vi)) → ks.length = n * n → (∀ k ∈ ks, k < n) → (tCB (rTupOf K) (tCons (tVar 6) tNil)) [some (.ref p), some (vi n), some (vi 2), some (vi way), none, some (vi by'), some (.ref l), y7, y8, y9, y10] H' Q := fun H' ks t' o' pu' le hl' lk' low' =>
            do_evU (eu_tupL (K := K) (ev_var rfl) (sq_of hl')) fun r H2 nr e2 hr => q _ ks t' H2 (o'.trans (.of_ex e2)) (pu'.ex e2) le ⟨r, rfl, st_of hr⟩ (tab_of (by rw [lk', Nat.pow_two]) low')
          refine do_seq (do_if (do_test (do_op (do_draw (ev_var rfl) ev_c pu6 (by omega) (by decide) (by decide) fun k H7 hk o7 pu7 => do_ev ev_c fun H8 e8 => rv_eq rfl H8 (Ex.refl _) _ fun H9 e9 => ⟨_, rfl, ?_⟩))))
          have e79 := e8.trans e9
          have o9 : Off H H9 p c := (o6.trans o7).trans (.of_ex e79)
          have pu9 := pu7.ex e79
          have hl9 : H9 l = some (.lst (ks.map vi)) := e79 _ _ (o7 _ _ lp lc hks)
          split
          · refine do_asg (do_draw (ev_var rfl) (ev_var rfl) pu9 (by omega) n1 (by omega) fun v H10 hv o10 pu10 => do_sub (do_ev (ev_var rfl) fun H11 e11 => do_draw (n := n * n) (ev_var rfl) (ev_is (ev_op (ev_var rfl) (ev_var rfl) (rv_I (.inl ⟨by omega, by omega⟩))) (by show V.int ((n : Int) * (n : Int)) = V.int ((n * n : Nat) : Int); rw [Int.natCast_mul])) (pu10.ex e11) (by omega) nn1 (by omega) fun j H12 hj o12 pu12 => ?_))
            have hl12 : H12 l = some (.lst (ks.map vi)) := o12 _ _ lp lc (e11 _ _ (o10 _ _ lp lc hl9))
            refine ⟨l, _, (j : Int), j, rfl, rfl, hl12, ixN_nat (by rw [List.length_map, lk]; exact hj), ?_⟩
            refine fin _ (ks.set j v) _ (((o9.trans o10).trans ((Off.of_ex e11).trans o12)).upd nlH) (pu12.upd lp lc) (by omega) (by rw [upd_same, List.map_set]) (by rw [List.length_set, lk]) fun x hx => ?_
            rcases List.mem_or_eq_of_mem_set hx with z | z
            · exact low x z
            · rw [z]
              exact hv
          · exact fin _ ks _ o9 pu9 (by omega) hl9 lk low
end
end K20
end
section
namespace K20
open PySem PySem.Spec PyProof.Rows L2 Evl RZ Dw M20
section
variable {P : Program} {w : World} {K : PySem.W.Frag} {mg : Str → Option Value} {base : Heap}
/-! ### a model drawn -/
def sp_model (K : PySem.W.Frag) : Sp := fun vs H Q _ => ∃ (p c : Addr) (t n : Nat) (u : V) (sg : List (Str × Nat)), vs = [.ref p, u, vi n] ∧ Pur H p c t ∧ t ≤ 70000 ∧ 1 ≤ n ∧ n ≤ 6 ∧ Sig K H u sg ∧ SigOk sg ∧ ∀ v ts t' H', Off H H' p c → Pur H' p c t' → t' ≤ t + 400 → Mdl K H' v n ts → MdlOk sg n ts → Q v H'
theorem c_model (T : Txt mg) (D : Df K mg "_law_model" s_mdl ["_law_purse_here", "_law_signature_here", "_law_size"]) (c_table : Cl P w K mg base 3 "_law_table" (sp_table K)) : Cl P w K mg base 4 "_law_model" (sp_model K) := by
  refine cl_of (k := 3) D sc_mdl (fun vs H Q E h => ?_) (fun f cdv A outer s H vs Q E hr h => ?_)
  · obtain ⟨p, c, t, n, u, sg, rfl, _⟩ := h
    rfl
  · obtain ⟨p, c, t, n, u, sg, rfl, pu, t1, n1, n6, hG, sok, q⟩ := h
    refine ⟨_, (pss_one (ps_ret (pe_tup (pa_cons (pv 2) (pa_cons (pe_callTy call_tuple_of (by rfl) T.z_tuple (by decide +kernel) (pa_cons (pe_lc (own := [("_law_name", 3), ("_law_places", 4)]) (g := (gTup _ 2 (gCons (gName 3) (gCons (gName 4) gNil)))) (by rfl) sc_mdl.nd (pi_tup (pv 1)) (blkOk_by (own := [("_law_name", 3), ("_law_places", 4)]) (N := ["_law_purse_here", "_law_signature_here", "_law_size", "_law_name", "_law_places"]) (sc := defScope s_mdl) (by decide +kernel)) (fun _ _ _ _ _ => (pg_tup (by rfl) (pgs_cons (pg_name (i := 3) sc_mdl.nd rfl (.inl rfl)) (pgs_cons (pg_name (i := 4) sc_mdl.nd rfl (.inl rfl)) pgs_nil)))) (fun _ _ _ _ _ => pts_nil) (fun _ _ _ _ _ => (pe_cl c_table hr (by first | decide | omega) (by rfl) (pa_cons (pv 0) (pa_cons (pv 2) (pa_cons (pv 4) pa_nil)))))) pa_nil)) pa_nil))))), ?_⟩
    obtain ⟨a, us, rfl, hS, hP⟩ := id hG
    have lS : us.length = sg.length := paired_len hP
    have l4 := sok.l4
    refine do_ret (do_tup (do_cons (do_ev (ev_var rfl) fun H1 e1 => do_cons (do_cb (do_cons ?_)))))
    have hS1 : SqT K H1 a us := ex_t e1 hS
    have pu1 := pu.ex e1
    refine do_lcIt walk_tup (fun R r => w_tup (K := K) (ev_var rfl) hS1 H1 (Ex.refl _) R r) (fun Dl i H' => H1 Dl = none ∧ Off H1 H' p c ∧ (∃ t', Pur H' p c t' ∧ t' ≤ t + 100 * i) ∧ ∃ ws ts, H' Dl = some (.lst ws) ∧ Paired (Nats K H') ws ts ∧ ts.length = i ∧ ∀ (j : Nat) d tb, sg[j]? = some d → ts[j]? = some tb → Tab n d.2 tb)
      (fun Dl H2 e2 nD => ⟨fresh_back e2 nD, .of_ex (e2.trans (Ex.new nD)), ⟨t, pu1.ex (e2.trans (Ex.new nD)), by omega⟩, [], [], upd_same, .nil, rfl, fun j d tb _ h2 => by rw [List.getElem?_nil] at h2; cases h2⟩) (fun Dl i H' _ ⟨_, o, _⟩ => o.et pu1 _ _ hS1) (fun Dl i x H2 H3 hi ⟨nD, o2, ⟨t', pu2, lt'⟩, ws, ts, hws, pws, lts, tabs⟩ y => ?_) (fun Dl H2 ⟨nD, o2, ⟨t', pu2, lt'⟩, ws, ts, hws, pws, lts, tabs⟩ => ?_)
    · obtain ⟨rfl, hx⟩ := y
      have hi2 : i < sg.length := by rw [← lS]; exact hi
      obtain ⟨x', ex', b, hb, db⟩ := paired_get hP (List.getElem?_eq_getElem hi2)
      have : x' = x := Option.some.inj (ex'.symm.trans hx)
      subst this
      subst hb
      obtain ⟨Dp1, Dc1⟩ := pu1.fresh nD
      have db3 : SqT K H3 b [.str sg[i].1, vi sg[i].2] := o2.et pu1 _ _ (ex_t e1 db)
      refine ⟨b, _, rfl, db3, rfl, _, _, rfl, _, _, rfl, rfl, rfl, iteT ?_⟩
      refine ea_cons (ev_var rfl) (ea_cons (ev_var rfl) (ea_cons (ev_var rfl) ea_nil)) H3 (Ex.refl H3) _ fun H4 e4 => ⟨p, c, t', n, sg[i].2, rfl, pu2.ex e4, by omega, n1, n6, sok.pl _ (List.getElem_mem hi2), fun v tb t2 H5 o5 pu5 l5 nt tt => ?_⟩
      have o35 : Off H3 H5 p c := (Off.of_ex e4).trans o5
      have hws5 : H5 Dl = some (.lst ws) := o35 _ _ Dp1 Dc1 hws
      have lw : ws.length = i := by rw [paired_len pws, lts]
      have et : ET K H5 (upd H5 Dl (.lst (ws ++ [v]))) := ET.refl.upd hws5
      refine ⟨ws, hws5, sz_lt (by omega), nD, (o2.trans o35).upd nD, ⟨t2, pu5.upd Dp1 Dc1, by omega⟩, ws ++ [v], ts ++ [tb], upd_same, paired_snoc (nt.et et) (paired_imp (fun _ _ z => z.et ((o35.et pu2).trans et)) pws), by rw [List.length_append, lts]; rfl, fun j d tb' h1 h2 => ?_⟩
      by_cases hj : j < ts.length
      · rw [List.getElem?_append_left hj] at h2
        exact tabs j d tb' h1 h2
      · have hj2 : j < (ts ++ [tb]).length := (List.getElem?_eq_some_iff.mp h2).1
        rw [List.length_append, List.length_singleton] at hj2
        have ej : j = ts.length := by omega
        subst ej
        rw [List.getElem?_append_right (Nat.le_refl _), Nat.sub_self] at h2
        cases Option.some.inj h2
        rw [lts, List.getElem?_eq_getElem hi2] at h1
        cases Option.some.inj h1
        exact tt
    · refine ⟨Dl, ws, rfl, .inl ⟨sq_of hws, fun r nr => ⟨by show 2 ≤ sizeLine; decide, fun m nm => ?_⟩⟩⟩
      have e24 : Ex H2 (upd (upd H2 r (.tup ws)) m (.tup [vi n, .ref r])) := (Ex.new nr).trans (Ex.new nm)
      refine q _ ts t' _ (((Off.of_ex e1).trans o2).trans (.of_ex e24)) (pu2.ex e24) (by omega) ⟨m, .ref r, rfl, st_of upd_same, r, ws, rfl, st_of (Ex.new nm _ _ upd_same), paired_imp (fun _ _ z => z.ex e24) pws⟩ ?_
      exact { len := by rw [lts, lS], n1 := n1, n6 := n6, tab := fun i h1 h2 => tabs i _ _ (List.getElem?_eq_getElem h1) (List.getElem?_eq_getElem h2) }
/-! ### the law's own renaming -/
section
variable {σ : L2.St} {H : Hp} {ta tb te : TE}
theorem ev_mulN {a b : Nat} (ha : Ev ta σ H (vi a)) (hb : Ev tb σ H (vi b)) (la : a ≤ 1000) (lb : b ≤ 1000) : Ev (tOp (rI CMul fun i j => .int (i * j)) ta tb) σ H (vi (a * b)) := ev_is (ev_op ha hb (rv_I (.inl ⟨by omega, by omega⟩))) (by show V.int ((a : Int) * (b : Int)) = V.int ((a * b : Nat) : Int); rw [Int.natCast_mul])
theorem ev_addN {a b : Nat} (ha : Ev ta σ H (vi a)) (hb : Ev tb σ H (vi b)) : Ev (tOp (rI0 fun i j => .int (i + j)) ta tb) σ H (vi (a + b)) := ev_is (ev_op ha hb rv_I0) (by show V.int ((a : Int) + (b : Int)) = V.int ((a + b : Nat) : Int); rw [Int.natCast_add])
theorem ev_modN {a b : Nat} (ha : Ev ta σ H (vi a)) (hb : Ev tb σ H (vi b)) (b0 : 0 < b) : Ev (tOp (rI (fun _ j => 0 < j) fun i j => .int (i % j)) ta tb) σ H (vi (a % b)) := ev_is (ev_op ha hb (rv_I (by show (0 : Int) < (b : Int); omega))) (by show V.int ((a : Int) % (b : Int)) = V.int ((a % b : Nat) : Int); rw [Int.natCast_emod])
theorem ev_divN {a b : Nat} (ha : Ev ta σ H (vi a)) (hb : Ev tb σ H (vi b)) (b0 : 0 < b) (la : a ≤ 1000) (lb : b ≤ 1000) : Ev (tOp (rI CDiv fun i j => .int (i / j)) ta tb) σ H (vi (a / b)) := ev_is (ev_op ha hb (rv_I ⟨by omega, by omega⟩)) (by show V.int ((a : Int) / (b : Int)) = V.int ((a / b : Nat) : Int); rw [Int.natCast_ediv])
def rInt1 : List V → Hp → VK → Prop := fun xs H Q => (∃ i, xs = [.int i] ∧ Q (.int i) H) ∨ ∃ k, xs = [.bl k] ∧ Q (.int (if k then 1 else 0)) H
theorem ev_intB {b : Bool} (h : Ev te σ H (.bl b)) : Ev (tCB rInt1 (tCons te tNil)) σ H (vi (if b = true then 1 else 0)) := fun H1 e Q q => h H1 e _ fun H2 e2 => .inr ⟨b, rfl, by
  have z := q H2 e2
  cases b <;> exact z⟩
def rLstOf (K : PySem.W.Frag) : List V → Hp → VK → Prop := fun xs H Q => ∃ p ys, xs = [.ref p] ∧ (SqL K H p ys ∨ SqT K H p ys) ∧ ∀ l, H l = none → Q (.ref l) (upd H l (.lst ys))
theorem el_lstT {xs : List V} {p : Addr} (h : Ev te σ H (.ref p)) (hp : SqT K H p xs) : EvL (tCB (rLstOf K) (tCons te tNil)) σ H xs := fun H1 e Q q =>
  h H1 e _ fun H2 e2 => ⟨p, xs, rfl, .inr (ex_t (e.trans e2) hp), fun l nl => q l _ (fresh_back e2 nl) (e2.trans (Ex.new nl)) upd_same⟩
theorem ev_ixN {a : Addr} {ns : List Nat} {k : Nat} (ha : Ev ta σ H (.ref a)) (hb : Ev tb σ H (vi k)) (h : SqT K H a (ns.map vi)) (hk : k < ns.length) : Ev (tOp (rIxT K) ta tb) σ H (vi (g ns k)) := ev_op ha hb (rv_ixT h (atI_vi (k := k) (by rw [List.getElem?_map, g_eq hk]; rfl)))
end
theorem c_led (T : Txt mg) (D : Df K mg "_law_led" s_led ["_law_signature_here", "_law_model_here", "_law_order_here"]) : Cl P w K mg base 1 "_law_led" (sp_renamed K) := by
  refine cl_of (k := 0) D sc_led (fun vs H Q E h => ?_) (fun f cdv A outer s H vs Q E hr h => ?_)
  · obtain ⟨p, ⟨⟨u, v, x, rfl, _⟩, _⟩, _⟩ := h
    rfl
  · obtain ⟨⟨sg, n, ts, o⟩, ⟨⟨u, v, x, rfl, hG, hM, hO⟩, sok, mok, ord⟩, q⟩ := h
    refine ⟨_, (pss_cons (ps_asg (pv 1) (pg_tup (by rfl) (pgs_cons (pg_name (i := 3) sc_led.nd rfl (.inl rfl)) (pgs_cons (pg_name (i := 4) sc_led.nd rfl (.inl rfl)) pgs_nil))))
      (pss_cons (ps_set (i := 5) sc_led.nd rfl (.inl rfl) (pe_lst pa_nil))
      (pss_cons (ps_for PassesOwn.never (by rfl) (pi_zipA (by rfl) T.z_zip (pa_cons (pv 0) (pa_cons (pv 4) pa_nil))) (pg_tup (by rfl) (pgs_cons (pg_tup (by rfl) (pgs_cons (pg_name (i := 6) sc_led.nd rfl (.inl rfl)) (pgs_cons (pg_name (i := 7) sc_led.nd rfl (.inl rfl)) pgs_nil))) (pgs_cons (pg_name (i := 8) sc_led.nd rfl (.inl rfl)) pgs_nil)))
        (pss_cons (ps_set (i := 9) sc_led.nd rfl (.inl rfl) (pe_callTy call_list_of (by rfl) T.z_list (by decide +kernel) (pa_cons (pv 8) pa_nil)))
        (pss_cons (ps_for PassesOwn.never (by rfl) (pi_range1 (by rfl) T.z_range (pa_cons (pe_callB call_len_seq (by rfl) T.z_len PySem.boot_len (pa_cons (pv 8) pa_nil)) pa_nil)) (pg_name (i := 10) sc_led.nd rfl (.inl rfl))
          (pss_cons (ps_set (i := 11) sc_led.nd rfl (.inl rfl) (pe_op op_mul (pe_ix ix_tup (pv 2) (pe_op op_mod (pv 10) (pv 3)) (fun _ _ => rfl)) (pe_callTy call_int1 (by rfl) T.z_int (by decide +kernel) (pa_cons (pe_cmpR op_gt (pv 7) pe_int (nomark _)) pa_nil))))
          (pss_cons (ps_set (i := 11) sc_led.nd rfl (.inl rfl) (pe_op op_add (pv 11) (pe_op op_mul (pe_op op_mul (pe_ix ix_tup (pv 2) (pe_op op_mod (pe_op op_fdiv (pv 10) (pv 3)) (pv 3)) (fun _ _ => rfl)) (pv 3)) (pe_callTy call_int1 (by rfl) T.z_int (by decide +kernel) (pa_cons (pe_cmpR op_eq (pv 7) pe_int (nomark _)) pa_nil)))))
          (pss_one (ps_asg (pe_ix ix_tup (pv 2) (pe_ix ix_tup (pv 8) (pv 10) (fun _ _ => rfl)) (fun _ _ => rfl)) (pg_sub (pv 9) (pv 11) set_list))))))
        (pss_one (ps_expr (pe_bm PySem.F.plainAttrs_list PySem.F.slot_list_append PySem.F.type_list_append mt_append (pv 5) (pa_cons (pe_callTy call_tuple_of (by rfl) T.z_tuple (by decide +kernel) (pa_cons (pv 9) pa_nil)) pa_nil)))))))
      (pss_one (ps_ret (pe_tup (pa_cons (pv 3) (pa_cons (pe_callTy call_tuple_of (by rfl) T.z_tuple (by decide +kernel) (pa_cons (pv 5) pa_nil)) pa_nil)))))))), ?_⟩
    replace sok : SigOk sg := sok
    replace mok : MdlOk sg n ts := mok
    replace ord : Ord n o := ord
    have n1 := mok.n1
    have n6 := mok.n6
    obtain ⟨z, tv, rfl, hZ, hT⟩ := id hM
    obtain ⟨a, us, rfl, hS, hP⟩ := id hG
    obtain ⟨b, tvs, rfl, hB, hR⟩ := id hT
    obtain ⟨oa, rfl, hO'⟩ := id hO
    replace hP : Paired (Deed K H) us sg := hP
    replace hR : Paired (Nats K H) tvs ts := hR
    replace hO' : SqT K H oa (o.map vi) := hO'
    have lS : us.length = sg.length := paired_len hP
    have lT : tvs.length = ts.length := paired_len hR
    have lM : ts.length = sg.length := mok.len
    refine ⟨.ref z, rfl, z, _, rfl, hZ, rfl, _, _, rfl, _, _, rfl, rfl, ?_⟩
    refine q_asgL (el_lst ea_nil (Nat.zero_le _)) fun m H1 nm e1 hm => ?_
    refine q_zipT (ea_cons (ev_var rfl) (ea_cons (ev_var rfl) ea_nil)) (ex_t e1 hS) (ex_t e1 hB) (by rw [lS, lT, lM]) (fun i σ H' => Ex H H' ∧ (∃ ws, H' m = some (.lst ws) ∧ Paired (Nats K H') ws ((rens n o sg ts).take i)) ∧ ∃ y6 y7 y8 y9 y10 y11, σ = [some (.ref a), some (.ref z), some (.ref oa), some (vi n), some (.ref b), some (.ref m), y6, y7, y8, y9, y10, y11])
      (fun H2 e2 => ⟨e1.trans e2, ⟨[], e2 _ _ hm, .nil⟩, none, none, none, none, none, none, rfl⟩) (fun i σ H' _ ⟨e, _⟩ => ⟨ex_t e hS, ex_t e hB⟩) (fun i d tv p σ H2 hd ht ⟨e2, ⟨ws, hws, pws⟩, y6, y7, y8, y9, y10, y11, hσ⟩ np => ?_) (fun σ H2 ⟨e2, ⟨ws, hws, pws⟩, y6, y7, y8, y9, y10, y11, hσ⟩ => ?_)
    · subst hσ
      have hi : i < sg.length := by rw [← lS]; exact (List.getElem?_eq_some_iff.mp hd).1
      have hi2 : i < ts.length := by rw [lM]; exact hi
      obtain ⟨d', ed', c, hc, dc⟩ := paired_get hP (List.getElem?_eq_getElem hi)
      have : d' = d := Option.some.inj (ed'.symm.trans hd)
      subst this
      subst hc
      obtain ⟨t', et', r, hr', nt⟩ := paired_get hR (List.getElem?_eq_getElem hi2)
      have : t' = tv := Option.some.inj (et'.symm.trans ht)
      subst this
      subst hr'
      have e3 : Ex H2 (upd H2 p (.tup [.ref c, .ref r])) := Ex.new np
      have e03 : Ex H (upd H2 p (.tup [.ref c, .ref r])) := e2.trans e3
      have p2 : sg[i].2 ≤ 2 := sok.pl _ (List.getElem_mem hi)
      have tab := mok.tab i hi hi2
      generalize hpl : sg[i].2 = pl at *
      generalize htb : ts[i] = tb at *
      have big : n ^ pl ≤ 36 := by
        have h1 : n ^ pl ≤ 6 ^ pl := Nat.pow_le_pow_left n6 pl
        have h2 : 6 ^ pl ≤ 6 ^ 2 := Nat.pow_le_pow_right (by decide) p2
        omega
      refine ⟨p, _, rfl, st_of upd_same, rfl, _, _, rfl, ⟨c, _, rfl, ex_t e03 dc, rfl, _, _, rfl, _, _, rfl, rfl, ?_⟩⟩
      refine ⟨_, _, rfl, rfl, ?_⟩
      refine q_asgL (el_lstT (K := K) (ev_var rfl) (ex_t e03 nt)) fun l H4 nl e4 hl => ?_
      have nlH : H l = none := fresh_back e03 nl
      have lm : l ≠ m := fun z => by
        subst z
        rw [e3 _ _ hws] at nl
        cases nl
      have e04 : Ex H H4 := e03.trans e4
      refine q_forR1 (n := ((n ^ pl : Nat) : Int)) (ea_cons (ev_is (ev_lenT (ev_var rfl) (ex_t e04 nt)) (by rw [List.length_map, tab.len])) ea_nil) ⟨by omega, by omega⟩
        (fun k σ H' => Ex (upd H2 p (.tup [.ref c, .ref r])) H' ∧ H' l = some (.lst ((led n pl o tb k).map vi)) ∧ ∃ y10 y11, σ = [some (.ref a), some (.ref z), some (.ref oa), some (vi n), some (.ref b), some (.ref m), some (.str sg[i].1), some (vi pl), some (.ref r), some (.ref l), y10, y11])
        (fun H5 e5 => ⟨e4.trans e5, e5 _ _ hl, _, _, rfl⟩) (fun k σ H5 hk ⟨e5, hl5, y10, y11, hσ⟩ => ?_) (fun σ H5 ⟨e5, hl5, y10, y11, hσ⟩ => ?_)
      · subst hσ
        have hk' : k < n ^ pl := by omega
        have n0 : 0 < n := n1
        have e05 : Ex H H5 := e03.trans e5
        have k1 : k % n < o.length := by rw [ord.len]; exact Nat.mod_lt _ n0
        have k2 : k / n % n < o.length := by rw [ord.len]; exact Nat.mod_lt _ n0
        have g1 : g o (k % n) < n := ord.low _ (Nat.mod_lt _ n0)
        have g2 : g o (k / n % n) < n := ord.low _ (Nat.mod_lt _ n0)
        have gm : g o (k / n % n) * n ≤ 36 := Nat.mul_le_mul (show g o (k / n % n) ≤ 6 by omega) n6
        have kt : k < tb.length := by rw [tab.len]; exact hk'
        have gt : g tb k < o.length := by rw [ord.len]; exact tab.low k hk'
        refine q_asg (v := vi (g o (k % n) * (if 0 < pl then 1 else 0))) (ev_is (ev_mulN (ev_ixN (K := K) (ev_var rfl) (ev_modN (ev_var rfl) (ev_var rfl) n0) (ex_t e05 hO') k1) (ev_intB (b := decide ((pl : Int) > 0)) (ev_op (ev_var rfl) ev_c rv_I0)) (by omega) (by split <;> omega)) (by simp)) fun H6 e6 => ?_
        have e56 := e05.trans e6
        refine q_asg (v := vi (spot n pl o k)) (ev_is (ev_addN (ev_var rfl) (ev_mulN (ev_mulN (ev_ixN (K := K) (ev_var rfl) (ev_modN (ev_divN (ev_var rfl) (ev_var rfl) n0 (by omega) (by omega)) (ev_var rfl) n0) (ex_t e56 hO') k2) (ev_var rfl) (by omega) (by omega)) (ev_intB (b := decide (vi pl = V.int 2)) (ev_op (ev_var rfl) ev_c (rv_eq rfl))) (by omega) (by split <;> omega))) ?_) fun H7 e7 => ?_
        · unfold spot
          by_cases h2 : pl = 2
          · subst h2
            rfl
          · have h3 : ¬ (vi pl = V.int 2) := fun z => h2 (by have := V.int.inj z; omega)
            simp [h2, h3]
        have e57 := e56.trans e7
        have e67 := e6.trans e7
        refine s_setL (e67 _ _ hl5) (ev_ixN (K := K) (ev_var rfl) (ev_ixN (K := K) (ev_var rfl) (ev_var rfl) (ex_t e57 nt) kt) (ex_t e57 hO') gt) (ev_var rfl) (ev_var rfl) (by rw [List.length_map, led_len, tab.len]; exact spot_low p2 ord hk') fun H8 e8 => ?_
        refine ⟨((e5.trans e67).trans e8).mut nl, ?_, _, _, rfl⟩
        rw [upd_same, ← List.map_set]
        rfl
      · subst hσ
        have e05 : Ex H H5 := e03.trans e5
        have et5 : (led n pl o tb ((n ^ pl : Nat) : Int).toNat).map vi = (ren n pl o tb).map vi := by rw [Int.toNat_natCast, led_ren p2 ord tab]
        rw [et5] at hl5
        have hm5 : H5 m = some (.lst ws) := e5 _ _ (e3 _ _ hws)
        refine s_appU hm5 (ev_var rfl) (eu_tupL (K := K) (ev_var rfl) (sq_of hl5)) ?_ fun r2 H6 nr2 e6 hr2 => ?_
        · have l1 := paired_len pws
          rw [List.length_take, rens_len lM] at l1
          have := sok.l4
          omega
        · have e06 : Ex H H6 := e05.trans e6
          have hm6 : H6 m = some (.lst ws) := e6 _ _ hm5
          refine ⟨e06.mut nm, ⟨ws ++ [.ref r2], upd_same, ?_⟩, _, _, _, _, _, _, rfl⟩
          have et : ET K H6 (upd H6 m (.lst (ws ++ [.ref r2]))) := ET.refl.upd hm6
          rw [List.take_add_one, rens_at hi hi2, hpl, htb]
          exact paired_snoc (Nats.et et ⟨r2, rfl, st_of hr2⟩) (paired_imp (fun _ _ z => Nats.et (ET.trans (Dw.Ex.et (e3.trans (e5.trans e6))) et) z) pws)
    · subst hσ
      have full : (rens n o sg ts).take us.length = rens n o sg ts := List.take_of_length_le (by rw [rens_len lM, lS]; exact Nat.le_refl _)
      rw [full] at pws
      refine do_ret (do_tup (do_cons (do_ev (ev_var rfl) fun H3 e3 => do_cons (do_evU (eu_tupL (K := K) (ev_var rfl) (sq_of (e3 _ _ hws))) fun r H4 nr e4 hr4 => ⟨by show 2 ≤ sizeLine; decide, fun r2 nr2 => ?_⟩))))
      have e24 := (e3.trans e4).trans (Ex.new (o := .tup [vi n, .ref r]) nr2)
      exact q _ _ (e2.trans e24) ⟨r2, .ref r, rfl, st_of upd_same, r, ws, rfl, st_of (Ex.new nr2 _ _ hr4), paired_imp (fun _ _ z => Nats.ex e24 z) pws⟩
end
end K20
end
section
namespace K20
open PySem PySem.Spec PyProof.Rows L2 Evl RZ Dw M20
theorem idx_int (k : Nat) : ∀ o : List Nat, (o.map fun n => ((n : Nat) : Int)).idxOf ((k : Nat) : Int) = o.idxOf k
  | [] => rfl
  | a :: o => by
    rw [List.map_cons, List.idxOf_cons, List.idxOf_cons, idx_int k o]
    by_cases h : a = k
    · subst h
      simp
    · have h2 : ¬ ((a : Int) = (k : Int)) := by omega
      rw [beq_false_of_ne h, beq_false_of_ne h2]
theorem ord_mem {n : Nat} {o : List Nat} (h : Ord n o) {k : Nat} (hk : k < n) : k ∈ o := List.mem_iff_getElem?.mpr ⟨g (bk o) k, by
  rw [g_eq (by rw [h.len]; exact bk_low h hk), g_bk h hk]⟩
section
variable {P : Program} {w : World} {K : PySem.W.Frag} {mg : Str → Option Value} {base : Heap}
def sp_back (K : PySem.W.Frag) : Sp := spX (fun (p : Nat × List Nat) vs H => (∃ v, vs = [v] ∧ FNats H v p.2) ∧ Ord p.1 p.2 ∧ p.1 ≤ 6) (fun p v H => Nats K H v (bk p.2))
theorem c_back (T : Txt mg) (D : Df K mg "_law_back" s_bck ["_law_order_here"]) : Cl P w K mg base 1 "_law_back" (sp_back K) := by
  refine cl_of (k := 0) D sc_bck (fun vs H Q E h => ?_) (fun f cdv A outer s H vs Q E hr h => ?_)
  · obtain ⟨p, ⟨⟨v, rfl, _⟩, _⟩, _⟩ := h
    rfl
  · obtain ⟨⟨n, o⟩, ⟨⟨v, rfl, hF⟩, ord, n6⟩, q⟩ := h
    refine ⟨_, (pss_one (ps_ret (pe_callTy call_tuple_of (by rfl) T.z_tuple (by decide +kernel) (pa_cons (pe_lc (own := [("_law_number", 1)]) (g := (gName 1)) (by rfl) sc_bck.nd (pi_range1 (by rfl) T.z_range (pa_cons (pe_callB call_len_seq (by rfl) T.z_len PySem.boot_len (pa_cons (pv 0) pa_nil)) pa_nil)) (blkOk_by (own := [("_law_number", 1)]) (N := ["_law_order_here", "_law_number"]) (sc := defScope s_bck) (by decide +kernel)) (fun _ _ _ _ _ => (pg_name (i := 1) sc_bck.nd rfl (.inl rfl))) (fun _ _ _ _ _ => pts_nil) (fun _ _ _ _ _ => (pe_mG ty_frz PySem.F.plainAttrs_tuple PySem.F.slot_tuple_index PySem.F.type_tuple_index (mt_tindex K) (pv 0) (pa_cons (pv 1) pa_nil)))) pa_nil)))), ?_⟩
    replace ord : Ord n o := ord
    replace hF : FNats H v o := hF
    replace n6 : n ≤ 6 := n6
    obtain ⟨a, ob, rfl, ha, hd⟩ := id hF
    have hs : SqT K H a (o.map vi) := .inl (.inr ⟨ob, ha⟩)
    have em : o.map vi = (o.map fun n => ((n : Nat) : Int)).map V.int := by rw [List.map_map]; rfl
    refine s_retP (ep_nats (K := K) (ns := bk o) (eu_tupN (el_lcR (n := o.length) (ea_cons (ev_is (ev_lenT (ev_var rfl) hs) (by rw [List.length_map])) ea_nil) (fun i => vi (o.idxOf i)) (by rw [ord.len]; omega) (fun x => rfl) (fun i H1 e1 hi => fun H2 e2 Q q2 => ev_var rfl H2 (Ex.refl H2) _ fun H3 e3 => ?_))) (by unfold bk; rw [List.map_map]; rfl)) fun v H1 e1 hv => q v H1 e1 hv
    have e03 := (e1.trans e2).trans e3
    have hi' : i < n := by rw [← ord.len]; exact hi
    refine ⟨⟨a, ob, _, rfl, e03 _ _ ha, hd⟩, ea_cons (ev_var rfl) ea_nil H3 (Ex.refl H3) _ fun H4 e4 => ⟨a, o.map fun n => ((n : Nat) : Int), (i : Int), rfl, rfl, ?_, List.mem_map.mpr ⟨i, ord_mem ord hi', rfl⟩, ?_⟩⟩
    · rw [← em]
      exact ex_t (e03.trans e4) hs
    · rw [idx_int]
      exact q2 _ (e3.trans e4)
end
end K20
end
section
namespace K20
open PySem PySem.Spec PyProof.Rows L2 Evl RZ Dw M20
/-! ### renaming of whole models -/
section
variable {n : Nat} {a b o : List Nat} {sg : List (Str × Nat)} {ts : List (List Nat)}
theorem rens_get {i : Nat} (h1 : i < sg.length) (h2 : i < ts.length) (h3 : i < (rens n o sg ts).length) : (rens n o sg ts)[i] = ren n sg[i].2 o ts[i] := Option.some.inj ((List.getElem?_eq_getElem h3).symm.trans (rens_at h1 h2))
theorem rens_ext {us : List (List Nat)} (m : MdlOk sg n ts) (l : us.length = sg.length) (h : ∀ i (h1 : i < sg.length) (h2 : i < ts.length) (h3 : i < us.length), ren n sg[i].2 o ts[i] = us[i]) : rens n o sg ts = us := by
  refine List.ext_getElem (by rw [rens_len m.len, l]) fun i h1 h2 => ?_
  have h3 : i < sg.length := by rw [← l]; exact h2
  have h4 : i < ts.length := by rw [m.len]; exact h3
  rw [rens_get h3 h4]
  exact h i h3 h4 h2
theorem rens_rens (m : MdlOk sg n ts) (so : SigOk sg) (ha : Ord n a) (hb : Ord n b) : rens n b sg (rens n a sg ts) = rens n (cmp a b) sg ts := by
  refine rens_ext (rens_ok m so ha) (by rw [rens_len m.len]) fun i h1 h2 h3 => ?_
  have h4 : i < ts.length := by rw [m.len]; exact h1
  rw [rens_get h1 h4, rens_get h1 h4]
  exact ren_ren (so.pl _ (List.getElem_mem h1)) ha hb (m.tab i h1 h4)
theorem rens_back (m : MdlOk sg n ts) (so : SigOk sg) (ho : Ord n o) : rens n (bk o) sg (rens n o sg ts) = ts := by
  refine rens_ext (rens_ok m so ho) m.len fun i h1 h2 h3 => ?_
  rw [rens_get h1 h3]
  exact ren_back (so.pl _ (List.getElem_mem h1)) ho (m.tab i h1 h3)
theorem rens_id (m : MdlOk sg n ts) (so : SigOk sg) : rens n (List.range n) sg ts = ts :=
  rens_ext m m.len fun i h1 h2 _ => ren_id (so.pl _ (List.getElem_mem h1)) (m.tab i h1 h2)
theorem range_ord (n : Nat) : Ord n (List.range n) := ⟨List.length_range, fun k hk => by rw [g_id hk]; exact hk, fun j k hj hk e => by rw [g_id hj, g_id hk] at e; exact e⟩
theorem ord_low {n : Nat} {o : List Nat} (h : Ord n o) : ∀ k ∈ o, k < n := fun k hk => by
  obtain ⟨i, hi⟩ := List.mem_iff_getElem?.mp hk
  have il : i < o.length := (List.getElem?_eq_some_iff.mp hi).1
  rw [g_eq il] at hi
  cases Option.some.inj hi
  exact h.low i (by rw [← h.len]; exact il)
theorem MdlOk.gd (m : MdlOk sg n ts) (so : SigOk sg) : Gd 3 3178 (dM n ts) := by
  have n6 := m.n6
  refine gd_mdl (by omega) (fun t ht => ⟨fun k hk => by have := m.low t ht k hk; omega, ?_⟩) (by rw [m.len]; exact so.l4)
  obtain ⟨i, hi⟩ := List.mem_iff_getElem?.mp ht
  have il : i < ts.length := (List.getElem?_eq_some_iff.mp hi).1
  have is : i < sg.length := by rw [← m.len]; exact il
  have tb := m.tab i is il
  rw [List.getElem?_eq_getElem il] at hi
  rw [← Option.some.inj hi, tb.len]
  have h1 : n ^ sg[i].2 ≤ 6 ^ sg[i].2 := Nat.pow_le_pow_left n6 _
  have h2 : 6 ^ sg[i].2 ≤ 6 ^ 2 := Nat.pow_le_pow_right (by decide) (so.pl _ (List.getElem_mem is))
  omega
theorem SigOk.gd (so : SigOk sg) : Gd 2 812 (dS sg) := gd_sig (fun p hp => ⟨fun c hc => by
    have h := (so.nm p hp).abc c hc
    have all : ∀ c ∈ letters.cps.toList, c < 0x110000 := by decide
    exact all c h, Nat.le_trans (so.nm p hp).l4 (by decide), Nat.le_trans (so.pl p hp) (by decide)⟩) so.l4
theorem Ord.gd (h : Ord n o) (n6 : n ≤ 6) : Gd 1 396 (dN o) := gd_nats (fun k hk => by have := ord_low h k hk; omega) (by rw [h.len]; omega)
theorem all_gd (m : MdlOk sg n ts) (so : SigOk sg) (ha : Ord n a) (hb : Ord n b) : Gd 4 12716 (.list [dS sg, dM n ts, dN a, dN b]) := by
  refine gd_lst (k := 3) (W := 3178) (L := 4) (fun d hd => ?_) (Nat.le_refl 4)
  simp only [List.mem_cons, List.not_mem_nil, or_false] at hd
  rcases hd with e | e | e | e
  · rw [e]
    exact (SigOk.gd so).mono (by decide) (by decide)
  · rw [e]
    exact MdlOk.gd m so
  · rw [e]
    exact (Ord.gd ha m.n6).mono (by decide) (by decide)
  · rw [e]
    exact (Ord.gd hb m.n6).mono (by decide) (by decide)
end
/-! ### more readings -/
section
variable {K : PySem.W.Frag} {σ : L2.St} {H : Hp} {ta tb te : TE} {P R : V → Hp → Prop} {z : V}
theorem ev_opP {r : R2} (ha : EvP ta σ H P) (hb : EvP tb σ H R) (keep : ∀ v H1 H2, Ex H1 H2 → P v H1 → P v H2) (hr : ∀ x y H1, Ex H H1 → P x H1 → R y H1 → RV r x y H1 z) : Ev (tOp r ta tb) σ H z := fun H1 e Q q =>
  ha H1 e _ fun x H2 e2 px => hb H2 (e.trans e2) _ fun y H3 e3 py => hr x y H3 ((e.trans e2).trans e3) (keep x H2 H3 e3 px) py H3 (Ex.refl H3) Q fun H4 e4 => q H4 (e2.trans (e3.trans e4))
theorem eu_trg {n : Nat} (h : Ev te σ H (vi n)) (hn : n ≤ 1000) : EvU (tTupRg (tRg1 te)) σ H ((List.range n).map vi) := fun H1 e Q q =>
  h H1 e _ fun H2 e2 => ⟨(n : Int), rfl, ⟨by omega, by omega, by omega, by omega, by omega⟩, fun r nr => by
    rw [rg0]
    exact q r _ (fresh_back e2 nr) (e2.trans (Ex.new nr)) upd_same⟩
end
end K20
end
section
namespace K20
open PySem PySem.Spec PyProof.Rows L2 Evl RZ Dw M20
section
variable {P : Program} {w : World} {K : PySem.W.Frag} {mg : Str → Option Value} {base : Heap}
theorem call_isiK {X : Cx} (K : PySem.W.Frag) (h : X.K = K := by rfl) : CallR X (.builtin "isinstance") (rIsi K) := by
  subst h
  exact call_isi
theorem given_no (n : Nat) (u : Nat → V) : given n (fun _ => false) u = [] := by
  unfold given
  rw [List.filter_eq_nil_iff.mpr (fun _ _ h => by cases h)]
  rfl
theorem cmp_vals {n : Nat} {o1 o2 : List Nat} (r1 : Ord n o1) : (List.range (o1.map vi).length).map (fun i => vi (g o2 (g o1 i))) = (cmp o1 o2).map vi := by
  have l1 : (o1.map vi).length = n := by rw [List.length_map, r1.len]
  rw [l1]
  apply List.ext_getElem?
  intro i
  by_cases hi : i < n
  · have lc : i < (cmp o1 o2).length := by unfold cmp; rw [List.length_map, r1.len]; exact hi
    rw [List.getElem?_map, List.getElem?_range hi, vi_get lc, cmp_g r1 hi]
    rfl
  · rw [List.getElem?_eq_none_iff.mpr (by simp; omega), List.getElem?_eq_none_iff.mpr (by simp [cmp, r1.len]; omega)]
theorem ep_lst {σ : L2.St} {H : Hp} {te : TE} {xs : List V} (h : EvL te σ H xs) : EvP te σ H (fun v H' => ∃ l, v = .ref l ∧ SqL K H' l xs) := fun H1 e Q q => h H1 e _ fun l H2 nl e2 hl => q _ H2 e2 ⟨l, rfl, sq_of hl⟩
theorem el_eq {σ : L2.St} {H : Hp} {te : TE} {xs ys : List V} (e : xs = ys) (h : EvL te σ H xs) : EvL te σ H ys := by
  subst e
  exact h
/-- the rounds of the law: what is known ahead of each -/
def Turn (a p c : Addr) (i : Nat) (σ : L2.St) (H : Hp) : Prop := (∃ t, Pur H p c t ∧ t ≤ 600 * i) ∧ ∃ y2 y3 y4 y5 y6 y7 y8 y9 y10 y11 y12, σ = [some (.ref a), some (.ref p), y2, y3, y4, y5, y6, y7, y8, y9, y10, y11, y12]
theorem law_ok (T : Txt mg) (c_purse : Cl P w K mg base 1 "_law_purse" (sp_purse K)) (c_draw : Cl P w K mg base 1 "_law_draw" sp_draw) (c_signature : Cl P w K mg base 3 "_law_signature" (sp_signature K)) (c_model : Cl P w K mg base 4 "_law_model" (sp_model K)) (c_order : Cl P w K mg base 3 "_law_order" sp_order)
    (c_led : Cl P w K mg base 1 "_law_led" (sp_renamed K)) (c_back : Cl P w K mg base 1 "_law_back" (sp_back K)) (c_renamed : Cl P w K mg base 8 "renamed" (sp_renamed K)) (c_renamed_by : Cl P w K mg base 5 "renamed_by" (sp_composed K))
    (room : Room 9 callerA) (s : Shared) (H : Hp) (fa : Addr) (cdv : Value) (a : Addr) (ns : List Int) (len : ns.length ≤ 63) (seq : SqL K H a (ns.map V.int)) :
    ∃ t, PSs (cxOf CX0 P w K mg base ["_law_script", "_law_purse_here", "_law_time", "_law_signature_here", "_law_size", "_law_model_here", "_law_one", "_law_other", "_law_kept", "_law_once", "_law_both", "_law_number", "_law_table_here"] "law" (defScope s_law) fa cdv callerA [] s H E0).nox (defBody s_law) t ∧ t { nx := fun _ _ => False, rt := fun v _ => v = .bl true } (L2.start ["_law_script", "_law_purse_here", "_law_time", "_law_signature_here", "_law_size", "_law_model_here", "_law_one", "_law_other", "_law_kept", "_law_once", "_law_both", "_law_number", "_law_table_here"] [.ref a]) H := by
  have hr : Room 8 (callerA.deeper (envOfC "law" (defScope s_law) s.heap.objs.size fa cdv)) := room.deeper _
  refine ⟨_, (pss_cons (ps_set (i := 1) sc_law.nd rfl (.inl rfl) (pe_cl c_purse hr (by first | decide | omega) (by rfl) (pa_cons (pv 0) pa_nil)))
      (pss_cons (ps_for PassesOwn.never (by rfl) (pi_range1 (by rfl) T.z_range (pa_cons pe_int pa_nil)) (pg_name (i := 2) sc_law.nd rfl (.inl rfl))
        (pss_cons (ps_set (i := 3) sc_law.nd rfl (.inl rfl) (pe_cl c_signature hr (by first | decide | omega) (by rfl) (pa_cons (pv 1) (pa_cons pe_int pa_nil))))
        (pss_cons (ps_set (i := 4) sc_law.nd rfl (.inl rfl) (pe_op op_add pe_int (pe_cl c_draw hr (by first | decide | omega) (by rfl) (pa_cons (pv 1) (pa_cons pe_int pa_nil)))))
        (pss_cons (ps_set (i := 5) sc_law.nd rfl (.inl rfl) (pe_cl c_model hr (by first | decide | omega) (by rfl) (pa_cons (pv 1) (pa_cons (pv 3) (pa_cons (pv 4) pa_nil)))))
        (pss_cons (ps_set (i := 6) sc_law.nd rfl (.inl rfl) (pe_cl c_order hr (by first | decide | omega) (by rfl) (pa_cons (pv 1) (pa_cons (pv 4) pa_nil))))
        (pss_cons (ps_set (i := 7) sc_law.nd rfl (.inr rfl) (pe_cl c_order hr (by first | decide | omega) (by rfl) (pa_cons (pv 1) (pa_cons (pv 4) pa_nil))))
        (pss_cons (ps_set (i := 8) sc_law.nd rfl (.inl rfl) (pe_callB (call_repr hr) (by rfl) T.z_repr (by decide +kernel) (pa_cons (pe_lst (pa_cons (pv 3) (pa_cons (pv 5) (pa_cons (pv 6) (pa_cons (pv 7) pa_nil))))) pa_nil)))
        (pss_cons (ps_set (i := 9) sc_law.nd rfl (.inl rfl) (pe_cl c_renamed hr (by first | decide | omega) (by rfl) (pa_cons (pv 3) (pa_cons (pv 5) (pa_cons (pv 6) pa_nil)))))
        (pss_cons (ps_if (PW.pt (pw_or (pt_cmpR (op_neD hr.units) (pv 9) (pe_cl c_led hr (by first | decide | omega) (by rfl) (pa_cons (pv 3) (pa_cons (pv 5) (pa_cons (pv 6) pa_nil)))) (nomark _)) (pw_or (pt_not (pt_val (pe_callB call_isi (by rfl) T.z_isinstance (by decide +kernel) (pa_cons (pv 9) (pa_cons (pe_ty "tuple" (by rfl) T.z_tuple (by decide +kernel)) pa_nil))))) (pw_or1 (pt_not (pt_val (pe_callB call_isi (by rfl) T.z_isinstance (by decide +kernel) (pa_cons (pe_ix ix_tup (pv 9) pe_int (fun _ _ => rfl)) (pa_cons (pe_ty "tuple" (by rfl) T.z_tuple (by decide +kernel)) pa_nil)))))))))
          (pss_one (ps_ret pe_bl))
          pss_nil)
        (pss_cons (ps_set (i := 10) sc_law.nd rfl (.inl rfl) (pe_cl c_renamed_by hr (by first | decide | omega) (by rfl) (pa_cons (pv 6) (pa_cons (pv 7) pa_nil))))
        (pss_cons (ps_if (pt_cmpR (op_neD hr.units) (pv 10) (pe_callTy call_tuple_of (by rfl) T.z_tuple (by decide +kernel) (pa_cons (pe_lc (own := [("_law_number", 11)]) (g := (gName 11)) (by rfl) sc_law.nd (pi_tup (pv 6)) (blkOk_by (own := [("_law_number", 11)]) (N := ["_law_script", "_law_purse_here", "_law_time", "_law_signature_here", "_law_size", "_law_model_here", "_law_one", "_law_other", "_law_kept", "_law_once", "_law_both", "_law_number", "_law_table_here"]) (sc := defScope s_law) (by decide +kernel)) (fun _ _ _ _ _ => (pg_name (i := 11) sc_law.nd rfl (.inl rfl))) (fun _ _ _ _ _ => pts_nil) (fun _ _ _ _ _ => (pe_ix (ix_tupK K) (pv 7) (pv 11) (fun _ _ => rfl)))) pa_nil)) (nomark _))
          (pss_one (ps_ret pe_bl))
          pss_nil)
        (pss_cons (ps_if (pt_cmpR (op_neD hr.units) (pe_cl c_renamed hr (by first | decide | omega) (by rfl) (pa_cons (pv 3) (pa_cons (pv 9) (pa_cons (pv 7) pa_nil)))) (pe_cl c_renamed hr (by first | decide | omega) (by rfl) (pa_cons (pv 3) (pa_cons (pv 5) (pa_cons (pv 10) pa_nil)))) (nomark _))
          (pss_one (ps_ret pe_bl))
          pss_nil)
        (pss_cons (ps_if (PW.pt (pw_or (pt_cmpR (op_neD hr.units) (pe_cl c_renamed hr (by first | decide | omega) (by rfl) (pa_cons (pv 3) (pa_cons (pv 9) (pa_cons (pe_cl c_back hr (by first | decide | omega) (by rfl) (pa_cons (pv 6) pa_nil)) pa_nil)))) (pv 5) (nomark _)) (pw_or1 (pt_cmpR (op_neD hr.units) (pe_cl c_renamed hr (by first | decide | omega) (by rfl) (pa_cons (pv 3) (pa_cons (pv 5) (pa_cons (pe_tupRg rfl (by rfl) T.z_tuple (prg_1 (by rfl) T.z_range (pv 4))) pa_nil)))) (pv 5) (nomark _)))))
          (pss_one (ps_ret pe_bl))
          pss_nil)
        (pss_cons (ps_if (pt_cmpR (op_neD hr.units) (pe_lc (own := [("_law_table_here", 12)]) (g := (gName 12)) (by rfl) sc_law.nd (pi_tup (pe_ix ix_tup (pv 9) pe_int (fun _ _ => rfl))) (blkOk_by (own := [("_law_table_here", 12)]) (N := ["_law_script", "_law_purse_here", "_law_time", "_law_signature_here", "_law_size", "_law_model_here", "_law_one", "_law_other", "_law_kept", "_law_once", "_law_both", "_law_number", "_law_table_here"]) (sc := defScope s_law) (by decide +kernel)) (fun _ _ _ _ _ => (pg_name (i := 12) sc_law.nd rfl (.inl rfl))) (fun _ _ _ _ _ => (pts_one (pt_not (pt_val (pe_callB (call_isiK K) (by rfl) T.z_isinstance (by decide +kernel) (pa_cons (pv 12) (pa_cons (pe_ty "tuple" (by rfl) T.z_tuple (by decide +kernel)) pa_nil))))))) (fun _ _ _ _ _ => (pv 12))) (pe_lst pa_nil) (nomark _))
          (pss_one (ps_ret pe_bl))
          pss_nil)
        (pss_one (ps_if (pt_cmpR op_ne (pe_callB (call_repr hr) (by rfl) T.z_repr (by decide +kernel) (pa_cons (pe_lst (pa_cons (pv 3) (pa_cons (pv 5) (pa_cons (pv 6) (pa_cons (pv 7) pa_nil))))) pa_nil)) (pv 8) (nomark _))
          (pss_one (ps_ret pe_bl))
          pss_nil))))))))))))))))
      (pss_one (ps_ret pe_bl)))), ?_⟩
  refine do_set (ea_cons (ev_var rfl) ea_nil H (Ex.refl H) _ fun H0 e0 => ⟨a, ns, rfl, ex_l e0 seq, len, fun p c H1 e1 np nc pu => ?_⟩)
  refine q_forR1 (n := ((4 : Nat) : Int)) (ea_cons ev_c ea_nil) ⟨by decide, by decide⟩ (Turn a p c) (fun H2 e2 => ⟨⟨0, pu.ex e2, Nat.zero_le _⟩, none, none, none, none, none, none, none, none, none, none, none, rfl⟩) (fun i σ H2 hi tn => ?_) (fun σ H2 tn => ?_)
  · obtain ⟨⟨t, pu2, lt⟩, y2, y3, y4, y5, y6, y7, y8, y9, y10, y11, y12, hσ⟩ := tn
    subst hσ
    have i4 : i < 4 := by omega
    -- the signature
    refine do_set (ea_cons (ev_var rfl) (ea_cons (ev_c (v := vi 4)) ea_nil) H2 (Ex.refl H2) _ fun H3 e3 => ⟨p, c, t, rfl, pu2.ex e3, by omega, fun sv sg t4 H4 o4 pu4 l4 hG4 sok => ?_⟩)
    show tSeq _ _ _ [some (.ref a), some (.ref p), some (vi i), some sv, y4, y5, y6, y7, y8, y9, y10, y11, y12] H4
    -- the size
    refine do_set (do_op (do_ev ev_c fun H5 e5 => do_draw (ev_var rfl) (ev_c (v := vi 6)) (pu4.ex e5) (by omega) (by decide) (by decide) fun k H6 hk o6 pu6 => ⟨1, (k : Int), rfl, rfl, ?_⟩))
    have en : V.int ((1 : Int) + (k : Int)) = vi (k + 1) := by
      show V.int _ = V.int (((k + 1 : Nat)) : Int)
      rw [Int.natCast_add, Int.add_comm]
      rfl
    have o46 : Off H4 H6 p c := (Off.of_ex e5).trans o6
    have hG6 : Sig K H6 sv sg := hG4.et (o46.et pu4)
    show tSeq _ _ _ [some (.ref a), some (.ref p), some (vi i), some sv, some (V.int ((1 : Int) + (k : Int))), y5, y6, y7, y8, y9, y10, y11, y12] H6
    rw [en]
    obtain ⟨n, hn⟩ : ∃ n, n = k + 1 := ⟨_, rfl⟩
    rw [← hn]
    have n1 : 1 ≤ n := by omega
    have n6 : n ≤ 6 := by omega
    show tSeq _ _ _ [some (.ref a), some (.ref p), some (vi i), some sv, some (vi n), y5, y6, y7, y8, y9, y10, y11, y12] H6
    -- the model
    refine do_set (ea_cons (ev_var rfl) (ea_cons (ev_var rfl) (ea_cons (ev_var rfl) ea_nil)) H6 (Ex.refl H6) _ fun H7 e7 => ⟨p, c, _, n, sv, sg, rfl, pu6.ex e7, by omega, n1, n6, hG6.ex e7, sok, fun mv ts t8 H8 o8 pu8 l8 hM8 mok => ?_⟩)
    have hG8 : Sig K H8 sv sg := (hG6.ex e7).et (o8.et (pu6.ex e7))
    show tSeq _ _ _ [some (.ref a), some (.ref p), some (vi i), some sv, some (vi n), some mv, y6, y7, y8, y9, y10, y11, y12] H8
    -- two orders
    refine do_set (ea_cons (ev_var rfl) (ea_cons (ev_var rfl) ea_nil) H8 (Ex.refl H8) _ fun H9 e9 => ⟨p, c, _, n, rfl, pu8.ex e9, by omega, n6, fun av o1 H10 f10 pu10 hA10 ord1 => ?_⟩)
    have w10 : ET K H8 H10 := (Dw.Ex.et e9).trans (f10.et (pu8.ex e9))
    have hG10 := hG8.et w10
    have hM10 := hM8.et w10
    show tSeq _ _ _ [some (.ref a), some (.ref p), some (vi i), some sv, some (vi n), some mv, some av, y7, y8, y9, y10, y11, y12] H10
    refine do_set (ea_cons (ev_var rfl) (ea_cons (ev_var rfl) ea_nil) H10 (Ex.refl H10) _ fun H11 e11 => ⟨p, c, _, n, rfl, pu10.ex e11, by omega, n6, fun bv o2 H12 f12 pu12 hB12 ord2 => ?_⟩)
    have w12 : ET K H10 H12 := (Dw.Ex.et e11).trans (f12.et (pu10.ex e11))
    have hG : Sig K H12 sv sg := hG10.et w12
    have hM : Mdl K H12 mv n ts := hM10.et w12
    have hA : FNats H12 av o1 := (hA10.ex e11).off (pu10.ex e11) f12
    have hB : FNats H12 bv o2 := hB12
    clear hG4 hG6 hG8 hG10 hM8 hM10 hA10 hB12 w10 w12
    show tSeq _ _ _ [some (.ref a), some (.ref p), some (vi i), some sv, some (vi n), some mv, some av, some bv, y8, y9, y10, y11, y12] H12
    have gd := all_gd mok sok ord1 ord2
    -- repr
    refine do_set (do_cb (do_cons (do_evL (el_lst (ea_cons (ev_var rfl) (ea_cons (ev_var rfl) (ea_cons (ev_var rfl) (ea_cons (ev_var rfl) ea_nil)))) (by show 4 ≤ 100000; decide)) fun l H13 nl e13 hl => ?_)))
    refine ⟨l, .list [dS sg, dM n ts, dN o1, dN o2], rfl, .lst (sq_of hl) (.cons (Sig.dp (hG.ex e13)) (.cons (Mdl.dp (hM.ex e13)) (.cons (Nats.dp (K := K) (hA.ex e13).nats) (.cons (Nats.dp (K := K) (hB.ex e13).nats) .nil)))), rfl, gd.sho, PyData.hasDict_of_canLay _ gd.lay, Nat.le_trans gd.dep (by decide), gd.len (by decide) (by decide), ?_⟩
    show tSeq _ _ _ [some (.ref a), some (.ref p), some (vi i), some sv, some (vi n), some mv, some av, some bv, some (.str (PyData.list [dS sg, dM n ts, dN o1, dN o2]).shown), y9, y10, y11, y12] H13
    -- once
    refine q_asgP (ep_call (sg, n, ts, o1) (ea_cons (ev_var rfl) (ea_cons (ev_var rfl) (ea_cons (ev_var rfl) ea_nil))) (fun H14 e14 => ⟨⟨_, _, _, rfl, hG.ex (e13.trans e14), hM.ex (e13.trans e14), (hA.ex (e13.trans e14)).nats⟩, sok, mok, ord1⟩)) fun ov H14 e14 hO14 => ?_
    replace hO14 : Mdl K H14 ov n (rens n o1 sg ts) := hO14
    have mok1 : MdlOk sg n (rens n o1 sg ts) := rens_ok mok sok ord1
    have x14 : Ex H12 H14 := e13.trans e14
    show tSeq _ _ _ [some (.ref a), some (.ref p), some (vi i), some sv, some (vi n), some mv, some av, some bv, some (.str (PyData.list [dS sg, dM n ts, dN o1, dN o2]).shown), some ov, y10, y11, y12] H14
    obtain ⟨oa, ou, eov, hO1, oua, ows, eou, hO2, hO3⟩ := id hO14
    subst eov eou
    refine q_when (b := false) (et_is (et_or (a := false) (et_test (ev_opP (P := fun v H' => Mdl K H' v n (rens n o1 sg ts)) (ep_ev (ev_var rfl) (fun H' e' => hO14.ex e')) (ep_call (sg, n, ts, o1) (ea_cons (ev_var rfl) (ea_cons (ev_var rfl) (ea_cons (ev_var rfl) ea_nil))) (fun H15 e15 => ⟨⟨_, _, _, rfl, hG.ex (x14.trans e15), hM.ex (x14.trans e15), (hA.ex (x14.trans e15)).nats⟩, sok, mok, ord1⟩)) (fun v _ _ e h => Mdl.ex e h) (fun x y H15 e15 hx hy => rv_neD (fun H16 e16 => Mdl.dp (Mdl.ex e16 hx)) (fun H16 e16 => Mdl.dp (Mdl.ex e16 hy)) (MdlOk.gd mok1 sok) (by decide)))) (fun _ => et_or (a := false) (b := false) (et_is (et_not (et_val (ev_isi (ev_var rfl) ev_c (.ty _) (fun _ e => tyx_tup (ex_t e hO1)) kit_tt))) rfl) (fun _ => et_is (et_not (et_val (ev_isi (ev_op (ev_var rfl) ev_c (rv_ixT (K := K) hO1 (atI_vi (k := 1) rfl))) ev_c (.ty _) (fun _ e => tyx_tup (ex_t e hO2)) kit_tt))) rfl))) rfl) (fun hb => by cases hb) (fun _ H15 e15 => ?_)
    have x15 : Ex H12 H15 := x14.trans e15
    -- both
    refine q_asgP (ep_call (n, o1, o2) (ea_cons (ev_var rfl) (ea_cons (ev_var rfl) ea_nil)) (fun H16 e16 => ⟨⟨_, _, rfl, (hA.ex (x15.trans e16)).nats, (hB.ex (x15.trans e16)).nats⟩, ord1, ord2, n6⟩)) fun cv H16 e16 hC => ?_
    replace hC : Nats K H16 cv (cmp o1 o2) := hC
    have x16 : Ex H12 H16 := x15.trans e16
    have cord : Ord n (cmp o1 o2) := cmp_ord ord1 ord2
    show tSeq _ _ _ [some (.ref a), some (.ref p), some (vi i), some sv, some (vi n), some mv, some av, some bv, some (.str (PyData.list [dS sg, dM n ts, dN o1, dN o2]).shown), some (.ref oa), some cv, y11, y12] H16
    obtain ⟨aa, eav, hA1⟩ := (FNats.nats (K := K) hA)
    obtain ⟨ba, ebv, hB1⟩ := (FNats.nats (K := K) hB)
    subst eav ebv
    have l1 : (o1.map vi).length = n := by rw [List.length_map, ord1.len]
    refine q_when (b := false) (et_test (ev_opP (P := fun v H' => Nats K H' v (cmp o1 o2)) (R := fun v H' => Nats K H' v (cmp o1 o2)) (ep_ev (ev_var rfl) (fun H' e' => hC.ex e')) (ep_nats (K := K) (ns := cmp o1 o2) (eu_tupN (el_lcT (K := K) (ev_var rfl) (ex_t x16 hA1) (fun i => vi (g o2 (g o1 i))) (by omega) (fun _ => rfl) (fun i x H17 e17 hx => ?_))) (cmp_vals ord1)) (fun v _ _ e h => Nats.ex e h) (fun x y H17 e17 hx hy => rv_neD (fun H18 e18 => Nats.dp (Nats.ex e18 hx)) (fun H18 e18 => Nats.dp (Nats.ex e18 hy)) (Ord.gd cord n6) (by decide)))) (fun hb => by cases hb) (fun _ H17 e17 => ?_)
    · have hi : i < n := by rw [← l1]; exact (List.getElem?_eq_some_iff.mp hx).1
      rw [vi_get (by rw [ord1.len]; exact hi)] at hx
      have ex := Option.some.inj hx
      subst ex
      exact ev_op (ev_var rfl) (ev_var rfl) (rv_ixT (ex_t (x16.trans e17) hB1) (atI_vi (vi_get (by rw [ord2.len]; exact ord1.low i hi))))
    have x17 : Ex H12 H17 := x16.trans e17
    have hO17 : Mdl K H17 (.ref oa) n (rens n o1 sg ts) := hO14.ex ((e15.trans e16).trans e17)
    have hC17 := hC.ex e17
    -- one behind the other
    refine q_when (b := false) (et_test (ev_opP (P := fun v H' => Mdl K H' v n (rens n (cmp o1 o2) sg ts)) (R := fun v H' => Mdl K H' v n (rens n (cmp o1 o2) sg ts))
        (EvP.imp (ep_call (sg, n, rens n o1 sg ts, o2) (ea_cons (ev_var rfl) (ea_cons (ev_var rfl) (ea_cons (ev_var rfl) ea_nil))) (fun H18 e18 => ⟨⟨_, _, _, rfl, hG.ex (x17.trans e18), hO17.ex e18, (hB.ex (x17.trans e18)).nats⟩, sok, mok1, ord2⟩)) (fun v H' _ h => by
          have z : Mdl K H' v n (rens n o2 sg (rens n o1 sg ts)) := h
          rw [rens_rens mok sok ord1 ord2] at z
          exact z))
        (ep_call (sg, n, ts, cmp o1 o2) (ea_cons (ev_var rfl) (ea_cons (ev_var rfl) (ea_cons (ev_var rfl) ea_nil))) (fun H18 e18 => ⟨⟨_, _, _, rfl, hG.ex (x17.trans e18), hM.ex (x17.trans e18), hC17.ex e18⟩, sok, mok, cord⟩))
        (fun v _ _ e h => Mdl.ex e h) (fun x y H18 e18 hx hy => rv_neD (fun H19 e19 => Mdl.dp (Mdl.ex e19 hx)) (fun H19 e19 => Mdl.dp (Mdl.ex e19 hy)) (MdlOk.gd (rens_ok mok sok cord) sok) (by decide)))) (fun hb => by cases hb) (fun _ H18 e18 => ?_)
    have x18 : Ex H12 H18 := x17.trans e18
    have hO18 := hO17.ex e18
    -- back, and left as it is
    have bord : Ord n (bk o1) := bk_ord ord1
    refine q_when (b := false) (et_is (et_or (a := false) (b := false)
        (et_test (ev_opP (P := fun v H' => Mdl K H' v n ts) (R := fun v H' => Mdl K H' v n ts)
          (EvP.imp (ep_callP (sg, n, rens n o1 sg ts, bk o1) (eap_cons (P := fun v _ => v = sv) (ep_ev (ev_var rfl) (fun _ _ => rfl)) (eap_cons (P := fun v _ => v = .ref oa) (ep_ev (ev_var rfl) (fun _ _ => rfl)) (eap_cons (P := fun v H' => Nats K H' v (bk o1)) (ep_call (n, o1) (ea_cons (ev_var rfl) ea_nil) (fun H19 e19 => ⟨⟨_, rfl, hA.ex (x18.trans e19)⟩, ord1, n6⟩)) eap_nil (fun v _ _ e h => Nats.ex e h)) (fun _ _ _ _ h => h)) (fun _ _ _ _ h => h)) (fun vs H19 e19 ⟨v1, r1, q1, p1, v2, r2, q2, p2, v3, r3, q3, p3, q4⟩ => by
              subst q1 q2 q3 q4 p1 p2
              exact ⟨⟨_, _, _, rfl, hG.ex (x18.trans e19), hO18.ex e19, p3⟩, sok, mok1, bord⟩)) (fun v H' _ h => by
            have z : Mdl K H' v n (rens n (bk o1) sg (rens n o1 sg ts)) := h
            rw [rens_back mok sok ord1] at z
            exact z))
          (ep_ev (ev_var rfl) (fun H' e' => hM.ex (x18.trans e'))) (fun v _ _ e h => Mdl.ex e h) (fun x y H19 e19 hx hy => rv_neD (fun H20 e20 => Mdl.dp (Mdl.ex e20 hx)) (fun H20 e20 => Mdl.dp (Mdl.ex e20 hy)) (MdlOk.gd mok sok) (by decide))))
        (fun _ => et_test (ev_opP (P := fun v H' => Mdl K H' v n ts) (R := fun v H' => Mdl K H' v n ts)
          (EvP.imp (ep_callP (sg, n, ts, List.range n) (eap_cons (P := fun v _ => v = sv) (ep_ev (ev_var rfl) (fun _ _ => rfl)) (eap_cons (P := fun v _ => v = mv) (ep_ev (ev_var rfl) (fun _ _ => rfl)) (eap_cons (P := fun v H' => Nats K H' v (List.range n)) (ep_nats (K := K) (eu_trg (ev_var rfl) (by omega)) rfl) eap_nil (fun v _ _ e h => Nats.ex e h)) (fun _ _ _ _ h => h)) (fun _ _ _ _ h => h)) (fun vs H19 e19 ⟨v1, r1, q1, p1, v2, r2, q2, p2, v3, r3, q3, p3, q4⟩ => by
              subst q1 q2 q3 q4 p1 p2
              exact ⟨⟨_, _, _, rfl, hG.ex (x18.trans e19), hM.ex (x18.trans e19), p3⟩, sok, mok, range_ord n⟩)) (fun v H' _ h => by
            have z : Mdl K H' v n (rens n (List.range n) sg ts) := h
            rw [rens_id mok sok] at z
            exact z))
          (ep_ev (ev_var rfl) (fun H' e' => hM.ex (x18.trans e'))) (fun v _ _ e h => Mdl.ex e h) (fun x y H19 e19 hx hy => rv_neD (fun H20 e20 => Mdl.dp (Mdl.ex e20 hx)) (fun H20 e20 => Mdl.dp (Mdl.ex e20 hy)) (MdlOk.gd mok sok) (by decide))))) rfl) (fun hb => by cases hb) (fun _ H19 e19 => ?_)
    have x19 : Ex H12 H19 := x18.trans e19
    have y19 : Ex H14 H19 := ((e15.trans e16).trans e17).trans (e18.trans e19)
    -- the tables are tuples
    have lw : ows.length = sg.length := by rw [paired_len hO3, mok1.len]
    have s4 := sok.l4
    refine q_when (b := false) (et_test (ev_opP (P := fun v H' => ∃ l, v = .ref l ∧ SqL K H' l []) (R := fun v H' => ∃ l, v = .ref l ∧ SqL K H' l []) (ep_lst (xs := []) ?_) (ep_lst (K := K) (el_lst ea_nil (Nat.zero_le _))) (fun v _ _ e ⟨l, h1, h2⟩ => ⟨l, h1, ex_l e h2⟩) (fun x y H20 e20 ⟨l1, h1, h2⟩ ⟨l2, h3, h4⟩ => by
          subst h1 h3
          exact rv_neD (d := .list []) (k := 1) (W := 0) (fun H21 e21 => .lst (ex_l e21 h2) .nil) (fun H21 e21 => .lst (ex_l e21 h4) .nil) (gd_lst (k := 0) (W := 0) (L := 0) (fun _ h => nomatch h) (Nat.le_refl 0)) (by decide)))) (fun hb => by cases hb) (fun _ H20 e20 => ?_)
    · refine el_eq (given_no ows.length (fun _ => V.non)) (el_lcIt (walk_tup (K := K)) (w_tup (K := K) (ev_op (ev_var rfl) ev_c (rv_ixT (K := K) (ex_t y19 hO1) (atI_vi (k := 1) rfl))) (ex_t y19 hO2)) (fun H1 e => ex_t (y19.trans e) hO2) (Px := fun i x => ows[i]? = some x) (fun i H x H' y => y) (fun _ => false) (fun _ => V.non) (by omega) (fun _ => rfl) (fun i x H20 e20 hi hx => by
        obtain ⟨x', ex', b', hb', db'⟩ := paired_get hO3 (List.getElem?_eq_getElem (show i < (rens n o1 sg ts).length by rw [mok1.len, ← lw]; exact hi))
        have : x' = x := Option.some.inj (ex'.symm.trans hx)
        subst this
        subst hb'
        exact et_is (et_not (et_val (ev_isi (ev_var rfl) ev_c (.ty _) (fun _ e => tyx_tup (ex_t ((y19.trans e20).trans e) db')) kit_tt))) rfl) (fun i x H20 e20 hi hx hf => by cases hf))
    have x20 : Ex H12 H20 := x19.trans e20
    -- repr again
    refine s_when (b := false) (et_is (et_test (ev_op (x := .str (PyData.list [dS sg, dM n ts, dN o1, dN o2]).shown) ?_ (ev_var rfl) (rv_ne rfl))) ?_) (fun hb => by cases hb) (fun _ H21 e21 => ?_)
    · exact fun H21 e21 Q q21 => do_cb (do_cons (do_evL (el_lst (ea_cons (ev_var rfl) (ea_cons (ev_var rfl) (ea_cons (ev_var rfl) (ea_cons (ev_var rfl) ea_nil)))) (by show 4 ≤ 100000; decide)) fun l2 H22 nl2 e22 hl2 => ⟨l2, .list [dS sg, dM n ts, dN o1, dN o2], rfl, .lst (sq_of hl2) (.cons (Sig.dp (hG.ex ((x20.trans e21).trans e22))) (.cons (Mdl.dp (hM.ex ((x20.trans e21).trans e22))) (.cons (Nats.dp (K := K) (hA.ex ((x20.trans e21).trans e22)).nats) (.cons (Nats.dp (K := K) (hB.ex ((x20.trans e21).trans e22)).nats) .nil)))), rfl, gd.sho, PyData.hasDict_of_canLay _ gd.lay, Nat.le_trans gd.dep (by decide), gd.len (by decide) (by decide), q21 H22 e22⟩))
    · simp
    · exact ⟨⟨_, pu12.ex (x20.trans e21), by omega⟩, _, _, _, _, _, _, _, _, _, _, _, rfl⟩
  · obtain ⟨_, y2, y3, y4, y5, y6, y7, y8, y9, y10, y11, y12, hσ⟩ := tn
    subst hσ
    exact do_ret (do_ev ev_c fun _ _ => rfl)
end
end K20
end
section
namespace K20
open PySem PySem.Spec PyProof.Rows L2 Evl RZ Dw M20
section
variable {K : PySem.W.Frag} {h : Heap} {mg : Str → Option Value}
/-- a def by what the top has written -/
structure Wr (K : PySem.W.Frag) (x : Str) (st : Stmt) (f : Addr) : Prop where
  ex : ∃ (fd : FuncData), Fun K x x st f fd
  at_ : PySem.W.nsIn K mainGlobals x = some (some (.ref f))
theorem wr_mk {x : Str} {st : Stmt} {f : Addr} {od an : Option Addr} {sl : Array (Option Value)} {oc kV dc pm cd ct : Value} (a1 : PySem.W.nsIn K mainGlobals x = some (some (.ref f)))
    (l1 : K.lookup f = some ⟨oc, od, .func (PySem.W.fnOf x x (defArgs st) (defBody st) (defScope st) .none kV dc pm an cd ct), sl⟩) (c1 : PySem.W.codeIn K cd x = true) (k1 : PySem.W.keepIn K (.ref f) = true) : Wr K x st f := ⟨⟨_, fun_mk l1 c1 k1⟩, a1⟩
theorem Wr.df {x : Str} {st : Stmt} {f : Addr} {ps : List Str} (W : Wr K x st f) (X : K.In h) (G : h.Ns mainGlobals mg) (b : ∀ fd, Fun K x x st f fd → Binds K fd ps []) : Df K mg x st ps := by
  obtain ⟨fd, F⟩ := W.ex
  exact ⟨f, fd, F, PySem.W.mg_of X G W.at_, b fd F⟩
end

theorem all_mk {P : Program} {w : World} {K : PySem.W.Frag} {h : Heap} {mg : Str → Option Value} {fa : Addr} (X : K.In h) (G : h.Ns mainGlobals mg) (hfa : mg "law" = some (.ref fa)) (room : Room 9 callerA)
    {fl : Addr} {f0 : Addr} {f1 : Addr} {f2 : Addr} {f3 : Addr} {f4 : Addr} {f5 : Addr} {f6 : Addr} {f7 : Addr} {f8 : Addr} {f9 : Addr} {f10 : Addr} {f11 : Addr} {f12 : Addr} {f13 : Addr} {f14 : Addr} {f15 : Addr} {f16 : Addr} {f17 : Addr} {f18 : Addr} {f19 : Addr} {f20 : Addr} {f21 : Addr} {f22 : Addr} {f23 : Addr} {f24 : Addr} {f25 : Addr} {f26 : Addr} {f27 : Addr}
    {t_MOST_NAME : Tok} {t_MOST_DEEDS : Tok} {t_MOST_PLACES : Tok} {t_MOST_SIZE : Tok} {t_NAME_LETTERS : Tok}
    (w0 : Wr K "is_whole" s_is_whole f0)
    (w1 : Wr K "is_below" s_is_below f1)
    (w2 : Wr K "power" s_power f2)
    (w3 : Wr K "is_name" s_is_name f3)
    (w4 : Wr K "is_deed" s_is_deed f4)
    (w5 : Wr K "signature_wrong" s_signature_wrong f5)
    (w6 : Wr K "need_signature" s_need_signature f6)
    (w7 : Wr K "is_size" s_is_size f7)
    (w8 : Wr K "first_odd_cell" s_first_odd_cell f8)
    (w9 : Wr K "model_wrong" s_model_wrong f9)
    (w10 : Wr K "need_model" s_need_model f10)
    (w11 : Wr K "are_unlike_below" s_are_unlike_below f11)
    (w12 : Wr K "is_order" s_is_order f12)
    (w13 : Wr K "turned_back" s_turned_back f13)
    (w14 : Wr K "renamed_table" s_renamed_table f14)
    (w15 : Wr K "renamed_tables" s_renamed_tables f15)
    (w16 : Wr K "renamed" s_renamed f16)
    (w17 : Wr K "composed" s_composed f17)
    (w18 : Wr K "renamed_by" s_renamed_by f18)
    (w19 : Wr K "_law_purse" s_purse f19)
    (w20 : Wr K "_law_draw" s_draw f20)
    (w21 : Wr K "_law_mixed" s_mixed f21)
    (w22 : Wr K "_law_order" s_ordr f22)
    (w23 : Wr K "_law_signature" s_sgn f23)
    (w24 : Wr K "_law_table" s_tbl f24)
    (w25 : Wr K "_law_model" s_mdl f25)
    (w26 : Wr K "_law_led" s_led f26)
    (w27 : Wr K "_law_back" s_bck f27)
    (wl : Wr K "law" s_law fl)
    (z_isinstance : PySem.W.nsIn K mainGlobals "isinstance" = some none)
    (z_int : PySem.W.nsIn K mainGlobals "int" = some none)
    (z_bool : PySem.W.nsIn K mainGlobals "bool" = some none)
    (z_str : PySem.W.nsIn K mainGlobals "str" = some none)
    (z_tuple : PySem.W.nsIn K mainGlobals "tuple" = some none)
    (z_list : PySem.W.nsIn K mainGlobals "list" = some none)
    (z_len : PySem.W.nsIn K mainGlobals "len" = some none)
    (z_range : PySem.W.nsIn K mainGlobals "range" = some none)
    (z_all : PySem.W.nsIn K mainGlobals "all" = some none)
    (z_enumerate : PySem.W.nsIn K mainGlobals "enumerate" = some none)
    (z_zip : PySem.W.nsIn K mainGlobals "zip" = some none)
    (z_abs : PySem.W.nsIn K mainGlobals "abs" = some none)
    (z_max : PySem.W.nsIn K mainGlobals "max" = some none)
    (z_min : PySem.W.nsIn K mainGlobals "min" = some none)
    (z_repr : PySem.W.nsIn K mainGlobals "repr" = some none)
    (k_MOST_NAME : PySem.W.nsIn K mainGlobals "MOST_NAME" = some (some (.int 4 t_MOST_NAME)))
    (k_MOST_DEEDS : PySem.W.nsIn K mainGlobals "MOST_DEEDS" = some (some (.int 4 t_MOST_DEEDS)))
    (k_MOST_PLACES : PySem.W.nsIn K mainGlobals "MOST_PLACES" = some (some (.int 2 t_MOST_PLACES)))
    (k_MOST_SIZE : PySem.W.nsIn K mainGlobals "MOST_SIZE" = some (some (.int 6 t_MOST_SIZE)))
    (k_NAME_LETTERS : PySem.W.nsIn K mainGlobals "NAME_LETTERS" = some (some (.str "abcdefghijklmnopqrst" t_NAME_LETTERS))) :
    ∃ (fd : FuncData) (st : Stmt) (N : List Str), Fun K "law" "law" st fa fd ∧ FnScope N ["_law_script"] (defScope st) ∧ (∀ (s : Shared) (u : Value), BindsTo s fd ⟨[u], []⟩ [("_law_script", u)]) ∧
      ∀ (base : Heap) (s : Shared) (H : Hp) (cdv : Value) (a : Addr) (ns : List Int), K.In base → base.Ns mainGlobals mg → ns.length ≤ 63 → SqL K H a (ns.map V.int) →
        ∃ t, PSs (cxOf CX0 P w K mg base N "law" (defScope st) fa cdv callerA [] s H E0).nox (defBody st) t ∧ t { nx := fun _ _ => False, rt := fun v _ => v = .bl true } (L2.start N [.ref a]) H := by
  have e := hfa.symm.trans (PySem.W.mg_of X G wl.at_)
  cases e
  have T : Txt mg := {
    z_isinstance := PySem.W.mg_none_of X G z_isinstance
    z_int := PySem.W.mg_none_of X G z_int
    z_bool := PySem.W.mg_none_of X G z_bool
    z_str := PySem.W.mg_none_of X G z_str
    z_tuple := PySem.W.mg_none_of X G z_tuple
    z_list := PySem.W.mg_none_of X G z_list
    z_len := PySem.W.mg_none_of X G z_len
    z_range := PySem.W.mg_none_of X G z_range
    z_all := PySem.W.mg_none_of X G z_all
    z_enumerate := PySem.W.mg_none_of X G z_enumerate
    z_zip := PySem.W.mg_none_of X G z_zip
    z_abs := PySem.W.mg_none_of X G z_abs
    z_max := PySem.W.mg_none_of X G z_max
    z_min := PySem.W.mg_none_of X G z_min
    z_repr := PySem.W.mg_none_of X G z_repr
    c_MOST_NAME := ⟨_, PySem.W.mg_of X G k_MOST_NAME⟩
    c_MOST_DEEDS := ⟨_, PySem.W.mg_of X G k_MOST_DEEDS⟩
    c_MOST_PLACES := ⟨_, PySem.W.mg_of X G k_MOST_PLACES⟩
    c_MOST_SIZE := ⟨_, PySem.W.mg_of X G k_MOST_SIZE⟩
    c_NAME_LETTERS := ⟨_, PySem.W.mg_of X G k_NAME_LETTERS⟩ }
  have D0 : Df K mg "is_whole" s_is_whole ["thing"] := w0.df X G fun fd F => by
    obtain ⟨oc, od, kV, doc, pm, an, cdv, ct, osl, e, _⟩ := F.ex
    subst e
    exact F.binds fun _ _ _ _ _ _ us hl => match us, hl with | [_], _ => rfl
  have D1 : Df K mg "is_below" s_is_below ["thing", "size"] := w1.df X G fun fd F => by
    obtain ⟨oc, od, kV, doc, pm, an, cdv, ct, osl, e, _⟩ := F.ex
    subst e
    exact F.binds fun _ _ _ _ _ _ us hl => match us, hl with | [_, _], _ => rfl
  have D2 : Df K mg "power" s_power ["base", "many"] := w2.df X G fun fd F => by
    obtain ⟨oc, od, kV, doc, pm, an, cdv, ct, osl, e, _⟩ := F.ex
    subst e
    exact F.binds fun _ _ _ _ _ _ us hl => match us, hl with | [_, _], _ => rfl
  have D3 : Df K mg "is_name" s_is_name ["thing"] := w3.df X G fun fd F => by
    obtain ⟨oc, od, kV, doc, pm, an, cdv, ct, osl, e, _⟩ := F.ex
    subst e
    exact F.binds fun _ _ _ _ _ _ us hl => match us, hl with | [_], _ => rfl
  have D4 : Df K mg "is_deed" s_is_deed ["thing"] := w4.df X G fun fd F => by
    obtain ⟨oc, od, kV, doc, pm, an, cdv, ct, osl, e, _⟩ := F.ex
    subst e
    exact F.binds fun _ _ _ _ _ _ us hl => match us, hl with | [_], _ => rfl
  have D5 : Df K mg "signature_wrong" s_signature_wrong ["thing"] := w5.df X G fun fd F => by
    obtain ⟨oc, od, kV, doc, pm, an, cdv, ct, osl, e, _⟩ := F.ex
    subst e
    exact F.binds fun _ _ _ _ _ _ us hl => match us, hl with | [_], _ => rfl
  have D6 : Df K mg "need_signature" s_need_signature ["signature"] := w6.df X G fun fd F => by
    obtain ⟨oc, od, kV, doc, pm, an, cdv, ct, osl, e, _⟩ := F.ex
    subst e
    exact F.binds fun _ _ _ _ _ _ us hl => match us, hl with | [_], _ => rfl
  have D7 : Df K mg "is_size" s_is_size ["thing"] := w7.df X G fun fd F => by
    obtain ⟨oc, od, kV, doc, pm, an, cdv, ct, osl, e, _⟩ := F.ex
    subst e
    exact F.binds fun _ _ _ _ _ _ us hl => match us, hl with | [_], _ => rfl
  have D8 : Df K mg "first_odd_cell" s_first_odd_cell ["size", "tables"] := w8.df X G fun fd F => by
    obtain ⟨oc, od, kV, doc, pm, an, cdv, ct, osl, e, _⟩ := F.ex
    subst e
    exact F.binds fun _ _ _ _ _ _ us hl => match us, hl with | [_, _], _ => rfl
  have D9 : Df K mg "model_wrong" s_model_wrong ["signature", "thing"] := w9.df X G fun fd F => by
    obtain ⟨oc, od, kV, doc, pm, an, cdv, ct, osl, e, _⟩ := F.ex
    subst e
    exact F.binds fun _ _ _ _ _ _ us hl => match us, hl with | [_, _], _ => rfl
  have D10 : Df K mg "need_model" s_need_model ["signature", "model"] := w10.df X G fun fd F => by
    obtain ⟨oc, od, kV, doc, pm, an, cdv, ct, osl, e, _⟩ := F.ex
    subst e
    exact F.binds fun _ _ _ _ _ _ us hl => match us, hl with | [_, _], _ => rfl
  have D11 : Df K mg "are_unlike_below" s_are_unlike_below ["things", "size"] := w11.df X G fun fd F => by
    obtain ⟨oc, od, kV, doc, pm, an, cdv, ct, osl, e, _⟩ := F.ex
    subst e
    exact F.binds fun _ _ _ _ _ _ us hl => match us, hl with | [_, _], _ => rfl
  have D12 : Df K mg "is_order" s_is_order ["thing", "size"] := w12.df X G fun fd F => by
    obtain ⟨oc, od, kV, doc, pm, an, cdv, ct, osl, e, _⟩ := F.ex
    subst e
    exact F.binds fun _ _ _ _ _ _ us hl => match us, hl with | [_, _], _ => rfl
  have D13 : Df K mg "turned_back" s_turned_back ["order"] := w13.df X G fun fd F => by
    obtain ⟨oc, od, kV, doc, pm, an, cdv, ct, osl, e, _⟩ := F.ex
    subst e
    exact F.binds fun _ _ _ _ _ _ us hl => match us, hl with | [_], _ => rfl
  have D14 : Df K mg "renamed_table" s_renamed_table ["size", "places", "table", "order"] := w14.df X G fun fd F => by
    obtain ⟨oc, od, kV, doc, pm, an, cdv, ct, osl, e, _⟩ := F.ex
    subst e
    exact F.binds fun _ _ _ _ _ _ us hl => match us, hl with | [_, _, _, _], _ => rfl
  have D15 : Df K mg "renamed_tables" s_renamed_tables ["signature", "size", "tables", "order"] := w15.df X G fun fd F => by
    obtain ⟨oc, od, kV, doc, pm, an, cdv, ct, osl, e, _⟩ := F.ex
    subst e
    exact F.binds fun _ _ _ _ _ _ us hl => match us, hl with | [_, _, _, _], _ => rfl
  have D16 : Df K mg "renamed" s_renamed ["signature", "model", "order"] := w16.df X G fun fd F => by
    obtain ⟨oc, od, kV, doc, pm, an, cdv, ct, osl, e, _⟩ := F.ex
    subst e
    exact F.binds fun _ _ _ _ _ _ us hl => match us, hl with | [_, _, _], _ => rfl
  have D17 : Df K mg "composed" s_composed ["one", "other"] := w17.df X G fun fd F => by
    obtain ⟨oc, od, kV, doc, pm, an, cdv, ct, osl, e, _⟩ := F.ex
    subst e
    exact F.binds fun _ _ _ _ _ _ us hl => match us, hl with | [_, _], _ => rfl
  have D18 : Df K mg "renamed_by" s_renamed_by ["one", "other"] := w18.df X G fun fd F => by
    obtain ⟨oc, od, kV, doc, pm, an, cdv, ct, osl, e, _⟩ := F.ex
    subst e
    exact F.binds fun _ _ _ _ _ _ us hl => match us, hl with | [_, _], _ => rfl
  have D19 : Df K mg "_law_purse" s_purse ["_law_script"] := w19.df X G fun fd F => by
    obtain ⟨oc, od, kV, doc, pm, an, cdv, ct, osl, e, _⟩ := F.ex
    subst e
    exact F.binds fun _ _ _ _ _ _ us hl => match us, hl with | [_], _ => rfl
  have D20 : Df K mg "_law_draw" s_draw ["_law_purse_here", "_law_out_of"] := w20.df X G fun fd F => by
    obtain ⟨oc, od, kV, doc, pm, an, cdv, ct, osl, e, _⟩ := F.ex
    subst e
    exact F.binds fun _ _ _ _ _ _ us hl => match us, hl with | [_, _], _ => rfl
  have D21 : Df K mg "_law_mixed" s_mixed ["_law_purse_here", "_law_things"] := w21.df X G fun fd F => by
    obtain ⟨oc, od, kV, doc, pm, an, cdv, ct, osl, e, _⟩ := F.ex
    subst e
    exact F.binds fun _ _ _ _ _ _ us hl => match us, hl with | [_, _], _ => rfl
  have D22 : Df K mg "_law_order" s_ordr ["_law_purse_here", "_law_size"] := w22.df X G fun fd F => by
    obtain ⟨oc, od, kV, doc, pm, an, cdv, ct, osl, e, _⟩ := F.ex
    subst e
    exact F.binds fun _ _ _ _ _ _ us hl => match us, hl with | [_, _], _ => rfl
  have D23 : Df K mg "_law_signature" s_sgn ["_law_purse_here", "_law_most"] := w23.df X G fun fd F => by
    obtain ⟨oc, od, kV, doc, pm, an, cdv, ct, osl, e, _⟩ := F.ex
    subst e
    exact F.binds fun _ _ _ _ _ _ us hl => match us, hl with | [_, _], _ => rfl
  have D24 : Df K mg "_law_table" s_tbl ["_law_purse_here", "_law_size", "_law_places"] := w24.df X G fun fd F => by
    obtain ⟨oc, od, kV, doc, pm, an, cdv, ct, osl, e, _⟩ := F.ex
    subst e
    exact F.binds fun _ _ _ _ _ _ us hl => match us, hl with | [_, _, _], _ => rfl
  have D25 : Df K mg "_law_model" s_mdl ["_law_purse_here", "_law_signature_here", "_law_size"] := w25.df X G fun fd F => by
    obtain ⟨oc, od, kV, doc, pm, an, cdv, ct, osl, e, _⟩ := F.ex
    subst e
    exact F.binds fun _ _ _ _ _ _ us hl => match us, hl with | [_, _, _], _ => rfl
  have D26 : Df K mg "_law_led" s_led ["_law_signature_here", "_law_model_here", "_law_order_here"] := w26.df X G fun fd F => by
    obtain ⟨oc, od, kV, doc, pm, an, cdv, ct, osl, e, _⟩ := F.ex
    subst e
    exact F.binds fun _ _ _ _ _ _ us hl => match us, hl with | [_, _, _], _ => rfl
  have D27 : Df K mg "_law_back" s_bck ["_law_order_here"] := w27.df X G fun fd F => by
    obtain ⟨oc, od, kV, doc, pm, an, cdv, ct, osl, e, _⟩ := F.ex
    subst e
    exact F.binds fun _ _ _ _ _ _ us hl => match us, hl with | [_], _ => rfl
  obtain ⟨fd, F⟩ := wl.ex
  refine ⟨fd, s_law, ["_law_script", "_law_purse_here", "_law_time", "_law_signature_here", "_law_size", "_law_model_here", "_law_one", "_law_other", "_law_kept", "_law_once", "_law_both", "_law_number", "_law_table_here"], F, sc_law, fun s u => ?_, fun base s H cdv a ns inB nsB len seq => ?_⟩
  · obtain ⟨oc, od, kV, doc, pm, an, cdv, ct, osl, e, _⟩ := F.ex
    subst e
    exact .of_eq rfl
  · have c_is_whole := c_is_whole (P := P) (w := w) (base := base) T D0 
    have c_is_below := c_is_below (P := P) (w := w) (base := base) T D1 c_is_whole
    have c_power := c_power (P := P) (w := w) (base := base) T D2 
    have c_is_name := c_is_name (P := P) (w := w) (base := base) T D3 
    have c_is_deed := c_is_deed (P := P) (w := w) (base := base) T D4 c_is_name c_is_below
    have c_signature_wrong := c_signature_wrong (P := P) (w := w) (base := base) T D5 c_is_deed
    have c_need_signature := c_need_signature (P := P) (w := w) (base := base) T D6 c_signature_wrong
    have c_is_size := c_is_size (P := P) (w := w) (base := base) T D7 c_is_whole
    have c_first_odd_cell := c_first_odd_cell (P := P) (w := w) (base := base) T D8 c_is_below
    have c_model_wrong := c_model_wrong (P := P) (w := w) (base := base) T D9 c_need_signature c_is_size c_power c_first_odd_cell
    have c_need_model := c_need_model (P := P) (w := w) (base := base) T D10 c_model_wrong
    have c_are_unlike_below := c_are_unlike_below (P := P) (w := w) (base := base) T D11 c_is_below
    have c_is_order := c_is_order (P := P) (w := w) (base := base) T D12 c_are_unlike_below
    have c_turned_back := c_turned_back (P := P) (w := w) (base := base) T D13 
    have c_renamed_table := c_renamed_table (P := P) (w := w) (base := base) T D14 c_turned_back
    have c_renamed_tables := c_renamed_tables (P := P) (w := w) (base := base) T D15 c_renamed_table
    have c_renamed := c_renamed (P := P) (w := w) (base := base) T D16 c_need_model c_is_order c_renamed_tables
    have c_composed := c_composed (P := P) (w := w) (base := base) T D17 
    have c_renamed_by := c_renamed_by (P := P) (w := w) (base := base) T D18 c_is_order c_composed
    have c_purse := c_purse (P := P) (w := w) (base := base) T D19 
    have c_draw := c_draw (P := P) (w := w) (base := base) T D20 
    have c_mixed := c_mixed (P := P) (w := w) (base := base) T D21 c_draw
    have c_order := c_order (P := P) (w := w) (base := base) T D22 c_mixed
    have c_signature := c_signature (P := P) (w := w) (base := base) T D23 c_draw c_mixed
    have c_table := c_table (P := P) (w := w) (base := base) T D24 c_draw c_mixed
    have c_model := c_model (P := P) (w := w) (base := base) T D25 c_table
    have c_led := c_led (P := P) (w := w) (base := base) T D26 
    have c_back := c_back (P := P) (w := w) (base := base) T D27 
    exact law_ok T c_purse c_draw c_signature c_model c_order c_led c_back c_renamed c_renamed_by room s H fa cdv a ns len seq
end K20
end
open PySem PySem.W PyProof.Rows
set_option maxHeartbeats 0 in
theorem PySem.Challenge.cw_deedworlds_k20_models_renamed_holds : PySem.Challenge.rw_deedworlds_k20_models_renamed.Holds := by
  w_on; o_law; k_head; (case hw => w_witness2)
  k_fill
  refine Dw.walkG (l := PySem.Challenge.rw_deedworlds_k20_models_renamed) (n := 63) (k := 8) (x := "_law_script") rfl (by decide) rfl ⟨rfl, by decide, by decide⟩ (fun w h Y => PySem.W.kIn_of Y) ?F
  case F =>
    intro w mg fa h KX G hmg
    refine' K20.all_mk KX G hmg ⟨rfl, by decide, by decide⟩ (K20.wr_mk ?a0 ?l0 ?c0 ?k0) (K20.wr_mk ?a1 ?l1 ?c1 ?k1) (K20.wr_mk ?a2 ?l2 ?c2 ?k2) (K20.wr_mk ?a3 ?l3 ?c3 ?k3) (K20.wr_mk ?a4 ?l4 ?c4 ?k4) (K20.wr_mk ?a5 ?l5 ?c5 ?k5) (K20.wr_mk ?a6 ?l6 ?c6 ?k6) (K20.wr_mk ?a7 ?l7 ?c7 ?k7) (K20.wr_mk ?a8 ?l8 ?c8 ?k8) (K20.wr_mk ?a9 ?l9 ?c9 ?k9) (K20.wr_mk ?a10 ?l10 ?c10 ?k10) (K20.wr_mk ?a11 ?l11 ?c11 ?k11) (K20.wr_mk ?a12 ?l12 ?c12 ?k12) (K20.wr_mk ?a13 ?l13 ?c13 ?k13) (K20.wr_mk ?a14 ?l14 ?c14 ?k14) (K20.wr_mk ?a15 ?l15 ?c15 ?k15) (K20.wr_mk ?a16 ?l16 ?c16 ?k16) (K20.wr_mk ?a17 ?l17 ?c17 ?k17) (K20.wr_mk ?a18 ?l18 ?c18 ?k18) (K20.wr_mk ?a19 ?l19 ?c19 ?k19) (K20.wr_mk ?a20 ?l20 ?c20 ?k20) (K20.wr_mk ?a21 ?l21 ?c21 ?k21) (K20.wr_mk ?a22 ?l22 ?c22 ?k22) (K20.wr_mk ?a23 ?l23 ?c23 ?k23) (K20.wr_mk ?a24 ?l24 ?c24 ?k24) (K20.wr_mk ?a25 ?l25 ?c25 ?k25) (K20.wr_mk ?a26 ?l26 ?c26 ?k26) (K20.wr_mk ?a27 ?l27 ?c27 ?k27) (K20.wr_mk ?al ?ll ?cl ?kl) ?z_isinstance ?z_int ?z_bool ?z_str ?z_tuple ?z_list ?z_len ?z_range ?z_all ?z_enumerate ?z_zip ?z_abs ?z_max ?z_min ?z_repr ?k_MOST_NAME ?k_MOST_DEEDS ?k_MOST_PLACES ?k_MOST_SIZE ?k_NAME_LETTERS
    (case a0 => k_is); (case l0 => k_is); (case c0 => k_is); (case k0 => k_is)
    (case a1 => k_is); (case l1 => k_is); (case c1 => k_is); (case k1 => k_is)
    (case a2 => k_is); (case l2 => k_is); (case c2 => k_is); (case k2 => k_is)
    (case a3 => k_is); (case l3 => k_is); (case c3 => k_is); (case k3 => k_is)
    (case a4 => k_is); (case l4 => k_is); (case c4 => k_is); (case k4 => k_is)
    (case a5 => k_is); (case l5 => k_is); (case c5 => k_is); (case k5 => k_is)
    (case a6 => k_is); (case l6 => k_is); (case c6 => k_is); (case k6 => k_is)
    (case a7 => k_is); (case l7 => k_is); (case c7 => k_is); (case k7 => k_is)
    (case a8 => k_is); (case l8 => k_is); (case c8 => k_is); (case k8 => k_is)
    (case a9 => k_is); (case l9 => k_is); (case c9 => k_is); (case k9 => k_is)
    (case a10 => k_is); (case l10 => k_is); (case c10 => k_is); (case k10 => k_is)
    (case a11 => k_is); (case l11 => k_is); (case c11 => k_is); (case k11 => k_is)
    (case a12 => k_is); (case l12 => k_is); (case c12 => k_is); (case k12 => k_is)
    (case a13 => k_is); (case l13 => k_is); (case c13 => k_is); (case k13 => k_is)
    (case a14 => k_is); (case l14 => k_is); (case c14 => k_is); (case k14 => k_is)
    (case a15 => k_is); (case l15 => k_is); (case c15 => k_is); (case k15 => k_is)
    (case a16 => k_is); (case l16 => k_is); (case c16 => k_is); (case k16 => k_is)
    (case a17 => k_is); (case l17 => k_is); (case c17 => k_is); (case k17 => k_is)
    (case a18 => k_is); (case l18 => k_is); (case c18 => k_is); (case k18 => k_is)
    (case a19 => k_is); (case l19 => k_is); (case c19 => k_is); (case k19 => k_is)
    (case a20 => k_is); (case l20 => k_is); (case c20 => k_is); (case k20 => k_is)
    (case a21 => k_is); (case l21 => k_is); (case c21 => k_is); (case k21 => k_is)
    (case a22 => k_is); (case l22 => k_is); (case c22 => k_is); (case k22 => k_is)
    (case a23 => k_is); (case l23 => k_is); (case c23 => k_is); (case k23 => k_is)
    (case a24 => k_is); (case l24 => k_is); (case c24 => k_is); (case k24 => k_is)
    (case a25 => k_is); (case l25 => k_is); (case c25 => k_is); (case k25 => k_is)
    (case a26 => k_is); (case l26 => k_is); (case c26 => k_is); (case k26 => k_is)
    (case a27 => k_is); (case l27 => k_is); (case c27 => k_is); (case k27 => k_is)
    (case al => k_is); (case ll => k_is); (case cl => k_is); (case kl => k_is)
    (case z_isinstance => k_is); (case z_int => k_is); (case z_bool => k_is); (case z_str => k_is); (case z_tuple => k_is); (case z_list => k_is); (case z_len => k_is); (case z_range => k_is); (case z_all => k_is); (case z_enumerate => k_is); (case z_zip => k_is); (case z_abs => k_is); (case z_max => k_is); (case z_min => k_is); (case z_repr => k_is)
    (case k_MOST_NAME => k_is); (case k_MOST_DEEDS => k_is); (case k_MOST_PLACES => k_is); (case k_MOST_SIZE => k_is); (case k_NAME_LETTERS => k_is)
