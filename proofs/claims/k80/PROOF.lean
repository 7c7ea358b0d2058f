import PyProof.Rows.All
import Wide.All
import OpenK.AllK
import Wide.FinOn
import PySem.Challenge.RW_deedworlds_k80_terms_and_models_read
import HandS.Base
import HandS.Call
import HandS.List
import HandS.Comp
import HandS.Iter
import HandS.Evl
import HandS.Words
import KE.GoesMore
import KE.GoesEnum
import PyProof.ReprRoads
import PyProof.AutoIntOps
import HandS.Ends
import HandS.ForMost
import HandS.IsInst
import HandS.Zip
import HandS.TupAny
import HandS.Conv
import HandS.NoneIn
import HandS.More
import HandS.Wide
import HandS.Walk
import HandS.ReCall
import KE.KIndexOf
import PyProof.Rows.RegFStrParts
import KE.KDictPairs
import KE.KDictZip
import HandS.Dict
import HandS.Set
import HandS.SetFor
import HandS.TupSets
import PyProof.Rows.SortStr
import HandS.Strs
import HandS.Style
import KE.GoesZip
import PyProof.ListStr
import HandS.FStr
import HandS.DictComp
import HandS.ListItems
import HandS.Text
import KE.KEqDict
import KE.KDictItemsList
import HandS.TupMul
import HandS.Exc
import HandS.ExcOwn
import HandS.WordsExc
import KE.KExcIs
import HandS.ExcIs
import PyProof.RowDictHeap
import PyProof.ReprLen
import HandS.RaiseMore
import HandS.Deep
import PyProof.CallStr
import HandS.Codes
import HandS.Steps
import KE.GoesComp
import KE.GoesRaise
import HandS.RevRange
import HandS.SetKeys
import HandS.Flow
import PyProof.CallFns
import HandS.TryMany
import KE.RegKIsAll
set_option Elab.async false
set_option linter.all false
set_option maxRecDepth 100000
set_option maxHeartbeats  4000000
section
/-! a rule of our own over the hand layer: for .. in enumerate(a tuple) -/
namespace Dw
open PySem PySem.Spec PyProof.Rows L2
/-- the walker of a tuple, and what counts beside it, as enumerate lays them -/
abbrev tupWalker (tp : Addr) : Obj := { cls := .type "tuple_iterator", data := .fields #[.ref tp, .int 0 0] }
abbrev counter (wk : Addr) : Obj := { cls := .type "enumerate", data := .fields #[.none, .bool false, .ref wk, rawInt 0, .none, .none] }
theorem new_enumT (tp : Addr) (cells : Array Value) (cap : Nat) (dc : Option Addr) (osl : Array (Option Value)) :
    Meets (Builtin.«enumerate.__new__» ⟨[.type "enumerate", .ref tp], []⟩) (fun _ R s => s.heap.get? tp = some { cls := .type "tuple", dict := dc, data := .seq cells cap, slots := osl } ∧
      R (.ok (.ret (.ref (s.heap.push (tupWalker tp)).objs.size))) { s with heap := (s.heap.push (tupWalker tp)).push (counter s.heap.objs.size) }) := by
  refine .of_wp fun prog w A R s pre => ?_
  obtain ⟨hp, glo, dep, tk, os⟩ := s
  obtain ⟨at_, goal⟩ := pre
  have isSub := sub_enumerate
  have isTup : Heap.IsTuple (Shared.heap ⟨hp, glo, dep, tk, os⟩) tp cells := ⟨_, at_, rfl, cap, rfl⟩
  wp_walk using AutoSeq1.wpAny_loadPart' at_
  refine wpAny_stack_any (fun _ => wpAny_pure ?_)
  split
  case h_1 cl _ _ _ _ _ =>
    generalize (cl == Value.type "enumerate") = same
    cases same <;> (wp_walk using AutoSeq1.wpAny_loadPart' at_, wpAny_pyIter_tuple isTup; exact ⟨_, rfl, goal⟩)
  case h_2 =>
    wp_walk using AutoSeq1.wpAny_loadPart' at_, wpAny_pyIter_tuple isTup
    exact ⟨_, rfl, goal⟩
/-- what stands behind enumerate(tuple): two new objects, all else as it was -/
structure Laid (old new : Heap) (tp : Addr) : Prop where
  cnt : IsEnum new (old.objs.size + 1) old.objs.size 0 .none
  wlk : new.IsTupleIter old.objs.size tp 0
  kept : ∀ b o, old.get? b = some o → new.get? b = some o
theorem laid_mk (old : Heap) (tp : Addr) : Laid old ((old.push (tupWalker tp)).push (counter old.objs.size)) tp := by
  have size1 : (old.push (tupWalker tp)).objs.size = old.objs.size + 1 := Heap.size_push ..
  have last := Heap.get?_push_size (old.push (tupWalker tp)) (o := counter old.objs.size) rfl
  rw [size1] at last
  exact ⟨last, ⟨tupWalker tp, Heap.get?_push_of_some _ (Heap.get?_push_size _ rfl), rfl, rfl⟩, fun b o q => Heap.get?_push_of_some _ (Heap.get?_push_of_some _ q)⟩
theorem call_enumT {prog : Program} {w : World} {A : Around} {E Q : Value → Shared → Prop} {s : Shared} {tp : Addr} {cells : Array Value} (isTup : s.heap.IsTuple tp cells)
    (next : ∀ new, Laid s.heap new tp → Q (.ref (s.heap.objs.size + 1)) { s with heap := new }) : wpAny (model prog w) A (call (.type "enumerate") [.ref tp]) Q E s := by
  obtain ⟨⟨cl, dc, dat, osl⟩, at_, isT, cap, isSeq⟩ := isTup
  have e1 : cl = .type "tuple" := isT
  have e2 : dat = .seq cells cap := isSeq
  subst e1
  subst e2
  have made := laid_mk s.heap tp
  have size1 : (s.heap.push (tupWalker tp)).objs.size = s.heap.objs.size + 1 := Heap.size_push ..
  refine callType_new F.called_enumerate (by decide) (F.typeCall_enumerate_1 _) (F.newCall_enumerate_1 _) (fun ob => F.args_object_init_2 ob _) F.entry_enumerate_new (new_enumT tp cells cap dc osl) (And.intro at_ ?_)
  have e3 : Value.ref (s.heap.push (tupWalker tp)).objs.size = .ref (s.heap.objs.size + 1) := by rw [size1]
  show _ ∧ _
  rw [e3]
  exact And.intro ⟨_, made.cnt, rfl⟩ (next _ made)
/-- the tuple at tp: its items, each in a new pair behind its place -/
def IteT (K : PySem.W.Frag) (tp : Addr) : It :=
  ⟨fun i H => ∃ (xs : List V) (x : V), SqT K H tp xs ∧ xs[i]? = some x, fun i H v H' => ∃ pr x, v = .ref pr ∧ H pr = none ∧ H' = upd H pr (.tup [.int (i : Nat), x]) ∧ ∀ xs, SqT K H tp xs → xs[i]? = some x, fun i H => ∃ xs : List V, SqT K H tp xs ∧ xs.length ≤ i⟩
/-- how the two objects stand ahead of turn i -/
def StandsT (tp cn wk : Addr) (i : Nat) (hp : Heap) : Prop := (∃ old, IsEnum hp cn wk ((i : Nat) : Int) old) ∧ hp.IsTupleIter wk tp i ∧ cn ≠ wk ∧ tp ≠ cn ∧ tp ≠ wk
theorem two {b x y : Addr} {P : Addr → Prop} (hb : b ∈ [x, y]) (px : P x) (py : P y) : P b := by
  rcases List.mem_cons.mp hb with same | same
  · exact same ▸ px
  · exact (List.mem_singleton.mp same) ▸ py
theorem turn_enumT {P : Program} {w : World} {K : PySem.W.Frag} {elts : List Expr} {kk : Nat} {tpos : Pos} (tp cn wk : Addr) : Turn P w K (.Tuple elts kk tpos) (IteT K tp) [cn, wk] cn (StandsT tp cn wk) where
  mem := List.mem_cons_self ..
  obj := by
    intro i hp st b hb
    obtain ⟨⟨_, isE⟩, ⟨o, at_, _, dat⟩, _⟩ := st
    exact two (P := fun b => ∃ o, hp.get? b = some o ∧ ∀ v, o.data ≠ .cell v) hb ⟨_, isE, fun _ q => nomatch q⟩ ⟨o, at_, fun v q => by rw [dat] at q; cases q⟩
  keep := by
    intro i hp hp' st same
    obtain ⟨⟨old, isE⟩, isI, far⟩ := st
    exact ⟨⟨old, same cn (List.mem_cons_self ..) _ isE⟩, isI.at fun o q => same wk (List.mem_cons_of_mem _ (List.mem_singleton.mpr rfl)) o q, far⟩
  item := by
    intro X eP ew eK calm i pins s σ H E I free st here
    subst eP ew eK
    obtain ⟨⟨old, isE⟩, isI, ne1, ne2, ne3⟩ := st
    obtain ⟨xs, x, isT, atx⟩ := here
    obtain ⟨cells, rel, isTup, _⟩ := I.tuple isT
    obtain ⟨u, atu, ru⟩ := rel.get atx
    have low : i < cells.toArray.size := by
      rw [List.size_toArray]
      exact (List.getElem?_eq_some_iff.mp atu).1
    have inCn : cn < s.heap.objs.size := Heap.lt_size isE
    have inWk : wk < s.heap.objs.size := let ⟨_, q, _⟩ := isI; Heap.lt_size q
    have far : cn ∉ [wk, tp] := fun z => by
      rcases List.mem_cons.mp z with one | one
      · exact ne1 one
      · exact ne2 (List.mem_singleton.mp one).symm
    have quiet : X.A.in1.handled = none := I.ok.hd calm
    refine wpAny_pyNext_enum_itemD (Draws.tuple (prog := X.prog) (w := X.w) quiet wk tp ne3 cells.toArray) isE ⟨isI, isTup⟩ low ne1 far fun v hp1 tk isv out st1 pair _ same => ?_
    have ev : v = u := by
      have q : cells.toArray[i]? = some v := isv
      rw [List.getElem?_toArray, atu] at q
      cases q
      rfl
    subst ev
    refine ⟨_, rfl, wpAny_letOwnedTupleGo_enum (s := { s with heap := hp1, toks := tk + 1 }) out fun hp2 isE2 but => ?_⟩
    have pair2 : hp2.get? s.heap.objs.size = some { cls := .type "tuple", data := .seq #[.int i tk, v] } := (but.2 _ (Nat.ne_of_gt inCn)).trans pair
    have fine : ObjOk X.prog X.w (upd H s.heap.objs.size (.tup [.int (i : Nat), x])) hp2 s.heap.objs.size (.tup [.int (i : Nat), x]) :=
      And.intro (show 2 ≤ sizeLine by decide) ⟨[.int i tk, v], .cons ⟨_, rfl⟩ (.cons ru .nil), _, pair2, rfl, _, rfl⟩
    have still : ∀ b ob, b ∉ [cn, wk] → s.heap.get? b = some ob → hp2.get? b = some ob := fun b ob nb q => by
      have n1 : b ≠ cn := fun z => nb (z ▸ List.mem_cons_self ..)
      have n2 : b ≠ wk := fun z => nb (z ▸ List.mem_cons_of_mem _ (List.mem_singleton.mpr rfl))
      rw [but.2 b n1]
      exact same b ob n1 n2 q
    have J := I.turnedNew (ch := [cn, wk]) (t' := tk + 1) still free (Nat.le_refl s.heap.objs.size) fine
    have up : (i : Int) + 1 = ((i + 1 : Nat) : Int) := (Int.natCast_succ i).symm
    rw [up] at isE2
    refine ⟨.ref s.heap.objs.size, _, J, rfl, ⟨_, x, rfl, I.hok.fresh (Nat.le_refl _), rfl, fun ys isY => ?_⟩, ⟨⟨v, isE2⟩, st1.1.at fun o q => (but.2 wk ne1.symm).trans q, ne1, ne2, ne3⟩, fun b hb => ?_⟩
    · rw [I.tuple_inj isY isT]
      exact atx
    · have inB : b < s.heap.objs.size := two (P := fun b => b < s.heap.objs.size) hb inCn inWk
      rw [upd_ne (Nat.ne_of_lt inB)]
      exact (free b hb).1
  done := by
    intro X eP ew eK calm i pins s σ H E I free st over
    subst eP ew eK
    obtain ⟨⟨old, isE⟩, isI, ne1, ne2, ne3⟩ := st
    obtain ⟨xs, isT, short⟩ := over
    obtain ⟨cells, rel, isTup, _⟩ := I.tuple isT
    obtain ⟨g0, g1, g2, g3, g4, g5⟩ := free wk (List.mem_cons_of_mem _ (List.mem_singleton.mpr rfl))
    have many : cells.toArray.size ≤ i := by
      rw [List.size_toArray, ← rel.length]
      exact short
    have quiet : X.A.in1.handled = none := I.ok.hd calm
    have D : Draws X.prog X.w X.A.in1 wk [wk, tp] i (fun _ _ => False) (fun j hp => j = i ∧ hp.IsTupleIter wk tp i ∧ hp.IsTuple tp cells.toArray) :=
      { live := fun _ _ q => let ⟨o, z, _⟩ := q.2.1; ⟨o, z⟩
        frame := fun _ _ _ q same => ⟨q.1, q.2.1.at fun o z => same wk (List.mem_cons_self ..) o z, q.2.2.at fun o z => same tp (List.mem_cons_of_mem _ (List.mem_singleton.mpr rfl)) o z⟩
        item := fun _ _ _ _ less q _ => absurd q.1 (Nat.ne_of_lt less)
        done := fun _ _ _ q ends => wpAny_nextOf_tuple_end quiet q.2.1 q.2.2 (Array.getElem?_eq_none many) ends }
    exact wpAny_pyNext_enum_endD D isE ⟨rfl, isI, isTup⟩ fun hp1 ext => ⟨rfl, I.turned (t' := s.toks) (fun b o nb q => ext b o nb q) g0 g1 g3 g4 g5⟩
  self := by
    intro A i s Q E st q
    obtain ⟨⟨_, isE⟩, _⟩ := st
    exact wpAny_pyIter_enum isE q
def iEnumT (K : PySem.W.Frag) (ta : TA) : TI := fun σ H R => ta σ H fun vs H1 => ∃ tp xs, vs = [.ref tp] ∧ SqT K H1 tp xs ∧ R (IteT K tp) H1
theorem pi_enumT {X : Cx} {e : Expr} {ta : TA} {p pos tpos : Pos} {elts : List Expr} {kk : Nat} (glob : Gl X "enumerate") (none_ : X.mg "enumerate" = none) (arg : PA X [e] ta) (star : starEach [e] X.env = [(false, eval e X.env)] := by rfl) :
    PI X (.Tuple elts kk tpos) (.Call (.Name "enumerate" p) [e] [] pos) (iEnumT X.K ta) := by
  constructor
  intro pins s σ H R I q0
  have given := arg.run pos pins s σ H _ I q0
  refine Call_ (ld_blt I glob none_ boot_enumerate (callWith_type1 (thn given fun us s1 got => ?_) star rfl))
  obtain ⟨vs, H1, J, rel, tp, xs, isOne, isT, q1⟩ := got
  subst isOne
  obtain ⟨u, isU, ru⟩ := vals1 rel
  subst isU
  cases (show u = Value.ref tp from ru)
  obtain ⟨cells, _, isTup, _⟩ := J.tuple isT
  have inTp : tp < s1.heap.objs.size := let ⟨_, at_, _⟩ := (show s1.heap.IsTuple tp cells.toArray from isTup); Heap.lt_size at_
  refine call_enumT isTup fun new made => wpAny_pyIter_enum made.cnt ?_
  have J2 : Inv X pins σ H1 { s1 with heap := new } := J.kept (t' := s1.toks) made.kept
  have stands : StandsT tp (s1.heap.objs.size + 1) s1.heap.objs.size 0 new := ⟨⟨.none, made.cnt⟩, made.wlk, Nat.succ_ne_self _, Nat.ne_of_lt (Nat.lt_succ_of_lt inTp), Nat.ne_of_lt inTp⟩
  refine ⟨s1.heap.objs.size + 1, [s1.heap.objs.size + 1, s1.heap.objs.size], _, _, H1, rfl, J2, turn_enumT tp _ _, stands, fun b hb => ?_, q1⟩
  have late : s1.heap.objs.size ≤ b := two (P := fun b => s1.heap.objs.size ≤ b) hb (Nat.le_succ _) (Nat.le_refl _)
  exact J.fpOk late (J.hok.fresh late)
end Dw
end
section
namespace Dw
open PySem PySem.Spec PyProof.Rows L2
/-! ### repr of data, where nothing is being shown around -/
/-! ### ** of a base that op_pow does not take -/
end Dw
end
section
/-! the law's own def, entered from the caller's place itself (so that it is known there that nothing is being shown) -/
namespace Dw
open PySem PySem.Spec PyProof.Rows L2
/-- a def of one parameter, entered at a told place A -/
theorem enter1 {P : Program} {w : World} {K : PySem.W.Frag} {mg : Str → Option Value} {base : Heap} {k : Nat} {x qual : Str} {st : Stmt} {f : Addr} {fd : FuncData} {N : List Str} {A : Around} {outer : List Env} {s : Shared} {H : Hp} {v : V} {u : Value} {Q : VK}
    (F : Fun K qual qual st f fd) (S : FnScope N [x] (defScope st)) (bd : BindsTo s fd ⟨[u], []⟩ [(x, u)]) (room : Room (k + 1) A) (e0 : Env0 P w K mg base A outer s H) (rv : RelV v u)
    (body : ∀ cdv : Value, ∃ t, PSs (cxOf CX0 P w K mg base N qual (defScope st) f cdv A outer s H E0).nox (defBody st) t ∧ t { nx := fun _ H' => Q .non H', rt := Q } (start N [v]) H) :
    codeAny (model P w) A (.call (.ref f) ⟨[u], []⟩) (CR CX0 outer P w H s Q E0) s := by
  obtain ⟨oc, od, kV, doc, pm, an, cdv, ct, osl, efd, look, code⟩ := F.ex
  subst efd
  obtain ⟨t, der, rd⟩ := body cdv
  have kept : ∀ b o, base.get? b = some o → s.heap.get? b = some o := fun b o e => (e0.bs b o e).1
  have inK : K.In s.heap := e0.mod.kin.keeps kept
  refine codeAny_call_function room.depth (inK f _ look) rfl S.co S.gen rfl (PySem.W.codeRec_of inK code) (bd _ _ _ _ ?_)
  have kinds : ∀ y ∈ [(x, u)], (defScope st).names.lookup y.1 = some .local ∨ ((defScope st).names.lookup y.1 = some .cell ∧ ((cellsFrom (s.heap.objs.size + 1) (defScope st).names []).lookup y.1).isSome = true) := by
    intro y hy
    rw [List.mem_singleton.mp hy]
    cases S.par x (List.mem_singleton.mpr rfl) with
    | inl one => exact Or.inl one
    | inr one => exact Or.inr ⟨one, PySem.W.cellsFrom_some _ _ _ (Or.inl one)⟩
  refine wpAny_newFunctionEnv_cells S.kind kinds (fun env isEnv s1 ic => ?_)
  subst isEnv
  have noLim : s.heap.NoLimit := e0.mod.nolimit.keeps kept
  refine ⟨noLim.keeps ic.toInCall.keep, codeAny_func ?_⟩
  have start0 : Inv (cxOf CX0 P w K mg base N qual (defScope st) f cdv A outer s H E0) [] (start N [v]) H s1 := inv_start S room.hd e0 rfl (.cons rv .nil) ic
  refine wpAny_mono (der.nox.run [] s1 (start N [v]) H _ start0 rd) (fun flow s2 done => ?_) (fun _ _ bad => bad)
  match flow, done with
  | .next, ⟨_, H2, inv, q⟩ => exact ⟨.non, H2, inv.os, inv.bare, inv.base, inv.hok, rfl, q⟩
  | .ret _, ⟨v2, _, H2, inv, rel, q⟩ => exact ⟨v2, H2, inv.os, inv.bare, inv.base, inv.hok, rel, q⟩
  | .brk, ⟨_, _, _, q⟩ => exact q.elim
  | .cont, ⟨_, _, _, q⟩ => exact q.elim
/-- how the script stands ahead of the law: tracked as locked, or one of the written part's own -/
def scriptHp (K : PySem.W.Frag) (a : Addr) (ob : Obj) (ns : List Int) : Hp := fun b => if b = a ∧ K.lookup a = none then some (.frz ob (.lst (ns.map V.int))) else none
section
variable {K : PySem.W.Frag} {a : Addr} {ob : Obj} {ns : List Int}
theorem scriptHp_some {b : Addr} {u : HO} (h : scriptHp K a ob ns b = some u) : b = a ∧ K.lookup a = none ∧ u = .frz ob (.lst (ns.map V.int)) := by
  unfold scriptHp at h
  split at h
  · rename_i c
    exact ⟨c.1, c.2, (Option.some.inj h).symm⟩
  · cases h
theorem scriptHp_at (h : K.lookup a = none) : scriptHp K a ob ns a = some (.frz ob (.lst (ns.map V.int))) := if_pos ⟨rfl, h⟩
theorem scriptHp_no {b : Addr} (h : b ≠ a) : scriptHp K a ob ns b = none := if_neg fun c => h c.1
end
/-- the end of a law row whose def is walked from the caller's place -/
theorem walkG {l : PySem.W.OpenLaw} {n k : Nat} {q : Program} {loose : List Str} {XP : (Str → Option Value) → Heap → Prop} {YP : World → Heap → Prop} {d : DefRec} {K : Params → PySem.W.Frag} {x : Str}
    (hn : l.most = some n) (hn2 : n ≤ sizeLine) (hdf : d.params.defaults = []) (room : Room (k + 1) callerA) (hY : ∀ (w : World) (h : Heap), YP w h → (K w.params).In h)
    (F : ∀ (w : World) (mg : Str → Option Value) (fa : Addr) (h : Heap),
      (K w.params).In h → h.Ns mainGlobals mg → mg d.name = some (.ref fa) →
      ∃ (fd : FuncData) (st : Stmt) (N : List Str), Fun (K w.params) d.name d.name st fa fd ∧ FnScope N [x] (defScope st) ∧ (∀ (s : Shared) (u : Value), BindsTo s fd ⟨[u], []⟩ [(x, u)]) ∧
        ∀ (base : Heap) (s : Shared) (H : Hp) (cdv : Value) (a : Addr) (ns : List Int), (K w.params).In base → base.Ns mainGlobals mg → ns.length ≤ n → SqL (K w.params) H a (ns.map V.int) →
          ∃ t, PSs (cxOf CX0 l.prog w (K w.params) mg base N d.name (defScope st) fa cdv callerA [] s H E0).nox (defBody st) t ∧ t { nx := fun _ _ => False, rt := fun v _ => v = .bl true } (start N [.ref a]) H) :
    PySem.W.WalkO q loose XP YP l.row.toRowW d [] (fun g us => PySem.call g us) := by
  refine Att.attach_call hn hdf (fun w _ s mg mb fa _ _ _ _ a vs ns G Y _ _ _ gl isL nums len gens => ?_)
  have inK := hY w s.heap Y
  obtain ⟨fd, st, N, Fn, S, bd, body⟩ := F w mg fa s.heap inK G.T.g gl
  let H : Hp := scriptHp (K w.params) a { cls := .type "list", data := .seq vs.toArray } ns
  have rel : Vals (ns.map V.int) vs := vals_ints nums
  have small : vs.length ≤ sizeLine := by rw [nums.length]; exact Nat.le_trans len hn2
  have okH : HOk l.prog w H s.heap := by
    intro b u e
    obtain ⟨rfl, _, rfl⟩ := scriptHp_some e
    exact ⟨isL, by rw [List.length_map]; exact Nat.le_trans len hn2, vs, _, rel, isL⟩
  have seq : SqL (K w.params) H a (ns.map V.int) := by
    cases lk : (K w.params).lookup a with
    | none => exact Or.inl (Or.inr ⟨_, scriptHp_at lk⟩)
    | some o =>
      have same : o = { cls := .type "list", data := .seq vs.toArray } := Option.some.inj ((inK a o lk).symm.trans isL)
      exact Or.inr ⟨o, vs.toArray, _, lk, by rw [same], by rw [same], by rw [same], by rw [List.size_toArray]; exact small, by simpa using rel⟩
  have freeK : ∀ b o, (K w.params).lookup b = some o → H b = none := by
    intro b o e
    by_cases hb : b = a
    · subst hb
      exact if_neg fun c => by rw [c.2] at e; cases e
    · exact scriptHp_no hb
  have freeD : ∀ b o es ep, s.heap.get? b = some o → o.data = .dict es ep → H b = none := by
    intro b o es ep e dat
    by_cases hb : b = a
    · subst hb
      rw [isL] at e
      cases e
      cases dat
    · exact scriptHp_no hb
  have names : ∀ b m, s.heap.Ns b m → (hidT s.heap H).Ns b m := fun b m ⟨o, es, ep, e, dat, r⟩ => ⟨o, es, ep, hidT_get e (freeD b o es ep e dat), dat, r⟩
  have inB : (K w.params).In (hidT s.heap H) := fun b o e => hidT_get (inK b o e) (freeK b o e)
  have noL : (hidT s.heap H).NoLimit := by
    obtain ⟨mc, c1, c2⟩ := G.T.nolimit
    exact ⟨mc, names _ _ c1, c2⟩
  have e0 : Env0 l.prog w (K w.params) mg (hidT s.heap H) callerA [] s H :=
    { frames := rfl, mod := ⟨inB, names _ _ G.T.g, ⟨mb, names _ _ G.T.b, G.T.builtins⟩, noL⟩, bs := fun b o e => of_hidT e, bsz := Nat.le_of_eq (hidT_size _ _), funs := trivial, frf := fun b hb => absurd (show b ∈ ([] : List Addr) from hb) (by simp), hok := okH, bare := .of_eq gens }
  have run := enter1 (P := l.prog) (v := .ref a) (Q := fun v _ => v = .bl true) Fn S (bd s (.ref a)) room e0 rfl (fun cdv => by
    obtain ⟨t, t1, t2⟩ := body (hidT s.heap H) s H cdv a ns inB (names _ _ G.T.g) len seq
    refine ⟨t, t1, ?_⟩
    have no : (fun (_ : L2.St) (_ : Hp) => (V.non = V.bl true)) = fun _ _ => False := by
      funext _ _
      exact propext ⟨fun z => V.noConfusion z, False.elim⟩
    show t { nx := fun (_ : L2.St) (_ : Hp) => V.non = V.bl true, rt := fun v _ => v = .bl true } (start N [.ref a]) H
    rw [no]
    exact t2)
  refine codeAny_mono run (fun r s2 done => ?_)
  match r, done with
  | .error _, bad => exact bad.elim
  | .ok .next, bad => exact bad.elim
  | .ok .brk, bad => exact bad.elim
  | .ok .cont, bad => exact bad.elim
  | .ok (.ret _), ⟨_, H2, os, bare, un, ok2, rr, isT⟩ =>
    subst isT
    cases (show _ = Value.bool true from rr)
    refine ⟨rfl, OldK.of_keep (fun b o e => ?_), os, bare⟩
    cases tr : H b with
    | none => exact un.keep b o e tr (fun z => absurd (show b ∈ ([] : List Addr) from z) (by simp)) (by simp)
    | some u =>
      obtain ⟨hb, _, hu⟩ := scriptHp_some tr
      subst hb hu
      have still := un.frzs _ _ _ tr
      rw [isL] at e
      cases e
      exact (ok2 _ _ still).1
end Dw
end
section
/-! what a reading evaluates to: more words over Evl; tuples of natural numbers; defs by their names -/
namespace Dw
open PySem PySem.Spec PyProof.Rows L2 Evl
/-! ### defs by their names -/
/-- a def of the text behind the top, all of its parameters without defaults -/
structure Df (K : PySem.W.Frag) (mg : Str → Option Value) (x : Str) (st : Stmt) (ps : List Str) : Prop where
  ex : ∃ (f : Addr) (fd : FuncData), Fun K x x st f fd ∧ mg x = some (.ref f) ∧ Binds K fd ps []
/-- a def that keeps a promise -/
structure Cl (P : Program) (w : World) (K : PySem.W.Frag) (mg : Str → Option Value) (base : Heap) (k : Nat) (x : Str) (sp : Sp) : Prop where
  ex : ∃ (f : Addr) (fd : FuncData) (ps : List Str), FnOk P w K mg base CX0 k f fd ps sp ∧ mg x = some (.ref f) ∧ PySem.W.keepIn K (.ref f) = true ∧ Binds K fd ps []
theorem cl_of {P : Program} {w : World} {K : PySem.W.Frag} {mg : Str → Option Value} {base : Heap} {x : Str} {st : Stmt} {N ps : List Str} {k : Nat} {sp : Sp} (D : Df K mg x st ps) (S : FnScope N ps (defScope st)) (len : ∀ vs H Q E, sp vs H Q E → vs.length = ps.length)
    (body : ∀ (f : Addr) (cdv : Value) (A : Around) (outer : List Env) (s : Shared) (H : Hp) (vs : List V) (Q : VK) (E : XK), Room k (A.deeper (envOfC x (defScope st) s.heap.objs.size f cdv)) → sp vs H Q E →
      ∃ t, PSs (cxOf CX0 P w K mg base N x (defScope st) f cdv A outer s H E).nox (defBody st) t ∧ t { nx := fun _ H' => Q .non H', rt := Q } (start N vs) H) : Cl P w K mg base (k + 1) x sp := by
  obtain ⟨f, fd, F, m, b⟩ := D.ex
  exact ⟨f, fd, ps, F.ok S len (fun cdv A outer s H vs Q E hr h => body f cdv A outer s H vs Q E hr h), m, F.kp, b⟩
theorem pe_cl {X : Cx} {k j : Nat} {x : Str} {sp : Sp} {p pos : Pos} {e : Expr} {es : List Expr} {t : TA} (c : Cl X.prog X.w X.K X.mg X.base k x sp) (hr : Room j X.A) (hk : k ≤ j) (hg : Gl X x) (ha : PA X (e :: es) t)
    (dbg : (x == ("__debug__" : Str)) = false := by decide) (str : starEach (e :: es) X.env = (false, eval e X.env) :: starEach es X.env := by rfl) (bck : (backTo pos (starEach es X.env)).any (·.1) = false := by rfl) :
    PE X (.Call (.Name x p) (e :: es) [] pos) (tCall sp [] E0 t) := by
  obtain ⟨f, fd, ps, F, m, kp, b⟩ := c.ex
  exact pe_call F (hr.mono hk) hg m kp b .nil pass0 ha dbg str bck
/-- a pure promise: of some a what must hold, and what comes back, all that stood left as it was -/
def spX {α : Type} (pre : α → List V → Hp → Prop) (post : α → V → Hp → Prop) : Sp := fun vs H Q _ => ∃ a, pre a vs H ∧ ∀ v H', Ex H H' → post a v H' → Q v H'
/-! ### values of any kind, by what holds of them -/
def EvP (te : TE) (σ : L2.St) (H : Hp) (P : V → Hp → Prop) : Prop := ∀ H1, Ex H H1 → ∀ Q : VK, (∀ v H2, Ex H1 H2 → P v H2 → Q v H2) → te σ H1 Q
section
variable {K : PySem.W.Frag} {σ : L2.St} {H H' : Hp} {ta tb te : TE} {x y z v : V} {P : V → Hp → Prop}
theorem EvP.mono (e : Ex H H') (h : EvP te σ H P) : EvP te σ H' P := fun H1 a Q q => h H1 (e.trans a) Q q
theorem EvP.imp {P' : V → Hp → Prop} (h : EvP te σ H P) (i : ∀ v H', Ex H H' → P v H' → P' v H') : EvP te σ H P' := fun H1 e Q q => h H1 e Q fun v H2 e2 p => q v H2 e2 (i v H2 (e.trans e2) p)
theorem ep_ev (h : Ev te σ H v) (p : ∀ H', Ex H H' → P v H') : EvP te σ H P := fun H1 e Q q => h H1 e Q fun H2 e2 => q v H2 e2 (p H2 (e.trans e2))
theorem ev_ep (h : EvP te σ H fun u _ => u = v) : Ev te σ H v := fun H1 e Q q => h H1 e Q fun u H2 e2 p => by subst p; exact q H2 e2
/-- a call by a pure promise -/
theorem ep_call {α : Type} {pre : α → List V → Hp → Prop} {post : α → V → Hp → Prop} (a : α) {vs : List V} {E : XK} {ta : TA} (h : EvA ta σ H vs) (hp : ∀ H1, Ex H H1 → pre a vs H1) : EvP (tCall (spX pre post) [] E ta) σ H (post a) := fun H1 e Q q =>
  h H1 e _ fun H2 e2 => by
    rw [List.append_nil]
    exact ⟨a, hp H2 (e.trans e2), fun v H3 e3 p => q v H3 (e2.trans e3) p⟩
theorem ev_callV {α : Type} {pre : α → List V → Hp → Prop} {post : α → V → Hp → Prop} (a : α) {vs : List V} {E : XK} {ta : TA} (h : EvA ta σ H vs) (hp : ∀ H1, Ex H H1 → pre a vs H1) (hv : ∀ u H', post a u H' → u = v) : Ev (tCall (spX pre post) [] E ta) σ H v :=
  ev_ep ((ep_call a h hp).imp fun u H' _ p => hv u H' p)
/-! isinstance -/
theorem ev_isi {c : V} {t u : Value} {b : Bool} (ha : Ev ta σ H x) (hc : Ev tb σ H c) (k : ClsV c u) (ty : ∀ H1, Ex H H1 → TyX K H1 x t) (e : PySem.W.kitOne K t u = some b) : Ev (tCB (rIsi K) (tCons ta (tCons tb tNil))) σ H (.bl b) := fun H1 e1 Q q =>
  ha H1 e1 _ fun H2 e2 => hc H2 (e1.trans e2) _ fun H3 e3 => ⟨x, c, t, u, b, rfl, k, ty H3 ((e1.trans e2).trans e3), e, q H3 (e2.trans e3)⟩
theorem tyx_int (i : Int) : TyX K H (.int i) (.type "int") := .base (.int i)
theorem tyx_str (s : Str) : TyX K H (.str s) (.type "str") := .base (.str s)
theorem tyx_bl (b : Bool) : TyX K H (.bl b) (.type "bool") := .base (.bl b)
theorem tyx_non : TyX K H .non (.type "NoneType") := .base .non
theorem tyx_tup {a : Addr} {xs : List V} (h : SqT K H a xs) : TyX K H (.ref a) (.type "tuple") := by
  rcases h with (h | ⟨o, h⟩) | ⟨o, its, n, lk, c, _⟩
  · exact .base (.tup h)
  · exact .fTuple h
  · exact .kTuple lk c
theorem kit_tt : PySem.W.kitOne K (.type "tuple") (.type "tuple") = some true := kit_ty (by decide +kernel)
theorem kit_ii : PySem.W.kitOne K (.type "int") (.type "int") = some true := kit_ty (by decide +kernel)
theorem kit_ib : PySem.W.kitOne K (.type "int") (.type "bool") = some false := kit_ty (by decide +kernel)
theorem kit_ss : PySem.W.kitOne K (.type "str") (.type "str") = some true := kit_ty (by decide +kernel)
/-! len -/
theorem ev_lenT {p : Addr} {xs : List V} (ha : Ev ta σ H (.ref p)) (h : SqT K H p xs) : Ev (tCB (rLenS K) (tCons ta tNil)) σ H (.int (xs.length : Int)) := fun H1 e Q q =>
  ha H1 e _ fun H2 e2 => ⟨p, xs, rfl, Or.inr (ex_t (e.trans e2) h), q H2 e2⟩
def rLenTx : List V → Hp → VK → Prop := fun xs H Q => ∃ z, xs = [.str z] ∧ z.length ≤ sizeLine ∧ Q (.int z.length) H
theorem ev_lenS {z : Str} (ha : Ev ta σ H (.str z)) (h : z.length ≤ 100000) : Ev (tCB rLenTx (tCons ta tNil)) σ H (.int (z.length : Int)) := fun H1 e Q q =>
  ha H1 e _ fun H2 e2 => ⟨z, rfl, sz_of h, q H2 e2⟩
/-- a < b < c and the like -/
theorem ev_chain {r r' : R2} {tc : TE} {x y z : V} {a b : Bool} (ha : Ev ta σ H x) (hb : Ev tb σ H y) (hc : a = true → Ev tc σ H z) (h1 : RV r x y H (.bl a)) (h2 : a = true → RV r' y z H (.bl b)) : Ev (tChain r r' ta tb tc) σ H (.bl (a && b)) := fun H1 e Q q =>
  ha H1 e _ fun H2 e2 => hb H2 (e.trans e2) _ fun H3 e3 => h1 H3 ((e.trans e2).trans e3) _ fun H4 e4 => ⟨a, rfl, by
    have e14 := (e2.trans e3).trans e4
    cases a with
    | true =>
      show tc σ H4 _
      refine hc rfl H4 (e.trans e14) _ fun H5 e5 => ?_
      exact h2 rfl H5 ((e.trans e14).trans e5) Q fun H6 e6 => q H6 ((e14.trans e5).trans e6)
    | false =>
      show Q (.bl false) H4
      exact q H4 e14⟩
theorem et_val {b : Bool} (h : Ev te σ H (.bl b)) : EvT (tB te) σ H b := et_B h
theorem et_isN {x : V} (h : Ev ta σ H x) : EvT (tTest (tOp (fun x y H Q => y = .non ∧ Q (.bl (!decide (x = .non))) H) ta (tC .non))) σ H (!decide (x = .non)) := fun H1 e Q q =>
  h H1 e _ fun H2 e2 => ⟨rfl, _, rfl, q H2 e2⟩
end
/-! ### tuples of natural numbers -/
abbrev vi (k : Nat) : V := .int (k : Int)
theorem atI_vi {xs : List V} {k : Nat} {v : V} (h : xs[k]? = some v) : atI xs (k : Int) = some v := atI_nat h
/-- all tuples that stood stand (lists may have changed) -/
def ET (K : PySem.W.Frag) (H H' : Hp) : Prop := ∀ a xs, SqT K H a xs → SqT K H' a xs
theorem ET.refl {K : PySem.W.Frag} {H : Hp} : ET K H H := fun _ _ h => h
theorem ET.trans {K : PySem.W.Frag} {H H1 H2 : Hp} (a : ET K H H1) (b : ET K H1 H2) : ET K H H2 := fun p xs h => b p xs (a p xs h)
theorem Ex.et {K : PySem.W.Frag} {H H' : Hp} (e : Evl.Ex H H') : ET K H H' := fun _ _ h => ex_t e h
theorem ET.upd {K : PySem.W.Frag} {H H' : Hp} {l : Addr} {xs ys : List V} (e : ET K H H') (h : H' l = some (.lst xs)) : ET K H (upd H' l (.lst ys)) := fun a zs q => by
  rcases e a zs q with (q | ⟨o, q⟩) | q
  · have ne : a ≠ l := fun z => by rw [z, h] at q; cases q
    exact .inl (.inl (by rw [upd_ne ne]; exact q))
  · have ne : a ≠ l := fun z => by rw [z, h] at q; cases q
    exact .inl (.inr ⟨o, by rw [upd_ne ne]; exact q⟩)
  · exact .inr q
def Nats (K : PySem.W.Frag) (H : Hp) (v : V) (ns : List Nat) : Prop := ∃ a, v = .ref a ∧ SqT K H a (ns.map vi)
theorem Nats.et {K : PySem.W.Frag} {H H' : Hp} {v : V} {ns : List Nat} (e : ET K H H') (h : Nats K H v ns) : Nats K H' v ns := let ⟨a, q, s⟩ := h; ⟨a, q, e _ _ s⟩
theorem Nats.ex {K : PySem.W.Frag} {H H' : Hp} {v : V} {ns : List Nat} (e : Evl.Ex H H') (h : Nats K H v ns) : Nats K H' v ns := h.et (Dw.Ex.et e)
theorem paired_imp {α β : Type} {R S : α → β → Prop} (h : ∀ a b, R a b → S a b) : ∀ {xs : List α} {ys : List β}, Paired R xs ys → Paired S xs ys
  | _, _, .nil => .nil
  | _, _, .cons a b => .cons (h _ _ a) (paired_imp h b)
theorem paired_get {α β : Type} {R : α → β → Prop} : ∀ {xs : List α} {ys : List β} {i : Nat} {y : β}, Paired R xs ys → ys[i]? = some y → ∃ x, xs[i]? = some x ∧ R x y
  | _, _, _, _, .nil, h => by simp at h
  | _, _, 0, _, .cons a _, h => by
    have e := Option.some.inj h
    subst e
    exact ⟨_, rfl, a⟩
  | _, _, i + 1, y, .cons _ b, h => by
    obtain ⟨x, e, r⟩ := paired_get (i := i) b h
    exact ⟨x, e, r⟩
theorem paired_len {α β : Type} {R : α → β → Prop} : ∀ {xs : List α} {ys : List β}, Paired R xs ys → xs.length = ys.length
  | _, _, .nil => rfl
  | _, _, .cons _ b => congrArg (· + 1) (paired_len b)
theorem paired_snoc {α β : Type} {R : α → β → Prop} {x : α} {y : β} (r : R x y) : ∀ {xs : List α} {ys : List β}, Paired R xs ys → Paired R (xs ++ [x]) (ys ++ [y])
  | _, _, .nil => .cons r .nil
  | _, _, .cons a b => .cons a (paired_snoc r b)
/-- a tuple of tuples of natural numbers -/
def Tabs (K : PySem.W.Frag) (H : Hp) (v : V) (ts : List (List Nat)) : Prop := ∃ a vs, v = .ref a ∧ SqT K H a vs ∧ Paired (Nats K H) vs ts
theorem Tabs.et {K : PySem.W.Frag} {H H' : Hp} {v : V} {ts : List (List Nat)} (e : ET K H H') (h : Tabs K H v ts) : Tabs K H' v ts := let ⟨a, vs, q, s, p⟩ := h; ⟨a, vs, q, e _ _ s, paired_imp (fun _ _ n => n.et e) p⟩
theorem Tabs.ex {K : PySem.W.Frag} {H H' : Hp} {v : V} {ts : List (List Nat)} (e : Evl.Ex H H') (h : Tabs K H v ts) : Tabs K H' v ts := h.et (Dw.Ex.et e)
/-- a deed; a signature -/
def Deed (K : PySem.W.Frag) (H : Hp) (v : V) (p : Str × Nat) : Prop := ∃ b, v = .ref b ∧ SqT K H b [.str p.1, vi p.2]
theorem Deed.et {K : PySem.W.Frag} {H H' : Hp} {v : V} {p : Str × Nat} (e : ET K H H') (h : Deed K H v p) : Deed K H' v p := let ⟨b, q, s⟩ := h; ⟨b, q, e _ _ s⟩
def Sig (K : PySem.W.Frag) (H : Hp) (v : V) (sg : List (Str × Nat)) : Prop := ∃ a vs, v = .ref a ∧ SqT K H a vs ∧ Paired (Deed K H) vs sg
theorem Sig.et {K : PySem.W.Frag} {H H' : Hp} {v : V} {sg : List (Str × Nat)} (e : ET K H H') (h : Sig K H v sg) : Sig K H' v sg := let ⟨a, vs, q, s, p⟩ := h; ⟨a, vs, q, e _ _ s, paired_imp (fun _ _ n => n.et e) p⟩
theorem Sig.ex {K : PySem.W.Frag} {H H' : Hp} {v : V} {sg : List (Str × Nat)} (e : Evl.Ex H H') (h : Sig K H v sg) : Sig K H' v sg := h.et (Dw.Ex.et e)
/-- a model: its size and its tables -/
def Mdl (K : PySem.W.Frag) (H : Hp) (v : V) (n : Nat) (ts : List (List Nat)) : Prop := ∃ a u, v = .ref a ∧ SqT K H a [vi n, u] ∧ Tabs K H u ts
theorem Mdl.et {K : PySem.W.Frag} {H H' : Hp} {v : V} {n : Nat} {ts : List (List Nat)} (e : ET K H H') (h : Mdl K H v n ts) : Mdl K H' v n ts := let ⟨a, u, q, s, p⟩ := h; ⟨a, u, q, e _ _ s, p.et e⟩
theorem Mdl.ex {K : PySem.W.Frag} {H H' : Hp} {v : V} {n : Nat} {ts : List (List Nat)} (e : Evl.Ex H H') (h : Mdl K H v n ts) : Mdl K H' v n ts := h.et (Dw.Ex.et e)
end Dw
end
section
/-! loops and comprehensions over anything that is walked; statements by what holds of a value -/
namespace Dw
open PySem PySem.Spec PyProof.Rows L2 Evl
section
variable {K : PySem.W.Frag} {σ : L2.St} {H H' : Hp} {ta tb te : TE} {t : TT} {x y z v : V} {P : V → Hp → Prop} {D : Ends} {tu tz : TS} {g : TG}
/-! ### statements -/
theorem s_asgP {i : Nat} (h : EvP te σ H P) (k : ∀ v H1, Ex H H1 → P v H1 → D.nx (σ.set i (some v)) H1) : tAsg te (gName i) D σ H := h H (Ex.refl H) _ fun v H1 e p => k v H1 e p
theorem q_asgP {i : Nat} (h : EvP te σ H P) (k : ∀ v H1, Ex H H1 → P v H1 → tz D (σ.set i (some v)) H1) : tSeq (tAsg te (gName i)) tz D σ H := s_asgP (D := { D with nx := tz D }) h k
theorem s_retP (h : EvP te σ H P) (k : ∀ v H1, Ex H H1 → P v H1 → D.rt v H1) : tRet te D σ H := h H (Ex.refl H) _ fun v H1 e p => k v H1 e p
/-- xs.append(e), e by what holds of it -/
theorem s_appP {l : Addr} {xs : List V} (hl : H l = some (.lst xs)) (ha : Ev ta σ H (.ref l)) (h : EvP te σ H P) (hz : xs.length < 100000) (k : ∀ v H1, Ex H H1 → P v H1 → D.nx σ (upd H1 l (.lst (xs ++ [v])))) :
    tDrop (tBM K "list" rAppend ta (tCons te tNil)) D σ H := by
  refine ha H (Ex.refl H) _ fun H1 e1 => ?_
  exact
  ⟨Or.inl ⟨rfl, xs, sq_of (e1 l _ hl)⟩, h H1 e1 _ fun v H2 e2 p => ⟨l, xs, v, rfl, rfl, e2 l _ (e1 l _ hl), sz_lt hz, k v H2 (e1.trans e2) p⟩⟩
/-- arguments, the last of them by what holds of it -/
def EvAP (ta : TA) (σ : L2.St) (H : Hp) (P : List V → Hp → Prop) : Prop := ∀ H1, Ex H H1 → ∀ Q : List V → Hp → Prop, (∀ vs H2, Ex H1 H2 → P vs H2 → Q vs H2) → ta σ H1 Q
theorem eap_cons {tr : TA} {P : V → Hp → Prop} {R : List V → Hp → Prop} (h : EvP te σ H P) (hr : EvAP tr σ H R) (keep : ∀ v H1 H2, Ex H1 H2 → P v H1 → P v H2) : EvAP (tCons te tr) σ H (fun vs H' => ∃ v r, vs = v :: r ∧ P v H' ∧ R r H') := fun H1 e Q q =>
  h H1 e _ fun v H2 e2 p => hr H2 (e.trans e2) _ fun r H3 e3 pr => q (v :: r) H3 (e2.trans e3) ⟨v, r, rfl, keep v H2 H3 e3 p, pr⟩
/-- a call by a pure promise, its arguments by what holds of them -/
theorem ep_callP {α : Type} {pre : α → List V → Hp → Prop} {post : α → V → Hp → Prop} {R : List V → Hp → Prop} (a : α) {E : XK} {ta : TA} (h : EvAP ta σ H R) (hp : ∀ vs H1, Ex H H1 → R vs H1 → pre a vs H1) : EvP (tCall (spX pre post) [] E ta) σ H (post a) := fun H1 e Q q =>
  h H1 e _ fun vs H2 e2 r => by
    rw [List.append_nil]
    exact ⟨a, hp vs H2 (e.trans e2) r, fun v H3 e3 p => q v H3 (e2.trans e3) p⟩
/-! ### all -/
theorem ev_all {bs : List Bool} (h : EvL te σ H (bs.map V.bl)) : Ev (tCB (rAll K) (tCons te tNil)) σ H (.bl (bs.all id)) := fun H1 e Q q =>
  h H1 e _ fun p H2 _ e2 hp => ⟨p, bs, rfl, sq_of hp, q H2 e2⟩
/-! ### comprehensions -/
theorem et_yes : EvT tYes σ H true := fun H1 _ _ q => q H1 (Ex.refl H1)
/-- one for over anything whose turns leave the heap as it was -/
theorem el_lcIt {J : It} {n : Nat} {G : Hp → Prop} {Y : Nat → Hp → V → Hp → Prop} {wi : TI} {Px : Nat → V → Prop} {j : Nat} {vs : List Nat} (w : Walk J n G Y)
    (hw0 : ∀ H0, Ex H H0 → ∀ R : It → Hp → Prop, (∀ H1, Ex H0 H1 → R J H1) → wi σ H0 R) (hG : ∀ H1, Ex H H1 → G H1) (hY : ∀ i H x H', Y i H x H' → H' = H ∧ Px i x)
    (f : Nat → Bool) (u : Nat → V) (hn : n ≤ 40000) (hwp : ∀ x, wipe ((wipe σ vs).set j (some x)) vs = wipe σ vs)
    (ht : ∀ i x H1, Ex H H1 → i < n → Px i x → EvT t ((wipe σ vs).set j (some x)) H1 (f i)) (he : ∀ i x H1, Ex H H1 → i < n → Px i x → f i = true → Ev te ((wipe σ vs).set j (some x)) H1 (u i)) :
    EvL (tLc wi (gName j) t te vs) σ H (given n f u) := fun H0 e Q q => hw0 H0 e _ fun H1 e1 Dl hD =>
  lc_it w (Cw H1 f u Dl) ⟨hD, Ex.new hD, upd_same⟩ (fun i H2 _ p => hG H2 ((e.trans e1).trans p.2.1)) (fun i x H2 H3 hi p y => by
    obtain ⟨rfl, px⟩ := hY i H2 x H3 y
    exact ⟨hwp x, cw_turn p (by omega) (ht i x H1 (e.trans e1) hi px) (fun hf => he i x H1 (e.trans e1) hi px hf)⟩)
    (fun H2 p => q Dl H2 (fresh_back e1 p.1) (e1.trans p.2.1) p.2.2)
theorem given_all (n : Nat) (u : Nat → V) : given n (fun _ => true) u = (List.range n).map u := by
  unfold given
  rw [List.filter_eq_self.mpr (fun _ _ => rfl)]
/-- .. without a test -/
theorem el_lcAll {J : It} {n : Nat} {G : Hp → Prop} {Y : Nat → Hp → V → Hp → Prop} {wi : TI} {Px : Nat → V → Prop} {j : Nat} {vs : List Nat} (w : Walk J n G Y)
    (hw0 : ∀ H0, Ex H H0 → ∀ R : It → Hp → Prop, (∀ H1, Ex H0 H1 → R J H1) → wi σ H0 R) (hG : ∀ H1, Ex H H1 → G H1) (hY : ∀ i H x H', Y i H x H' → H' = H ∧ Px i x)
    (u : Nat → V) (hn : n ≤ 40000) (hwp : ∀ x, wipe ((wipe σ vs).set j (some x)) vs = wipe σ vs) (he : ∀ i x H1, Ex H H1 → i < n → Px i x → Ev te ((wipe σ vs).set j (some x)) H1 (u i)) :
    EvL (tLc wi (gName j) tYes te vs) σ H ((List.range n).map u) := by
  have h := el_lcIt w hw0 hG hY (fun _ => true) u hn hwp (fun _ _ _ _ _ _ => et_yes) (fun i x H1 e hi px _ => he i x H1 e hi px)
  rw [given_all] at h
  exact h
theorem w_str {z : Str} (h : Ev te σ H (.str z)) : ∀ H0, Ex H H0 → ∀ R : It → Hp → Prop, (∀ H1, Ex H0 H1 → R (Its z) H1) → iStr te σ H0 R := fun H0 e R r => h H0 e _ fun H1 e1 => ⟨z, rfl, r H1 e1⟩
theorem w_tup {a : Addr} {xs : List V} (h : Ev te σ H (.ref a)) (hx : SqT K H a xs) : ∀ H0, Ex H H0 → ∀ R : It → Hp → Prop, (∀ H1, Ex H0 H1 → R (Itt K a) H1) → iTup K te σ H0 R := fun H0 e R r => h H0 e _ fun H1 e1 => ⟨a, rfl, ⟨xs, ex_t (e.trans e1) hx⟩, r H1 e1⟩
theorem w_rng {ta : TA} {n : Nat} (h : EvA ta σ H [vi n]) (hn : n ≤ 40000) : ∀ H0, Ex H H0 → ∀ R : It → Hp → Prop, (∀ H1, Ex H0 H1 → R (Itr 0 n) H1) → iRng1 ta σ H0 R := fun H0 e R r => h H0 e _ fun H1 e1 => ⟨n, rfl, by omega, by omega, r H1 e1⟩
/-- over a tuple, a value for each item -/
theorem el_lcT {a : Addr} {xs : List V} {tl : TE} {j : Nat} {vs : List Nat} (h : Ev tl σ H (.ref a)) (hx : SqT K H a xs) (u : Nat → V) (hn : xs.length ≤ 40000) (hwp : ∀ x, wipe ((wipe σ vs).set j (some x)) vs = wipe σ vs)
    (he : ∀ i x H1, Ex H H1 → xs[i]? = some x → Ev te ((wipe σ vs).set j (some x)) H1 (u i)) : EvL (tLc (iTup K tl) (gName j) tYes te vs) σ H ((List.range xs.length).map u) :=
  el_lcAll walk_tup (w_tup h hx) (fun H1 e => ex_t e hx) (Px := fun i x => xs[i]? = some x) (fun i H x H' y => y) u hn hwp (fun i x H1 e _ px => he i x H1 e px)
theorem el_lcS {z : Str} {tl : TE} {j : Nat} {vs : List Nat} (h : Ev tl σ H (.str z)) (u : Nat → V) (hn : z.cps.size ≤ 40000) (hwp : ∀ x, wipe ((wipe σ vs).set j (some x)) vs = wipe σ vs)
    (he : ∀ i c H1, Ex H H1 → z.cps[i]? = some c → Ev te ((wipe σ vs).set j (some (.str ⟨#[c]⟩))) H1 (u i)) : EvL (tLc (iStr tl) (gName j) tYes te vs) σ H ((List.range z.cps.size).map u) :=
  el_lcAll walk_str (w_str h) (fun _ _ => trivial) (Px := fun i x => ∃ c, z.cps[i]? = some c ∧ x = .str ⟨#[c]⟩) (fun i H x H' y => y) u hn hwp (fun i x H1 e _ ⟨c, hc, hx⟩ => by subst hx; exact he i c H1 e hc)
theorem el_lcR {ta : TA} {n : Nat} {j : Nat} {vs : List Nat} (h : EvA ta σ H [vi n]) (u : Nat → V) (hn : n ≤ 40000) (hwp : ∀ x, wipe ((wipe σ vs).set j (some x)) vs = wipe σ vs)
    (he : ∀ i H1, Ex H H1 → i < n → Ev te ((wipe σ vs).set j (some (vi i))) H1 (u i)) : EvL (tLc (iRng1 ta) (gName j) tYes te vs) σ H ((List.range n).map u) :=
  el_lcAll walk_range (w_rng h hn) (fun _ _ => trivial) (Px := fun i x => x = vi i) (fun i H x H' y => ⟨y.1, by rw [y.2]; show V.int (0 + (i : Int)) = _; rw [Int.zero_add]⟩) u hn hwp (fun i x H1 e hi px => by subst px; exact he i H1 e hi)
/-! ### loops that give pairs -/
theorem walk_enumT {a : Addr} {xs : List V} : Walk (IteT K a) xs.length (fun H => SqT K H a xs) (YPair (fun i => some (vi i)) (fun i => xs[i]?)) := by
  refine ⟨fun i H hi q => ⟨xs, xs[i], q, List.getElem?_eq_getElem hi⟩, fun H q => ⟨xs, q, Nat.le_refl _⟩, fun i H v H' _ q y => ?_⟩
  obtain ⟨T, x, h1, h2, h3, h4⟩ := y
  exact ⟨T, vi i, x, h1, h2, h3, rfl, h4 xs q⟩
theorem q_enumT {a : Addr} {xs : List V} {ta : TA} {j1 j2 : Nat} (h : EvA ta σ H [.ref a]) (hx : SqT K H a xs) (Pv : Nat → L2.St → Hp → Prop) (h0 : ∀ H1, Ex H H1 → Pv 0 σ H1) (hl : ∀ i σ' H', i ≤ xs.length → Pv i σ' H' → SqT K H' a xs)
    (hs : ∀ i x σ' H' H'', xs[i]? = some x → Pv i σ' H' → Ex H' H'' → tu { D with nx := Pv (i + 1), ct := Pv (i + 1), bk := tz D } ((σ'.set j1 (some (vi i))).set j2 (some x)) H'') (hd : ∀ σ' H', Pv xs.length σ' H' → tz D σ' H') :
    tSeq (tFor (iEnumT K ta) (gTup K 2 (gCons (gName j1) (gCons (gName j2) gNil))) tu) tz D σ H :=
  h H (Ex.refl H) _ fun H1 e => ⟨a, xs, rfl, ex_t e hx, for_it (D := { D with nx := tz D }) walk_enumT Pv (h0 H1 e) hl (fun i v σ' H2 H3 hi p y => by
    obtain ⟨T, x1, x2, rfl, nT, rfl, e1, e2⟩ := y
    cases e1
    exact ⟨T, _, rfl, st_of upd_same, rfl, _, _, rfl, _, _, rfl, rfl, hs i x2 σ' H2 _ e2 p (Ex.new nT)⟩) hd⟩
theorem s_enumT {a : Addr} {xs : List V} {ta : TA} {j1 j2 : Nat} (h : EvA ta σ H [.ref a]) (hx : SqT K H a xs) (Pv : Nat → L2.St → Hp → Prop) (h0 : ∀ H1, Ex H H1 → Pv 0 σ H1) (hl : ∀ i σ' H', i ≤ xs.length → Pv i σ' H' → SqT K H' a xs)
    (hs : ∀ i x σ' H' H'', xs[i]? = some x → Pv i σ' H' → Ex H' H'' → tu { D with nx := Pv (i + 1), ct := Pv (i + 1), bk := D.nx } ((σ'.set j1 (some (vi i))).set j2 (some x)) H'') (hd : ∀ σ' H', Pv xs.length σ' H' → D.nx σ' H') :
    tFor (iEnumT K ta) (gTup K 2 (gCons (gName j1) (gCons (gName j2) gNil))) tu D σ H :=
  h H (Ex.refl H) _ fun H1 e => ⟨a, xs, rfl, ex_t e hx, for_it walk_enumT Pv (h0 H1 e) hl (fun i v σ' H2 H3 hi p y => by
    obtain ⟨T, x1, x2, rfl, nT, rfl, e1, e2⟩ := y
    cases e1
    exact ⟨T, _, rfl, st_of upd_same, rfl, _, _, rfl, _, _, rfl, rfl, hs i x2 σ' H2 _ e2 p (Ex.new nT)⟩) hd⟩
/-- enumerate of a list -/
theorem q_enumL {a : Addr} {xs : List V} {ta : TA} {j1 j2 : Nat} (h : EvA ta σ H [.ref a]) (hx : SqL K H a xs) (Pv : Nat → L2.St → Hp → Prop) (h0 : ∀ H1, Ex H H1 → Pv 0 σ H1) (hl : ∀ i σ' H', i ≤ xs.length → Pv i σ' H' → SqL K H' a xs)
    (hs : ∀ i x σ' H' H'', xs[i]? = some x → Pv i σ' H' → Ex H' H'' → tu { D with nx := Pv (i + 1), ct := Pv (i + 1), bk := tz D } ((σ'.set j1 (some (vi i))).set j2 (some x)) H'') (hd : ∀ σ' H', Pv xs.length σ' H' → tz D σ' H') :
    tSeq (tFor (iEnum K ta) (gTup K 2 (gCons (gName j1) (gCons (gName j2) gNil))) tu) tz D σ H :=
  h H (Ex.refl H) _ fun H1 e => ⟨a, xs, rfl, ex_l e hx, for_it (D := { D with nx := tz D }) walk_enum Pv (h0 H1 e) hl (fun i v σ' H2 H3 hi p y => by
    obtain ⟨T, x1, x2, rfl, nT, rfl, e1, e2⟩ := y
    cases e1
    exact ⟨T, _, rfl, st_of upd_same, rfl, _, _, rfl, _, _, rfl, rfl, hs i x2 σ' H2 _ e2 p (Ex.new nT)⟩) hd⟩
end
end Dw
end
section
/-! comprehensions of two fors; new tuples of lists; lists made and changed -/
namespace Dw
open PySem PySem.Spec PyProof.Rows L2 Evl
section
variable {K : PySem.W.Frag} {σ : L2.St} {H H' : Hp} {ta tb te : TE} {t : TT} {x y z v : V} {P : V → Hp → Prop} {D : Ends} {tu tz : TS} {g : TG}
/-- [x] * n -/
theorem el_rep {xs : List V} {n : Nat} (ha : EvL ta σ H xs) (hb : Ev tb σ H (vi n)) (hz : xs.length * n ≤ 100000) (hn : n ≤ 100000) : EvL (tOp rRep ta tb) σ H (List.replicate n xs).flatten := fun H1 e Q q =>
  ha H1 e _ fun p H2 np e2 hp => hb H2 (e.trans e2) _ fun H3 e3 => ⟨p, (n : Int), xs, rfl, rfl, e3 _ _ hp, by omega, by omega, by rw [Int.toNat_natCast]; exact sz_of hz, fun l nl => by
    rw [Int.toNat_natCast]
    exact q l _ (fresh_back (e2.trans e3) nl) ((e2.trans e3).trans (Ex.new nl)) upd_same⟩
theorem rep1 (n : Nat) (v : V) : (List.replicate n [v]).flatten = List.replicate n v := by
  induction n with
  | zero => rfl
  | succ n ih => rw [List.replicate_succ, List.flatten_cons, ih, List.replicate_succ]; rfl
end
end Dw
end
section
/-! zip of two tuples; tuples of values by what holds of them -/
namespace Dw
open PySem PySem.Spec PyProof.Rows L2 Evl RZ
section
variable {K : PySem.W.Frag} {σ : L2.St} {H H' : Hp} {ta tb te : TE} {t : TT} {x y z v : V} {P : V → Hp → Prop} {D : Ends} {tu tz : TS} {g : TG}
theorem walk_zipT {a b : Addr} {xs ys : List V} (hl : xs.length = ys.length) : Walk (ItzT K a b) xs.length (fun H => SqT K H a xs ∧ SqT K H b ys) (YPair (fun i => xs[i]?) (fun i => ys[i]?)) := by
  refine ⟨fun i H hi q => ⟨xs, ys, xs[i], ys[i]'(by rw [← hl]; exact hi), q.1, q.2, List.getElem?_eq_getElem hi, List.getElem?_eq_getElem (by rw [← hl]; exact hi)⟩, fun H q => ⟨xs, ys, q.1, q.2, .inl (Nat.le_refl _)⟩, fun i H v H' _ q y => ?_⟩
  obtain ⟨T, x1, x2, h1, h2, h3, h4, h5⟩ := y
  exact ⟨T, x1, x2, h1, h2, h3, h4 xs q.1, h5 ys q.2⟩
theorem q_zipT {a b : Addr} {xs ys : List V} {ta : TA} (h : EvA ta σ H [.ref a, .ref b]) (hx : SqT K H a xs) (hy : SqT K H b ys) (hl : xs.length = ys.length) (Pv : Nat → L2.St → Hp → Prop) (h0 : ∀ H1, Ex H H1 → Pv 0 σ H1) (hk : ∀ i σ' H', i ≤ xs.length → Pv i σ' H' → SqT K H' a xs ∧ SqT K H' b ys)
    (hs : ∀ i x y T σ' H', xs[i]? = some x → ys[i]? = some y → Pv i σ' H' → H' T = none → g (.ref T) σ' (upd H' T (.tup [x, y])) fun σ2 H2 => tu { D with nx := Pv (i + 1), ct := Pv (i + 1), bk := tz D } σ2 H2) (hd : ∀ σ' H', Pv xs.length σ' H' → tz D σ' H') :
    tSeq (tFor (iZipA K ta) g tu) tz D σ H :=
  h H (Ex.refl H) _ fun H1 e => ⟨a, b, xs, ys, rfl, .inr ⟨ex_t e hx, ex_t e hy, for_it (D := { D with nx := tz D }) (walk_zipT hl) Pv (h0 H1 e) hk (fun i v σ' H2 H3 hi p y => by
    obtain ⟨T, x1, x2, rfl, nT, rfl, e1, e2⟩ := y
    exact hs i x1 x2 T σ' H2 e1 e2 p nT) hd⟩⟩
theorem eap_nil : EvAP tNil σ H (fun vs _ => vs = []) := fun H1 _ _ q => q [] H1 (Ex.refl H1) rfl
end
end Dw
end
section
/-! a new tuple told with its own object (so that its methods may be called); tuple.index of ints -/
namespace Dw
open PySem PySem.Spec PyProof.Rows L2 Evl
/-! readings opened by one step -/
section
variable {σ : L2.St} {H : Hp} {ta tb te : TE} {D : Ends} {g : TG}
theorem do_cons {tr : TA} {Q : List V → Hp → Prop} (h : ta σ H fun x H1 => tr σ H1 fun xs H2 => Q (x :: xs) H2) : tCons ta tr σ H Q := h
theorem do_nil {Q : List V → Hp → Prop} (h : Q [] H) : tNil σ H Q := h
theorem do_op {r : R2} {Q : VK} (h : ta σ H fun x H1 => tb σ H1 fun y H2 => r x y H2 Q) : tOp r ta tb σ H Q := h
theorem do_tup {t : TA} {Q : VK} (h : t σ H fun xs H1 => xs.length ≤ sizeLine ∧ ∀ p, H1 p = none → Q (.ref p) (upd H1 p (.tup xs))) : tTup t σ H Q := h
theorem do_lst {t : TA} {Q : VK} (h : t σ H fun xs H1 => xs.length ≤ sizeLine ∧ ∀ p, H1 p = none → Q (.ref p) (upd H1 p (.lst xs))) : tLst t σ H Q := h
theorem do_cb {r : List V → Hp → VK → Prop} {t : TA} {Q : VK} (h : t σ H fun vs H1 => r vs H1 Q) : tCB r t σ H Q := h
theorem do_test {Q : Bool → Hp → Prop} (h : te σ H fun x H' => ∃ k, x = .bl k ∧ Q k H') : tTest te σ H Q := h
theorem do_ret (h : te σ H D.rt) : tRet te D σ H := h
theorem do_asg (h : te σ H fun x H1 => g x σ H1 D.nx) : tAsg te g D σ H := h
theorem do_if {c : TT} {t u : TS} (h : c σ H fun b H1 => if b = true then t D σ H1 else u D σ H1) : tIfS c t u D σ H := h
theorem do_ev {v : V} {Q : VK} (h : Ev te σ H v) (k : ∀ H1, Ex H H1 → Q v H1) : te σ H Q := h H (Ex.refl H) Q k
theorem do_evL {xs : List V} {Q : VK} (h : EvL te σ H xs) (k : ∀ p H1, H p = none → Ex H H1 → H1 p = some (.lst xs) → Q (.ref p) H1) : te σ H Q := h H (Ex.refl H) Q k
end
section
variable {X : Cx}
def rTupF (K : PySem.W.Frag) : List V → Hp → VK → Prop := fun xs H Q => ∃ p ys, xs = [.ref p] ∧ SqL K H p ys ∧ ∀ l o, H l = none → o.dict = none → Q (.ref l) (upd H l (.frz o (.tup ys)))
theorem call_tupF : CallR X (.type "tuple") (rTupF X.K) := by
  intro pins s σ H xs us Q I r h
  obtain ⟨p, ys, e, isL, q⟩ := h
  subst e
  obtain ⟨u, hu, ru⟩ := vals1 r
  subst hu
  cases (show u = Value.ref p from ru)
  obtain ⟨its, rel, at_, small⟩ := I.list isL
  have many : its.toArray.size ≤ sizeLine := by
    rw [List.size_toArray, ← rel.length]
    exact small
  refine call_tuple_list at_.isList (fun h2 keep => ?_) many
  have J : Inv X pins σ H { s with heap := h2 } := I.kept (t' := s.toks) keep
  let ob : Obj := { cls := .type "tuple", data := .seq its.toArray }
  have got : (h2.push ob).get? h2.objs.size = some ob := Heap.get?_push_size _ rfl
  have okN : ObjOk X.prog X.w (upd H h2.objs.size (.frz ob (.tup ys))) (h2.push ob) h2.objs.size (.frz ob (.tup ys)) := ⟨got, small, its, rel, ob, got, rfl, _, rfl⟩
  have J2 := J.laid (t' := s.toks) (h' := h2.push ob) (fun b o e => Heap.get?_push_of_some _ e) (Nat.le_refl h2.objs.size) okN
  exact ⟨.ref h2.objs.size, _, J2, rfl, q _ ob (J.hok.fresh (Nat.le_refl _)) rfl⟩
/-- a tuple told with its own object -/
def tyFrz (x : V) (H : Hp) : Prop := ∃ a o xs, x = .ref a ∧ H a = some (.frz o (.tup xs)) ∧ o.dict = none
theorem ty_frz : TyOk X "tuple" tyFrz := by
  intro pins σ H s x v I r ty
  obtain ⟨a, o, xs, e, ha, hd⟩ := ty
  subst e
  cases (show v = Value.ref a from r)
  have held : ObjOk X.prog X.w H s.heap a (.frz o (.tup xs)) := I.hok a _ ha
  obtain ⟨at_, _, its, _, o2, at2, c, _⟩ := held
  rw [at_] at at2
  cases at2
  exact ⟨⟨o, at_, c⟩, fun b e => by cases e; exact ⟨o, at_, hd⟩⟩
end
end Dw
end
section
/-! data of tracked things: what repr and == want of it -/
namespace Dw
open PySem PySem.Spec PyProof.Rows L2 Evl
/-- small data: depth at most k, weight at most W -/
structure Gd (k W : Nat) (d : PyData) : Prop where
  lay : d.canLay0 = true
  dep : d.depth ≤ k
  wgt : d.weight ≤ W
  its : d.intsShort 13 = true
  sho : d.showable = true
theorem Gd.mono {k W k' W' : Nat} {d : PyData} (h : Gd k W d) (a : k ≤ k') (b : W ≤ W') : Gd k' W' d := ⟨h.lay, Nat.le_trans h.dep a, Nat.le_trans h.wgt b, h.its, h.sho⟩
theorem log_low {n : Nat} (h : n ≤ 1000) : n.log2 ≤ 9 := by
  by_cases z : n = 0
  · subst z
    decide
  · exact Nat.le_of_lt_succ ((Nat.log2_lt z).mpr (by have e : 2 ^ 10 = 1024 := by decide
                                                     omega))
theorem gd_int {n : Nat} (h : n ≤ 1000) : Gd 0 10 (.int (n : Int)) := by
  have l := log_low h
  refine ⟨by rw [PyData.canLay0], by rw [PyData.depth]; exact Nat.le_refl _, ?_, ?_, ?_⟩
  · rw [PyData.weight, Int.natAbs_natCast]
    split <;> omega
  · rw [PyData.intsShort]
    exact decide_eq_true (PyData.shown_int_le2 (by omega) (by omega))
  · rw [PyData.showable, Int.natAbs_natCast]
    exact decide_eq_true (by omega)
theorem gd_str {z : Str} (h : ∀ c ∈ z.cps.toList, c < 0x110000) (l : z.cps.size ≤ 100) : Gd 0 100 (.str z) := by
  refine ⟨?_, by rw [PyData.depth]; exact Nat.le_refl _, by rw [PyData.weight]; exact l, by rw [PyData.intsShort], by rw [PyData.showable]⟩
  rw [PyData.canLay0]
  show z.cps.all (· < 0x110000) = true
  rw [Array.all_eq_true]
  intro i hi
  exact decide_eq_true (h _ (by rw [Array.mem_toList_iff]; exact Array.getElem_mem hi))
theorem gd_all {k W : Nat} : ∀ {ds : List PyData}, (∀ d ∈ ds, Gd k W d) → PyData.canLayAll0 ds = true ∧ PyData.depthAll ds ≤ k ∧ PyData.weightAll ds ≤ ds.length * (W + 1) ∧ PyData.intsShortAll 13 ds = true ∧ PyData.showableAll ds = true
  | [], _ => ⟨by rw [PyData.canLayAll0], by rw [PyData.depthAll]; exact Nat.zero_le _, by rw [PyData.weightAll]; exact Nat.zero_le _, by rw [PyData.intsShortAll], by rw [PyData.showableAll]⟩
  | d :: ds, h => by
    obtain ⟨a, b, c, e, f⟩ := gd_all (ds := ds) fun x hx => h x (List.mem_cons_of_mem _ hx)
    have g := h d (List.mem_cons_self ..)
    refine ⟨by rw [PyData.canLayAll0, g.lay, a]; rfl, by rw [PyData.depthAll]; exact Nat.max_le.mpr ⟨g.dep, b⟩, ?_, by rw [PyData.intsShortAll, g.its, e]; rfl, by rw [PyData.showableAll, g.sho, f]; rfl⟩
    have w := g.wgt
    rw [PyData.weightAll, List.length_cons, Nat.succ_mul]
    omega
theorem gd_tup {k W L : Nat} {ds : List PyData} (h : ∀ d ∈ ds, Gd k W d) (l : ds.length ≤ L) : Gd (k + 1) (L * (W + 1)) (.tuple ds) := by
  obtain ⟨a, b, c, e, f⟩ := gd_all h
  exact ⟨by rw [PyData.canLay0]; exact a, by rw [PyData.depth]; omega, by rw [PyData.weight]; exact Nat.le_trans c (Nat.mul_le_mul_right _ l), by rw [PyData.intsShort]; exact e, by rw [PyData.showable]; exact f⟩
theorem gd_lst {k W L : Nat} {ds : List PyData} (h : ∀ d ∈ ds, Gd k W d) (l : ds.length ≤ L) : Gd (k + 1) (L * (W + 1)) (.list ds) := by
  obtain ⟨a, b, c, e, f⟩ := gd_all h
  exact ⟨by rw [PyData.canLay0]; exact a, by rw [PyData.depth]; omega, by rw [PyData.weight]; exact Nat.le_trans c (Nat.mul_le_mul_right _ l), by rw [PyData.intsShort]; exact e, by rw [PyData.showable]; exact f⟩
theorem Gd.len {k W : Nat} {d : PyData} (h : Gd k W d) (a : k ≤ 60) (b : W ≤ 1000000) : d.shown.length ≤ sizeLine := by
  have w := h.wgt
  have dp := h.dep
  have l0 : d.layable0 = true := by
    show (d.canLay0 && decide (d.depth ≤ 64) && decide (d.weight ≤ 2 ^ 20)) = true
    have e : (2 : Nat) ^ 20 = 1048576 := by decide
    rw [h.lay, decide_eq_true (show d.depth ≤ 64 by omega), decide_eq_true (show d.weight ≤ 2 ^ 20 by omega)]
    rfl
  have z := shown_le13 l0 h.its
  rw [sizeLine_eq]
  omega
theorem Gd.shaped {k W : Nat} {d : PyData} (h : Gd k W d) (a : k ≤ 60) : SeqAt.shaped d = true := by
  have dp := h.dep
  show (d.canLay0 && decide (d.depth ≤ 64)) = true
  rw [h.lay, decide_eq_true (show d.depth ≤ 64 by omega)]
  rfl
/-! things of the hand layer as data -/
section
variable {K : PySem.W.Frag} {H : Hp}
def dN (ns : List Nat) : PyData := .tuple (ns.map fun n => .int ((n : Nat) : Int))
theorem dps_nats : ∀ ns : List Nat, DpAll K H (ns.map vi) (ns.map fun n => .int ((n : Nat) : Int))
  | [] => .nil
  | n :: ns => .cons (.int _) (dps_nats ns)
theorem Nats.dp {v : V} {ns : List Nat} (h : Nats K H v ns) : Dp K H v (dN ns) := by
  obtain ⟨a, e, s⟩ := h
  subst e
  exact .tup s (dps_nats ns)
theorem dps_paired {β : Type} {R : V → β → Prop} {f : β → PyData} (h : ∀ v b, R v b → Dp K H v (f b)) : ∀ {vs : List V} {bs : List β}, Paired R vs bs → DpAll K H vs (bs.map f)
  | [], [], .nil => .nil
  | _ :: _, _ :: _, .cons r p => .cons (h _ _ r) (dps_paired h p)
def dM (n : Nat) (ts : List (List Nat)) : PyData := .tuple [.int (n : Int), .tuple (ts.map dN)]
theorem Mdl.dp {v : V} {n : Nat} {ts : List (List Nat)} (h : Mdl K H v n ts) : Dp K H v (dM n ts) := by
  obtain ⟨a, u, e, s, b, vs, e2, s2, p⟩ := h
  subst e e2
  exact .tup s (.cons (.int _) (.cons (.tup s2 (dps_paired (fun _ _ z => Nats.dp z) p)) .nil))
def dS (sg : List (Str × Nat)) : PyData := .tuple (sg.map fun p => .tuple [.str p.1, .int ((p.2 : Nat) : Int)])
theorem Sig.dp {v : V} {sg : List (Str × Nat)} (h : Sig K H v sg) : Dp K H v (dS sg) := by
  obtain ⟨a, vs, e, s, p⟩ := h
  subst e
  refine .tup s (dps_paired (fun v q z => ?_) p)
  obtain ⟨b, e, s⟩ := z
  subst e
  exact .tup s (.cons (.str _) (.cons (.int _) .nil))
theorem gd_nats {ns : List Nat} (h : ∀ n ∈ ns, n ≤ 1000) (l : ns.length ≤ 36) : Gd 1 396 (dN ns) := by
  refine gd_tup (k := 0) (W := 10) (L := 36) (fun d hd => ?_) (by rw [List.length_map]; exact l)
  obtain ⟨n, hn, e⟩ := List.mem_map.mp hd
  subst e
  exact gd_int (h n hn)
theorem gd_mdl {n : Nat} {ts : List (List Nat)} (hn : n ≤ 1000) (h : ∀ t ∈ ts, (∀ k ∈ t, k ≤ 1000) ∧ t.length ≤ 36) (l : ts.length ≤ 4) : Gd 3 3178 (dM n ts) := by
  refine gd_tup (k := 2) (W := 1588) (L := 2) (fun d hd => ?_) (Nat.le_refl 2)
  rcases List.mem_cons.mp hd with e | hd
  · subst e
    exact (gd_int hn).mono (by decide) (by decide)
  · rw [List.mem_singleton.mp hd]
    refine gd_tup (k := 1) (W := 396) (L := 4) (fun d hd => ?_) (by rw [List.length_map]; exact l)
    obtain ⟨t, ht, e⟩ := List.mem_map.mp hd
    subst e
    exact gd_nats (h t ht).1 (h t ht).2
theorem gd_sig {sg : List (Str × Nat)} (h : ∀ p ∈ sg, (∀ c ∈ p.1.cps.toList, c < 0x110000) ∧ p.1.cps.size ≤ 100 ∧ p.2 ≤ 1000) (l : sg.length ≤ 4) : Gd 2 812 (dS sg) := by
  refine gd_tup (k := 1) (W := 202) (L := 4) (fun d hd => ?_) (by rw [List.length_map]; exact l)
  obtain ⟨p, hp, e⟩ := List.mem_map.mp hd
  subst e
  obtain ⟨a, b, c⟩ := h p hp
  refine gd_tup (k := 0) (W := 100) (L := 2) (fun d hd => ?_) (Nat.le_refl 2)
  rcases List.mem_cons.mp hd with e | hd
  · subst e
    exact gd_str a b
  · rw [List.mem_singleton.mp hd]
    exact (gd_int c).mono (by decide) (by decide)
end
end Dw
end
section
/-! dict(a tuple of pairs), the tuple told with its own object -/
namespace Dw
open PySem PySem.Spec PyProof.Rows L2 Evl
section
variable {X : Cx}
/-- the pairs of tracked tuples: their values, and what they are as keys -/
theorem pairs_vals {pins : List (Addr × Obj)} {σ : L2.St} {H : Hp} {s : Shared} (I : Inv X pins σ H s) : ∀ {ps : List Addr} {kvs : List (Key × V)}, Paired (fun p kv => SqT X.K H p [kV kv.1, kv.2]) ps kvs →
    ∃ (kl : List (Value × Value)) (prs : List (Key × Value)), KV kvs prs ∧ kl.length = ps.length ∧ prs.length = ps.length ∧ ∀ (j : Nat) (b : Addr), ps[j]? = some b → ∃ k v key, kl[j]? = some (k, v) ∧ prs[j]? = some (key, v) ∧ s.heap.IsTuple b #[k, v] ∧ (mixKind X.prog X.w).is key k = true
  | [], [], .nil => ⟨[], [], .nil, rfl, rfl, fun j b e => by rw [List.getElem?_nil] at e; cases e⟩
  | p :: ps, kv :: kvs, .cons here rest => by
    obtain ⟨kl, prs, rel, l1, l2, each⟩ := pairs_vals I rest
    obtain ⟨cells, rc, tup, _⟩ := I.tuple here
    obtain ⟨u, y, isTwo, ru, ry⟩ := vals2 rc
    subst isTwo
    refine ⟨(u, y) :: kl, (kv.1, y) :: prs, .cons ⟨rfl, ry⟩ rel, by rw [List.length_cons, List.length_cons, l1], by rw [List.length_cons, List.length_cons, l2], fun j b e => ?_⟩
    match j, e with
    | 0, e =>
      cases Option.some.inj (show some p = some b from e)
      exact ⟨u, y, kv.1, rfl, rfl, tup, kV_is (P := X.prog) (w := X.w) ru⟩
    | j + 1, e => exact each j b e
def rDictT (K : PySem.W.Frag) : List V → Hp → VK → Prop := fun xs H Q => ∃ (a : Addr) (o : Obj) (ps : List Addr) (kvs : List (Key × V)), xs = [.ref a] ∧ H a = some (.frz o (.tup (ps.map V.ref))) ∧ o.dict = none ∧
  Paired (fun p kv => SqT K H p [kV kv.1, kv.2]) ps kvs ∧ ∀ p, H p = none → Q (.ref p) (upd H p (.dK (mergeK [] kvs)))
theorem call_dictT (calm : X.calm = true) : CallR X (.type "dict") (rDictT X.K) := by
  intro pins s σ H vs us Q I rel want
  obtain ⟨a, o, ps, kvs, one, ha, hd, pairs, q⟩ := want
  subst one
  obtain ⟨u, isU, ru⟩ := vals1 rel
  subst isU
  cases (show u = Value.ref a from ru)
  have held : ObjOk X.prog X.w H s.heap a (.frz o (.tup (ps.map V.ref))) := I.hok a _ ha
  obtain ⟨at_, small, its, relI, o2, at2, cls, cap, dat⟩ := held
  rw [at_] at at2
  cases at2
  have isRefs := refs_at relI
  subst isRefs
  rw [List.length_map] at small
  obtain ⟨kl, prs, kv, lenK, lenP, each⟩ := pairs_vals I pairs
  have calm' : X.A.in1.handled = none := I.ok.hd calm
  have items : PairItems s.heap (ps.map Value.ref).toArray (fun j => ps.getD j 0) kl := by
    refine ⟨by rw [List.size_toArray, List.length_map, lenK], fun j k v hj => ?_⟩
    have jl : j < ps.length := by rw [← lenK]; exact (List.getElem?_eq_some_iff.mp hj).1
    obtain ⟨k1, v1, key, e1, _, tup, _⟩ := each j _ (List.getElem?_eq_getElem jl)
    rw [hj] at e1
    cases Option.some.inj e1
    have eb : ps.getD j 0 = ps[j] := by rw [List.getD_eq_getElem?_getD, List.getElem?_eq_getElem jl]; rfl
    refine ⟨?_, ?_⟩
    · show (ps.map Value.ref).toArray[j]? = some (.ref (ps.getD j 0))
      rw [List.getElem?_toArray, List.getElem?_map, List.getElem?_eq_getElem jl, eb]
      rfl
    · show PairAt s.heap (ps.getD j 0) k v
      rw [eb]
      exact .inl tup
  have have_ : PairsHave (mixKind X.prog X.w) kl.length (PairRel kl) prs := by
    refine ⟨by rw [lenP, lenK], fun j k v hj => ?_⟩
    have jl : j < ps.length := by rw [← lenK]; exact (List.getElem?_eq_some_iff.mp hj).1
    obtain ⟨k1, v1, key, e1, e2, _, is⟩ := each j _ (List.getElem?_eq_getElem jl)
    have e1' : kl[j]? = some (k, v) := hj
    rw [e1'] at e1
    cases Option.some.inj e1
    exact ⟨key, e2, is⟩
  refine PySem.call_dict_pairs (knd := mixKind X.prog X.w) (kvs := prs) (PairArg.tuple a (ps.map Value.ref).toArray (fun j => ps.getD j 0) kl) calm' ⟨⟨_, cap, at_, cls, hd, dat⟩, items⟩ have_ (by rw [lenK]; exact small) fun h' tk isD same => ?_
  have far : (s.heap.objs.size == sysModules) = false := beq_eq_false_iff_ne.mpr (Nat.ne_of_gt I.big)
  have fits : (mergeK [] kvs).length ≤ sizeLine := by
    have l1 := length_mergeK kvs []
    have l2 := kv.length
    rw [List.length_nil] at l1
    omega
  have new : ObjOk X.prog X.w (upd H s.heap.objs.size (.dK (mergeK [] kvs))) h' s.heap.objs.size (.dK (mergeK [] kvs)) := ⟨fits, far, merged [] prs, KV.merge kv .nil, isD⟩
  exact ⟨.ref s.heap.objs.size, _, I.laid (t' := tk) (fun b ob e => same b ob (fun z => nomatch z) e) (Nat.le_refl s.heap.objs.size) new, rfl, q _ (I.hok.fresh (Nat.le_refl _))⟩
end
end Dw
end
section
/-! sets of texts, their table known well enough that they can be walked: add, set(a list), sorted -/
namespace Dw
open PySem PySem.Spec PyProof.Rows L2
/-- the text of an entry -/
def txtOf (e : Int × Value) : Str := match e.2 with | .str x _ => x | _ => Str.empty
def IsTxt (w : World) (e : Int × Value) : Prop := ∃ x tk, e.2 = Value.str x tk ∧ e.1 = hashStr w x
/-- a set at a whose members are the texts ks, each once, in the order in which they came -/
structure TxtSet (w : World) (h : Heap) (a : Addr) (ks : List Str) : Prop where
  ex : ∃ o es ep t, h.get? a = some o ∧ o.ExactSet ∧ o.data = .set es ep t ∧ (∀ e ∈ es.toList, IsTxt w e) ∧ (es.toList.map txtOf).Perm ks ∧ t.fits es.size = true ∧ Ris t.place.toList ∧ (w.params.followText "set-order" = true ∨ t.led = true)
  nd : ks.Nodup
  few : ks.length < scanBound
section
variable {P : Program} {w : World} {A : Around} {E : Value → Shared → Prop} {s : Shared} {a : Addr} {ks : List Str}
theorem TxtSet.at {h h' : Heap} (T : TxtSet w h a ks) (same : ∀ o, h.get? a = some o → h'.get? a = some o) : TxtSet w h' a ks := by
  obtain ⟨o, es, ep, t, at_, rest⟩ := T.ex
  exact ⟨⟨o, es, ep, t, same o at_, rest⟩, T.nd, T.few⟩
theorem elems_txt {l : List (Int × Value)} (g : ∀ e ∈ l, IsTxt w e) : ElemsOf (PySem.strKind P w) l := fun e he => by
  obtain ⟨x, tk, e1, e2⟩ := g e he
  exact ⟨⟨x, by rw [e1]; exact strKind_is P w x tk, e2⟩, by rw [e1]; rfl⟩
theorem is_txt {e : Int × Value} (g : IsTxt w e) (x : Str) : (PySem.strKind P w).is x e.2 = true ↔ txtOf e = x := by
  obtain ⟨y, tk, e1, _⟩ := g
  have t : txtOf e = y := by
    unfold txtOf
    rw [e1]
  rw [e1, t]
  constructor
  · intro z
    exact (PySem.strKind P w).inj _ _ _ (strKind_is P w y tk) z
  · intro z
    rw [z]
    exact strKind_is P w x tk
/-- what is stored behind a new entry, relaid where the table got too full -/
theorem txt_tail {ok : Bool → Sem Unit} (fine : ∀ (b : Bool) (s1 : Shared) (Q1 : Unit → Shared → Prop), Q1 () s1 → wpAny (model P w) A (ok b) Q1 E s1) {o : Obj} {es es1 : Array (Int × Value)} {ep : Nat} {t t1 : SetTable}
    (at_ : s.heap.get? a = some o) (exact_ : o.ExactSet) (dat : o.data = .set es ep t) (g : ∀ e ∈ es1.toList, IsTxt w e) (pm : (es1.toList.map txtOf).Perm ks) (nd : ks.Nodup) (few : ks.length < scanBound) (ft : t1.fits es1.size = true) (ri : Ris t1.place.toList)
    (ld : w.params.followText "set-order" = true ∨ t1.led = true) {dummy : Bool} {R : Option Bool → Shared → Prop} (next : ∀ h', Heap.SameBut a s.heap h' → TxtSet w h' a ks → R (some true) { s with heap := h' }) :
    wpAny (model P w) A (do
      storeSet a es1 t1
      if (!dummy && t1.tooFull) = true then do
        ok (relayAll t1 es1 (SetTable.grown es1.size)).2.2
        storeSet a (relayAll t1 es1 (SetTable.grown es1.size)).1 (relayAll t1 es1 (SetTable.grown es1.size)).2.1
        pure (some true)
      else pure (some true)) R E s := by
  have size1 : es1.size = ks.length := by
    have l := pm.length_eq
    rw [List.length_map, Array.length_toList] at l
    exact l
  refine wpAny_bind (wpAny_storeSet_of at_ dat ?_ (fits_of_scanBound (by rw [size1]; exact few)))
  have at1 := store_at (es' := es1) (t' := t1) at_ dat
  have but1 := Heap.SameBut.update s.heap a (Obj.putSet es1 t1)
  by_cases full : (!dummy && t1.tooFull) = true
  · rw [if_pos full]
    have perm2 := relayAll_perm t1 es1 (SetTable.grown es1.size)
    have fits2 := relayAll_fits t1 es1 (SetTable.grown es1.size)
    have ris2 := relayAll_ris t1 es1 (SetTable.grown es1.size)
    have led2 := relayAll_led t1 es1 (SetTable.grown es1.size)
    revert perm2 fits2 ris2 led2
    generalize relayAll t1 es1 (SetTable.grown es1.size) = re
    intro perm2 fits2 ris2 led2
    obtain ⟨es2, t2, gave⟩ := re
    have size2 : es2.size = ks.length := by
      have l := List.Perm.length_eq perm2
      rw [Array.length_toList, Array.length_toList] at l
      exact l.trans size1
    refine wpAny_bind (fine _ _ _ ?_)
    refine wpAny_bind (wpAny_storeSet_of at1 rfl ?_ (fits_of_scanBound (by rw [size2]; exact few)))
    have at2 := store_at (es' := es2) (t' := t2) at1 rfl
    refine wpAny_pure (next _ (but1.trans (Heap.SameBut.update _ a _)) ⟨⟨_, es2, _, t2, at2, exact_, rfl, fun e he => g e (List.Perm.mem_iff perm2 |>.mp he), (List.Perm.map txtOf perm2).trans pm, fits2, ris2, ?_⟩, nd, few⟩)
    have l2 : t2.led = t1.led := led2
    rw [l2]
    exact ld
  · rw [if_neg full]
    exact wpAny_pure (next _ but1 ⟨⟨_, es1, _, t1, at1, exact_, rfl, g, pm, ft, ri, ld⟩, nd, few⟩)
/-- a text put into it -/
theorem txt_add {x : Str} {tk : Tok} {Q : Bool → Shared → Prop} (T : TxtSet w s.heap a ks) (room : ks.length + 1 < scanBound)
    (next : ∀ h', Heap.SameBut a s.heap h' → TxtSet w h' a (if x ∈ ks then ks else ks ++ [x]) → Q (!decide (x ∈ ks)) { s with heap := h' }) :
    wpAny (model P w) A (setAddHashed a (.str x tk) ((PySem.strKind P w).hash x)) Q E s := by
  obtain ⟨o, es, ep, t, at_, exact_, dat, g, pm, ft, ri, ld⟩ := T.ex
  have size0 : es.size = ks.length := by
    have l := pm.length_eq
    rw [List.length_map, Array.length_toList] at l
    exact l
  have small : es.size < scanBound := by rw [size0]; exact T.few
  have elems : ElemsOf (PySem.strKind P w) es.toList := elems_txt g
  have scan : (Value.str x tk).scannable = true := rfl
  unfold setAddHashed setAddHashedIn
  refine wpAny_holding (wpAny_bind (wpAny_setState_of at_ dat ft ?_))
  dsimp only
  rw [byScan_of scan small elems]
  simp only [↓reduceIte]
  unfold setAddByScan
  refine wpAny_bind (wpAny_bind (wpAny_rule (wpAny_bind (wpAny_setScan_of (strKind_is P w x tk) at_ dat ft elems ?_))))
  cases found : List.findIdx? (fun e => (PySem.strKind P w).is x e.2) es.toList with
  | some j =>
    obtain ⟨jl, isx, _⟩ := List.findIdx?_eq_some_iff_getElem.mp found
    have mem : x ∈ ks := pm.mem_iff.mp (List.mem_map.mpr ⟨es.toList[j], List.getElem_mem jl, (is_txt (P := P) (g _ (List.getElem_mem jl)) x).mp isx⟩)
    have q := next s.heap (Heap.SameBut.refl a s.heap) (by rw [if_pos mem]; exact T)
    rw [decide_eq_true mem] at q
    dsimp only
    exact wpAny_pure (wpAny_pure q)
  | none =>
    have notMem : x ∉ ks := fun z => by
      obtain ⟨e, he, te⟩ := List.mem_map.mp (pm.mem_iff.mpr z)
      have no := List.findIdx?_eq_none_iff.mp found e he
      rw [(is_txt (P := P) (g e he) x).mpr te] at no
      cases no
    have fin : ∀ h', Heap.SameBut a s.heap h' → TxtSet w h' a (ks ++ [x]) → Q true { s with heap := h' } := fun h' but T' => by
      have q := next h' but (by rw [if_neg notMem]; exact T')
      rw [decide_eq_false notMem] at q
      exact q
    have nd1 : (ks ++ [x]).Nodup := (List.perm_append_singleton x ks).nodup_iff.mpr (List.nodup_cons.mpr ⟨notMem, T.nd⟩)
    have few1 : (ks ++ [x]).length < scanBound := by rw [List.length_append]; exact room
    have quiet : ∀ (b : Bool) (s1 : Shared) (Q1 : Unit → Shared → Prop), Q1 () s1 → wpAny (model P w) A (match b with | true => rule "set.scan.the-table-gave-way" | false => pure ()) Q1 E s1 := fun b s1 Q1 q => by
      cases b
      · exact wpAny_pure q
      · exact wpAny_rule q
    have perm1 := layNew_perm t es ((PySem.strKind P w).hash x) (.str x tk)
    have fits1 := layNew_fits t es ((PySem.strKind P w).hash x) (.str x tk)
    have ris1 := layNew_ris t es ((PySem.strKind P w).hash x) (.str x tk) ri
    have led1 := layNew_led t es ((PySem.strKind P w).hash x) (.str x tk)
    dsimp only
    generalize layNew t es ((PySem.strKind P w).hash x) (.str x tk) = new at perm1 fits1 ris1 led1 ⊢
    obtain ⟨es1, t1, dummy, gave⟩ := new
    dsimp only at perm1 fits1 ris1 led1 ⊢
    rw [Array.toList_push] at perm1
    have g1 : ∀ e ∈ es1.toList, IsTxt w e := fun e he => by
      rcases List.mem_append.mp (perm1.mem_iff.mp he) with old | one
      · exact g e old
      · rw [List.mem_singleton.mp one]
        exact ⟨x, tk, rfl, rfl⟩
    have pm1 : (es1.toList.map txtOf).Perm (ks ++ [x]) := by
      have q := perm1.map txtOf
      rw [List.map_append] at q
      exact q.trans (pm.append_right [x])
    have ld1 : w.params.followText "set-order" = true ∨ t1.led = true := by rw [led1]; exact ld
    refine wpAny_bind (quiet _ _ _ ?_)
    split
    · refine wpAny_bind ?_
      rw [hashByValue_scannable 8 scan]
      refine wpAny_pure ?_
      refine txt_tail quiet at_ exact_ dat g1 pm1 nd1 few1 ?_ ?_ ?_ fun h' but T' => ?_
      · first | (split <;> first | exact fits1 | exact SetTable.fits_plain_off fits1) | exact fits1
      · first | (split <;> exact ris1) | exact ris1
      · first | (split <;> exact ld1) | exact ld1
      · exact wpAny_pure (fin h' but T')
    · refine wpAny_bind (wpAny_pure ?_)
      simp only [↓reduceIte]
      exact txt_tail quiet at_ exact_ dat g1 pm1 nd1 few1 fits1 ris1 ld1 fun h' but T' => wpAny_pure (fin h' but T')
end
end Dw
end
section
namespace Dw
open PySem PySem.Spec PyProof.Rows L2
/-- x behind them, where it isn't among them -/
def addK (ks : List Str) (x : Str) : List Str := if x ∈ ks then ks else ks ++ [x]
/-- each once, as they first come -/
def firsts (xs : List Str) : List Str := xs.foldl addK []
theorem addK_len (ks : List Str) (x : Str) : (addK ks x).length ≤ ks.length + 1 := by
  unfold addK
  split
  · exact Nat.le_succ _
  · rw [List.length_append]
    exact Nat.le_refl _
theorem fold_len : ∀ (xs ks : List Str), (xs.foldl addK ks).length ≤ ks.length + xs.length
  | [], ks => Nat.le_refl _
  | x :: xs, ks => by
    have a := fold_len xs (addK ks x)
    have b := addK_len ks x
    rw [List.foldl_cons, List.length_cons]
    omega
theorem firsts_len (xs : List Str) : (firsts xs).length ≤ xs.length := by
  have a := fold_len xs []
  rw [List.length_nil, Nat.zero_add] at a
  exact a
theorem firsts_take {xs : List Str} {i : Nat} {x : Str} (h : xs[i]? = some x) : firsts (xs.take (i + 1)) = addK (firsts (xs.take i)) x := by
  unfold firsts
  rw [List.take_add_one, h, List.foldl_append]
  rfl
theorem mem_fold {y : Str} : ∀ (xs ks : List Str), y ∈ xs.foldl addK ks ↔ y ∈ ks ∨ y ∈ xs
  | [], ks => by simp
  | x :: xs, ks => by
    rw [List.foldl_cons, mem_fold xs, List.mem_cons]
    unfold addK
    split
    · rename_i h
      constructor
      · rintro (a | a)
        · exact .inl a
        · exact .inr (.inr a)
      · rintro (a | a | a)
        · exact .inl a
        · exact .inl (a ▸ h)
        · exact .inr a
    · rw [List.mem_append, List.mem_singleton]
      constructor
      · rintro ((a | a) | a)
        · exact .inl a
        · exact .inr (.inl a)
        · exact .inr (.inr a)
      · rintro (a | a | a)
        · exact .inl (.inl a)
        · exact .inl (.inr a)
        · exact .inr a
theorem mem_firsts {xs : List Str} {y : Str} : y ∈ firsts xs ↔ y ∈ xs := by
  unfold firsts
  rw [mem_fold]
  simp
section
variable {P : Program} {w : World} {A : Around} {E : Value → Shared → Prop} {s : Shared}
/-- set.update's loop over texts -/
theorem txt_loop {I S : Addr} {fp wr : List Addr} {G : Array GenState → Array GenState → Prop} {n : Nat} {Pv : Nat → Value → Prop} {St : Nat → Shared → Prop} {R : Result → Shared → Prop} (W : WalksS P w A.in1 I fp wr G n Pv St) (off : S ∉ fp) (xs : List Str) (len : n = xs.length)
    (few : xs.length < 1000) (vals : ∀ i v, Pv i v → ∃ x tk, xs[i]? = some x ∧ v = .str x tk) :
    ∀ (left i : Nat) (s : Shared), n - i = left → i ≤ n → St i s → TxtSet w s.heap S (firsts (xs.take i)) → (∀ s', Moved (S :: wr) G s s' → TxtSet w s'.heap S (firsts xs) → R (.ok (.ret .none)) s') →
      codeAny (model P w) A (.builtin "set.update.loop" ⟨[.ref S, .ref I], []⟩) R s := by
  have offW : S ∉ wr := fun z => off (W.sub _ z)
  intro left
  induction left with
  | zero =>
    intro i s e le st T end_
    have all : i = n := by omega
    subst all
    refine codeAny_builtin F.entry_set_update_loop ?_
    rw [Around.under_plainId F.plain_set_update_loop _]
    refine wpAny_bind (m := pyNext (.ref I)) (W.done s _ _ st fun s1 mv => ?_)
    refine wpAny_pure (end_ s1 (mv.mono fun b hb => List.mem_cons_of_mem _ hb) ?_)
    rw [len, List.take_length] at T
    exact T.at fun o q => mv.heap S o offW q
  | succ left ih =>
    intro i s e le st T end_
    have lt : i < n := by omega
    refine codeAny_builtin F.entry_set_update_loop ?_
    rw [Around.under_plainId F.plain_set_update_loop _]
    refine wpAny_bind (m := pyNext (.ref I)) (W.item i s _ _ lt st fun v s1 pv st1 mv => ?_)
    obtain ⟨x, tk, hx, isx⟩ := vals i v pv
    subst isx
    have T1 : TxtSet w s1.heap S (firsts (xs.take i)) := T.at fun o q => mv.heap S o offW q
    have l1 : (firsts (xs.take i)).length ≤ i := Nat.le_trans (firsts_len _) (List.length_take_le _ _)
    have room : (firsts (xs.take i)).length + 1 < scanBound := by
      show _ < 4096
      omega
    show wpAny _ A.in1 (holding [Value.str x tk] (setAdd S (.str x tk)) >>= _) _ _ s1
    refine wpAny_bind (wpAny_holding ?_)
    unfold setAdd
    refine wpAny_holding (wpAny_bind ((PySem.strKind P w).pyHash (strKind_is P w x tk) ?_))
    refine txt_add (s := { s1 with toks := s1.toks + 1 }) T1 room fun h' but T2 => ?_
    have T3 : TxtSet w h' S (firsts (xs.take (i + 1))) := by
      rw [firsts_take hx]
      exact T2
    refine wpAny_pure ⟨plainId_quiet F.plain_set_update_loop _, ih (i + 1) _ (by omega) lt (W.frame _ s1 _ _ st1 (Nat.le_add_right _ _) fun b hb o q => ?_) T3 fun s2 mv2 T4 => ?_⟩
    · rw [but.2 b (fun z : b = S => off (z ▸ hb))]
      exact q
    · refine end_ s2 (Moved.trans W.gtrans ((mv.mono fun b hb => List.mem_cons_of_mem _ hb).then_heap (Nat.le_add_right _ _) fun b o nb q => ?_) mv2) T4
      rw [but.2 b (fun z : b = S => nb (z ▸ List.mem_cons_self ..))]
      exact q
/-- the new set as set() lays it -/
abbrev newSet (w : World) : Obj := { cls := .type "set", dict := none, data := .set #[] 0 (.fresh 0 0 (!w.params.followText "set-order")) }
theorem txt_fresh {h : Heap} {a : Addr} (at_ : h.get? a = some (newSet w)) : TxtSet w h a [] := by
  refine ⟨⟨_, #[], 0, _, at_, ⟨rfl, rfl, rfl⟩, rfl, fun e he => by simp at he, .nil, rfl, List.Pairwise.nil, ?_⟩, List.nodup_nil, by decide⟩
  show _ ∨ (!w.params.followText "set-order") = true
  cases w.params.followText "set-order"
  · exact .inr rfl
  · exact .inl rfl
/-- set(a list of texts) -/
theorem call_setX {l : Addr} {cells : Array Value} {xs : List Str} {Q : Value → Shared → Prop} (calm : A.handled = none) (isL : s.heap.IsList l cells) (txts : StrsAre cells.toList xs) (few : xs.length < 1000)
    (next : ∀ (h' : Heap) (tk : Nat), TxtSet w h' s.heap.objs.size (firsts xs) → (∀ b o, s.heap.get? b = some o → h'.get? b = some o) → Q (.ref s.heap.objs.size) { s with heap := h', toks := tk }) :
    wpAny (model P w) A (call (.type "set") [.ref l]) Q E s := by
  have size : cells.size = xs.length := by
    have z := txts.length
    rw [Array.length_toList] at z
    exact z
  obtain ⟨c, tl, isMro⟩ := F.called_set.mro
  have made := F.called_set.made
  have under := F.called_set.sub
  refine wpAny_call (codeAny_of_tree ?_)
  show wpAny _ _ (callAny (.type "set") _) _ _ _
  refine wpAny_pure ⟨Code.quiet_builtin _ (by decide +kernel), codeAny_builtin F.entry_type_call ?_⟩
  rw [Around.under_plain (weight_type_call_type "set" [.ref l] []) rfl]
  have k1 := F.called_set.notType
  have k2 := F.called_set.canCreate
  have k3 := F.typeCall_set_1 (.ref l)
  repeat (any_goals (first | assumption | wp_step))
  refine codeAny_mono (code_set_led1 (.ref l) (E := E) (Q₁ := fun ob s1 => ob = .ref s.heap.objs.size ∧ s1 = { s with heap := s.heap.push (newSet w) }) ⟨rfl, rfl⟩) fun r s1 done => ?_
  match r, done with
  | .error _, bad => exact bad
  | .ok .next, bad => exact bad.elim
  | .ok .brk, bad => exact bad.elim
  | .ok .cont, bad => exact bad.elim
  | .ok (.ret ob), both =>
    obtain ⟨e1, e2⟩ := both
    subst e1
    subst e2
    have atS : (s.heap.push (newSet w)).get? s.heap.objs.size = some (newSet w) := Heap.get?_push_size _ rfl
    have isS : Shared.TypeIs { s with heap := s.heap.push (newSet w) } (.ref s.heap.objs.size) "set" := ⟨_, atS, rfl⟩
    have i1 := F.called_set.init.lookup
    have i2 := F.called_set.init.bind (.ref s.heap.objs.size)
    repeat (any_goals (first | assumption | wp_step))
    refine codeAny_mono (codeAny_call_builtin (R := wants (fun r s2 => r = .none ∧ ∃ h' tk, s2 = { s with heap := h', toks := tk } ∧ TxtSet w h' s.heap.objs.size (firsts xs) ∧ ∀ b o, s.heap.get? b = some o → h'.get? b = some o) E) F.called_set.init.plain F.entry_set_init (check_set_init_1 isS ?_)) fun r2 s2 done2 => ?_
    · obtain ⟨⟨cl, dc, dat, sl⟩, atL, isCls, cap, isSeq⟩ := isL
      have c1 : cl = .type "list" := isCls
      have c2 : dat = .seq cells cap := isSeq
      subst c1
      subst c2
      have atL1 : (s.heap.push (newSet w)).get? l = some { cls := .type "list", dict := dc, data := .seq cells cap, slots := sl } := Heap.get?_push_of_some _ atL
      have n1 := F.sub_list_set
      have n2 := F.sub_list_frozenset
      have n3 : (Value.type "list" == Value.type "dict") = false := by decide
      have isL1 : (s.heap.push (newSet w)).IsList l cells := ⟨_, atL1, rfl, cap, rfl⟩
      unfold Builtin.«set.__init__» noKeywords Builtin.Frozenset.updateFrom
      generalize isIter : pyIter = iter_
      wp_walk
      subst isIter
      refine wpAny_pyIter_list isL1 (wpAny_bind (wpAny_runValue ?_))
      have inL : l < s.heap.objs.size := Heap.lt_size atL
      have size1 : (s.heap.push (newSet w)).objs.size = s.heap.objs.size + 1 := Heap.size_push ..
      have far : l ≠ (s.heap.push (newSet w)).objs.size := by
        rw [size1]
        exact Nat.ne_of_lt (Nat.lt_succ_of_lt inL)
      have off : s.heap.objs.size ∉ [(s.heap.push (newSet w)).objs.size, l] := fun z => by
        rw [size1] at z
        rcases List.mem_cons.mp z with y | y
        · exact absurd y (Nat.ne_of_lt (Nat.lt_succ_self _))
        · exact absurd (List.mem_singleton.mp y) (Nat.ne_of_gt inL)
      have calm3 : A.in1.in1.in1.handled = none := calm
      have vals : ∀ (i : Nat) (v : Value), cells[i]? = some v → ∃ x tk, xs[i]? = some x ∧ v = .str x tk := fun i v hv => by
        have q : cells.toList[i]? = some v := by rw [Array.getElem?_toList]; exact hv
        have il : i < xs.length := by
          have z := (List.getElem?_eq_some_iff.mp q).1
          rw [Array.length_toList, size] at z
          exact z
        obtain ⟨tk, e⟩ := SS.strs_at txts i v q
        refine ⟨xs.getD i Str.empty, tk, ?_, e⟩
        rw [List.getD_eq_getElem?_getD, List.getElem?_eq_getElem il]
        rfl
      refine txt_loop ((Walks.list calm3 _ l far cells).toS) off xs size few vals (cells.size - 0) 0 _ (by omega) (Nat.zero_le _) ⟨⟨_, Heap.get?_push_size _ rfl, rfl, rfl⟩, isL1.push _⟩ (txt_fresh (Heap.get?_push_of_some _ atS)) fun s3 mv T => ?_
      obtain ⟨h3, g3, d3, tk3, os3⟩ := s3
      have q1 : g3 = s.gens := mv.gens
      have q2 : d3 = s.drawn := mv.drawn
      have q3 : os3 = s.os := mv.os
      subst q1
      subst q2
      subst q3
      refine wpAny_pure (wpAny_pure ⟨rfl, h3, tk3, rfl, T, fun b o e => ?_⟩)
      have lb := Heap.lt_size e
      refine mv.heap b o (fun z => ?_) (Heap.get?_push_of_some _ (Heap.get?_push_of_some _ e))
      rcases List.mem_cons.mp z with y | y
      · exact absurd y (Nat.ne_of_lt lb)
      · have y2 := List.mem_singleton.mp y
        rw [size1] at y2
        exact absurd y2 (Nat.ne_of_lt (Nat.lt_succ_of_lt lb))
    · match r2, done2 with
      | .error _, bad => exact bad
      | .ok .next, bad => exact bad.elim
      | .ok .brk, bad => exact bad.elim
      | .ok .cont, bad => exact bad.elim
      | .ok (.ret _), good =>
        obtain ⟨e1, h', tk, e2, T, kept⟩ := good
        subst e1
        subst e2
        repeat (any_goals (first | assumption | wp_step))
        exact next h' tk T kept
end
end Dw
end
section
/-! rules over sets of texts: set(a list), sorted(the set) -/
namespace Dw
open PySem PySem.Spec PyProof.Rows L2
section
variable {P : Program} {w : World} {A : Around} {E : Value → Shared → Prop} {s : Shared} {a : Addr} {ks : List Str}
theorem strs_txt : ∀ {l : List Value}, (∀ v ∈ l, ∃ x tk, v = Value.str x tk) → ∃ xs, StrsAre l xs
  | [], _ => ⟨[], .nil⟩
  | v :: l, h => by
    obtain ⟨xs, r⟩ := strs_txt (l := l) fun u hu => h u (List.mem_cons_of_mem _ hu)
    obtain ⟨x, tk, e⟩ := h v (List.mem_cons_self ..)
    subst e
    exact ⟨x :: xs, .cons x tk r⟩
theorem strs_map {l : List Value} {xs : List Str} (h : StrsAre l xs) : l.map (fun v => txtOf (0, v)) = xs := by
  induction h with
  | nil => rfl
  | cons x tk _ ih =>
    rw [List.map_cons, ih]
    rfl
theorem sorted_txts {Q : Value → Shared → Prop} (T : TxtSet w s.heap a ks) (calm : A.handled = none) (few : ks.length < 64)
    (next : ∀ (s' : Shared) (p : Addr) (out : Array Value) (cap : Nat) (ys : List Str), (∀ b o, s.heap.get? b = some o → s'.heap.get? b = some o) → s'.gens = s.gens → s'.os = s.os → s.heap.objs.size ≤ p → s'.heap.get? p = some (seqObj "list" out cap) → StrsAre out.toList ys → ys.Perm ks → sortedS ys = true → Q (.ref p) s') :
    wpAny (model P w) A (call (.builtin "sorted") [.ref a]) Q E s := by
  obtain ⟨o, es, ep, t, at_, exact_, dat, g, pm, ft, ri, ld⟩ := T.ex
  have size : es.size = ks.length := by
    have l := pm.length_eq
    rw [List.length_map, Array.length_toList] at l
    exact l
  refine Calls.call_function_entry kind_sorted plain_sorted entry_sorted (args_sorted1 _) ?_
  unfold Builtin.«sorted»
  refine wpAny_bind (m := checkCount "sorted" 1 1 _) (wpAny_pure ?_)
  refine wpAny_bind (collect_set (A := A.in1) calm ⟨o, at_, exact_.1, dat⟩ ft (by rw [size]; exact T.few) ri ld fun s1 vs kept more g1 o1 perm => ?_)
  have lenV : vs.length = ks.length := by
    rw [perm.length_eq, List.length_map, Array.length_toList]
    exact size
  obtain ⟨xs, isX⟩ := strs_txt (l := vs) fun v hv => by
    obtain ⟨e, he, q⟩ := List.mem_map.mp (perm.mem_iff.mp hv)
    obtain ⟨x, tk, e1, _⟩ := g e he
    exact ⟨x, tk, by rw [← q]; exact e1⟩
  have permX : xs.Perm ks := by
    have q := perm.map (fun v => txtOf (0, v))
    rw [strs_map isX, List.map_map] at q
    exact q.trans pm
  refine wpAny_bind (wpAny_newList ?_ (by rw [lenV, sizeLine_eq]; omega))
  have atL : (s1.heap.push (seqObj "list" vs.toArray 0)).get? s1.heap.objs.size = some (seqObj "list" vs.toArray 0) := Heap.get?_push_size _ rfl
  refine wpAny_bind (wpAny_holding (wpAny_call_entry slot_list_sort ⟨_, atL, rfl⟩ entry_list_sort (list_sort_treeK PyProof.Rows.strKind_oneLt atL isX.keysOf (fun v1 v2 rest e => keyKind_strs (by rw [← e]; exact isX)) (by rw [lenV]; exact few) fun st p1 p2 => ⟨_, rfl, ?_⟩) (args_list_sort _)))
  obtain ⟨ys, y1, y2, y3⟩ := sorted_out_str isX p1 p2
  obtain ⟨cap, atP⟩ := sortedHeap_at (vs := vs) (out := (arrOf st).map (·.2)) atL
  refine wpAny_pure ⟨_, rfl, next _ s1.heap.objs.size _ cap ys (fun b u e => ?_) g1 o1 more atP y1 (y2.trans permX) y3⟩
  have e1 := kept b u e
  have lt := Heap.lt_size e1
  show (sortedHeap (s1.heap.push (seqObj "list" vs.toArray 0)) s1.heap.objs.size vs _).get? b = some u
  rw [sortedHeap_old (Nat.ne_of_lt lt) (by rw [size_push']; exact Nat.lt_succ_of_lt lt)]
  exact Heap.get?_push_of_some _ e1
end
/-- the set of texts at a -/
def TxtO (w : World) (a : Addr) (ks : List Str) : HO := .ext fun h => TxtSet w h a ks
section
variable {X : Cx}
theorem txtO_new {w : World} {P : Program} {H : Hp} {h : Heap} {a : Addr} {ks : List Str} (T : TxtSet w h a ks) : ObjOk P w H h a (TxtO w a ks) := by
  obtain ⟨o, _, _, _, at_, _⟩ := T.ex
  exact ⟨T, ⟨o, at_⟩, fun _ _ p k => p.at k⟩
def rSetX (K : PySem.W.Frag) (w : World) : List V → Hp → VK → Prop := fun vs H Q => ∃ (l : Addr) (xs : List Str), vs = [.ref l] ∧ SqL K H l (xs.map V.str) ∧ xs.length < 1000 ∧ ∀ p, H p = none → Q (.ref p) (upd H p (TxtO w p (firsts xs)))
theorem cr_setX (calm : X.calm = true) : CallR X (.type "set") (rSetX X.K X.w) := by
  intro pins s σ H vs us Q I rel want
  obtain ⟨l, xs, one, isL, few, q⟩ := want
  subst one
  obtain ⟨u, isU, ru⟩ := vals1 rel
  subst isU
  cases (show u = Value.ref l from ru)
  obtain ⟨its, rv, at_, _⟩ := I.list isL
  have txts : StrsAre its.toArray.toList xs := rv.strs
  refine call_setX (I.ok.hd calm) at_.isList txts few fun h' tk T kept => ?_
  exact ⟨.ref s.heap.objs.size, _, I.laid (t' := tk) kept (Nat.le_refl s.heap.objs.size) (txtO_new T), rfl, q _ (I.hok.fresh (Nat.le_refl _))⟩
def rSortX (w : World) : List V → Hp → VK → Prop := fun vs H Q => ∃ (a : Addr) (ks : List Str), vs = [.ref a] ∧ H a = some (TxtO w a ks) ∧ ks.length < 64 ∧ ∀ (ys : List Str) (p : Addr), ys.Perm ks → sortedS ys = true → H p = none → Q (.ref p) (upd H p (.lst (ys.map V.str)))
theorem cr_sortX (calm : X.calm = true) : CallR X (.builtin "sorted") (rSortX X.w) := by
  intro pins s σ H vs us Q I rel want
  obtain ⟨a, ks, one, ha, few, q⟩ := want
  subst one
  have T : TxtSet X.w s.heap a ks := (I.hok a _ ha).1
  rw [Vals.ref1 rel]
  refine sorted_txts T (I.ok.hd calm) few fun s' p out cap ys kept g o more at_ txts perm sorted => ?_
  have small : (ys.map V.str).length ≤ sizeLine := by
    rw [List.length_map, perm.length_eq, sizeLine_eq]
    omega
  have new : H p = none := I.hok.fresh more
  obtain ⟨h2, g2, d2, tk2, os2⟩ := s'
  have eg : g2 = s.gens := g
  have eo : os2 = s.os := o
  subst eg
  subst eo
  have J : Inv X pins σ (upd H p (.lst (ys.map V.str))) { s with heap := h2, drawn := d2, toks := tk2 } :=
    I.call (ch := []) (Un.laid kept more new) (I.hok.laid kept more ⟨small, out.toList, cap, vals_of_strs txts, at_⟩) I.bare (fun _ z => nomatch z)
  exact ⟨.ref p, _, J, rfl, q ys p perm sorted new⟩
end
end Dw
end
section
/-! a tuple turned about, t[::-1]; a list made longer by a tuple -/
namespace Dw
open PySem PySem.Spec PyProof.Rows L2
theorem adj_rev (n : Nat) : Builtin.Slice.sliceAdjust none none (-1) (n : Int) = ((n : Int) - 1, -1) := by
  unfold Builtin.Slice.sliceAdjust
  simp
theorem plc_rev (n : Nat) : Builtin.Slice.slicePlaces ((n : Int) - 1) (-1) (-1) = n := by
  unfold Builtin.Slice.slicePlaces
  simp
  omega
theorem fm_map {α β : Type} {f : α → Option β} {g : α → β} : ∀ {l : List α}, (∀ m ∈ l, f m = some (g m)) → l.filterMap f = l.map g
  | [], _ => rfl
  | m :: l, h => by
    rw [List.filterMap_cons, h m (List.mem_cons_self ..), List.map_cons, fm_map fun x hx => h x (List.mem_cons_of_mem _ hx)]
theorem pick_rev (xs : List Value) : ((List.range xs.length).filterMap fun (m : Nat) => xs.toArray[(((xs.length : Int) - 1) + (m : Int) * (-1)).toNat]?) = xs.reverse := by
  have all : ∀ m ∈ List.range xs.length, xs.toArray[(((xs.length : Int) - 1) + (m : Int) * (-1)).toNat]? = some (xs.getD (xs.length - 1 - m) .none) := fun m hm => by
    have lt := List.mem_range.mp hm
    have e : (((xs.length : Int) - 1) + (m : Int) * (-1)).toNat = xs.length - 1 - m := by omega
    rw [e, List.getElem?_toArray, List.getD_eq_getElem?_getD, List.getElem?_eq_getElem (by omega)]
    rfl
  have eq : (List.range xs.length).filterMap (fun (m : Nat) => xs.toArray[(((xs.length : Int) - 1) + (m : Int) * (-1)).toNat]?) = (List.range xs.length).map fun m => xs.getD (xs.length - 1 - m) .none := by
    exact fm_map all
  rw [eq]
  apply List.ext_getElem?
  intro i
  by_cases hi : i < xs.length
  · rw [List.getElem?_map, List.getElem?_range hi, List.getElem?_reverse hi, List.getElem?_eq_getElem (by omega)]
    show some (xs.getD (xs.length - 1 - i) .none) = _
    rw [List.getD_eq_getElem?_getD, List.getElem?_eq_getElem (by omega)]
    rfl
  · rw [List.getElem?_eq_none_iff.mpr (by simp; omega), List.getElem?_eq_none_iff.mpr (by simp; omega)]
section
variable {P : Program} {w : World} {A : Around} {E : Value → Shared → Prop} {s : Shared}
theorem applied_rev {sl : Addr} {vl vu vs : Value} {n : Nat} {Q : Int × Int × Nat → Shared → Prop} (isS : s.heap.IsSliceOf sl vl vu vs) (pl : IsPart vl none) (pu : IsPart vu none) (ps : IsPart vs (some (-1))) (next : Q ((n : Int) - 1, -1, n) s) :
    wpAny (model P w) A (Builtin.Slice.sliceApplied (.ref sl) (pure (n : Int))) Q E s := by
  obtain ⟨ob, at_, _, dat⟩ := id isS
  unfold Builtin.Slice.sliceApplied Builtin.Slice.sliceFields
  refine wpAny_bind (wpAny_bind (wpAny_field at_ dat (x := vl) rfl (wpAny_bind (wpAny_field at_ dat (x := vu) rfl (wpAny_bind (wpAny_field at_ dat (x := vs) rfl (wpAny_pure ?_)))))))
  refine wpAny_bind (HT.slicePart_ ps ?_)
  show wpAny _ _ (if ((-1 : Int) == 0) = true then _ else _) _ _ s
  rw [if_neg (by decide)]
  refine wpAny_bind (HT.slicePart_ pl (wpAny_bind (HT.slicePart_ pu (wpAny_bind (wpAny_pure ?_)))))
  show wpAny _ _ (match Builtin.Slice.sliceAdjust none none (-1) (n : Int) with | (lo, hi) => pure (lo, (-1 : Int), Builtin.Slice.slicePlaces lo hi (-1))) _ _ s
  rw [adj_rev]
  show wpAny _ _ (pure ((n : Int) - 1, (-1 : Int), Builtin.Slice.slicePlaces ((n : Int) - 1) (-1) (-1))) _ _ s
  rw [plc_rev]
  exact wpAny_pure next
theorem getItem_rev {tp sl : Addr} {xs : List Value} {vl vu vs : Value} {Q : Value → Shared → Prop} (isT : IsTup s.heap tp xs.toArray) (isS : s.heap.IsSliceOf sl vl vu vs) (pl : IsPart vl none) (pu : IsPart vu none) (ps : IsPart vs (some (-1)))
    (next : Q (.ref s.heap.objs.size) { s with heap := s.heap.push { cls := .type "tuple", data := .seq xs.reverse.toArray } }) (small : xs.length ≤ sizeLine) : wpAny (model P w) A (getItem (.ref tp) (.ref sl)) Q E s := by
  have fits : sizeOk (.seq xs.reverse.toArray) := by
    show xs.reverse.toArray.size ≤ sizeLine
    rw [List.size_toArray, List.length_reverse]
    exact small
  obtain ⟨ob, at_, cls, _⟩ := id isS
  have ty : s.TypeIs (.ref sl) "slice" := ⟨ob, at_, cls⟩
  unfold getItem
  try with_reducible refine wpAny_holding ?_
  first | refine wpAny_bind (wpAny_pure ?_) | skip
  refine wpAny_bind (wpAny_sequenceKey isT.typeIs (by decide) ?_)
  refine wpAny_bind (wpAny_callSpecial?_slot (name := Str.ofString "__getitem__") isT.typeIs PyProof.Rows.slot_tuple_getitem (wpAny_call_entry PyProof.Rows.slot_tuple_getitem isT.typeIs entry_tuple_getitem ?_ (args_tuple_getitem _ _)))
  show wpAny _ _ (Builtin.Tuple.tupleItemsOf (.ref tp) >>= _) _ _ s
  refine wpAny_bind (tupleItemsOf_ isT (wpAny_bind (wpAny_typeOf ty ?_)))
  rw [if_pos (by decide)]
  have size : xs.toArray.size = xs.length := List.size_toArray
  rw [size]
  refine wpAny_bind (applied_rev isS pl pu ps ?_)
  have no : ¬ ((((xs.length : Int) - 1) == 0 && (-1 : Int) == 1 && xs.length == xs.length) = true) := by
    have z : ((-1 : Int) == 1) = false := by decide
    rw [z, Bool.and_false, Bool.false_and]
    exact Bool.false_ne_true
  show wpAny _ _ (if (((xs.length : Int) - 1) == 0 && (-1 : Int) == 1 && xs.length == xs.length) = true then _ else _) _ _ s
  rw [if_neg no, pick_rev]
  first
    | exact wpAny_bind (m := Builtin.Tuple.tupleExact _) (wpAny_newObj_type (wpAny_pure ⟨_, rfl, wpAny_pure next⟩) fits)
    | exact wpAny_bind (m := Builtin.Tuple.tupleExact _) (wpAny_newObj_type (wpAny_bind (wpAny_pure (wpAny_pure ⟨_, rfl, wpAny_pure next⟩))) fits)
    | exact wpAny_bind (wpAny_bind (m := Builtin.Tuple.tupleExact _) (wpAny_newObj_type (wpAny_pure (wpAny_pure ⟨_, rfl, wpAny_pure next⟩)) fits))
    | exact wpAny_bind (wpAny_bind (m := Builtin.Tuple.tupleExact _) (wpAny_newObj_type (wpAny_pure ⟨_, rfl, wpAny_pure next⟩) fits))
end
section
variable {X : Cx}
/-- t[::-1], the new tuple told with its own object -/
def tRevT (K : PySem.W.Frag) (te : TE) : TE := fun σ H Q => te σ H fun x H1 => ∃ a xs, x = .ref a ∧ SqT K H1 a xs ∧ ∀ p o, H1 p = none → o.dict = none → o.slots = #[] → Q (.ref p) (upd H1 p (.frz o (.tup xs.reverse)))
theorem pe_revT {e : Expr} {te : TE} {k : Nat} {p1 p2 p3 pos : Pos} (he : PE X e te) : PE X (.Subscript e (.Slice none none (some (.UnaryOp .USub (.Constant (.int 1) k p1) p2)) p3) pos) (tRevT X.K te) := by
  constructor
  intro pins s σ H Q I want
  refine Subscript_ (thn (he.run pins s σ H _ I want) fun v s1 got => ?_)
  obtain ⟨x, H1, I1, rel, a, xs, isR, isT, q⟩ := got
  subst isR
  cases (show v = Value.ref a from rel)
  have step : PO X (some (.UnaryOp .USub (.Constant (.int 1) k p1) p2)) (tPart (tUn (rU fun i => .int (-i)) (tC (.int 1)))) := po_some (pe_un un_neg pe_int)
  refine wpAny_Slice (thn (po_none.run pins s1 σ H1 (fun o H2 => o = none ∧ H2 = H1) I1 ⟨rfl, rfl⟩) fun vl s2 got2 => ?_)
  obtain ⟨lo, H2, I2, pl, el, eh2⟩ := got2
  subst el eh2
  refine thn (po_none.run pins s2 σ H2 (fun o H3 => o = none ∧ H3 = H2) I2 ⟨rfl, rfl⟩) fun vu s3 got3 => ?_
  obtain ⟨up, H3, I3, pu, eu, eh3⟩ := got3
  subst eu eh3
  refine thn (step.run pins s3 σ H3 (fun o H4 => o = some (-1) ∧ H4 = H3) I3 ⟨1, rfl, -1, rfl, rfl, rfl⟩) fun vs s4 got4 => ?_
  obtain ⟨st, H4, I4, ps, es, eh4⟩ := got4
  subst es eh4
  let cut : Obj := { cls := .type "slice", data := .fields #[vl, vu, vs] }
  have I5 : Inv X pins σ H4 { s4 with heap := s4.heap.push cut } := I4.kept (t' := s4.toks) fun b ob z => Heap.get?_push_of_some _ z
  obtain ⟨its, r, at_, small⟩ := I5.tuple isT
  have len := r.length
  show wpAny (model X.prog X.w) X.A (subscriptTail e (.Slice none none (some (.UnaryOp .USub (.Constant (.int 1) k p1) p2)) p3) (.ref a) (.ref s4.heap.objs.size)) (EP X pins σ Q) X.xe { s4 with heap := s4.heap.push cut }
  refine tail_any (ops := [.ref a, .ref s4.heap.objs.size]) at_.typeIs (PyProof.Rows.slot_tuple_getitem.lookup) ?_ (by with_unfolding_all rfl)
  let new : Obj := { cls := .type "tuple", data := .seq its.reverse.toArray }
  have got : ((s4.heap.push cut).push new).get? (s4.heap.push cut).objs.size = some new := Heap.get?_push_size _ rfl
  refine getItem_rev at_ (Heap.IsSliceOf.new _ vl vu vs) pl pu ps ?_ (by rw [← len]; exact small)
  have okN : ObjOk X.prog X.w (upd H4 (s4.heap.push cut).objs.size (.frz new (.tup xs.reverse))) ((s4.heap.push cut).push new) (s4.heap.push cut).objs.size (.frz new (.tup xs.reverse)) :=
    ⟨got, by rw [List.length_reverse]; exact small, its.reverse, r.reverse, new, got, rfl, _, rfl⟩
  exact ⟨.ref _, _, I5.laid (t' := s4.toks) (fun b ob z => Heap.get?_push_of_some _ z) (Nat.le_refl _) okN, rfl, q _ new (I5.hok.fresh (Nat.le_refl _)) rfl rfl⟩
/-- l.extend(t), the tuple told with its own object -/
def rExtT : V → List V → Hp → VK → Prop := fun x vs H Q => ∃ (l b : Addr) (o : Obj) (xs zs : List V), x = .ref l ∧ vs = [.ref b] ∧ H l = some (.lst xs) ∧ H b = some (.frz o (.tup zs)) ∧ o.dict = none ∧ o.slots = #[] ∧ xs.length + zs.length ≤ sizeLine ∧ Q .non (upd H l (.lst (xs ++ zs)))
theorem mt_extT : MtM X "list.extend" rExtT := by
  intro pins s σ H x vs v us Q I rx rv want
  obtain ⟨l, b, o, xs, zs, e1, e2, hl, hb, od, os, room, q⟩ := want
  subst e1 e2
  cases (show v = Value.ref l from rx)
  obtain ⟨u, eu, ru⟩ := rv.one
  subst eu
  cases (show u = Value.ref b from ru)
  obtain ⟨small, its, n, r, isL, at_⟩ := I.lstM hl
  have held : ObjOk X.prog X.w H s.heap b (.frz o (.tup zs)) := I.hok b _ hb
  obtain ⟨atB, small2, its2, r2, o2, at2, cls, n2, dat⟩ := held
  rw [atB] at at2
  cases at2
  have whole : o = { cls := .type "tuple", dict := none, data := .seq its2.toArray n2, slots := #[] } := by
    obtain ⟨c, d, t, sl⟩ := o
    have c1 : c = .type "tuple" := cls
    have c2 : t = .seq its2.toArray n2 := dat
    have c3 : d = none := od
    have c4 : sl = #[] := os
    subst c1 c2 c3 c4
    rfl
  rw [whole] at atB
  have l1 := r.length
  have l2 := r2.length
  have room2 : its.toArray.size + its2.toArray.size ≤ sizeLine := by
    rw [List.size_toArray, List.size_toArray]
    omega
  have notLong : ¬ (!its.toArray.isEmpty && Builtin.List.listTooLong (its.toArray.size + its2.toArray.size)) = true := by
    rw [notLongL room2, Bool.and_false]
    exact Bool.false_ne_true
  refine call_meets F.slot_list_extend ⟨_, at_, rfl⟩ F.entry_list_extend (F.args_list_extend_2 _ _) (AutoSeq1.list_extend_list_tuple_0 l its.toArray n b its2.toArray n2 notLong (by rw [List.size_toArray]; omega) (by omega)) ⟨at_, atB, ?_⟩
  exact ⟨.non, _, I.lset (its' := its ++ its2) hl at_ (by simp) (r.append r2) (by rw [List.length_append]; omega), rfl, q⟩
end
end Dw
end
section
/-! dict(zip(a, b)), a and b lists or tuples -/
namespace Dw
open PySem PySem.Spec PyProof.Rows L2 Evl
section
variable {prog : Program} {w : World} {A : Around} {E : Value → Shared → Prop} {s : Shared} {z TI TO T p q : Addr} {F G : List Addr} {n m i : Nat} {P R : Nat → Value → Prop} {U V : Nat → Heap → Prop} {f : Bool} {oT : Obj}
/-- a turn of a zip whose last pair is still there -/
theorem held_item {Q : Value → Shared → Prop} (S : ZipSep2 z TI TO p q F G) (D1 : Draws prog w A p F n P U) (D2 : Draws prog w A q G m R V) (isZ : IsZipHeld s.heap z TI TO T f) (atT : s.heap.get? T = some oT) (two_ : IsTupOf2 s.heap TI (.ref p) (.ref q))
    (u : U i s.heap) (v : V i s.heap) (ln : i < n) (lm : i < m)
    (next : ∀ x y new tk, P i x → R i y → IsZipHeld new z TI TO T true → U (i + 1) new → V (i + 1) new → IsTupOf2 new s.heap.objs.size x y → (∀ b o, b ≠ z → b ≠ p → b ≠ q → s.heap.get? b = some o → new.get? b = some o) → Q (.ref s.heap.objs.size) { s with heap := new, toks := tk }) :
    wpAny (model prog w) A (Builtin.«zip.__next__» ⟨[.ref z], []⟩) (fun r t => ∃ v, r = .done (.ret v) ∧ Q v t) E s := by
  obtain ⟨hp, gl, dp, tk0, os⟩ := s
  show wpAny _ _ (field (.ref z) 2 >>= _) _ _ ⟨hp, gl, dp, tk0, os⟩
  refine wpAny_bind (wpAny_field isZ rfl (x := .bool false) rfl ?_)
  show wpAny _ _ (field (.ref z) 3 >>= _) _ _ ⟨hp, gl, dp, tk0, os⟩
  refine wpAny_bind (wpAny_field isZ rfl (x := .ref TI) rfl (wpAny_bind (wpAny_seqItems two_ rfl ?_)))
  show wpAny _ _ (Builtin.SmallTypes.ownedTupleIsFree (.ref z) >>= _) _ _ ⟨hp, gl, dp, tk0, os⟩
  refine wpAny_bind (wpAny_tupleHeld_zip isZ atT fun k0 isZ0 same0 => ?_)
  replace same0 : Heap.SameBut z hp k0 := same0
  simp only [Bool.false_eq_true, if_false]
  refine wpAny_bind ?_
  rw [← Array.forIn_toList]
  simp only [List.forIn_cons, List.forIn_nil]
  refine wpAny_bind (wpAny_bind (wpAny_holding ?_))
  show wpAny _ _ (Builtin.SmallTypes.nextOf (.ref p) >>= _) _ _ ⟨k0, gl, dp, tk0, os⟩
  refine wpAny_bind (D1.item i _ _ _ ln (D1.over u same0 S.zf1) fun x k1 tk1 isX u1 same1 => wpAny_pure ?_)
  replace same1 : Heap.SameBut p k0 k1 := same1
  refine wpAny_pure (wpAny_bind (wpAny_bind (wpAny_holding ?_)))
  show wpAny _ _ (Builtin.SmallTypes.nextOf (.ref q) >>= _) _ _ ⟨k1, gl, dp, tk1, os⟩
  refine wpAny_bind (D2.item i _ _ _ lm (D2.over (D2.over v same0 S.zf2) same1 S.sep1_2) fun y k2 tk2 isY v2 same2 => wpAny_pure ?_)
  replace same2 : Heap.SameBut q k1 k2 := same2
  refine wpAny_pure (wpAny_pure ?_)
  show wpAny _ _ (newTuple [x, y] >>= _) _ _ ⟨k2, gl, dp, tk2, os⟩
  refine wpAny_bind (wpAny_newTuple (wpAny_pure ⟨_, rfl, ?_⟩))
  have size2 : k2.objs.size = hp.objs.size := by rw [same2.1, same1.1, same0.1]
  have isZ2 : IsZipHeld k2 z TI TO T true := same2.extBut _ _ S.zi2 (same1.extBut _ _ S.zi1 isZ0)
  have stay : ∀ b o, b ≠ z → b ≠ p → b ≠ q → hp.get? b = some o → k2.get? b = some o := fun b o n1 n2 n3 e => same2.extBut _ _ n3 (same1.extBut _ _ n2 (same0.extBut _ _ n1 e))
  have u2 : U (i + 1) k2 := D1.over u1 same2 S.sep2_1
  show Q (.ref k2.objs.size) ⟨k2.push { cls := .type "tuple", data := .seq #[x, y] }, gl, dp, tk2, os⟩
  have pr : IsTupOf2 (k2.push { cls := .type "tuple", data := .seq #[x, y] }) k2.objs.size x y := Heap.get?_push_size _ rfl
  rw [size2] at pr ⊢
  exact next x y _ tk2 isX isY (Heap.get?_push_of_some _ isZ2) (D1.frame _ _ _ u2 fun b _ o e => Heap.get?_push_of_some _ e) (D2.frame _ _ _ v2 fun b _ o e => Heap.get?_push_of_some _ e) pr fun b o n1 n2 n3 e => Heap.get?_push_of_some _ (stay b o n1 n2 n3 e)
theorem held_end {Q : Fin → Shared → Prop} (S : ZipSep2 z TI TO p q F G) (D1 : Draws prog w A p F n P U) (D2 : Draws prog w A q G m R V) (isZ : IsZipHeld s.heap z TI TO T f) (atT : s.heap.get? T = some oT) (two_ : IsTupOf2 s.heap TI (.ref p) (.ref q))
    (u : U i s.heap) (v : V i s.heap) (ln : i ≤ n) (lm : i ≤ m) (over : i = n ∨ i = m)
    (ends : ∀ new tk x, (∀ b o, b ≠ z → b ≠ p → b ≠ q → s.heap.get? b = some o → new.get? b = some o) → (∃ o, new.get? x = some o ∧ o.cls = .type "StopIteration") → E (.ref x) { s with heap := new, toks := tk }) :
    wpAny (model prog w) A (Builtin.«zip.__next__» ⟨[.ref z], []⟩) Q E s := by
  obtain ⟨hp, gl, dp, tk0, os⟩ := s
  show wpAny _ _ (field (.ref z) 2 >>= _) _ _ ⟨hp, gl, dp, tk0, os⟩
  refine wpAny_bind (wpAny_field isZ rfl (x := .bool false) rfl ?_)
  show wpAny _ _ (field (.ref z) 3 >>= _) _ _ ⟨hp, gl, dp, tk0, os⟩
  refine wpAny_bind (wpAny_field isZ rfl (x := .ref TI) rfl (wpAny_bind (wpAny_seqItems two_ rfl ?_)))
  show wpAny _ _ (Builtin.SmallTypes.ownedTupleIsFree (.ref z) >>= _) _ _ ⟨hp, gl, dp, tk0, os⟩
  refine wpAny_bind (wpAny_tupleHeld_zip isZ atT fun k0 isZ0 same0 => ?_)
  replace same0 : Heap.SameBut z hp k0 := same0
  simp only [Bool.false_eq_true, if_false]
  refine wpAny_bind ?_
  rw [← Array.forIn_toList]
  simp only [List.forIn_cons, List.forIn_nil]
  refine wpAny_bind (wpAny_bind (wpAny_holding ?_))
  show wpAny _ _ (Builtin.SmallTypes.nextOf (.ref p) >>= _) _ _ ⟨k0, gl, dp, tk0, os⟩
  by_cases lt : i < n
  · refine wpAny_bind (D1.item i _ _ _ lt (D1.over u same0 S.zf1) fun x k1 tk1 isX u1 same1 => wpAny_pure ?_)
    replace same1 : Heap.SameBut p k0 k1 := same1
    have em : i = m := by omega
    refine wpAny_pure (wpAny_bind (wpAny_bind (wpAny_holding ?_)))
    show wpAny _ _ (Builtin.SmallTypes.nextOf (.ref q) >>= _) _ _ ⟨k1, gl, dp, tk1, os⟩
    refine wpAny_bind (D2.done ⟨k1, gl, dp, tk1, os⟩ _ _ (by rw [← em]; exact D2.over (D2.over v same0 S.zf2) same1 S.sep1_2) fun new x ext isX => ?_)
    exact ends new tk1 x (fun b o n1 n2 n3 e => ext _ _ n3 (same1.extBut _ _ n2 (same0.extBut _ _ n1 e))) isX
  · have en : i = n := by omega
    refine wpAny_bind (D1.done ⟨k0, gl, dp, tk0, os⟩ _ _ (by rw [← en]; exact D1.over u same0 S.zf1) fun new x ext isX => ?_)
    exact ends new tk0 x (fun b o n1 n2 n3 e => ext _ _ n2 (same0.extBut _ _ n1 e)) isX
theorem nx_held {Q : Option Value → Shared → Prop} (S : ZipSep2 z TI TO p q F G) (D1 : Draws prog w A.in1 p F n P U) (D2 : Draws prog w A.in1 q G m R V) (isZ : IsZipHeld s.heap z TI TO T f) (atT : s.heap.get? T = some oT) (two_ : IsTupOf2 s.heap TI (.ref p) (.ref q))
    (u : U i s.heap) (v : V i s.heap) (ln : i < n) (lm : i < m)
    (next : ∀ x y new tk, P i x → R i y → IsZipHeld new z TI TO T true → U (i + 1) new → V (i + 1) new → IsTupOf2 new s.heap.objs.size x y → (∀ b o, b ≠ z → b ≠ p → b ≠ q → s.heap.get? b = some o → new.get? b = some o) → Q (some (.ref s.heap.objs.size)) { s with heap := new, toks := tk }) :
    wpAny (model prog w) A (pyNext (.ref z)) Q E s := by
  have ty : s.TypeIs (.ref z) "zip" := ⟨_, isZ, rfl⟩
  unfold pyNext
  refine wpAny_bind (wpAny_attempt (wpAny_callSpecial?_slot (name := Str.ofString "__next__") ty PySem.F.slot_zip_next (wpAny_call_entry PySem.F.slot_zip_next ty PySem.F.entry_zip_next ?_ (PySem.F.args_zip_next_1 _))))
  exact held_item S D1 D2 isZ atT two_ u v ln lm fun x y new tk a b c d e g h => wpAny_pure (next x y new tk a b c d e g h)
theorem nx_end {Q : Option Value → Shared → Prop} (S : ZipSep2 z TI TO p q F G) (D1 : Draws prog w A.in1 p F n P U) (D2 : Draws prog w A.in1 q G m R V) (isZ : IsZipHeld s.heap z TI TO T f) (atT : s.heap.get? T = some oT) (two_ : IsTupOf2 s.heap TI (.ref p) (.ref q))
    (u : U i s.heap) (v : V i s.heap) (ln : i ≤ n) (lm : i ≤ m) (over : i = n ∨ i = m)
    (ends : ∀ new tk, (∀ b o, b ≠ z → b ≠ p → b ≠ q → s.heap.get? b = some o → new.get? b = some o) → Q none { s with heap := new, toks := tk }) : wpAny (model prog w) A (pyNext (.ref z)) Q E s := by
  have ty : s.TypeIs (.ref z) "zip" := ⟨_, isZ, rfl⟩
  unfold pyNext
  refine wpAny_bind (wpAny_attempt (wpAny_callSpecial?_slot (name := Str.ofString "__next__") ty PySem.F.slot_zip_next (wpAny_call_entry PySem.F.slot_zip_next ty PySem.F.entry_zip_next ?_ (PySem.F.args_zip_next_1 _))))
  refine held_end S D1 D2 isZ atT two_ u v ln lm over fun new tk x stay isX => ?_
  obtain ⟨o, ho, hc⟩ := isX
  exact wpAny_bind (wpAny_isInstance (T := "StopIteration") (b := true) ⟨o, ho, hc⟩ isSubtype_stop (wpAny_pure (ends _ _ stay)))
end
/-- a list or a tuple, and its walker -/
def SqO (t : Bool) (h : Heap) (l : Addr) (xs : Array Value) : Prop := if t = true then h.IsTuple l xs else h.IsList l xs
def SqI (t : Bool) (it l : Addr) (xs : Array Value) (i : Nat) (h : Heap) : Prop := if t = true then h.IsTupleIter it l i ∧ h.IsTuple l xs else h.IsListIter it l i ∧ h.IsList l xs
theorem SqI.draws {prog : Program} {w : World} {A : Around} (t : Bool) (quiet : A.handled = none) {it l : Addr} (ne : l ≠ it) (xs : Array Value) : Draws prog w A it [it, l] xs.size (fun i v => xs[i]? = some v) (SqI t it l xs) := by
  cases t
  · exact Draws.list quiet it l ne xs
  · exact Draws.tuple quiet it l ne xs
theorem SqI.keep {t : Bool} {it l : Addr} {xs : Array Value} {i : Nat} {h h' : Heap} (x : SqI t it l xs i h) (k : ∀ b, b = it ∨ b = l → ∀ o, h.get? b = some o → h'.get? b = some o) : SqI t it l xs i h' := by
  cases t
  · exact And.intro (x.1.at fun o e => k it (.inl rfl) o e) (x.2.at fun o e => k l (.inr rfl) o e)
  · exact And.intro (x.1.at fun o e => k it (.inl rfl) o e) (x.2.at fun o e => k l (.inr rfl) o e)
theorem SqI.there {t : Bool} {it l : Addr} {xs : Array Value} {i : Nat} {h : Heap} (x : SqI t it l xs i h) : (∃ o, h.get? it = some o) ∧ ∃ o, h.get? l = some o := by
  cases t
  · obtain ⟨⟨o, a, _⟩, ⟨o2, b, _⟩⟩ := x
    exact ⟨⟨o, a⟩, ⟨o2, b⟩⟩
  · obtain ⟨⟨o, a, _⟩, ⟨o2, b, _⟩⟩ := x
    exact ⟨⟨o, a⟩, ⟨o2, b⟩⟩
/-! the expression -/
theorem sqO_of {X : Cx} {pins : List (Addr × Obj)} {σ : L2.St} {H : Hp} {s : Shared} {a : Addr} {xs : List V} (I : Inv X pins σ H s) (h : SqL X.K H a xs ∨ SqT X.K H a xs) : ∃ (t : Bool) (us : List Value), Vals xs us ∧ SqO t s.heap a us.toArray ∧ us.length ≤ sizeLine := by
  rcases h with h | h
  · obtain ⟨us, r, at_, z⟩ := I.list h
    exact ⟨false, us, r, at_.isList, by rw [← r.length]; exact z⟩
  · obtain ⟨us, r, at_, z⟩ := I.tuple h
    exact ⟨true, us, r, at_, by rw [← r.length]; exact z⟩
theorem SqO.lt {t : Bool} {h : Heap} {l : Addr} {xs : Array Value} (x : SqO t h l xs) : l < h.objs.size := by
  cases t
  · obtain ⟨o, e, _⟩ := (show h.IsList l xs from x)
    exact Heap.lt_size e
  · obtain ⟨o, e, _⟩ := (show h.IsTuple l xs from x)
    exact Heap.lt_size e
abbrev itOf (t : Bool) (l : Addr) : Obj := { cls := .type (if t = true then "tuple_iterator" else "list_iterator"), data := .fields #[.ref l, .int 0 0] }
theorem SqO.begins (t : Bool) (l : Addr) (xs : Array Value) : Begins (.ref l) (itOf t l) (fun h => SqO t h l xs) := by
  cases t
  · exact begins_list l xs
  · exact begins_tuple l xs
theorem SqI.start {t : Bool} {h h' : Heap} {it l : Addr} {xs : Array Value} (x : SqO t h l xs) (k : ∀ b o, h.get? b = some o → h'.get? b = some o) (e : h'.get? it = some (itOf t l)) : SqI t it l xs 0 h' := by
  cases t
  · exact And.intro ⟨_, e, rfl, rfl⟩ (Heap.IsList.at (show h.IsList l xs from x) fun o q => k l o q)
  · exact And.intro ⟨_, e, rfl, rfl⟩ (Heap.IsTuple.at (show h.IsTuple l xs from x) fun o q => k l o q)
end Dw
end
section
/-! promises of new lists; comprehensions over a zip; tuple.index of texts; wider sums -/
namespace Dw
open PySem PySem.Spec PyProof.Rows L2 Evl RZ
/-- a promise of a new list -/
def spL {α : Type} (pre : α → List V → Hp → Prop) (xs : α → List V) : Sp := fun vs H Q _ => ∃ a, pre a vs H ∧ ∀ p H', H p = none → Ex H H' → H' p = some (.lst (xs a)) → Q (.ref p) H'
section
variable {K : PySem.W.Frag} {σ : L2.St} {H H' : Hp} {ta tb te : TE} {t : TT} {x y z v : V} {D : Ends} {tu tz : TS} {g : TG}
theorem el_call {α : Type} {pre : α → List V → Hp → Prop} {xs : α → List V} (a : α) {vs : List V} {E : XK} {ta : TA} (h : EvA ta σ H vs) (hp : ∀ H1, Ex H H1 → pre a vs H1) : EvL (tCall (spL pre xs) [] E ta) σ H (xs a) := fun H1 e Q q =>
  h H1 e _ fun H2 e2 => by
    rw [List.append_nil]
    exact ⟨a, hp H2 (e.trans e2), fun p H3 np e3 at_ => q p H3 (fresh_back e2 np) (e2.trans e3) at_⟩
/-- .. for a, b in zip(two lists) -/
theorem el_lcZ {a b : Addr} {xs ys : List V} {ta : TA} {j1 j2 : Nat} {vs : List Nat} (h : EvA ta σ H [.ref a, .ref b]) (hx : SqL K H a xs) (hy : SqL K H b ys) (hl : xs.length = ys.length) (u : Nat → V) (hn : xs.length ≤ 40000)
    (hw : ∀ x y, wipe (((wipe σ vs).set j1 (some x)).set j2 (some y)) vs = wipe σ vs) (he : ∀ i x y H1, Ex H H1 → xs[i]? = some x → ys[i]? = some y → Ev te (((wipe σ vs).set j1 (some x)).set j2 (some y)) H1 (u i)) :
    EvL (tLc (iZipA K ta) (gTup K 2 (gCons (gName j1) (gCons (gName j2) gNil))) tYes te vs) σ H ((List.range xs.length).map u) := fun H0 e Q q => h H0 e _ fun H1 e1 =>
  ⟨a, b, xs, ys, rfl, .inl ⟨ex_l (e.trans e1) hx, ex_l (e.trans e1) hy, fun Dl nD => lc_it (walk_zip (n := xs.length) (by rw [hl, Nat.min_self])) (fun i H2 => Ex H1 H2 ∧ H2 Dl = some (.lst ((List.range i).map u))) ⟨Ex.new nD, upd_same⟩
    (fun i H2 _ p => ⟨ex_l ((e.trans e1).trans p.1) hx, ex_l ((e.trans e1).trans p.1) hy⟩) (fun i v H2 H3 hi p y => by
      obtain ⟨T, x1, x2, rfl, nT, rfl, f1, f2⟩ := y
      have e3 : Ex H1 (upd H2 T (.tup [x1, x2])) := p.1.trans (Ex.new nT)
      refine ⟨T, _, rfl, st_of upd_same, rfl, _, _, rfl, _, _, rfl, rfl, hw x1 x2, et_yes _ (Ex.refl _) _ fun H5 e5 => ?_⟩
      refine iteT ?_
      refine he i x1 x2 H5 (((e.trans e1).trans e3).trans e5) f1 f2 _ (Ex.refl _) _ fun H4 e4 => ⟨_, e4 _ _ (e5 _ _ (Ex.new nT _ _ p.2)), sz_lt (by rw [List.length_map, List.length_range]; omega), ((e3.trans e5).trans e4).mut nD, ?_⟩
      rw [upd_same, List.range_succ, List.map_append]
      rfl) (fun H2 p => q Dl H2 (fresh_back e1 nD) (e1.trans p.1) p.2)⟩⟩
theorem ev_divM {a b : Nat} (ha : Ev ta σ H (vi a)) (hb : Ev tb σ H (vi b)) (b0 : 0 < b) (lb : b ≤ 100000) : Ev (tOp (rI CDiv fun i j => .int (i / j)) ta tb) σ H (vi (a / b)) := ev_is (ev_op ha hb (rv_I ⟨by omega, by omega⟩)) (by show V.int ((a : Int) / (b : Int)) = V.int ((a / b : Nat) : Int); rw [Int.natCast_ediv])
theorem ev_modM {a b : Nat} (ha : Ev ta σ H (vi a)) (hb : Ev tb σ H (vi b)) (b0 : 0 < b) : Ev (tOp (rI (fun _ j => 0 < j) fun i j => .int (i % j)) ta tb) σ H (vi (a % b)) := ev_is (ev_op ha hb (rv_I (by show (0 : Int) < (b : Int); omega))) (by show V.int ((a : Int) % (b : Int)) = V.int ((a % b : Nat) : Int); rw [Int.natCast_emod])
theorem ev_subM {a b : Nat} (ha : Ev ta σ H (vi a)) (hb : Ev tb σ H (vi b)) (l : b ≤ a) : Ev (tOp (rI0 fun i j => .int (i - j)) ta tb) σ H (vi (a - b)) := ev_is (ev_op ha hb rv_I0) (by show V.int ((a : Int) - (b : Int)) = V.int ((a - b : Nat) : Int); congr 1; omega)
theorem ev_mulM {a b : Nat} (ha : Ev ta σ H (vi a)) (hb : Ev tb σ H (vi b)) (la : a ≤ 100000) : Ev (tOp (rI CMul fun i j => .int (i * j)) ta tb) σ H (vi (a * b)) := ev_is (ev_op ha hb (rv_I (.inl ⟨by omega, by omega⟩))) (by show V.int ((a : Int) * (b : Int)) = V.int ((a * b : Nat) : Int); rw [Int.natCast_mul])
theorem ev_addM {a b : Nat} (ha : Ev ta σ H (vi a)) (hb : Ev tb σ H (vi b)) : Ev (tOp (rI0 fun i j => .int (i + j)) ta tb) σ H (vi (a + b)) := ev_is (ev_op ha hb rv_I0) (by show V.int ((a : Int) + (b : Int)) = V.int ((a + b : Nat) : Int); rw [Int.natCast_add])
end
section
variable {X : Cx}
def rTIndexS (K : PySem.W.Frag) : V → List V → Hp → VK → Prop := fun x xs H Q => ∃ (p : Addr) (ys : List Str) (k : Str), x = .ref p ∧ xs = [.str k] ∧ SqT K H p (ys.map V.str) ∧ k ∈ ys ∧ Q (vi (ys.idxOf k)) H
theorem strs_of : ∀ {ys : List Str} {us : List Value}, Vals (ys.map V.str) us → StrsAre us ys
  | [], _, .nil => .nil
  | y :: ys, _, .cons (b := u) r t => by
    obtain ⟨tk, e⟩ := (show ∃ t, u = Value.str y t from r)
    subst e
    exact .cons y tk (strs_of t)
theorem mt_tindexS (K : PySem.W.Frag) (hK : X.K = K := by rfl) : MtR X "tuple.index" (rTIndexS K) := by
  subst hK
  intro pins s σ H x xs v us Q I rx rs h
  obtain ⟨p, ys, k, e1, e2, isT, mem, q⟩ := h
  subst e1 e2
  cases (show v = Value.ref p from rx)
  obtain ⟨u, hu, tk, ht⟩ := vals1 rs
  subst hu ht
  obtain ⟨its, rel, at_, _⟩ := I.tuple isT
  exact PySem.SeqAt.tuple_index_strs at_ (strs_of rel) mem ⟨vi (ys.idxOf k), H, I.tok _, ⟨_, rfl⟩, q⟩
theorem op_in_seqK (K : PySem.W.Frag) (h : X.K = K := by rfl) : OpR X (compareOp .In) (rIn K false) := by
  subst h
  exact op_in_seq
theorem op_notIn_seqK (K : PySem.W.Frag) (h : X.K = K := by rfl) : OpR X (compareOp .NotIn) (rIn K true) := by
  subst h
  exact op_notIn_seq
end
end Dw
end
section
/-! for k, (a, b) in enumerate(zip(two lists)) -/
namespace Dw
open PySem PySem.Spec PyProof.Rows L2 Evl RZ
section
variable {prog : Program} {w : World} {A : Around} {E : Value → Shared → Prop} {s : Shared}
end
/-! a turn of a zip that may use its own tuple again -/
abbrev ZipF (h : Heap) (z TI TO : Addr) (f0 f1 : Value) : Prop := h.get? z = some { cls := .type "zip", dict := none, data := .fields #[f0, f1, .bool false, .ref TI, .ref TO], slots := #[] }
section
variable {prog : Program} {w : World} {A : Around} {E : Value → Shared → Prop} {s : Shared} {z TI TO T p q : Addr} {F G : List Addr} {n m i : Nat} {P R : Nat → Value → Prop} {U V : Nat → Heap → Prop} {f0 f1 a1 a2 : Value}
/-! next of a zip, whatever its own tuple is -/
/-- what stands of a zip between two turns -/
def ZTn (z TI TO p q a b : Addr) (i : Nat) (h : Heap) : Prop := IsTupOf2 h TI (.ref p) (.ref q) ∧ (∃ x y, IsTupOf2 h TO x y) ∧ (ZipF h z TI TO .none (.bool false) ∨ ∃ T f, IsZipHeld h z TI TO T f) ∧ h.IsListIter p a i ∧ h.IsListIter q b i
end
end Dw
end
section
/-! for k, (a, b) in enumerate(zip(two lists)): the walker -/
namespace Dw
open PySem PySem.Spec PyProof.Rows L2 Evl RZ
theorem ZTn.keep {z TI TO p q a b : Addr} {i : Nat} {h h' : Heap} (st : ZTn z TI TO p q a b i h) (k : ∀ c ∈ [z, TI, TO, p, q], ∀ o, h.get? c = some o → h'.get? c = some o) : ZTn z TI TO p q a b i h' := by
  obtain ⟨c1, ⟨x, y, c2⟩, c3, c4, c5⟩ := st
  refine ⟨k _ (by simp) _ c1, ⟨x, y, k _ (by simp) _ c2⟩, ?_, c4.at fun o e => k p (by simp) o e, c5.at fun o e => k q (by simp) o e⟩
  rcases c3 with c3 | ⟨T, f, c3⟩
  · exact .inl (k _ (by simp) _ c3)
  · exact .inr ⟨T, f, k _ (by simp) _ c3⟩
theorem FpOk.new {X : Cx} {pins : List (Addr × Obj)} {H : Hp} {b T : Addr} {o : HO} (h : FpOk X pins H b) (ne : b ≠ T) : FpOk X pins (upd H T o) b := ⟨by rw [upd_ne ne]; exact h.1, h.2⟩
end Dw
end
section
/-! enumerate(zip(two lists)): the expression -/
namespace Dw
open PySem PySem.Spec PyProof.Rows L2 Evl RZ
end Dw
end
section
/-! l.extend(any tuple that is read) -/
namespace Dw
open PySem PySem.Spec PyProof.Rows L2 Evl RZ
theorem ext_any (l : Addr) (cells : Array Value) (cap : Nat) (tp : Addr) (more : Array Value) (cap2 : Nat) (dc : Option Addr) (osl : Array (Option Value))
    (short : ¬(!cells.isEmpty && Builtin.List.listTooLong (cells.size + more.size)) = true) (fit1 : cells.size ≤ sizeLine) (fit2 : (cells ++ more).size ≤ sizeLine + 1) :
    Meets (Builtin.«list.extend» ⟨[.ref l, .ref tp], []⟩) (fun _ R s => s.heap.get? l = some { cls := .type "list", dict := none, data := .seq cells cap, slots := #[] } ∧
      s.heap.get? tp = some { cls := .type "tuple", dict := dc, data := .seq more cap2, slots := osl } ∧ R (.ok (.ret .none)) { s with heap := s.heap.update l (Obj.mapSeq fun old => old ++ more), toks := s.toks }) := by
  refine .of_wp fun prog w A R s pre => ?_
  obtain ⟨heap, glo, dep, tok, out⟩ := s
  obtain ⟨atL, atT, goal⟩ := pre
  have k1 := AutoSeq1.idx_int
  have k2 := AutoSeq1.sub_tuple_tuple
  have k3 := AutoSeq1.sub_list_list
  have k4 := AutoSeq1.sub_tuple_list
  have k5 := AutoSeq1.sub_list_tuple
  wp_walk using (wpAny_updateSeq atL rfl (hz := fit1) (_hz' := fit2)), AutoSeq1.wpAny_loadPart' atL, AutoSeq1.wpAny_loadPart' atT
  exact ⟨_, rfl, goal⟩
section
variable {X : Cx}
def rExtS (K : PySem.W.Frag) : V → List V → Hp → VK → Prop := fun x vs H Q => ∃ (l b : Addr) (xs zs : List V), x = .ref l ∧ vs = [.ref b] ∧ H l = some (.lst xs) ∧ SqT K H b zs ∧ xs.length + zs.length ≤ sizeLine ∧ Q .non (upd H l (.lst (xs ++ zs)))
theorem mt_extS : MtM X "list.extend" (rExtS X.K) := by
  intro pins s σ H x vs v us Q I rx rv want
  obtain ⟨l, b, xs, zs, e1, e2, hl, hb, room, q⟩ := want
  subst e1 e2
  cases (show v = Value.ref l from rx)
  obtain ⟨u, eu, ru⟩ := rv.one
  subst eu
  cases (show u = Value.ref b from ru)
  obtain ⟨small, its, n, r, isL, at_⟩ := I.lstM hl
  obtain ⟨its2, r2, ⟨⟨cl, dc, dat, osl⟩, atB, isT, cap2, isSeq⟩, _⟩ := I.tuple hb
  have c1 : cl = .type "tuple" := isT
  have c2 : dat = .seq its2.toArray cap2 := isSeq
  subst c1 c2
  have l1 := r.length
  have l2 := r2.length
  have room2 : its.toArray.size + its2.toArray.size ≤ sizeLine := by
    rw [List.size_toArray, List.size_toArray]
    omega
  have notLong : ¬ (!its.toArray.isEmpty && Builtin.List.listTooLong (its.toArray.size + its2.toArray.size)) = true := by
    rw [notLongL room2, Bool.and_false]
    exact Bool.false_ne_true
  refine call_meets F.slot_list_extend ⟨_, at_, rfl⟩ F.entry_list_extend (F.args_list_extend_2 _ _) (ext_any l its.toArray n b its2.toArray cap2 dc osl notLong (by rw [List.size_toArray]; omega) (by rw [Array.size_append]; omega)) ⟨at_, atB, ?_⟩
  exact ⟨.non, _, I.lset (its' := its ++ its2) hl at_ (by simp) (r.append r2) (by rw [List.length_append]; omega), rfl, q⟩
end
end Dw
end
section
/-! [.. for k, (a, b) in enumerate(zip(two lists)) if ..] -/
namespace Dw
open PySem PySem.Spec PyProof.Rows L2 Evl RZ
section
variable {K : PySem.W.Frag} {σ : L2.St} {H H' : Hp} {te : TE} {tt : TT}
end
end Dw
end
section
/-! t.index(x), x any small data -/
namespace Dw
open PySem PySem.Spec PyProof.Rows L2 Evl RZ
end Dw
end
section
namespace Dw
open PySem PySem.Spec PyProof.Rows L2
/-! list(a text): its signs -/
end Dw
end
section
/-! zip(a list, a tuple): as many pairs as the shorter has -/
namespace Dw
open PySem PySem.Spec PyProof.Rows L2 Evl RZ
def StandsM (z TI TO i1 i2 a b : Addr) (i : Nat) (hp : Heap) : Prop := IsZip hp z TI TO .none ∧ IsTupOf2 hp TI (.ref i1) (.ref i2) ∧ (∃ x y, IsTupOf2 hp TO x y) ∧ hp.IsListIter i1 a i ∧ hp.IsTupleIter i2 b i
theorem five {c z TI TO i1 i2 : Addr} {P : Addr → Prop} (h : c ∈ [z, TI, TO, i1, i2]) (p1 : P z) (p2 : P TI) (p3 : P TO) (p4 : P i1) (p5 : P i2) : P c := by
  simp only [List.mem_cons, List.not_mem_nil, or_false] at h
  rcases h with e | e | e | e | e <;> (rw [e]; assumption)
theorem StandsM.low {z TI TO i1 i2 a b : Addr} {i : Nat} {hp : Heap} (st : StandsM z TI TO i1 i2 a b i hp) {c : Addr} (h : c ∈ [z, TI, TO, i1, i2]) : c < hp.objs.size := by
  obtain ⟨hz, hI, ⟨x, y, hO⟩, ⟨o1, e1, _⟩, ⟨o2, e2, _⟩⟩ := st
  exact five (P := fun c => c < hp.objs.size) h (Heap.lt_size hz) (Heap.lt_size hI) (Heap.lt_size hO) (Heap.lt_size e1) (Heap.lt_size e2)
theorem nq {x y : Nat} (h : x ≠ y) : ¬ @Eq Addr x y := h
end Dw
end
section
/-! dicts told with the same keys and the same data -/
namespace Dw
open PySem PySem.Spec PyProof.Rows L2 Evl RZ
section
variable {X : Cx}
end
end Dw
end
section
/-! zip(a tuple, a list): as many pairs as the shorter has -/
namespace Dw
open PySem PySem.Spec PyProof.Rows L2 Evl RZ
def StandsN (z TI TO i1 i2 a b : Addr) (i : Nat) (hp : Heap) : Prop := IsZip hp z TI TO .none ∧ IsTupOf2 hp TI (.ref i1) (.ref i2) ∧ (∃ x y, IsTupOf2 hp TO x y) ∧ hp.IsTupleIter i1 a i ∧ hp.IsListIter i2 b i
theorem StandsN.low {z TI TO i1 i2 a b : Addr} {i : Nat} {hp : Heap} (st : StandsN z TI TO i1 i2 a b i hp) {c : Addr} (h : c ∈ [z, TI, TO, i1, i2]) : c < hp.objs.size := by
  obtain ⟨hz, hI, ⟨x, y, hO⟩, ⟨o1, e1, _⟩, ⟨o2, e2, _⟩⟩ := st
  exact five (P := fun c => c < hp.objs.size) h (Heap.lt_size hz) (Heap.lt_size hI) (Heap.lt_size hO) (Heap.lt_size e1) (Heap.lt_size e2)
end Dw
end
section
/-! list(zip(a, b)) -/
namespace Dw
open PySem PySem.Spec PyProof.Rows L2 Evl
/-- what a zip under way is, with S apart -/
structure ZG (z TI TO p q a b S : Addr) (t1 t2 : Bool) (xs ys : Array Value) (i : Nat) (h : Heap) : Prop where
  ti : IsTupOf2 h TI (.ref p) (.ref q)
  s1 : SqI t1 p a xs i h
  s2 : SqI t2 q b ys i h
  st : (IsZip h z TI TO .none ∧ ∃ x y, IsTupOf2 h TO x y) ∨ ∃ T f oT, IsZipHeld h z TI TO T f ∧ h.get? T = some oT ∧ T ≠ z ∧ T ≠ p ∧ T ≠ q ∧ T ≠ S
theorem ZG.keep {z TI TO p q a b S : Addr} {t1 t2 : Bool} {xs ys : Array Value} {i : Nat} {h h' : Heap} (g : ZG z TI TO p q a b S t1 t2 xs ys i h) (far : ∀ c ∈ [z, TI, TO, p, q, a, b], c < S) (k : ∀ c o, c ≠ S → h.get? c = some o → h'.get? c = some o) : ZG z TI TO p q a b S t1 t2 xs ys i h' := by
  have nz : ∀ c ∈ [z, TI, TO, p, q, a, b], c ≠ S := fun c hc => Nat.ne_of_lt (far c hc)
  obtain ⟨e1, e2, e3, e4⟩ := g
  refine ⟨k _ _ (nz TI (by simp)) e1, e2.keep fun c hc o e => ?_, e3.keep fun c hc o e => ?_, ?_⟩
  · rcases hc with x | x <;> subst x <;> exact k _ o (nz _ (by simp)) e
  · rcases hc with x | x <;> subst x <;> exact k _ o (nz _ (by simp)) e
  · rcases e4 with ⟨isZ, x, y, isO⟩ | ⟨T, f, oT, isZ, atT, r1, r2, r3, r4⟩
    · exact .inl ⟨k _ _ (nz z (by simp)) isZ, x, y, k _ _ (nz TO (by simp)) isO⟩
    · exact .inr ⟨T, f, oT, k _ _ (nz z (by simp)) isZ, k _ _ r4 atT, r1, r2, r3, r4⟩
section
variable {prog : Program} {w : World} {A : Around} {E : Value → Shared → Prop} {s : Shared} {z TI TO p q a b S : Addr} {t1 t2 : Bool} {xs ys : Array Value} {i : Nat}
end
/-- the pairs at their addresses -/
structure ZPr (xs ys : Array Value) (lo : Addr) (h : Heap) (as : List Addr) : Prop where
  rise : as.Pairwise (· < ·)
  above : ∀ a ∈ as, lo < a
  pairs : ∀ (j : Nat) (a : Addr), as[j]? = some a → ∃ x y, xs[j]? = some x ∧ ys[j]? = some y ∧ IsTupOf2 h a x y
theorem ZPr.there {xs ys : Array Value} {lo : Addr} {h : Heap} {as : List Addr} (g : ZPr xs ys lo h as) {a : Addr} (ha : a ∈ as) : a < h.objs.size := by
  obtain ⟨j, hj⟩ := List.mem_iff_getElem?.mp ha
  obtain ⟨_, _, _, _, e⟩ := g.pairs j a hj
  exact Heap.lt_size e
section
variable {prog : Program} {w : World} {A : Around} {s : Shared} {R : Result → Shared → Prop} {z TI TO p q a b S : Addr} {t1 t2 : Bool} {xs ys : Array Value}
end
section
variable {prog : Program} {w : World} {A : Around} {E : Value → Shared → Prop} {s : Shared} {z TI TO p q a b : Addr} {t1 t2 : Bool} {xs ys : Array Value}
end
/-! laid down -/
end Dw
end
section
/-! a tuple times 0 or 1 -/
namespace Dw
open PySem PySem.Spec PyProof.Rows L2
/-- a written tuple, told with its own object -/
def tTupF (t : TA) : TE := fun σ H Q => t σ H fun xs H1 => xs.length ≤ sizeLine ∧ ∀ p o, H1 p = none → o.dict = none → Q (.ref p) (upd H1 p (.frz o (.tup xs)))
theorem pe_tupF {X : Cx} {es : List Expr} {t : TA} {x1 : Nat} {pos : Pos} (h : PA X es t) : PE X (.Tuple es x1 pos) (tTupF t) := by
  refine ⟨fun pins s σ H Q I hq => ?_⟩
  refine wpAny_Tuple_spliced (thn (h.run pos pins s σ H _ I hq) fun us s1 ⟨xs, H1, I1, r, z, q⟩ => ⟨by rw [← r.length]; exact z, ?_⟩)
  have hf : H1 s1.heap.objs.size = none := I1.hok.fresh (Nat.le_refl _)
  let ob : Obj := { cls := .type "tuple", data := .seq us.toArray }
  have got : (s1.heap.push ob).get? s1.heap.objs.size = some ob := Heap.get?_push_size _ rfl
  have okN : ObjOk X.prog X.w (upd H1 s1.heap.objs.size (.frz ob (.tup xs))) (s1.heap.push ob) s1.heap.objs.size (.frz ob (.tup xs)) := ⟨got, z, us, r, ob, got, rfl, _, rfl⟩
  exact ⟨.ref s1.heap.objs.size, _, I1.laid (t' := s1.toks) (h' := s1.heap.push ob) (fun b u e => Heap.get?_push_of_some _ e) (Nat.le_refl _) okN, rfl, q _ ob hf rfl⟩
theorem do_tupF {σ : L2.St} {H : Hp} {t : TA} {Q : VK} (h : t σ H fun xs H1 => xs.length ≤ sizeLine ∧ ∀ p o, H1 p = none → o.dict = none → Q (.ref p) (upd H1 p (.frz o (.tup xs)))) : tTupF t σ H Q := h
end Dw
end
section
/-! a caught exception that is kept: it is told from the catch on, so that isinstance can be asked of it behind the try -/
namespace Dw
open PySem PySem.Spec PyProof.Rows L2
/-- an exception of the class cls, that is no longer in the air -/
def ExcAt (a : Addr) (cls : Value) (d : Option Addr) : HO := .ext fun h => ∃ ob fv, h.get? a = some ob ∧ Zc cls d ob ∧ ob.data = .fields fv
section
variable {X : Cx} {pins : List (Addr × Obj)} {σ : L2.St} {H : Hp} {s : Shared}
theorem excAt_ok {P : Program} {w : World} {h : Heap} {a : Addr} {ob : Obj} {fv : Array Value} {cls : Value} {d : Option Addr} (e : h.get? a = some ob) (z : Zc cls d ob) (f : ob.data = .fields fv) : ObjOk P w H h a (ExcAt a cls d) :=
  ⟨⟨ob, fv, e, z, f⟩, ⟨ob, e⟩, fun _ _ ⟨o, v, e1, z1, f1⟩ k => ⟨o, v, k o e1, z1, f1⟩⟩
/-- an object that stands, is new since the def began and was not told, is told from now on -/
theorem track {a : Addr} {ob : Obj} {fv : Array Value} {cls : Value} {d : Option Addr} (I : Inv X pins σ H s) (e : s.heap.get? a = some ob) (z : Zc cls d ob) (f : ob.data = .fields fv) (na : H a = none) (new : X.s_0.heap.get? a = none) (nL : a ≠ X.env.locals) (nP : ∀ p ∈ X.pn ++ pins, p.1 ≠ a) :
    Inv X pins σ (upd H a (ExcAt a cls d)) s := by
  have other : ∀ {b : Addr} {u : HO}, H b = some u → upd H a (ExcAt a cls d) b = some u := fun {b u} q => by
    rw [upd_ne (fun y => by rw [y, na] at q; cases q)]
    exact q
  refine ⟨I.ok, I.os, I.bare, ⟨I.base.keep, I.base.slot, fun b o q n x => ?_, I.base.there, fun b xs q => other (I.base.tups b xs q), fun b o u q => other (I.base.frzs b o u q), fun b ps q => ?_⟩, I.loc, I.cell, ?_, fun y cc q => ?_, fun p hp => ?_, fun b o q => ?_, I.len⟩
  · rw [upd_ne (fun y => by rw [y, new] at q; cases q)]
    exact I.base.free b o q n x
  · obtain ⟨more, q2⟩ := I.base.tbls b ps q
    exact ⟨more, other q2⟩
  · rw [upd_ne (Ne.symm nL)]
    exact I.free
  · rw [upd_ne (fun y2 => ?_)]
    · exact I.freeC y cc q
    · obtain ⟨v, o, e2, d2⟩ := I.cell y cc q
      rw [y2, e] at e2
      cases e2
      rw [f] at d2
      cases d2
  · obtain ⟨p1, p2, p3⟩ := I.pin p hp
    exact ⟨p1, by rw [upd_ne (nP p hp)]; exact p2, p3⟩
  · by_cases ba : b = a
    · subst ba
      rw [upd_same] at q
      cases q
      exact excAt_ok e z f
    · rw [upd_ne ba] at q
      exact (I.hok b o q).stay (fun _ _ _ g => g) (fun _ g => other g) fun _ _ g => other g
/-- what the clause wishes: the class is one that it catches, and its suite goes on with the exception told -/
def wTrk (K : PySem.W.Frag) (c : Value) (i : Nat) (ts : TS) (D : Ends) : WX := fun cls d σ H =>
  PySem.W.exmOne K cls c = some true ∧ ∀ a, H a = none → ts ⟨fun σ' H' => D.nx (σ'.set i none) H', fun _ _ => False, fun _ _ => False, fun _ _ => False⟩ (σ.set i (some (.ref a))) (upd H a (ExcAt a cls d))
theorem in_suite (I : Inv X pins σ H s) (a : Addr) : Inv (X.suite a (X.pn ++ pins)) [] σ H s := ⟨I.ok.suite _ _, I.os, I.bare, I.base, I.loc, I.cell, I.free, I.freeC, fun p hp => I.pin p ((List.append_nil (X.pn ++ pins)) ▸ hp), I.hok, I.len⟩
theorem out_suite {a : Addr} (I : Inv (X.suite a (X.pn ++ pins)) [] σ H s) (ok : X.Ok) : Inv X pins σ H s := ⟨ok, I.os, I.bare, I.base, I.loc, I.cell, I.free, I.freeC, fun p hp => I.pin p (List.mem_append_left _ hp), I.hok, I.len⟩
end
section
variable {X : Cx} {x n : Str} {c : Value} {i : Nat} {body suite : List Stmt} {b0 : Stmt} {np p1 p2 : Pos} {tb : WX → TS} {ts : TS}
theorem ps_try_trk (st : X.stack = X.env :: X.outer) (fr : X.env.frame = some X.env.locals) (hex : X.ex = []) (nd : X.N.Nodup) (at_ : X.N[i]? = some n) (kd : X.env.kindOf n = some .local) (nm : Names X x c)
    (hb : ∀ (W : WX) (pn : List (Addr × Obj)) (xe : Value → Shared → Prop), Takes (X.tr pn xe) W → PassesOwn (model X.prog X.w) X.A X.env xe → PSs (X.tr pn xe) body (tb W)) (hsu : ∀ a pn, PSs (X.suite a pn) (b0 :: suite) ts) :
    PS X (.Try body [.ExceptHandler (some (.Name x np)) (some n) (b0 :: suite) p2] [] [] p1) (fun D σ H => tb (wTrk X.K c i ts D) D σ H) := by
  refine ⟨fun pins s σ H D I rd => wpAny_Try_except ?_⟩
  have around : X.A.frames = some (X.env :: X.outer) := I.ok.frames.trans (congrArg some st)
  refine wpAny_mono ((hb (wTrk X.K c i ts D) (X.pn ++ pins) _ (fun u s1 air => ?_) PassesOwn.looking).run [] s σ H D (I.toTry _) rd) (fun fl s1 fin => ?_) (fun _ _ q => q)
  · obtain ⟨a, B, sI, pins1, σ1, H1, cls, d, rfl, J1, ground, slots, sky, na, os, gens, hit, wish⟩ := air
    have J : Inv X pins σ1 H1 sI := J1.ofTry I.ok
    refine Sky.land Zc.steady around fr (show Sky B (X.env :: X.outer) a (Zc cls d) X.env.locals s1.heap from st ▸ sky) fun h2 fly2 slots2 => ?_
    have J2 : Inv X pins σ1 H1 { s1 with heap := h2 } := J.landed ground fly2.1 (slots.trans slots2) os gens
    obtain ⟨ob2, fv2, got2, z2, f2⟩ := fly2.there
    have noFrame : a ∉ frs X.stack := fun m => by
      rw [st] at m
      obtain ⟨_, o', g', no⟩ := fly2.2.2.1.mem m
      rw [got2] at g'
      cases g'
      exact no _ f2
    have newI : sI.heap.get? a = none := by
      cases g : sI.heap.get? a with
      | none => rfl
      | some o =>
        have q := ground a o g noFrame
        rw [fly2.2.1] at q
        cases q
    have new0 : X.s_0.heap.get? a = none := by
      cases g : X.s_0.heap.get? a with
      | none => rfl
      | some o =>
        by_cases ex : a ∈ X.ex
        · rw [hex] at ex
          cases ex
        · obtain ⟨o', q⟩ := J.base.there a o g ex
          rw [newI] at q
          cases q
    have notL : a ≠ X.env.locals := fun q => noFrame (by
      rw [st]
      exact List.mem_filterMap.mpr ⟨X.env, List.mem_cons_self .., by rw [fr, q]⟩)
    have notP : ∀ p ∈ X.pn ++ pins, p.1 ≠ a := fun p hp q => by
      have g := (J.pin p hp).1
      rw [q, newI] at g
      cases g
    refine wpAny_handleBy_cons (codeAny_handlers_test ?_) (fun q => nomatch q)
    have typ : PySem.W.Looks (model X.prog X.w) h2 (typeOf (.ref a)) cls := fun A Q E s' k q => wpAny_typeOf_ref (k _ _ got2) (by rw [z2.1]; exact q)
    have yes := PySem.W.exm_one (M := model X.prog X.w) J2.kIn typ hit
    have named : ∀ {Q : Value → Shared → Prop} {E : Value → Shared → Prop}, Q c { s1 with heap := h2 } → wpAny (model X.prog X.w) (X.A.mark (some (.ref a))) (eval (.Name x np) X.env) Q E { s1 with heap := h2 } := fun {Q E} q => by
      obtain ⟨g, nodbg, m | ⟨m, bt, nn⟩⟩ := nm
      · exact ld_glob (in_suite J2 a) g m q nodbg
      · exact ld_blt (in_suite J2 a) g m bt q nn nodbg
    refine named (yes.here (codeAny_handlers_suite_as (HandSPX.lands_againZ fly2 fun h3 fly3 slots3 => ?_)))
    have J3 : Inv X pins σ1 H1 { s1 with heap := h3 } := J.landed ground fly3.1 ((slots.trans slots2).trans slots3) os gens
    obtain ⟨ob3, fv3, got3, z3, f3⟩ := fly3.there
    have T3 := in_suite (track J3 got3 z3 f3 na new0 notL notP) a
    refine store_ok (X := X.suite a (X.pn ++ pins)) (v := .ref a) T3 nd at_ (.inl kd) rfl (fun s4 T4 => ?_) (.inr kd)
    refine wpAny_mono ((hsu a (X.pn ++ pins)).run [] s4 _ _ _ T4 (wish a na)) (fun fl s5 fin => ?_) (fun _ _ q => q.elim)
    cases fl with
    | next =>
      obtain ⟨σ5, H5, T5, q5⟩ := fin
      exact gone_ok (out_suite T5 I.ok) nd at_ kd fun s6 J6 => ⟨_, _, J6, q5⟩
    | brk => exact fin.elim fun _ ⟨_, _, q⟩ => q.elim
    | cont => exact fin.elim fun _ ⟨_, _, q⟩ => q.elim
    | ret u => exact fin.elim fun _ ⟨_, _, _, _, q⟩ => q.elim
  · cases fl with
    | next =>
      obtain ⟨σ2, H2, J2, q⟩ := fin
      exact wpAny_execs_nil ⟨σ2, H2, J2.ofTry I.ok, q⟩
    | brk =>
      obtain ⟨σ2, H2, J2, q⟩ := fin
      exact ⟨σ2, H2, J2.ofTry I.ok, q⟩
    | cont =>
      obtain ⟨σ2, H2, J2, q⟩ := fin
      exact ⟨σ2, H2, J2.ofTry I.ok, q⟩
    | ret u =>
      obtain ⟨v, σ2, H2, J2, r, q⟩ := fin
      exact ⟨v, σ2, H2, J2.ofTry I.ok, r, q⟩
end
end Dw
end
section
/-! isinstance of a kept exception; defs that raise, called in a try -/
namespace Dw
open PySem PySem.Spec PyProof.Rows L2 Evl
/-- a def that keeps a promise and may raise -/
structure ClX (P : Program) (w : World) (K : PySem.W.Frag) (mg : Str → Option Value) (base : Heap) (k : Nat) (x : Str) (sp : Sp) : Prop where
  ex : ∃ (f : Addr) (fd : FuncData) (ps : List Str), FnOk P w K mg base (L2.CX P w) k f fd ps sp ∧ mg x = some (.ref f) ∧ PySem.W.keepIn K (.ref f) = true ∧ Binds K fd ps []
theorem clx_of {P : Program} {w : World} {K : PySem.W.Frag} {mg : Str → Option Value} {base : Heap} {x : Str} {st : Stmt} {N ps : List Str} {k : Nat} {sp : Sp} (D : Df K mg x st ps) (S : FnScope N ps (defScope st)) (len : ∀ vs H Q E, sp vs H Q E → vs.length = ps.length)
    (body : ∀ (f : Addr) (cdv : Value) (A : Around) (outer : List Env) (s : Shared) (H : Hp) (vs : List V) (Q : VK) (E : XK), Room k (A.deeper (envOfC x (defScope st) s.heap.objs.size f cdv)) → sp vs H Q E →
      ∃ t, PSs (cxOf (L2.CX P w) P w K mg base N x (defScope st) f cdv A outer s H E) (defBody st) t ∧ t { nx := fun _ H' => Q .non H', rt := Q } (start N vs) H) : ClX P w K mg base (k + 1) x sp := by
  obtain ⟨f, fd, F, m, b⟩ := D.ex
  exact ⟨f, fd, ps, F.okX S len (fun cdv A outer s H vs Q E hr h => body f cdv A outer s H vs Q E hr h), m, F.kp, b⟩
/-- its call where the wish of what is raised is W -/
theorem pe_clX {X : Cx} {k j : Nat} {x : Str} {sp : Sp} {p pos : Pos} {e : Expr} {es : List Expr} {t : TA} {W : WX} (c : ClX X.prog X.w X.K X.mg X.base k x sp) (tk : Takes X W) (hr : Room j X.A) (hk : k ≤ j) (hg : Gl X x) (ha : PA X (e :: es) t)
    (dbg : (x == ("__debug__" : Str)) = false := by decide) (str : starEach (e :: es) X.env = (false, eval e X.env) :: starEach es X.env := by rfl) (bck : (backTo pos (starEach es X.env)).any (·.1) = false := by rfl) :
    PE X (.Call (.Name x p) (e :: es) [] pos) (tCallS sp (fun σ => WE W σ) t) := by
  obtain ⟨f, fd, ps, F, m, kp, b⟩ := c.ex
  exact pe_callS F (hr.mono hk) hg m kp b (fun σ => passAt tk σ) ha dbg str bck
/-- a promise to raise an error of the class C, all that stood left as it was -/
def spE {α : Type} (C : Addr) (pre : α → List V → Hp → Prop) : Sp := fun vs H _ E => ∃ a, pre a vs H ∧ ∀ H', Ex H H' → E (.ref C) none H'
/-- what the top says of an error's class -/
structure ExcT (K : PySem.W.Frag) (mg : Str → Option Value) (x : Str) (C : Addr) : Prop where
  g : mg x = some (.ref C)
  k : PySem.W.keepIn K (.ref C) = true
  q : PySem.W.excIn K C [.type "ValueError", .type "Exception", .type "BaseException", .type "object"] "ValueError.__new__" = true
  t : PySem.W.typeIn K (.ref C) = some (.type "type")
  c : ExcC K C
end Dw
end
section
/-! repr of a written list with dicts of data among its items -/
namespace Dw
open PySem PySem.Spec PyProof.Rows L2 Evl
/-! data of texts, numbers and tuples alone: no place is told of it -/
mutual
def noL : PyData → Bool
  | .none | .bool _ | .int _ | .str _ => true
  | .tuple xs => noLs xs
  | .list _ | .dict _ => false
def noLs : List PyData → Bool
  | [] => true
  | x :: xs => noL x && noLs xs
end
section
variable {X : Cx} {pins : List (Addr × Obj)} {σ : L2.St} {H : Hp} {s : Shared}
end
/-! sizes -/
structure Gs (k W : Nat) (d : PyData) : Prop where
  dep : d.depth ≤ k
  wgt : d.weight ≤ W
  its : d.leavesShort 13 = true
  sho : d.showable = true
theorem Gs.mono {k W k' W' : Nat} {d : PyData} (h : Gs k W d) (a : k ≤ k') (b : W ≤ W') : Gs k' W' d := ⟨Nat.le_trans h.dep a, Nat.le_trans h.wgt b, h.its, h.sho⟩
theorem Gs.len {k W : Nat} {d : PyData} (h : Gs k W d) (b : W ≤ 1000000) : d.shown.length ≤ sizeLine := by
  have z := PyData.shown_le 13 (by decide) d h.its
  have y := h.wgt
  rw [sizeLine_eq]
  omega
end Dw
end
section
/-! == and != of deep data; isinstance of what was caught or of None, one class or a written tuple of them -/
namespace Dw
open PySem PySem.Spec PyProof.Rows L2 Evl
def Lay (d : PyData) : Prop := d.canLay0 = true ∧ d.depth ≤ 190
def rNeL (K : PySem.W.Frag) : R2 := fun x y H Q => ∃ d e, Dp K H x d ∧ Dp K H y e ∧ Lay d ∧ Lay e ∧ Q (.bl (!PyData.eqv d e)) H
theorem op_neL {X : Cx} {k : Nat} (hr : Room k X.A) : OpR X (compareOp .NotEq) (rNeL X.K) := by
  intro pins s σ H x y v u Q I rx ry h
  obtain ⟨d, e, hd, he, ⟨sd, dd⟩, ⟨se, _⟩, q⟩ := h
  obtain ⟨as, r1⟩ := Dp.reads I d x v hd rx
  obtain ⟨bs, r2⟩ := Dp.reads I e y u he ry
  refine SeqAt.compareNe_reads r1 r2 sd se ?_ ⟨.bl _, H, I, rfl, q⟩
  have un := hr.un
  have : min d.depth e.depth ≤ d.depth := Nat.min_le_left _ _
  omega
/-- None, or a kept exception: its type -/
def TyC (K : PySem.W.Frag) (H : Hp) (x : V) (t : Value) : Prop := (x = .non ∧ t = .type "NoneType") ∨ ∃ (a C : Addr), x = .ref a ∧ H a = some (ExcAt a (.ref C) none) ∧ ExcC K C ∧ t = .ref C
theorem TyC.ex {K : PySem.W.Frag} {H H' : Hp} {x : V} {t : Value} (e : Ex H H') (h : TyC K H x t) : TyC K H' x t := h.imp id fun ⟨a, C, h1, h2, h3, h4⟩ => ⟨a, C, h1, e _ _ h2, h3, h4⟩
theorem tyc_kit {X : Cx} {pins : List (Addr × Obj)} {σ : L2.St} {H : Hp} {s : Shared} {x : V} {t v : Value} (I : Inv X pins σ H s) (h : TyC X.K H x t) (r : RelV x v) : ∃ Pr, PySem.W.KitX X.K v t Pr ∧ Pr s.heap ∧ v ≠ .builtin "__main__.__loader__#opaque" := by
  rcases h with ⟨rfl, rfl⟩ | ⟨a, C, rfl, ha, xc, rfl⟩
  · obtain ⟨P, Z, p, hx⟩ := kit_of I r (tyx_non (K := X.K) (H := H))
    exact ⟨P, Z, p, hx⟩
  · cases (show v = Value.ref a from r)
    obtain ⟨⟨ob, fv, got, ⟨hc, hd⟩, hf⟩, _⟩ := (show ObjOk X.prog X.w H s.heap a (ExcAt a (.ref C) none) from I.hok a _ ha)
    have inst : PySem.W.InstAt s.heap a ob C none := by
      obtain ⟨c1, d1, t1, l1⟩ := ob
      cases (show c1 = Value.ref C from hc)
      cases (show d1 = none from hd)
      cases (show t1 = .fields fv from hf)
      exact ⟨got, rfl, rfl, trivial⟩
    exact ⟨_, PySem.W.handS_kitx_exc xc.hg xc.hk xc.hs xc.hd xc.ha xc.hn xc.ht xc.hm, inst, fun z => nomatch z⟩
def rIsC (K : PySem.W.Frag) : List V → Hp → VK → Prop := fun xs H Q => ∃ (x c : V) (t u : Value) (b : Bool), xs = [x, c] ∧ ClsV c u ∧ TyC K H x t ∧ PySem.W.kitOne K t u = some b ∧ Q (.bl b) H
theorem call_isC {X : Cx} : CallR X (.builtin "isinstance") (rIsC X.K) := by
  intro pins s σ H xs us Q I r h
  obtain ⟨x, c, t, u, b, rfl, k, ty, e, q⟩ := h
  obtain ⟨u1, u2, rfl, r1, r2⟩ := vals2 r
  have e2 := k.eq r2
  subst e2
  obtain ⟨P, Z, p, hx⟩ := tyc_kit I ty r1
  exact PySem.W.kia_one Z I.kIn p e hx fun tk => ⟨.bl b, H, I.tok tk, rfl, q⟩
theorem ev_isC {K : PySem.W.Frag} {σ : L2.St} {H : Hp} {ta tb : TE} {x c : V} {t u : Value} {b : Bool} (ha : Ev ta σ H x) (hc : Ev tb σ H c) (k : ClsV c u) (ty : TyC K H x t) (e : PySem.W.kitOne K t u = some b) : Ev (tCB (rIsC K) (tCons ta (tCons tb tNil))) σ H (.bl b) :=
  fun H1 e1 Q q => ha H1 e1 _ fun H2 e2 => hc H2 (e1.trans e2) _ fun H3 e3 => ⟨x, c, t, u, b, rfl, k, ty.ex ((e1.trans e2).trans e3), e, q H3 (e2.trans e3)⟩
end Dw
end
section
/-! defs that are only called where nothing is being shown, and repr in them -/
namespace Dw
open PySem PySem.Spec PyProof.Rows L2 Evl
end Dw
end
section
/-! in of a tuple of data; repr of deep data -/
namespace Dw
open PySem PySem.Spec PyProof.Rows L2 Evl
end Dw
end
section
/-! tuple * int, the int small, below 1 too -/
namespace Dw
open PySem PySem.Spec PyProof.Rows L2 Evl
end Dw
end
section
/-! repr of any data without dicts -/
namespace Dw
open PySem PySem.Spec PyProof.Rows L2 Evl
end Dw
end
section
/-! C(..) whose __init__ may raise, in a try -/
namespace Dw
open PySem PySem.Spec PyProof.Rows L2 Evl
section
variable {X : Cx} {CX : CXT} {k : Nat} {f C : Addr} {fd : FuncData} {ps : List Str} {sp : Sp} {x : Str} {p pos : Pos} {e : Expr} {es : List Expr} {t : TA}
end
end Dw
end
section
/-! a class's __init__ by its promise -/
namespace Dw
open PySem PySem.Spec PyProof.Rows L2 Evl
end Dw
end
section
/-! repr of a dict of data that may hold lists -/
namespace Dw
open PySem PySem.Spec PyProof.Rows L2 Evl
section
variable {X : Cx} {pins : List (Addr × Obj)} {σ : L2.St} {H : Hp} {s : Shared}
end
end Dw
end
section
/-! tuple * int where the tuple may be empty -/
namespace Dw
open PySem PySem.Spec PyProof.Rows L2 Evl
end Dw
end
section
/-! str of any data without dicts -/
namespace Dw
open PySem PySem.Spec PyProof.Rows L2 Evl
def strD : PyData → Str
  | .str z => z
  | d => d.shown
def rStrW (X : Cx) : List V → Hp → VK → Prop := fun xs H Q => ∃ (v : V) (d : PyData), xs = [v] ∧ Dp X.K H v d ∧ X.A.guards = some [] ∧ d.showable = true ∧ d.hasDict = false ∧ d.depth ≤ 180 ∧ d.shown.length ≤ sizeLine ∧ Q (.str (strD d)) H
theorem call_strW {X : Cx} {k : Nat} (hr : Room k X.A) : CallR X (.type "str") (rStrW X) := by
  intro pins s σ H xs us Q I r h
  obtain ⟨v, d, e, hd, hg, hs, hn, hz, hl, q⟩ := h
  subst e
  obtain ⟨u, rfl, ru⟩ := vals1 r
  have un := hr.un
  have isRef : ∀ a, v = .ref a → strD d = d.shown → wpAny (model X.prog X.w) X.A (call (.type "str") [u]) (fun w' s' => ∃ z H', Inv X pins σ H' s' ∧ RelV z w' ∧ Q z H') X.xe s := fun a e ed => by
    subst e
    rw [ed] at q
    obtain ⟨as, rd⟩ := Dp.reads I d _ _ hd ru
    cases (show u = Value.ref a from ru)
    exact PySem.str_of_reads rd hs (PyData.noDict_hsm hn) hg (by omega) (fun _ _ z => z) (fun h' t tk keep => ⟨.str d.shown, H, I.kept keep, ⟨t, rfl⟩, q⟩) hl
  cases hd with
  | non =>
    cases (show u = Value.none from ru)
    exact PySem.P.str_of_none ⟨.str _, H, I.tok _, ⟨_, rfl⟩, q⟩
  | bl b =>
    cases (show u = Value.bool b from ru)
    exact PySem.P.str_of_bool ⟨.str _, H, I.tok _, ⟨_, rfl⟩, q⟩
  | int i =>
    obtain ⟨t, e⟩ := (show ∃ t, u = Value.int i t from ru)
    subst e
    exact PySem.P.str_of_int (by rw [PyData.showable] at hs; exact of_decide_eq_true hs) ⟨.str _, H, I.tok _, ⟨_, rfl⟩, q⟩
  | str x =>
    obtain ⟨t, e⟩ := (show ∃ t, u = Value.str x t from ru)
    subst e
    exact PySem.P.str_of_str ⟨.str _, H, I.tok _, ⟨_, rfl⟩, q⟩
  | lst _ _ => exact isRef _ rfl rfl
  | tup _ _ => exact isRef _ rfl rfl
end Dw
end
section
/-! methods of the text's classes, and objects that are made -/
namespace Dw
open PySem PySem.Spec PyProof.Rows L2 Evl
section
variable {K : PySem.W.Frag} {σ : L2.St} {H H' : Hp} {C : Addr} {sp : Sp} {E : XK} {m f : Str} {fs : List Str} {ta tv : TE} {t : TA} {a dx : Addr} {v : V} {ws : List (Str × V)}
end
end Dw
end
section
/-! == of data of which one may be deep -/
namespace Dw
open PySem PySem.Spec PyProof.Rows L2 Evl
end Dw
end
section
/-! a slice of a tuple, told with its own object -/
namespace Dw
open PySem PySem.Spec PyProof.Rows L2
section
variable {X : Cx}
def rSlF (K : PySem.W.Frag) : V → Option Int → Option Int → Hp → VK → Prop := fun x lo hi H Q => ∃ a xs, x = .ref a ∧ SqT K H a xs ∧ ¬ (HT.sIx xs.length 0 lo = 0 ∧ HT.sIx xs.length xs.length hi = xs.length) ∧ ∀ p o, H p = none → o.dict = none → Q (.ref p) (upd H p (.frz o (.tup (cutV xs lo hi))))
theorem sl_tupF : SlR X (rSlF X.K) := by
  intro pins s σ H x v vl vu lo hi sl Q I rx hs pl pu h
  obtain ⟨a, xs, e, hx, hw, q⟩ := h
  subst e
  cases (show v = Value.ref a from rx)
  obtain ⟨its, r, ht, hz⟩ := I.tuple hx
  have hlen : its.toArray.size = xs.length := by
    rw [List.size_toArray]
    exact r.length.symm
  refine ⟨"tuple", "tuple.__getitem__", PyProof.Rows.slot_tuple_getitem.lookup, PyProof.Rows.IsTup.typeIs ht, HT.getItem_tuple_cut ht hs pl pu (by rw [hlen]; exact hw) ?_ (by rw [hlen]; exact hz)⟩
  rw [hlen]
  let its2 := List.take (HT.sIx xs.length xs.length hi - HT.sIx xs.length 0 lo) (List.drop (HT.sIx xs.length 0 lo) its)
  let ob : Obj := { cls := .type "tuple", data := .seq its2.toArray }
  have got : (s.heap.push ob).get? s.heap.objs.size = some ob := Heap.get?_push_size _ rfl
  have okN : ObjOk X.prog X.w (upd H s.heap.objs.size (.frz ob (.tup (cutV xs lo hi)))) (s.heap.push ob) s.heap.objs.size (.frz ob (.tup (cutV xs lo hi))) := ⟨got, Nat.le_trans (cutV_length xs lo hi) hz, its2, (r.drop _).take _, ob, got, rfl, _, rfl⟩
  have J2 := I.laid (t' := s.toks) (h' := s.heap.push ob) (fun b o e => Heap.get?_push_of_some _ e) (Nat.le_refl s.heap.objs.size) okN
  exact ⟨.ref s.heap.objs.size, _, J2, rfl, q _ ob (I.hok.fresh (Nat.le_refl _)) rfl⟩
end
end Dw
end
section
/-! a comprehension whose element calls a def that may raise -/
namespace Dw
open PySem PySem.Spec PyProof.Rows L2 Evl
theorem frames_less {h B B2 : Heap} (less : ∀ b, B.get? b = none → B2.get? b = none) : ∀ {l : List Env}, h.FunFrames B l → h.FunFrames B2 l := by
  intro l
  induction l with
  | nil => intro _; trivial
  | cons e l ih =>
    intro q
    unfold Heap.FunFrames at q ⊢
    obtain ⟨a, ⟨L, o, b, c, d⟩, e⟩ := q
    exact ⟨a, ⟨L, o, b, less _ c, d⟩, ih e⟩
theorem traced_same {h h2 B : Heap} {C e : Addr} {Z : Obj → Prop} {fl : Value} {m : Str → Option Value} (n : h.Ns C m) (sb : Heap.SameBut C h h2) (t : HandSPX.TracedZ h B e Z fl) : HandSPX.TracedZ h2 B e Z fl := by
  obtain ⟨oe, vs, T, oT, ts, he, hz, hd, h1, hn, ne, hT, hdT, h3⟩ := t
  obtain ⟨oc, es, ep, hc, hdc, _⟩ := n
  have eC : e ≠ C := fun q => by
    rw [q, hc] at he
    cases he
    rw [hdc] at hd
    cases hd
  have tC : T ≠ C := fun q => by
    rw [q, hc] at hT
    cases hT
    rw [hdc] at hdT
    cases hdT
  exact ⟨oe, vs, T, oT, ts, (sb.2 e eC).trans he, hz, hd, h1, hn, ne, (sb.2 T tC).trans hT, hdT, h3⟩
theorem traced_less {h B B2 : Heap} {e : Addr} {Z : Obj → Prop} {fl : Value} (less : ∀ b, B.get? b = none → B2.get? b = none) (t : HandSPX.TracedZ h B e Z fl) : HandSPX.TracedZ h B2 e Z fl := by
  obtain ⟨oe, vs, T, oT, ts, he, hz, hd, h1, hn, r⟩ := t
  exact ⟨oe, vs, T, oT, ts, he, hz, hd, h1, less _ hn, r⟩
/-- what a call raises goes out of the comprehension -/
theorem out_raise {X : Cx} {W : WX} {E : XK} {pins : List (Addr × Obj)} {σ : L2.St} {H : Hp} {s s' : Shared} {u : Value} {cenv : Env} {mC : Str → Option Value}
    (hst : X.stack = X.env :: X.outer) (fr : X.env.frame = some X.env.locals) (cf : cenv.frame = X.env.frame) (tk : Takes X W)
    (I : L2.Inv X pins σ H s) (fpC : FpOk X pins H cenv.locals) (nC : s.heap.Ns cenv.locals mC) (nfC : cenv.locals ∉ frs X.stack)
    (hW : ∀ cls d H', E cls d H' → W cls d σ H') (c : CX X.prog X.w X.stack H s E u s') :
    notedBy (model X.prog X.w) X.A cenv (CompFails (model X.prog X.w) X.A X.xe cenv) u s' := by
  obtain ⟨a, B, H', cls, d, rfl, fly, hok, ub, na, os, ag, w⟩ := c
  unfold notedBy
  rw [noteFrame_env _ cf]
  have frames : X.A.frames = some (X.env :: X.outer) := I.ok.frames.trans (congrArg some hst)
  have fly0 := fly
  rw [hst] at fly
  refine HandSPX.looks_onZ Zc.steady frames fr fly fun h1 hh up1 => ?_
  obtain ⟨oc, es, ep, hc, hdc, k1, k2⟩ := nC
  have ndc : ∀ vs : Array Value, oc.data ≠ Data.fields vs := fun vs q => by
    rw [hdc] at q
    cases q
  have Bc : B.get? cenv.locals = some oc := ub.keep _ oc hc fpC.1 nfC
  obtain ⟨sl, hc1⟩ := up1 _ oc (fly.1 _ oc Bc) ndc
  have n1 : h1.Ns cenv.locals mC := ⟨_, es, ep, hc1, hdc, k1, k2⟩
  have HC : H' cenv.locals = none := ub.free _ oc hc fpC.1
  refine ⟨mC, n1, fun h2 m2 n2 sb => ?_⟩
  obtain ⟨st1, na1, ff1, t1⟩ := hh
  obtain ⟨B2, b1, b2⟩ := restrict B (fun b => decide (b ≠ cenv.locals))
  have sub : ∀ b o, B2.get? b = some o → b ≠ cenv.locals ∧ B.get? b = some o := fun b o e => by
    by_cases q : b = cenv.locals
    · rw [b2 b (decide_eq_false (fun z => z q))] at e
      cases e
    · exact ⟨q, (b1 b (decide_eq_true q)).symm.trans e⟩
  have less : ∀ b, B.get? b = none → B2.get? b = none := fun b e => by
    by_cases q : b = cenv.locals
    · exact b2 b (decide_eq_false (fun z => z q))
    · exact (b1 b (decide_eq_true q)).trans e
  have st2 : B2.StaysIn h2 := fun b o e => let ⟨n, e1⟩ := sub b o e; (sb.2 b n).trans (st1 b o e1)
  have ff2 : h2.FunFrames B2 (X.env :: X.outer) := frames_less less (Heap.FunFrames.sameBut sb n2 ff1)
  have t2 : HandSPX.TracedZ h2 B2 a (Zc cls d) (rawInt X.env.locals) := traced_less less (traced_same n1 sb t1)
  have hh2 : HandSPX.HeldZ B2 (X.env :: X.outer) a (Zc cls d) X.env.locals h2 := ⟨st2, less _ na1, ff2, t2⟩
  obtain ⟨oe, vs, T, oT, ts, he, _, hd, h1', _⟩ := id t2
  show wpAny _ _ (PySem.passOn _ _ _) _ _ _
  unfold PySem.passOn
  refine wpAny_bind (wpAny_field he hd h1' ?_)
  rw [if_neg (by simp)]
  show wpAny _ _ (setFlight (Value.ref a) cenv.frame >>= fun _ => throw (Value.ref a)) _ _ _
  rw [cf, fr]
  refine wpAny_bind (HandSPX.setFlight_onZ hh2 fun h3 hh3 up3 => wpAny_throw (tk _ _ ?_))
  obtain ⟨G, g1, g2⟩ := restrict s'.heap (fun b => (B.get? b).isSome || decide (b ∈ frs X.stack))
  have gB : ∀ b o, B.get? b = some o → G.get? b = some o := fun b o e => (g1 b (by simp [e])).trans (fly.1 b o e)
  have gF : ∀ b, b ∈ frs X.stack → G.get? b = s'.heap.get? b := fun b hb => g1 b (by simp [hb])
  have og : ∀ b o, G.get? b = some o → s'.heap.get? b = some o ∧ ((∃ o', B.get? b = some o') ∨ b ∈ frs X.stack) := fun b o e => by
    by_cases q : ((B.get? b).isSome || decide (b ∈ frs X.stack)) = true
    · refine ⟨(g1 b q).symm.trans e, ?_⟩
      rcases (Bool.or_eq_true _ _).mp q with z | z
      · exact .inl (Option.isSome_iff_exists.mp z)
      · exact .inr (of_decide_eq_true z)
    · rw [g2 b (Bool.eq_false_iff.mpr q)] at e
      cases e
  have I0 := Inv.call (h' := G) (g' := s'.gens) (t' := s'.toks) (d' := s'.drawn) (ch := []) I
    { keep := fun b o e n hb _ => gB b o (ub.keep b o e n hb)
      slot := fun b o e n hb _ => let ⟨sl, q⟩ := ub.slot b o e hb; ⟨sl, (gF b hb).trans q⟩
      free := fun b o e n _ => ub.free b o e n
      there := fun b o e _ => by
        by_cases hb : b ∈ frs X.stack
        · obtain ⟨sl, q⟩ := ub.slot b o e hb
          exact ⟨_, (gF b hb).trans q⟩
        · obtain ⟨o', q⟩ := ub.there b o e hb
          exact ⟨o', gB b o' q⟩
      tups := ub.tups, frzs := ub.frzs, tbls := ub.tbls } (HOk.kept hok gB) ag (fun _ z => nomatch z)
  obtain ⟨G2, p1, p2⟩ := restrict G (fun b => decide (b ≠ cenv.locals))
  have I2 := Inv.turned (h' := G2) (t' := s'.toks) (it := cenv.locals) I0 (fun b o hb e => (p1 b (decide_eq_true hb)).trans e) HC fpC.2.1 fpC.2.2.2.1 fpC.2.2.2.2.1 fpC.2.2.2.2.2
  have pG : ∀ b o, G2.get? b = some o → b ≠ cenv.locals ∧ G.get? b = some o := fun b o e => by
    by_cases q : b = cenv.locals
    · rw [p2 b (decide_eq_false (fun z => z q))] at e
      cases e
    · exact ⟨q, (p1 b (decide_eq_true q)).symm.trans e⟩
  refine ⟨a, B2, _, pins, σ, H', cls, d, rfl, I2, fun b o e nf => ?_, fun b o e nd => ?_, ?_, na, os, ag, hW _ _ _ w⟩
  · obtain ⟨q, e1⟩ := pG b o e
    obtain ⟨e2, z | z⟩ := og b o e1
    · obtain ⟨o', z⟩ := z
      have := fly.1 b o' z
      rw [e2] at this
      cases this
      exact (b1 b (decide_eq_true q)).trans z
    · exact absurd z nf
  · obtain ⟨q, e1⟩ := pG b o e
    obtain ⟨e2, _⟩ := og b o e1
    obtain ⟨sl1, e3⟩ := up1 b o e2 nd
    obtain ⟨sl2, e4⟩ := up3 b _ ((sb.2 b q).trans e3) nd
    exact ⟨sl2, e4⟩
  · rw [hst]
    exact .inr (.inr hh3)
@[reducible] def blkE (X : Cx) (s : Shared) (H : Hp) (scope : Scope) (cenv : Env) (fp : List Addr) (xe : Value → Shared → Prop) : Cx := { X.blk s H scope cenv fp with xe := xe }
theorem okE {X : Cx} {s : Shared} {H : Hp} {scope : Scope} {cenv : Env} {fp : List Addr} {xe : Value → Shared → Prop} (o : (X.blk s H scope cenv fp).Ok) : (blkE X s H scope cenv fp xe).Ok :=
  ⟨o.mod, o.kind, o.glob, o.blt, o.above, o.inj, o.has, o.cab, o.hd, o.frames, o.stk, o.exf, o.bs, o.bsz, o.noex, o.exfs, o.funs, o.frf⟩
theorem invE {X : Cx} {s0 : Shared} {H0 : Hp} {scope : Scope} {cenv : Env} {fp : List Addr} {xe : Value → Shared → Prop} {pins : List (Addr × Obj)} {σ : List (Option V)} {H : Hp} {s : Shared} (I : L2.Inv (X.blk s0 H0 scope cenv fp) pins σ H s) : L2.Inv (blkE X s0 H0 scope cenv fp xe) pins σ H s :=
  ⟨okE I.ok, I.os, I.bare, I.base, I.loc, I.cell, I.free, I.freeC, I.pin, I.hok, I.len⟩
/-- a list comprehension whose element may raise what W awaits -/
theorem pe_lcX {X : Cx} {W : WX} {elt tg iter : Expr} {ifs : List Expr} {scope : Scope} {own : List (Str × Nat)} {pos : Pos} {wi : TI} {g : TG} {tt : TT} {te : L2.St → TE}
    (hst : X.stack = X.env :: X.outer) (fr : X.env.frame = some X.env.locals) (tk : Takes X W) (hc : X.calm = true) (hN : X.N.Nodup) (hi : PI X tg iter wi) (ok : BlkOk X.N X.env.scope scope own)
    (hg : ∀ (s : Shared) (H : Hp) (C : Addr) (cl : List (Str × Addr)) (fp : List Addr) (xe : Value → Shared → Prop), PG (blkE X s H scope (compEnvC scope cl C X.env) fp xe) tg g)
    (ht : ∀ (s : Shared) (H : Hp) (C : Addr) (cl : List (Str × Addr)) (fp : List Addr) (xe : Value → Shared → Prop), PTs (blkE X s H scope (compEnvC scope cl C X.env) fp xe) ifs tt)
    (he : ∀ (σ : L2.St) (s : Shared) (H : Hp) (C : Addr) (cl : List (Str × Addr)) (fp : List Addr) (xe : Value → Shared → Prop), (∀ σ', PassesAt (CX X.prog X.w) (blkE X s H scope (compEnvC scope cl C X.env) fp xe) σ' (WE W σ)) → PE (blkE X s H scope (compEnvC scope cl C X.env) fp xe) elt (te σ))
    (hs : ∀ (x : Value), foldedSetIterable iter X.env x = pure x := by intro x; rfl) :
    PE X (.ListComp elt [{ target := tg, iter := iter, ifs := ifs, is_async := 0 }] scope pos) (fun σ H Q => tLc wi g tt (te σ) (own.map (·.2)) σ H Q) := by
  refine ⟨fun pins s σ H Q I h => ?_⟩
  rw [eval_ListComp]
  have hfree : ∀ y ∈ scope.names, y.2 = NameKind.free → ∃ c, List.lookup y.1 X.env.cells = some c := fun y hy e => (ok.free y hy e).elim (fun k => I.ok.has y.1 (.inl k)) fun k => I.ok.has y.1 (.inr k)
  refine comprehension_at rfl hs (closure_ok hfree) ok.kind (fun y hy e => by rw [ok.uniq y hy, e]) (thn (hi.run pins s σ H _ I h) fun xv s1 hx => thn hx fun itv s2 h2 => ?_)
  obtain ⟨it, fp, tn, J, H2, rfl, I2, T, st2, f2, q⟩ := h2
  refine wpAny_newObj_type (newEnv_comp ?_)
  have hDn : H2 s2.heap.objs.size = none := HOk.fresh I2.hok (Nat.le_refl _)
  obtain ⟨W0, ⟨m0, w0⟩, turn⟩ := q s2.heap.objs.size hDn
  have I3 := Inv.laid (a := s2.heap.objs.size) (o := .lst []) (t' := s2.toks) (h' := s2.heap.push { cls := .type "list", data := .seq #[] }) I2 (fun b o e => Heap.get?_push_of_some _ e) (Nat.le_refl _) ⟨Nat.zero_le _, [], 0, .nil, Heap.get?_push_size _ rfl⟩
  have sz : ∀ b ∈ fp, b < s2.heap.objs.size := fun b hb => by
    obtain ⟨o, e, _⟩ := T.obj 0 s2.heap st2 b hb
    exact Heap.lt_size e
  have f3 : ∀ b ∈ fp, FpOk X pins (upd H2 s2.heap.objs.size (.lst [])) b ∧ b < (s2.heap.push { cls := .type "list", data := .seq #[] }).objs.size := fun b hb => by
    have lt := sz b hb
    have f := f2 b hb
    refine ⟨⟨?_, f.2⟩, by rw [Heap.size_push]; exact Nat.lt_succ_of_lt lt⟩
    rw [upd_ne (Nat.ne_of_lt lt)]
    exact f.1
  let s3 : Shared := { heap := s2.heap.push { cls := .type "list", data := .seq #[] }, gens := s2.gens, drawn := s2.drawn, toks := s2.toks, os := s2.os }
  let H3 : Hp := upd H2 s2.heap.objs.size (.lst [])
  let C : Addr := s3.heap.objs.size
  let cl := cellsFrom (s3.heap.objs.size + 1) scope.names (cloFrom X.env.cells scope.names [])
  let ce : Env := compEnvC scope cl C X.env
  let xe : Value → Shared → Prop := notedBy (model X.prog X.w) X.A ce (CompFails (model X.prog X.w) X.A X.xe ce)
  have I4 := invE (xe := xe) (block_start (s := s3) I3 ok hN f3)
  let s4 : Shared := { heap := pushCells (s3.heap.push { cls := .type "dict", data := .dict #[] }) scope.names, gens := s3.gens, drawn := s3.drawn, toks := s3.toks, os := s3.os }
  replace I4 : L2.Inv (blkE X s3 H3 scope ce fp xe) [] (wipe σ (own.map (·.2))) H3 s4 := I4
  have st4 : tn 0 s4.heap := T.keep 0 s2.heap s4.heap st2 fun b hb o e => pushCells_keeps _ _ b o (Heap.get?_push_of_some _ (Heap.get?_push_of_some _ e))
  have n3 : ∀ b ∈ fp, H3 b = none := fun b hb => (f3 b hb).1.1
  have outer : ∀ {pins' : List (Addr × Obj)} {σ' : List (Option V)} {H' : Hp} {s' : Shared}, L2.Inv (blkE X s3 H3 scope ce fp xe) pins' σ' H' s' → L2.Inv X pins σ H' s' := fun Ib =>
    Inv.call' (ch := fp) I3 Ib.os Ib.base Ib.hok Ib.bare fun b hb => let f := (f3 b hb).1; ⟨f.2.2.2.1, f.2.1, f.2.2.2.2.1, f.2.2.2.2.2⟩
  have fC : ∀ {pins' : List (Addr × Obj)} {σ' : List (Option V)} {H' : Hp} {s' : Shared}, L2.Inv (blkE X s3 H3 scope ce fp xe) pins' σ' H' s' → FpOk X pins H' C := fun Ib => Inv.fpOk I3 (Nat.le_refl _) Ib.free
  have nfC : C ∉ frs X.stack := fun z => by
    obtain ⟨_, o, e, _⟩ := Heap.FunFrames.mem (Inv.stack I3) z
    exact absurd (Heap.lt_size e) (Nat.lt_irrefl _)
  have pass : ∀ σ', PassesAt (CX X.prog X.w) (blkE X s3 H3 scope ce fp xe) σ' (WE W σ) := fun σ' pins' H' s' e s'' Ib c => by
    obtain ⟨m, nm, _⟩ := Ib.loc
    exact out_raise (cenv := ce) hst fr rfl tk (outer Ib) (fC Ib) nm nfC (fun _ _ _ z => z) c
  have f5 : ∀ {pins' : List (Addr × Obj)} {σ' : List (Option V)} {H' : Hp} {s' : Shared}, L2.Inv (blkE X s3 H3 scope ce fp xe) pins' σ' H' s' → (∀ b ∈ fp, H' b = none) → ∀ b ∈ fp, FpOk (blkE X s3 H3 scope ce fp xe) [] H' b := fun Ib n b hb =>
    ⟨n b hb, (Ib.ok.exf b hb).1, Ib.ok.exfs b hb, .inl hb, (Ib.ok.exf b hb).2, fun p hp => nomatch hp⟩
  have core := compLoop_any (prog := X.prog) (w := X.w) (A := X.A) (R := compEnds (model X.prog X.w) X.A X.xe none (EP X pins σ Q) (Value.ref s2.heap.objs.size) ce) (elt := elt) (target := tg) (iter := iter) (ifs := ifs) (scope := scope) (pos := pos) (it := Value.ref it) (acc := Value.ref s2.heap.objs.size) (env := ce)
    (fun n s => ∃ i H', W0 i n H' ∧ L2.Inv (blkE X s3 H3 scope ce fp xe) [] (wipe σ (own.map (·.2))) H' s ∧ tn i s.heap ∧ ∀ b ∈ fp, H' b = none) (fun n s hI => ?_) m0 (s := s4) ⟨0, H3, w0, I4, st4, n3⟩
  · exact codeAny_compStart_list core (T.self X.A 0 s4 _ _ st4 core)
  obtain ⟨i, H5, w5, I5, st5, n5⟩ := hI
  rcases turn i n H5 w5 with ⟨stop, hQ⟩ | ⟨go, Nx, hNx, hy⟩
  · refine thn (T.done (blkE X s3 H3 scope ce fp xe) rfl rfl rfl hc i [] s _ H5 _ I5 (f5 I5 n5) st5 stop) fun r s6 hr => ?_
    obtain ⟨hr, I6⟩ := hr
    subst hr
    obtain ⟨m6, nm6, _⟩ := I6.loc
    refine ⟨m6, nm6, fun h'' sb => ?_⟩
    have f := fC I6
    exact ⟨.ref s2.heap.objs.size, H5, Inv.turned (outer I6) (fun b o hb e => (sb.2 b hb).trans e) f.1 f.2.1 f.2.2.2.1 f.2.2.2.2.1 f.2.2.2.2.2, rfl, hQ⟩
  · refine thn (T.item (blkE X s3 H3 scope ce fp xe) rfl rfl rfl hc i [] s _ H5 _ I5 (f5 I5 n5) st5 go) fun r s6 hr => ?_
    obtain ⟨u, hr, h6⟩ := hr
    subst hr
    refine thn h6 fun _ s7 h7 => ?_
    obtain ⟨x, H7, I7, r7, y7, st7, n7⟩ := h7
    have pinned := Inv.pinned (fp := fp) I7 (f5 I7 n7) (fun b hb => T.obj (i + 1) s7.heap st7 b hb)
    have back : ∀ {m' : Nat} {σ8 : List (Option V)} {H' : Hp} {s' : Shared}, L2.Inv (blkE X s3 H3 scope ce fp xe) ([] ++ pinsAt fp s7.heap) σ8 H' s' → wipe σ8 (own.map (·.2)) = wipe σ (own.map (·.2)) → W0 (i + 1) m' H' → ∃ i H', W0 i m' H' ∧ L2.Inv (blkE X s3 H3 scope ce fp xe) [] (wipe σ (own.map (·.2))) H' s' ∧ tn i s'.heap ∧ ∀ b ∈ fp, H' b = none := fun {m'} {σ8} {H'} {s'} Ib hw w' => by
      refine ⟨i + 1, H', w', (Inv.unpinned Ib).weak (by rw [← hw, wipe_length]) (fun j v e => by rw [← hw] at e; exact (wipe_some e).1), T.keep (i + 1) s7.heap s'.heap st7 (fun b hb o e => (Ib.pin (b, o) (List.mem_append_right _ (List.mem_append_right _ (mem_pinsAt hb e)))).1), fun b hb => ?_⟩
      obtain ⟨o, e, _⟩ := T.obj (i + 1) s7.heap st7 b hb
      exact (Ib.pin (b, o) (List.mem_append_right _ (List.mem_append_right _ (mem_pinsAt hb e)))).2.1
    refine thn ((hg s3 H3 C cl fp xe).run _ _ _ _ _ _ _ pinned r7 (hy x H7 y7)) fun _ s8 h8 => ?_
    obtain ⟨σ8, H8, I8, hw8, q8⟩ := h8
    refine thn ((ht s3 H3 C cl fp xe).run _ _ _ _ _ I8 q8) fun b s9 h9 => ?_
    obtain ⟨H9, I9, q9⟩ := h9
    cases b with
    | false =>
      obtain ⟨m', lt, w'⟩ := hNx H9 q9
      exact ⟨m', lt, back I9 hw8 w'⟩
    | true =>
      refine thn ((he σ s3 H3 C cl fp xe pass).run _ _ _ _ _ I9 q9) fun z s10 h10 => ?_
      obtain ⟨yv, H10, I10, r10, acc, hD10, hz10, nx⟩ := h10
      refine app_ok (X := blkE X s3 H3 scope ce fp xe) I10 hD10 hz10 r10 fun s11 I11 => ?_
      obtain ⟨m', lt, w'⟩ := hNx _ nx
      exact ⟨m', lt, back I11 hw8 w'⟩
end Dw
end
section
/-! dict(zip(a, b)), a a text, b a list or a tuple -/
namespace Dw
open PySem PySem.Spec PyProof.Rows L2 Evl
theorem siKeep {h h' : Heap} {p : Addr} {ty : String} {x : Str} {t : Tok} {i : Nat} (s : h.IsStrIter p ty x t i) (k : ∀ o, h.get? p = some o → h'.get? p = some o) : h'.IsStrIter p ty x t i := let ⟨o, e, r⟩ := s; ⟨o, k o e, r⟩
theorem siThere {h : Heap} {p : Addr} {ty : String} {x : Str} {t : Tok} {i : Nat} (s : h.IsStrIter p ty x t i) : ∃ o, h.get? p = some o := let ⟨o, e, _⟩ := s; ⟨o, e⟩
structure AptS (z TI TO p q b : Addr) : Prop where
  sep : ZipSep2 z TI TO p q [p] [q, b]
  bq : b ≠ q
  ti : TI ≠ b
theorem aptS_new {I b : Nat} (h2 : b < I) : AptS (I + 4) (I + 2) (I + 3) I (I + 1) b := by
  refine ⟨?_, ?_, ?_⟩
  · constructor <;> first | (simp only [List.mem_cons, List.not_mem_nil, or_false, not_or]; refine ⟨?_, ?_⟩ <;> (intro e; have : (_ : Nat) = _ := e; omega)) | (simp only [List.mem_cons, List.not_mem_nil, or_false, not_or]; (intro e; have : (_ : Nat) = _ := e; omega)) | (intro e; have : (_ : Nat) = _ := e; omega) | exact List.mem_cons_self ..
  all_goals (intro e; have : (_ : Nat) = _ := e; omega)
theorem pairArg_zipS {prog : Program} {w : World} (t2 : Bool) {z TI TO p q b : Addr} (S : AptS z TI TO p q b) (x0 : Str) (tk0 : Tok) (ys : Array Value) :
    PairArg prog w "zip" z [z, TI, TO, p, q, b] [z, TO, p, q] (min x0.cps.size ys.size) (fun i k v => (∃ c u, x0.cps[i]? = some c ∧ k = Value.str ⟨#[c]⟩ u) ∧ ys[i]? = some v)
      (fun h => IsZip h z TI TO .none ∧ IsTupOf2 h TI (.ref p) (.ref q) ∧ (∃ x y, IsTupOf2 h TO x y) ∧ h.IsStrIter p (strIterType x0) x0 tk0 0 ∧ SqI t2 q b ys 0 h) where
  type := fun s ok => ⟨_, ok.1, rfl⟩
  notDict := by decide
  keep := fun h h' ok k => by
    obtain ⟨c1, c2, ⟨x, y, c3⟩, c4, c5⟩ := ok
    exact ⟨k _ _ c1, k _ _ c2, ⟨x, y, k _ _ c3⟩, siKeep c4 fun o e => k p o e, c5.keep fun c _ o e => k c o e⟩
  there := fun h ok c hc => by
    obtain ⟨c1, c2, ⟨x, y, c3⟩, c4, c5⟩ := ok
    simp only [List.mem_cons, List.not_mem_nil, or_false] at hc
    rcases hc with e | e | e | e | e | e <;> subst e
    · exact ⟨_, c1⟩
    · exact ⟨_, c2⟩
    · exact ⟨_, c3⟩
    · exact siThere c4
    · exact c5.there.1
    · exact c5.there.2
  sub := fun c hc => by
    simp only [List.mem_cons, List.not_mem_nil, or_false] at hc ⊢
    rcases hc with e | e | e | e
    · exact .inl e
    · exact .inr (.inr (.inl e))
    · exact .inr (.inr (.inr (.inl e)))
    · exact .inr (.inr (.inr (.inr (.inl e))))
  noKeys := fun A s Q E quiet ok h => getAttrOr_miss_zip ok.1 rfl rfl rfl zip_no_keys (by decide +kernel) quiet h
  iter := fun A s d Q E quiet ok _ off h => by
    obtain ⟨c1, c2, ⟨x9, y9, c3⟩, c4, c5⟩ := ok
    simp only [List.mem_cons, List.not_mem_nil, or_false, not_or] at off
    obtain ⟨dz, dTI, dTO, dp, dq, db⟩ := off
    have quiet1 : A.in1.handled = none := quiet
    have D1 := Draws.text (prog := prog) (w := w) (A := A.in1) quiet1 p x0 tk0
    have D2 := SqI.draws (prog := prog) (w := w) (A := A.in1) t2 quiet1 S.bq ys
    have ap_p : p ≠ z := Ne.symm S.sep.zi1
    refine wpAny_pyIter_zip c1 (h z [z, TO, p, q] (fun i g => IsTupOf2 g TI (.ref p) (.ref q) ∧ g.IsStrIter p (strIterType x0) x0 tk0 i ∧ SqI t2 q b ys i g ∧ ((IsZip g z TI TO .none ∧ ∃ x y, IsTupOf2 g TO x y) ∨ ∃ T f oT, IsZipHeld g z TI TO T f ∧ g.get? T = some oT ∧ T ≠ z ∧ T ≠ p ∧ T ≠ q ∧ T ≠ d)) s.heap s.toks ?_ ⟨c2, c4, c5, .inl ⟨c1, x9, y9, c3⟩⟩ (fun _ _ e => e) fun c hc => .inl hc)
    refine { off := fun hm => ?_, frame := fun i g g' st k => ?_, item := fun i s1 Q1 E1 lt st inD next => ?_, done := fun s1 Q1 E1 st ends => ?_ }
    · simp only [List.mem_cons, List.not_mem_nil, or_false] at hm
      rcases hm with e | e | e | e
      · exact dz e
      · exact dTO e
      · exact dp e
      · exact dq e
    · obtain ⟨e1, e2, e3, e4⟩ := st
      refine ⟨k _ _ (Ne.symm dTI) e1, siKeep e2 fun o e => k p o (Ne.symm dp) e, e3.keep fun c hc o e => ?_, ?_⟩
      · rcases hc with x | x <;> subst x
        · exact k _ o (Ne.symm dq) e
        · exact k _ o (Ne.symm db) e
      · rcases e4 with ⟨isZ, x, y, isO⟩ | ⟨T, f, oT, isZ, atT, r1, r2, r3, r4⟩
        · exact .inl ⟨k _ _ (Ne.symm dz) isZ, x, y, k _ _ (Ne.symm dTO) isO⟩
        · exact .inr ⟨T, f, oT, k _ _ (Ne.symm dz) isZ, k _ _ r4 atT, r1, r2, r3, r4⟩
    · obtain ⟨e1, e2, e3, e4⟩ := st
      have l1 : i < x0.cps.size := Nat.lt_of_lt_of_le lt (Nat.min_le_left ..)
      have l2 : i < ys.size := Nat.lt_of_lt_of_le lt (Nat.min_le_right ..)
      have far : ∀ {c : Addr} {o : Obj}, s1.heap.get? c = some o → s1.heap.objs.size ≠ c := fun e => Nat.ne_of_gt (Heap.lt_size e)
      have np : s1.heap.objs.size ≠ p := let ⟨_, e⟩ := siThere e2; far e
      have nq : s1.heap.objs.size ≠ q := let ⟨_, e⟩ := e3.there.1; far e
      rcases e4 with ⟨isZ, x, y, isO⟩ | ⟨T, f, oT, isZ, atT, r1, r2, r3, r4⟩
      · refine wpAny_pyNext_zipD2_item S.sep D1 D2 isZ e1 isO e2 e3 l1 l2 fun x1 y1 new tk g1 g2 g3 g4 g5 g6 g7 g8 stay => ?_
        exact next s1.heap.objs.size x1 y1 new tk ⟨g1, g2⟩ (.inl ⟨_, g7, rfl, _, rfl⟩) ⟨stay _ _ S.sep.TIz S.sep.TITO S.sep.TIi1 S.sep.TIi2 e1, g5, g6, .inr ⟨s1.heap.objs.size, false, _, g3, g7, far isZ, np, nq, Nat.ne_of_gt inD⟩⟩
          fun c o hc e => stay c o (fun z => hc (by rw [z]; simp)) (fun z => hc (by rw [z]; simp)) (fun z => hc (by rw [z]; simp)) (fun z => hc (by rw [z]; simp)) e
      · refine nx_held S.sep D1 D2 isZ atT e1 e2 e3 l1 l2 fun x1 y1 new tk g1 g2 g3 g5 g6 g7 stay => ?_
        exact next s1.heap.objs.size x1 y1 new tk ⟨g1, g2⟩ (.inl ⟨_, g7, rfl, _, rfl⟩) ⟨stay _ _ S.sep.TIz S.sep.TIi1 S.sep.TIi2 e1, g5, g6, .inr ⟨T, true, oT, g3, stay _ _ r1 r2 r3 atT, r1, r2, r3, r4⟩⟩
          fun c o hc e => stay c o (fun z => hc (by rw [z]; simp)) (fun z => hc (by rw [z]; simp)) (fun z => hc (by rw [z]; simp)) e
    · obtain ⟨e1, e2, e3, e4⟩ := st
      have o1 : min x0.cps.size ys.size = x0.cps.size ∨ min x0.cps.size ys.size = ys.size := by omega
      rcases e4 with ⟨isZ, x, y, isO⟩ | ⟨T, f, oT, isZ, atT, r1, r2, r3, r4⟩
      · exact wpAny_pyNext_zipD2_end S.sep D1 D2 isZ e1 isO e2 e3 (Nat.min_le_left ..) (Nat.min_le_right ..) o1 fun new tk stay => ends new tk fun c o hc e => stay c o (fun z => hc (by rw [z]; simp)) (fun z => hc (by rw [z]; simp)) (fun z => hc (by rw [z]; simp)) (fun z => hc (by rw [z]; simp)) e
      · exact nx_end S.sep D1 D2 isZ atT e1 e2 e3 (Nat.min_le_left ..) (Nat.min_le_right ..) o1 fun new tk stay => ends new tk fun c o hc e => stay c o (fun z => hc (by rw [z]; simp)) (fun z => hc (by rw [z]; simp)) (fun z => hc (by rw [z]; simp)) e
/-- the signs of a text, as keys -/
def signsK (z : Str) : List Key := z.cps.toList.map fun c => Sum.inr ⟨#[c]⟩
theorem zip_haveS {P : Program} {w : World} (z : Str) {ys : List V} {vs : List Value} (q : Vals ys vs) :
    ∃ prs : List (Key × Value), KV ((signsK z).zip ys) prs ∧ prs.length = min z.cps.size vs.length ∧ ∀ (j : Nat) (k v : Value), (∃ c u, z.cps[j]? = some c ∧ k = Value.str ⟨#[c]⟩ u) → vs[j]? = some v → ∃ key, prs[j]? = some (key, v) ∧ (mixKind P w).is key k = true := by
  have main : ∀ (ks : List Key) {ys : List V} {vs : List Value}, Vals ys vs → KV (ks.zip ys) (ks.zip vs) := by
    intro ks
    induction ks with
    | nil => intro ys vs _; exact .nil
    | cons k ks ih =>
      intro ys vs q
      cases q with
      | nil => exact .nil
      | cons a b => exact .cons ⟨rfl, a⟩ (ih b)
  refine ⟨(signsK z).zip vs, main _ q, by rw [List.length_zip, signsK, List.length_map, Array.length_toList], fun j k v hk hv => ?_⟩
  obtain ⟨c, u, hc, rfl⟩ := hk
  refine ⟨.inr ⟨#[c]⟩, ?_, kV_is (P := P) (w := w) (k := .inr ⟨#[c]⟩) ⟨u, rfl⟩⟩
  rw [List.getElem?_zip_eq_some]
  refine ⟨?_, hv⟩
  rw [signsK, List.getElem?_map, Array.getElem?_toList, hc]
  rfl
/-- dict(zip(a text, values)) -/
def tDictZS (K : PySem.W.Frag) (ta : TA) : TE := fun σ H Q => ta σ H fun vs H1 => ∃ (z : Str) (b : Addr) (ys : List V), vs = [.str z, .ref b] ∧ (SqL K H1 b ys ∨ SqT K H1 b ys) ∧
  ∀ p, H1 p = none → Q (.ref p) (upd H1 p (.dK (mergeK [] ((signsK z).zip ys))))
theorem pe_dictZS {X : Cx} {e1 e2 : Expr} {ta : TA} {p1 p2 pos pos2 : Pos} (calm : X.calm = true) (gd : Gl X "dict") (md : X.mg "dict" = none) (gz : Gl X "zip") (mz : X.mg "zip" = none) (ha : PA X [e1, e2] ta)
    (st1 : starEach [Expr.Call (.Name "zip" p2) [e1, e2] [] pos2] X.env = [(false, eval (.Call (.Name "zip" p2) [e1, e2] [] pos2) X.env)] := by rfl)
    (st : starEach [e1, e2] X.env = (false, eval e1 X.env) :: starEach [e2] X.env := by rfl) (bk : (backTo pos2 (starEach [e2] X.env)).any (·.1) = false := by rfl) :
    PE X (.Call (.Name "dict" p1) [.Call (.Name "zip" p2) [e1, e2] [] pos2] [] pos) (tDictZS X.K ta) := by
  refine ⟨fun pins s σ H Q I h => ?_⟩
  refine wpAny_Call_Name_kw (ld_blt I gd md PyProof.Rows.boot_dict (PyProof.Rows.callWith_type1 ?_ st1 rfl))
  rw [st1]
  show wpAny _ _ (spliced [(false, eval (.Call (.Name "zip" p2) [e1, e2] [] pos2) X.env)]) _ _ s
  refine Calls.spliced_cons (wpAny_Call_Name_kw (ld_blt I gz mz PyProof.Rows.boot_zip (PyProof.Rows.callWith_type1 (thn (ha.run pos2 pins s σ H _ I h) fun us s1 got => ?_) st bk)))
  obtain ⟨vs, H1, J, rel, z, b, ys, two2, isB, q⟩ := got
  subst two2
  obtain ⟨ua, ub, e, ra, rb⟩ := vals2 rel
  subst e
  obtain ⟨tz, ez⟩ := (show ∃ t, ua = Value.str z t from ra)
  subst ez
  cases (show ub = Value.ref b from rb)
  obtain ⟨t2, zs, rz, oz, zz⟩ := sqO_of J isB
  refine zip_begins2 (begins_text z tz) (SqO.begins t2 b zs.toArray) trivial oz fun new c1 c2 c3 c4 c5 c6 stay => Calls.spliced_nil ?_
  obtain ⟨prs, kv, l1, each⟩ := zip_haveS (P := X.prog) (w := X.w) z rz
  have J1 : Inv X pins σ H1 { s1 with heap := new } := J.kept (t' := s1.toks) stay
  have apt := aptS_new (I := s1.heap.objs.size) oz.lt
  have quiet : X.A.handled = none := J.ok.hd calm
  have mn : min z.cps.size zs.toArray.size = prs.length := by
    rw [l1, List.size_toArray (as := zs)]
  have have_ : PairsHave (mixKind X.prog X.w) (min z.cps.size zs.toArray.size) (fun i k v => (∃ c u, z.cps[i]? = some c ∧ k = Value.str ⟨#[c]⟩ u) ∧ zs.toArray[i]? = some v) prs := by
    refine ⟨by rw [mn], fun j k v hj => ?_⟩
    obtain ⟨h1, h2⟩ := hj
    rw [List.getElem?_toArray] at h2
    exact each j k v h1 h2
  refine PySem.call_dict_pairs (s := { s1 with heap := new }) (knd := mixKind X.prog X.w) (kvs := prs) (pairArg_zipS t2 apt z tz zs.toArray) quiet ⟨c1, c2, ⟨_, _, c3⟩, ⟨_, c4, rfl, rfl⟩, SqI.start oz stay c5⟩ have_ (by rw [mn, l1]; omega) fun h' tk isD same => ?_
  have far : (new.objs.size == sysModules) = false := beq_eq_false_iff_ne.mpr (Nat.ne_of_gt J1.big)
  have fits : (mergeK [] ((signsK z).zip ys)).length ≤ sizeLine := by
    have z1 := length_mergeK ((signsK z).zip ys) []
    have z2 := kv.length
    rw [List.length_nil] at z1
    omega
  have new_ : ObjOk X.prog X.w (upd H1 new.objs.size (.dK (mergeK [] ((signsK z).zip ys)))) h' new.objs.size (.dK (mergeK [] ((signsK z).zip ys))) := ⟨fits, far, merged [] prs, KV.merge kv .nil, isD⟩
  have keep : ∀ b' o, s1.heap.get? b' = some o → h'.get? b' = some o := fun b' o e => same b' o (fun hm => by
    have lt := Heap.lt_size e
    simp only [List.mem_cons, List.not_mem_nil, or_false] at hm
    rcases hm with x | x | x | x <;> (rw [x] at lt; first | exact Nat.lt_irrefl _ lt | exact absurd lt (Nat.not_lt.mpr (Nat.le_add_right _ _)))) (stay b' o e)
  have up : s1.heap.objs.size ≤ new.objs.size := by omega
  exact ⟨.ref new.objs.size, _, J.laid (t' := tk) keep up new_, rfl, q _ (J.hok.fresh up)⟩
end Dw
end
section
/-! the mathematics of renaming, over plain lists of natural numbers -/
namespace M20
/-- the k-th, 0 where there is none -/
abbrev g (l : List Nat) (k : Nat) : Nat := l.getD k 0
theorem g_eq {l : List Nat} {k : Nat} (h : k < l.length) : l[k]? = some (g l k) := by
  show l[k]? = some (l.getD k 0)
  rw [List.getD_eq_getElem?_getD, List.getElem?_eq_getElem h]
  rfl
theorem ext {l m : List Nat} (h : l.length = m.length) (e : ∀ k, k < l.length → g l k = g m k) : l = m := by
  apply List.ext_getElem? 
  intro k
  by_cases hk : k < l.length
  · rw [g_eq hk, g_eq (h ▸ hk), e k hk]
  · rw [List.getElem?_eq_none_iff.mpr (by omega), List.getElem?_eq_none_iff.mpr (by omega)]
/-- what is called k -/
def bk (o : List Nat) : List Nat := (List.range o.length).map fun k => o.idxOf k
/-! a table of a deed of p places over n numbers -/
structure Tab (n p : Nat) (t : List Nat) : Prop where
  len : t.length = n ^ p
  low : ∀ k, k < n ^ p → g t k < n
theorem mul_lt {n a b : Nat} (ha : a < n) (hb : b < n) : a * n + b < n * n := by
  have : (a + 1) * n ≤ n * n := Nat.mul_le_mul_right n ha
  rw [Nat.add_mul, Nat.one_mul] at this
  omega
/-! the law's own way: each number of the table put at its place -/
def spot (n p : Nat) (o : List Nat) (k : Nat) : Nat := g o (k % n) * (if 0 < p then 1 else 0) + g o (k / n % n) * n * (if p = 2 then 1 else 0)
/-- the first k numbers put -/
def led (n p : Nat) (o t : List Nat) : Nat → List Nat
  | 0 => t
  | k + 1 => (led n p o t k).set (spot n p o k) (g o (g t k))
end M20
end
section
namespace K80
open PySem PySem.Spec PyProof.Rows L2 Evl Dw M20
open C8 (fnScope_by)
/-! ### the text -/
def topS (i : Nat) : Stmt := PySem.Challenge.pw_deedworlds_k80_terms_and_models_read.main.body.getD i (.Pass ⟨0, 0, 0, 0⟩)
abbrev s_is_whole : Stmt := topS 8
theorem sc_is_whole : FnScope ["thing"] ["thing"] (defScope s_is_whole) := fnScope_by (by decide +kernel)
abbrev s_is_below : Stmt := topS 9
theorem sc_is_below : FnScope ["thing", "size"] ["thing", "size"] (defScope s_is_below) := fnScope_by (by decide +kernel)
abbrev s_power : Stmt := topS 10
theorem sc_power : FnScope ["base", "many", "told", "step"] ["base", "many"] (defScope s_power) := fnScope_by (by decide +kernel)
abbrev s_table_of : Stmt := topS 12
theorem sc_table_of : FnScope ["signature", "tables", "name", "deed", "table"] ["signature", "tables", "name"] (defScope s_table_of) := fnScope_by (by decide +kernel)
abbrev s_letter_column : Stmt := topS 13
theorem sc_letter_column : FnScope ["size", "many", "at", "step", "row"] ["size", "many", "at"] (defScope s_letter_column) := fnScope_by (by decide +kernel)
abbrev s_term_column : Stmt := topS 14
theorem sc_term_column : FnScope ["signature", "model", "term", "letters", "size", "tables", "table", "columns", "part", "number", "one", "other"] ["signature", "model", "term", "letters"] (defScope s_term_column) := fnScope_by (by decide +kernel)
abbrev s_variables_met : Stmt := topS 16
theorem sc_variables_met : FnScope ["term", "met", "todo", "part"] ["term"] (defScope s_variables_met) := fnScope_by (by decide +kernel)
abbrev s_variables_of : Stmt := topS 17
theorem sc_variables_of : FnScope ["terms", "met", "term"] ["terms"] (defScope s_variables_of) := fnScope_by (by decide +kernel)
abbrev s_exchanged : Stmt := topS 18
theorem sc_exchanged : FnScope ["term", "putting", "terms", "part"] ["term", "putting"] (defScope s_exchanged) := fnScope_by (by decide +kernel)
abbrev s_grown_many : Stmt := topS 19
theorem sc_grown_many : FnScope ["term", "grown_by", "many", "todo", "part"] ["term", "grown_by"] (defScope s_grown_many) := fnScope_by (by decide +kernel)
abbrev s_is_name : Stmt := topS 28
theorem sc_is_name : FnScope ["thing", "sign"] ["thing"] (defScope s_is_name) := fnScope_by (by decide +kernel)
abbrev s_is_deed : Stmt := topS 29
theorem sc_is_deed : FnScope ["thing"] ["thing"] (defScope s_is_deed) := fnScope_by (by decide +kernel)
abbrev s_signature_wrong : Stmt := topS 30
theorem sc_signature_wrong : FnScope ["thing", "k", "deed", "names", "name"] ["thing"] (defScope s_signature_wrong) := fnScope_by (by decide +kernel)
abbrev s_need_signature : Stmt := topS 31
theorem sc_need_signature : FnScope ["signature"] ["signature"] (defScope s_need_signature) := fnScope_by (by decide +kernel)
abbrev s_has_term_form : Stmt := topS 32
theorem sc_has_term_form : FnScope ["places", "thing", "name", "terms"] ["places", "thing"] (defScope s_has_term_form) := fnScope_by (by decide +kernel)
abbrev s_wrong_in_term : Stmt := topS 33
theorem sc_wrong_in_term : FnScope ["places", "thing", "many", "todo", "path", "part", "k"] ["places", "thing"] (defScope s_wrong_in_term) := fnScope_by (by decide +kernel)
abbrev s_term_wrong : Stmt := topS 34
theorem sc_term_wrong : FnScope ["signature", "thing"] ["signature", "thing"] (defScope s_term_wrong) := fnScope_by (by decide +kernel)
abbrev s_need_term : Stmt := topS 35
theorem sc_need_term : FnScope ["signature", "term"] ["signature", "term"] (defScope s_need_term) := fnScope_by (by decide +kernel)
abbrev s_is_size : Stmt := topS 37
theorem sc_is_size : FnScope ["thing"] ["thing"] (defScope s_is_size) := fnScope_by (by decide +kernel)
abbrev s_first_odd_cell : Stmt := topS 38
theorem sc_first_odd_cell : FnScope ["size", "tables", "k", "table", "at", "number"] ["size", "tables"] (defScope s_first_odd_cell) := fnScope_by (by decide +kernel)
abbrev s_model_wrong : Stmt := topS 39
theorem sc_model_wrong : FnScope ["signature", "thing", "size", "tables", "k", "deed", "odd"] ["signature", "thing"] (defScope s_model_wrong) := fnScope_by (by decide +kernel)
abbrev s_need_model : Stmt := topS 40
theorem sc_need_model : FnScope ["signature", "model"] ["signature", "model"] (defScope s_need_model) := fnScope_by (by decide +kernel)
abbrev s_is_reading_of_deed : Stmt := topS 42
theorem sc_is_reading_of_deed : FnScope ["places", "others", "thing", "name"] ["places", "others", "thing"] (defScope s_is_reading_of_deed) := fnScope_by (by decide +kernel)
abbrev s_reading_wrong : Stmt := topS 43
theorem sc_reading_wrong : FnScope ["signature", "other", "thing", "others", "k", "deed"] ["signature", "other", "thing"] (defScope s_reading_wrong) := fnScope_by (by decide +kernel)
abbrev s_need_reading : Stmt := topS 44
theorem sc_need_reading : FnScope ["signature", "other", "reading"] ["signature", "other", "reading"] (defScope s_need_reading) := fnScope_by (by decide +kernel)
abbrev s_reading_by_names : Stmt := topS 45
theorem sc_reading_by_names : FnScope ["signature", "reading", "deed", "term"] ["signature", "reading"] (defScope s_reading_by_names) := fnScope_by (by decide +kernel)
abbrev s_parts_read : Stmt := topS 46
theorem sc_parts_read : FnScope ["by_names", "term", "told", "grown_by", "letter", "inner"] ["by_names", "term"] (defScope s_parts_read) := fnScope_by (by decide +kernel)
abbrev s_read_by : Stmt := topS 47
theorem sc_read_by : FnScope ["by_names", "term", "told", "wanted", "putting", "letter", "inner"] ["by_names", "term"] (defScope s_read_by) := fnScope_by (by decide +kernel)
abbrev s_small_read_by : Stmt := topS 48
theorem sc_small_read_by : FnScope ["by_names", "term"] ["by_names", "term"] (defScope s_small_read_by) := fnScope_by (by decide +kernel)
abbrev s_term_read : Stmt := topS 49
theorem sc_term_read : FnScope ["signature", "other", "reading", "term"] ["signature", "other", "reading", "term"] (defScope s_term_read) := fnScope_by (by decide +kernel)
abbrev s_model_read : Stmt := topS 50
theorem sc_model_read : FnScope ["signature", "other", "reading", "model", "tables", "deed", "term"] ["signature", "other", "reading", "model"] (defScope s_model_read) := fnScope_by (by decide +kernel)
abbrev s_two_read : Stmt := topS 51
theorem sc_two_read : FnScope ["first", "second", "third", "one", "two", "by_names", "term"] ["first", "second", "third", "one", "two"] (defScope s_two_read) := fnScope_by (by decide +kernel)
abbrev s__law_mixed : Stmt := topS 53
theorem sc__law_mixed : FnScope ["_law_cell", "_law_k", "_law_number"] ["_law_cell", "_law_k"] (defScope s__law_mixed) := fnScope_by (by decide +kernel)
abbrev s__law_pile : Stmt := topS 54
theorem sc__law_pile : FnScope ["_law_script", "_law_k", "_law_cell", "_law_digits"] ["_law_script", "_law_k"] (defScope s__law_pile) := fnScope_by (by decide +kernel)
abbrev s__law_take : Stmt := topS 55
theorem sc__law_take : FnScope ["_law_pile_here", "_law_many", "_law_digit"] ["_law_pile_here", "_law_many"] (defScope s__law_take) := fnScope_by (by decide +kernel)
abbrev s__law_order : Stmt := topS 56
theorem sc__law_order : FnScope ["_law_pile_here", "_law_some", "_law_left", "_law_found"] ["_law_pile_here", "_law_some"] (defScope s__law_order) := fnScope_by (by decide +kernel)
abbrev s__law_word : Stmt := topS 57
theorem sc__law_word : FnScope ["_law_pile_here", "_law_letters_here", "_law_word_here", "_law_k"] ["_law_pile_here"] (defScope s__law_word) := fnScope_by (by decide +kernel)
abbrev s__law_signature : Stmt := topS 58
theorem sc__law_signature : FnScope ["_law_pile_here", "_law_names", "_law_k", "_law_word_here", "_law_found", "_law_one"] ["_law_pile_here"] (defScope s__law_signature) := fnScope_by (by decide +kernel)
abbrev s__law_term : Stmt := topS 59
theorem sc__law_term : FnScope ["_law_pile_here", "_law_sig", "_law_letters_here", "_law_depth", "_law_ends", "_law_deeds", "_law_name", "_law_places", "_law_x", "_law_deed", "_law_k"] ["_law_pile_here", "_law_sig", "_law_letters_here", "_law_depth"] (defScope s__law_term) := fnScope_by (by decide +kernel)
abbrev s__law_parts : Stmt := topS 60
theorem sc__law_parts : FnScope ["_law_term_here", "_law_found", "_law_k", "_law_piece", "_law_path", "_law_one"] ["_law_term_here"] (defScope s__law_parts) := fnScope_by (by decide +kernel)
abbrev s__law_put : Stmt := topS 62
theorem sc__law_put : FnScope ["_law_term_here", "_law_putting", "_law_piece"] ["_law_term_here", "_law_putting"] (defScope s__law_put) := fnScope_by (by decide +kernel)
abbrev s__law_reading : Stmt := topS 63
theorem sc__law_reading : FnScope ["_law_pile_here", "_law_sig", "_law_other", "_law_found", "_law_name", "_law_places"] ["_law_pile_here", "_law_sig", "_law_other"] (defScope s__law_reading) := fnScope_by (by decide +kernel)
abbrev s__law_read : Stmt := topS 64
theorem sc__law_read : FnScope ["_law_sig", "_law_how", "_law_term_here", "_law_own", "_law_parts_here", "_law_name", "_law_places", "_law_piece"] ["_law_sig", "_law_how", "_law_term_here"] (defScope s__law_read) := fnScope_by (by decide +kernel)
abbrev s__law_model : Stmt := topS 65
theorem sc__law_model : FnScope ["_law_pile_here", "_law_sig", "_law_most", "_law_size", "_law_tables", "_law_name", "_law_places", "_law_k"] ["_law_pile_here", "_law_sig", "_law_most"] (defScope s__law_model) := fnScope_by (by decide +kernel)
abbrev s__law_worth : Stmt := topS 66
theorem sc__law_worth : FnScope ["_law_sig", "_law_model_here", "_law_term_here", "_law_worths", "_law_cell", "_law_piece", "_law_name", "_law_places"] ["_law_sig", "_law_model_here", "_law_term_here", "_law_worths"] (defScope s__law_worth) := fnScope_by (by decide +kernel)
abbrev s__law_rows : Stmt := topS 67
theorem sc__law_rows : FnScope ["_law_many", "_law_size", "_law_found", "_law_turn", "_law_longer", "_law_row", "_law_number"] ["_law_many", "_law_size"] (defScope s__law_rows) := fnScope_by (by decide +kernel)
abbrev s__law_strange : Stmt := topS 68
theorem sc__law_strange : FnScope ["_law_pile_here", "_law_name", "_law_some"] ["_law_pile_here", "_law_name"] (defScope s__law_strange) := fnScope_by (by decide +kernel)
abbrev s__law_model_due : Stmt := topS 69
theorem sc__law_model_due : FnScope ["_law_sig", "_law_other", "_law_how", "_law_model_here", "_law_tables", "_law_k", "_law_name", "_law_places", "_law_table", "_law_row"] ["_law_sig", "_law_other", "_law_how", "_law_model_here"] (defScope s__law_model_due) := fnScope_by (by decide +kernel)
abbrev s__law_said : Stmt := topS 70
theorem sc__law_said : FnScope ["_law_sig", "_law_other", "_law_how", "_law_term_here"] ["_law_sig", "_law_other", "_law_how", "_law_term_here"] (defScope s__law_said) := fnScope_by (by decide +kernel)
abbrev s__law_doubled : Stmt := topS 71
theorem sc__law_doubled : FnScope ["_law_sig", "_law_other", "_law_how", "_law_term_here", "_law_due", "_law_turn"] [] (defScope s__law_doubled) := fnScope_by (by decide +kernel)
abbrev s__law_two_said : Stmt := topS 72
theorem sc__law_two_said : FnScope ["_law_first", "_law_second", "_law_third", "_law_one", "_law_two"] ["_law_first", "_law_second", "_law_third", "_law_one", "_law_two"] (defScope s__law_two_said) := fnScope_by (by decide +kernel)
abbrev s__law_chain : Stmt := topS 73
theorem sc__law_chain : FnScope ["_law_name", "_law_many", "_law_term_here", "_law_k"] ["_law_name", "_law_many", "_law_term_here"] (defScope s__law_chain) := fnScope_by (by decide +kernel)
abbrev s__law_sizes_right : Stmt := topS 74
theorem sc__law_sizes_right : FnScope ["_law_sig", "_law_other", "_law_third", "_law_u", "_law_c", "_law_e", "_law_r", "_law_most", "_law_one", "_law_two"] [] (defScope s__law_sizes_right) := fnScope_by (by decide +kernel)
abbrev s__law_refused : Stmt := topS 75
theorem sc__law_refused : FnScope ["_law_pile_here", "_law_first", "_law_second", "_law_how", "_law_model_here", "_law_thing", "_law_size", "_law_tables", "_law_error", "_law_e"] ["_law_pile_here", "_law_first", "_law_second", "_law_how", "_law_model_here"] (defScope s__law_refused) := fnScope_by (by decide +kernel)
abbrev s_law : Stmt := topS 76
theorem sc_law : FnScope ["_law_script", "_law_k", "_law_pile_here", "_law_first", "_law_second", "_law_third", "_law_one", "_law_two", "_law_model_here", "_law_terms", "_law_kept", "_law_term_here", "_law_due", "_law_both", "_law_j", "_law_piece"] ["_law_script"] (defScope s_law) := fnScope_by (by decide +kernel)
/-- what the module's names hold -/
structure Txt (mg : Str → Option Value) : Prop where
  z_ValueError : mg "ValueError" = none
  z_abs : mg "abs" = none
  z_all : mg "all" = none
  z_bool : mg "bool" = none
  z_dict : mg "dict" = none
  z_enumerate : mg "enumerate" = none
  z_int : mg "int" = none
  z_isinstance : mg "isinstance" = none
  z_len : mg "len" = none
  z_list : mg "list" = none
  z_range : mg "range" = none
  z_reversed : mg "reversed" = none
  z_set : mg "set" = none
  z_sorted : mg "sorted" = none
  z_str : mg "str" = none
  z_tuple : mg "tuple" = none
  z_zip : mg "zip" = none
  c_NAME_LETTERS : ∃ t, mg "NAME_LETTERS" = some (.str "abcdefghijklmnopqrst" t)
  c_MOST_NAME : ∃ t, mg "MOST_NAME" = some (.int 4 t)
  c_MOST_DEEDS : ∃ t, mg "MOST_DEEDS" = some (.int 4 t)
  c_MOST_PLACES : ∃ t, mg "MOST_PLACES" = some (.int 2 t)
  c_MOST_PARTS : ∃ t, mg "MOST_PARTS" = some (.int 60 t)
  c_MOST_SIZE : ∃ t, mg "MOST_SIZE" = some (.int 6 t)
section
variable {X : Cx} {x : Str} {pos : Pos}
theorem pe_gi {i : Int} (hg : Gl X x) (h : ∃ t, X.mg x = some (.int i t)) (hn : x ≠ "__name__" := by decide) (hd : (x == ("__debug__" : Str)) = false := by decide) : PE X (.Name x pos) (tC (.int i)) := by
  obtain ⟨t, e⟩ := h
  exact pe_glob hg e ⟨t, rfl⟩ (hd := hd)
theorem pe_gs {z : Str} (hg : Gl X x) (h : ∃ t, X.mg x = some (.str z t)) (hn : x ≠ "__name__" := by decide) (hd : (x == ("__debug__" : Str)) = false := by decide) : PE X (.Name x pos) (tC (.str z)) := by
  obtain ⟨t, e⟩ := h
  exact pe_glob hg e ⟨t, rfl⟩ (hd := hd)
theorem pe_ty (n : String) (hg : Gl X x) (hm : X.mg x = none) (hv : bootBuiltins x = some (.type n)) (hn : x ≠ "__name__" := by decide) (hd : (x == ("__debug__" : Str)) = false := by decide) : PE X (.Name x pos) (tC (.ty n)) := pe_bltn hg hm hv rfl (hn := hn) (hd := hd)
theorem ip_mul : PIp X .Mult (rI CMul fun i j => .int (i * j)) := iop_mul
end
section
variable {P : Program} {w : World} {K : PySem.W.Frag} {mg : Str → Option Value} {base : Heap}
/-! ### is_whole, is_below, power -/
def sp_is_whole : Sp := spX (fun (i : Int) vs _ => vs = [.int i]) (fun _ v _ => v = .bl true)
theorem c_is_whole (T : Txt mg) (D : Df K mg "is_whole" s_is_whole ["thing"]) : Cl P w K mg base 1 "is_whole" sp_is_whole := by
  refine cl_of (k := 0) D sc_is_whole (fun vs H Q E h => ?_) (fun f cdv A outer s H vs Q E hr h => ?_)
  · obtain ⟨i, rfl, _⟩ := h
    rfl
  · obtain ⟨i, rfl, q⟩ := h
    refine ⟨_, (pss_one (ps_ret (pe_and (pe_callB call_isi (by rfl) T.z_isinstance (by decide +kernel) (pa_cons (pv 0) (pa_cons (pe_ty "int" (by rfl) T.z_int (by decide +kernel)) pa_nil))) (pe_one (pe_not (pe_callB call_isi (by rfl) T.z_isinstance (by decide +kernel) (pa_cons (pv 0) (pa_cons (pe_ty "bool" (by rfl) T.z_bool (by decide +kernel)) pa_nil)))))))), ?_⟩
    exact s_ret (ev_andV (ev_isi (ev_var rfl) ev_c (.ty _) (fun _ _ => tyx_int i) kit_ii) (fun _ => ev_notV (ev_isi (ev_var rfl) ev_c (.ty _) (fun _ _ => tyx_int i) kit_ib))) fun H1 e => q _ H1 e rfl
def sp_is_below : Sp := spX (fun (p : Int × Int) vs _ => vs = [.int p.1, .int p.2] ∧ 0 ≤ p.1 ∧ p.1 < p.2) (fun _ v _ => v = .bl true)
theorem c_is_below (T : Txt mg) (D : Df K mg "is_below" s_is_below ["thing", "size"]) (c_is_whole : Cl P w K mg base 1 "is_whole" sp_is_whole) : Cl P w K mg base 2 "is_below" sp_is_below := by
  refine cl_of (k := 1) D sc_is_below (fun vs H Q E h => ?_) (fun f cdv A outer s H vs Q E hr h => ?_)
  · obtain ⟨p, ⟨rfl, _⟩, _⟩ := h
    rfl
  · obtain ⟨⟨i, n⟩, ⟨rfl, h0, h1⟩, q⟩ := h
    refine ⟨_, (pss_one (ps_ret (pe_and (pe_cl c_is_whole hr (by first | decide | omega) (by rfl) (pa_cons (pv 0) pa_nil)) (pe_one (pe_chain op_le op_lt pe_int (pv 0) (pv 1)))))), ?_⟩
    refine s_ret (ev_andV (ev_callV (v := .bl true) i (ea_cons (ev_var rfl) ea_nil) (fun _ _ => rfl) (fun _ _ p => p)) (fun _ => ev_chain ev_c (ev_var rfl) (fun _ => ev_var rfl) rv_I0 (fun _ => rv_I0))) fun H1 e => q _ H1 e ?_
    show V.bl (true && (decide (0 ≤ i) && decide (i < n))) = _
    rw [decide_eq_true h0, decide_eq_true h1]
    rfl
def sp_power : Sp := spX (fun (p : Nat × Nat) vs _ => vs = [vi p.1, vi p.2] ∧ p.1 ≤ 6 ∧ p.2 ≤ 4) (fun p v _ => v = vi (p.1 ^ p.2))
theorem c_power (T : Txt mg) (D : Df K mg "power" s_power ["base", "many"]) : Cl P w K mg base 1 "power" sp_power := by
  refine cl_of (k := 0) D sc_power (fun vs H Q E h => ?_) (fun f cdv A outer s H vs Q E hr h => ?_)
  · obtain ⟨p, ⟨rfl, _⟩, _⟩ := h
    rfl
  · obtain ⟨⟨b, m⟩, ⟨rfl, hb, hm⟩, q⟩ := h
    refine ⟨_, (pss_cons (ps_set (i := 2) sc_power.nd rfl (.inl rfl) pe_int)
      (pss_cons (ps_for PassesOwn.never (by rfl) (pi_range1 (by rfl) T.z_range (pa_cons (pv 1) pa_nil)) (pg_name (i := 3) sc_power.nd rfl (.inl rfl))
        (pss_one (ps_aug (i := 2) sc_power.nd rfl (.inl rfl) (pv 0) ip_mul)))
      (pss_one (ps_ret (pv 2))))), ?_⟩
    refine q_asg ev_c fun H1 e1 => ?_
    refine q_forR1 (ea_cons (ev_var rfl) ea_nil) (by omega) (fun i σ H' => ∃ y, σ = [some (vi b), some (vi m), some (vi (b ^ i)), y] ∧ Ex H H') (fun H2 e2 => ⟨none, rfl, e1.trans e2⟩) (fun i σ H' hi ⟨y, hσ, e⟩ => ?_) (fun σ H' ⟨y, hσ, e⟩ => ?_)
    · subst hσ
      refine ⟨_, rfl, _, rfl, ((b ^ i : Nat) : Int), (b : Int), rfl, rfl, .inr ⟨by omega, by omega⟩, some (vi i), ?_, e⟩
      show [some (vi b), some (vi m), some (.int (((b ^ i : Nat) : Int) * (b : Int))), some (vi i)] = [some (vi b), some (vi m), some (vi (b ^ (i + 1))), some (vi i)]
      rw [Nat.pow_succ]
      show _ = [some (vi b), some (vi m), some (.int ((b ^ i * b : Nat) : Int)), some (vi i)]
      rw [Int.natCast_mul]
    · subst hσ
      exact s_ret (ev_var rfl) fun H2 e2 => q _ H2 (e.trans e2) rfl
end
end K80
end
section
namespace K80
open PySem PySem.Spec PyProof.Rows L2 Evl Dw M20
section
variable {P : Program} {w : World} {K : PySem.W.Frag} {mg : Str → Option Value} {base : Heap}
theorem ix_tupK {X : Cx} (K : PySem.W.Frag) (h : X.K = K := by rfl) : IxR X (rIxT K) := by
  subst h
  exact ix_tup
/-! ### names, deeds, signatures -/
def letters : Str := "abcdefghijklmnopqrst"
structure Name (z : Str) : Prop where
  l1 : 1 ≤ z.length
  l4 : z.length ≤ 4
  abc : ∀ c ∈ z.cps.toList, c ∈ letters.cps.toList
def sp_is_name : Sp := spX (fun (z : Str) vs _ => vs = [.str z] ∧ Name z) (fun _ v _ => v = .bl true)
theorem c_is_name (T : Txt mg) (D : Df K mg "is_name" s_is_name ["thing"]) : Cl P w K mg base 1 "is_name" sp_is_name := by
  refine cl_of (k := 0) D sc_is_name (fun vs H Q E h => ?_) (fun f cdv A outer s H vs Q E hr h => ?_)
  · obtain ⟨p, ⟨rfl, _⟩, _⟩ := h
    rfl
  · obtain ⟨z, ⟨rfl, hz⟩, q⟩ := h
    refine ⟨_, (pss_cons (ps_if (PW.pt (pw_or (pt_not (pt_val (pe_callB call_isi (by rfl) T.z_isinstance (by decide +kernel) (pa_cons (pv 0) (pa_cons (pe_ty "str" (by rfl) T.z_str (by decide +kernel)) pa_nil))))) (pw_or1 (pt_not (pt_chain op_le op_le pe_int (pe_callB call_len_str (by rfl) T.z_len PySem.boot_len (pa_cons (pv 0) pa_nil)) (pe_gi (by rfl) T.c_MOST_NAME))))))
        (pss_one (ps_ret pe_bl))
        pss_nil)
      (pss_one (ps_ret (pe_callB (cr_all rfl) (by rfl) T.z_all (by decide +kernel) (pa_cons (pe_lc (own := [("sign", 1)]) (g := (gName 1)) (by rfl) sc_is_name.nd (pi_str (pv 0)) (blkOk_by (own := [("sign", 1)]) (N := ["thing", "sign"]) (sc := defScope s_is_name) (by decide +kernel)) (fun _ _ _ _ _ => (pg_name (i := 1) sc_is_name.nd rfl (.inl rfl))) (fun _ _ _ _ _ => pts_nil) (fun _ _ _ _ _ => (pe_cmpR op_in_sign (pv 1) (pe_gs (by rfl) T.c_NAME_LETTERS) (by rfl)))) pa_nil))))), ?_⟩
    have h1 := hz.l1
    have h4 := hz.l4
    have hs : z.cps.size = z.length := rfl
    refine q_when (b := false) (et_is (et_or (et_not (et_val (ev_isi (ev_var rfl) ev_c (.ty _) (fun _ _ => tyx_str z) kit_ss))) (fun _ => et_not (et_test (ev_chain ev_c (ev_lenS (ev_var rfl) (by omega)) (fun _ => ev_c) rv_I0 (fun _ => rv_I0))))) ?_) (fun hb => by cases hb) (fun _ H1 e1 => ?_)
    · show (!true || !(decide ((1 : Int) ≤ (z.length : Int)) && decide ((z.length : Int) ≤ 4))) = false
      rw [decide_eq_true (by omega), decide_eq_true (by omega)]
      rfl
    · refine s_ret (ev_all (bs := List.replicate z.cps.size true) ?_) fun H2 e2 => q _ H2 (e1.trans e2) ?_
      · have e : (List.replicate z.cps.size true).map V.bl = (List.range z.cps.size).map (fun _ => V.bl true) := by
          rw [List.map_const', List.length_range, List.map_replicate]
        rw [e]
        refine el_lcS (ev_var rfl) (fun _ => .bl true) (by omega) (fun _ => rfl) (fun i c H2 e2 hc => ?_)
        refine ev_op (ev_var rfl) ev_c ?_
        have hm : c ∈ letters.cps.toList := hz.abc c (by
          obtain ⟨hi, e⟩ := Array.getElem?_eq_some_iff.mp hc
          rw [← e]
          exact Array.getElem_mem_toList hi)
        exact fun H3 _ Q q3 => ⟨c, letters, rfl, rfl, by rw [decide_eq_true hm]; exact q3 H3 (Ex.refl H3)⟩
      · show V.bl ((List.replicate z.cps.size true).all id) = V.bl true
        rw [show (List.replicate z.cps.size true).all id = true from List.all_eq_true.mpr (fun b hb => (List.mem_replicate.mp hb).2)]
def sp_is_deed (K : PySem.W.Frag) : Sp := spX (fun (p : Str × Nat) vs H => (∃ v, vs = [v] ∧ Deed K H v p) ∧ Name p.1 ∧ p.2 ≤ 2) (fun _ v _ => v = .bl true)
theorem c_is_deed (T : Txt mg) (D : Df K mg "is_deed" s_is_deed ["thing"]) (c_is_name : Cl P w K mg base 1 "is_name" sp_is_name) (c_is_below : Cl P w K mg base 2 "is_below" sp_is_below) : Cl P w K mg base 3 "is_deed" (sp_is_deed K) := by
  refine cl_of (k := 2) D sc_is_deed (fun vs H Q E h => ?_) (fun f cdv A outer s H vs Q E hr h => ?_)
  · obtain ⟨p, ⟨⟨v, rfl, _⟩, _⟩, _⟩ := h
    rfl
  · obtain ⟨⟨z, p⟩, ⟨⟨v, rfl, b, rfl, hb⟩, hz, hp⟩, q⟩ := h
    refine ⟨_, (pss_one (ps_ret (pe_and (pe_callB call_isi (by rfl) T.z_isinstance (by decide +kernel) (pa_cons (pv 0) (pa_cons (pe_ty "tuple" (by rfl) T.z_tuple (by decide +kernel)) pa_nil))) (pe_and (pe_cmpR op_eq (pe_callB call_len_seq (by rfl) T.z_len PySem.boot_len (pa_cons (pv 0) pa_nil)) pe_int (nomark _)) (pe_and (pe_cl c_is_name hr (by first | decide | omega) (by rfl) (pa_cons (pe_ix ix_tup (pv 0) pe_int (fun _ _ => rfl)) pa_nil)) (pe_one (pe_cl c_is_below hr (by first | decide | omega) (by rfl) (pa_cons (pe_ix ix_tup (pv 0) pe_int (fun _ _ => rfl)) (pa_cons (pe_op op_add (pe_gi (by rfl) T.c_MOST_PLACES) pe_int) pa_nil))))))))), ?_⟩
    refine s_ret (ev_andV (ev_isi (ev_var rfl) ev_c (.ty _) (fun _ e => tyx_tup (ex_t e hb)) kit_tt) (fun _ => ev_andV (ev_op (ev_lenT (ev_var rfl) hb) ev_c (rv_eq rfl)) (fun _ =>
      ev_andV (ev_callV (v := .bl true) z (ea_cons (ev_op (ev_var rfl) ev_c (rv_ixT hb (atI_vi (k := 0) rfl))) ea_nil) (fun _ _ => ⟨rfl, hz⟩) (fun _ _ p => p)) (fun _ =>
        ev_callV (v := .bl true) (((p : Nat) : Int), (3 : Int)) (ea_cons (ev_op (ev_var rfl) ev_c (rv_ixT hb (atI_vi (k := 1) rfl))) (ea_cons (ev_op ev_c ev_c rv_I0) ea_nil)) (fun _ _ => ⟨rfl, by show (0 : Int) ≤ (p : Int); omega, by show (p : Int) < 3; have : p ≤ 2 := hp; omega⟩) (fun _ _ p => p))))) fun H1 e => q _ H1 e rfl
/-- a signature as the law draws it -/
structure SigOk (sg : List (Str × Nat)) : Prop where
  l1 : 1 ≤ sg.length
  l4 : sg.length ≤ 4
  nm : ∀ p ∈ sg, Name p.1
  pl : ∀ p ∈ sg, p.2 ≤ 2
  nd : (sg.map (·.1)).Nodup
def sp_signature_wrong (K : PySem.W.Frag) : Sp := spX (fun (sg : List (Str × Nat)) vs H => (∃ v, vs = [v] ∧ Sig K H v sg) ∧ SigOk sg) (fun _ v _ => v = .non)
theorem c_signature_wrong (T : Txt mg) (D : Df K mg "signature_wrong" s_signature_wrong ["thing"]) (c_is_deed : Cl P w K mg base 3 "is_deed" (sp_is_deed K)) : Cl P w K mg base 4 "signature_wrong" (sp_signature_wrong K) := by
  refine cl_of (k := 3) D sc_signature_wrong (fun vs H Q E h => ?_) (fun f cdv A outer s H vs Q E hr h => ?_)
  · obtain ⟨p, ⟨⟨v, rfl, _⟩, _⟩, _⟩ := h
    rfl
  · obtain ⟨sg, ⟨⟨v, rfl, a, us, rfl, hS, hP⟩, ok⟩, q⟩ := h
    refine ⟨_, (pss_cons (ps_if (PW.pt (pw_or (pt_not (pt_val (pe_callB call_isi (by rfl) T.z_isinstance (by decide +kernel) (pa_cons (pv 0) (pa_cons (pe_ty "tuple" (by rfl) T.z_tuple (by decide +kernel)) pa_nil))))) (pw_or1 (pt_not (pt_chain op_le op_le pe_int (pe_callB call_len_seq (by rfl) T.z_len PySem.boot_len (pa_cons (pv 0) pa_nil)) (pe_gi (by rfl) T.c_MOST_DEEDS))))))
        (pss_one (ps_ret (pe_tup (pa_cons pe_str pa_nil))))
        pss_nil)
      (pss_cons (ps_for PassesOwn.never (by rfl) (pi_enumT (by rfl) T.z_enumerate (pa_cons (pv 0) pa_nil)) (pg_tup (by rfl) (pgs_cons (pg_name (i := 1) sc_signature_wrong.nd rfl (.inl rfl)) (pgs_cons (pg_name (i := 2) sc_signature_wrong.nd rfl (.inl rfl)) pgs_nil)))
        (pss_one (ps_if (pt_not (pt_val (pe_cl c_is_deed hr (by first | decide | omega) (by rfl) (pa_cons (pv 2) pa_nil))))
          (pss_one (ps_ret (pe_tup (pa_cons pe_str (pa_cons (pv 1) pa_nil)))))
          pss_nil)))
      (pss_cons (ps_setLc (i := 3) (own := [("deed", 2)]) (g := (gName 2)) (by rfl) sc_signature_wrong.nd rfl rfl (sw_true rfl rfl rfl (by decide +kernel)) (pi_tup (pv 0)) (blkOk_by (own := [("deed", 2)]) (N := ["thing", "k", "deed", "names", "name"]) (sc := defScope s_signature_wrong) (by decide +kernel)) (fun _ _ _ _ _ => (pg_name (i := 2) sc_signature_wrong.nd rfl (.inl rfl))) (fun _ _ _ _ _ => pts_nil) (fun _ _ _ _ _ => (pe_ix (ix_tupK K) (pv 2) pe_int (fun _ _ => rfl))))
      (pss_cons (ps_for PassesOwn.never (by rfl) (pi_enum (by rfl) T.z_enumerate (pa_cons (pv 3) pa_nil)) (pg_tup (by rfl) (pgs_cons (pg_name (i := 1) sc_signature_wrong.nd rfl (.inl rfl)) (pgs_cons (pg_name (i := 4) sc_signature_wrong.nd rfl (.inl rfl)) pgs_nil)))
        (pss_one (ps_if (pt_cmpR op_in_seq (pv 4) (pe_slice sl_list (pv 3) po_none (po_some (pv 1))) (by rfl))
          (pss_one (ps_ret (pe_tup (pa_cons pe_str (pa_cons (pv 1) pa_nil)))))
          pss_nil)))
      (pss_one (ps_ret pe_non)))))), ?_⟩
    have h1 := ok.l1
    have h4 := ok.l4
    have hl : us.length = sg.length := paired_len hP
    refine q_when (b := false) (et_is (et_or (et_not (et_val (ev_isi (ev_var rfl) ev_c (.ty _) (fun _ e => tyx_tup (ex_t e hS)) kit_tt))) (fun _ => et_not (et_test (ev_chain ev_c (ev_lenT (ev_var rfl) hS) (fun _ => ev_c) rv_I0 (fun _ => rv_I0))))) ?_) (fun hb => by cases hb) (fun _ H1 e1 => ?_)
    · show (!true || !(decide ((1 : Int) ≤ (us.length : Int)) && decide ((us.length : Int) ≤ 4))) = false
      rw [decide_eq_true (by omega), decide_eq_true (by omega)]
      rfl
    -- each is a deed
    refine q_enumT (ea_cons (ev_var rfl) ea_nil) (ex_t e1 hS) (fun i σ H' => Ex H H' ∧ ∃ y1 y2, σ = [some (.ref a), y1, y2, none, none]) (fun H2 e2 => ⟨e1.trans e2, none, none, rfl⟩) (fun i σ H' _ ⟨e, _⟩ => ex_t e hS) (fun i x σ H2 H3 hx ⟨e, y1, y2, hσ⟩ e3 => ?_) (fun σ H2 ⟨e2, y1, y2, hσ⟩ => ?_)
    · subst hσ
      have hi : i < sg.length := by rw [← hl]; exact (List.getElem?_eq_some_iff.mp hx).1
      obtain ⟨x', ex', dx⟩ := paired_get hP (List.getElem?_eq_getElem hi)
      have : x' = x := Option.some.inj (ex'.symm.trans hx)
      subst this
      have hm : sg[i] ∈ sg := List.getElem_mem hi
      have e03 : Ex H H3 := e.trans e3
      refine s_when (b := false) (et_is (et_not (et_val (ev_callV (v := .bl true) sg[i] (ea_cons (ev_var rfl) ea_nil) (fun H4 e4 => ⟨⟨_, rfl, dx.et (Dw.Ex.et (e03.trans e4))⟩, ok.nm _ hm, ok.pl _ hm⟩) (fun _ _ p => p)))) rfl) (fun hb => by cases hb) (fun _ H4 e4 => ⟨e03.trans e4, _, _, rfl⟩)
    · subst hσ
      -- the names
      have names : EvL (tLc (iTup K (tVar 0)) (gName 2) tYes (tOp (rIxT K) (tVar 2) (tC (.int 0))) [2]) [some (.ref a), y1, y2, none, none] H2 ((List.range us.length).map fun i => .str (sg.getD i ("", 0)).1) := by
        refine el_lcT (ev_var rfl) (ex_t e2 hS) _ (by omega) (fun _ => rfl) (fun i x H3 e3 hx => ?_)
        have hi : i < sg.length := by rw [← hl]; exact (List.getElem?_eq_some_iff.mp hx).1
        obtain ⟨x', ex', b, hb, hd⟩ := paired_get hP (List.getElem?_eq_getElem hi)
        have : x' = x := Option.some.inj (ex'.symm.trans hx)
        subst this
        subst hb
        rw [List.getD_eq_getElem?_getD, List.getElem?_eq_getElem hi]
        exact ev_op (ev_var rfl) ev_c (rv_ixT (ex_t (e2.trans e3) hd) (atI_vi (k := 0) rfl))
      rw [hl] at names
      have eN : ((List.range sg.length).map fun i => V.str (sg.getD i ("", 0)).1) = (sg.map (·.1)).map V.str := by
        apply List.ext_getElem?
        intro i
        by_cases hi : i < sg.length
        · rw [List.getElem?_map, List.getElem?_range hi, List.getElem?_map, List.getElem?_map, List.getElem?_eq_getElem hi]
          show some (V.str (sg.getD i ("", 0)).1) = some (V.str sg[i].1)
          rw [List.getD_eq_getElem?_getD, List.getElem?_eq_getElem hi]
          rfl
        · rw [List.getElem?_eq_none_iff.mpr (by simp; omega), List.getElem?_eq_none_iff.mpr (by simp; omega)]
      rw [eN] at names
      refine q_asgL names fun p H3 np e3 hp => ?_
      have e03 : Ex H H3 := e2.trans e3
      refine q_enumL (K := K) (ea_cons (ev_var rfl) ea_nil) (sq_of hp) (fun i σ H' => Ex H3 H' ∧ ∃ z1 z4, σ = [some (.ref a), z1, y2, some (.ref p), z4]) (fun H4 e4 => ⟨e4, _, _, rfl⟩) (fun i σ H' _ ⟨e, _⟩ => ex_l e (sq_of hp)) (fun i x σ H4 H5 hx ⟨e4, z1, z4, hσ⟩ e5 => ?_) (fun σ H4 ⟨e4, z1, z4, hσ⟩ => ?_)
      · subst hσ
        have hi : i < (sg.map (·.1)).length := by simpa using (List.getElem?_eq_some_iff.mp hx).1
        have ex : x = .str (sg.map (·.1))[i] := by
          rw [List.getElem?_map, List.getElem?_eq_getElem hi] at hx
          exact (Option.some.inj hx).symm
        subst ex
        have cut : cutV ((sg.map (·.1)).map V.str) none (some (i : Int)) = ((sg.map (·.1)).take i).map V.str := by
          unfold cutV
          rw [HT.sIx_none, HT.sIx_nat, List.length_map, Nat.sub_zero, List.drop_zero, ← List.map_take, Nat.min_eq_left (Nat.le_of_lt hi)]
        have flat : (((sg.map (·.1)).take i).map V.str).all flatV = true := List.all_eq_true.mpr (fun v hv => by
          obtain ⟨z, _, rfl⟩ := List.mem_map.mp hv
          rfl)
        have out : inV (.str (sg.map (·.1))[i]) (((sg.map (·.1)).take i).map V.str) = false := by
          unfold inV
          rw [List.any_eq_false]
          intro v hv
          obtain ⟨z, hz, rfl⟩ := List.mem_map.mp hv
          show ¬ (z == (sg.map (·.1))[i]) = true
          intro he
          have he' : z = (sg.map (·.1))[i] := eq_of_beq he
          obtain ⟨j, hj, ej⟩ := List.mem_take_iff_getElem.mp hz
          have hji : j < i := by omega
          have := (List.getElem_inj ok.nd).mp (ej.trans he')
          omega
        have eL : Ex H3 H5 := e4.trans e5
        have sl : EvL (tSl (rSlL K) (tVar 3) tNoPart (tPart (tVar 1))) [some (.ref a), some (vi i), y2, some (.ref p), some (.str (sg.map (·.1))[i])] H5 (((sg.map (·.1)).take i).map V.str) := by
          rw [← cut]
          exact el_sl (ev_var rfl) eo_none (eo_some (ev_var rfl)) (ex_l eL (sq_of hp))
        exact s_when (b := false) (et_is (et_test (ev_opL (ev_var rfl) sl (fun r H6 hr6 _ => rv_isL (sq_of hr6) rfl flat))) out) (fun hb => by cases hb) (fun _ H6 e6 => ⟨eL.trans e6, _, _, rfl⟩)
      · subst hσ
        exact s_ret ev_c fun H5 e5 => q _ H5 ((e03.trans e4).trans e5) rfl
def sp_need_signature (K : PySem.W.Frag) : Sp := spX (fun (sg : List (Str × Nat)) vs H => (∃ v, vs = [v] ∧ Sig K H v sg) ∧ SigOk sg) (fun _ v _ => v = .non)
theorem c_need_signature (T : Txt mg) (D : Df K mg "need_signature" s_need_signature ["signature"]) (c_signature_wrong : Cl P w K mg base 4 "signature_wrong" (sp_signature_wrong K)) : Cl P w K mg base 5 "need_signature" (sp_need_signature K) := by
  refine cl_of (k := 4) D sc_need_signature (fun vs H Q E h => ?_) (fun f cdv A outer s H vs Q E hr h => ?_)
  · obtain ⟨p, ⟨⟨v, rfl, _⟩, _⟩, _⟩ := h
    rfl
  · obtain ⟨sg, ⟨⟨v, rfl, hS⟩, ok⟩, q⟩ := h
    refine ⟨_, (pss_one (ps_if (pt_cmpR op_notN (pe_cl c_signature_wrong hr (by first | decide | omega) (by rfl) (pa_cons (pv 0) pa_nil)) pe_non (nomark _))
        (pss_one ps_never)
        pss_nil)), ?_⟩
    exact s_when (b := false) (et_is (et_isN (ev_callV (v := .non) sg (ea_cons (ev_var rfl) ea_nil) (fun H1 e1 => ⟨⟨_, rfl, hS.ex e1⟩, ok⟩) (fun _ _ p => p))) rfl) (fun hb => by cases hb) (fun _ H1 e1 => q _ H1 e1 rfl)
/-! ### models looked at -/
def sp_is_size : Sp := spX (fun (n : Nat) vs _ => vs = [vi n] ∧ 1 ≤ n ∧ n ≤ 6) (fun _ v _ => v = .bl true)
theorem c_is_size (T : Txt mg) (D : Df K mg "is_size" s_is_size ["thing"]) (c_is_whole : Cl P w K mg base 1 "is_whole" sp_is_whole) : Cl P w K mg base 2 "is_size" sp_is_size := by
  refine cl_of (k := 1) D sc_is_size (fun vs H Q E h => ?_) (fun f cdv A outer s H vs Q E hr h => ?_)
  · obtain ⟨p, ⟨rfl, _⟩, _⟩ := h
    rfl
  · obtain ⟨n, ⟨rfl, h1, h6⟩, q⟩ := h
    refine ⟨_, (pss_one (ps_ret (pe_and (pe_cl c_is_whole hr (by first | decide | omega) (by rfl) (pa_cons (pv 0) pa_nil)) (pe_one (pe_chain op_le op_le pe_int (pv 0) (pe_gi (by rfl) T.c_MOST_SIZE)))))), ?_⟩
    refine s_ret (ev_andV (ev_callV (v := .bl true) (n : Int) (ea_cons (ev_var rfl) ea_nil) (fun _ _ => rfl) (fun _ _ p => p)) (fun _ => ev_chain ev_c (ev_var rfl) (fun _ => ev_c) rv_I0 (fun _ => rv_I0))) fun H1 e => q _ H1 e ?_
    show V.bl (true && (decide ((1 : Int) ≤ (n : Int)) && decide ((n : Int) ≤ 6))) = _
    rw [decide_eq_true (by omega), decide_eq_true (by omega)]
    rfl
def sp_first_odd_cell (K : PySem.W.Frag) : Sp := spX (fun (p : Nat × List (List Nat)) vs H => (∃ v, vs = [vi p.1, v] ∧ Tabs K H v p.2) ∧ ∀ t ∈ p.2, ∀ k ∈ t, k < p.1) (fun _ v _ => v = .non)
theorem c_first_odd_cell (T : Txt mg) (D : Df K mg "first_odd_cell" s_first_odd_cell ["size", "tables"]) (c_is_below : Cl P w K mg base 2 "is_below" sp_is_below) : Cl P w K mg base 3 "first_odd_cell" (sp_first_odd_cell K) := by
  refine cl_of (k := 2) D sc_first_odd_cell (fun vs H Q E h => ?_) (fun f cdv A outer s H vs Q E hr h => ?_)
  · obtain ⟨p, ⟨⟨v, rfl, _⟩, _⟩, _⟩ := h
    rfl
  · obtain ⟨⟨n, ts⟩, ⟨⟨v, rfl, a, us, rfl, hS, hP⟩, low⟩, q⟩ := h
    refine ⟨_, (pss_cons (ps_for PassesOwn.never (by rfl) (pi_enumT (by rfl) T.z_enumerate (pa_cons (pv 1) pa_nil)) (pg_tup (by rfl) (pgs_cons (pg_name (i := 2) sc_first_odd_cell.nd rfl (.inl rfl)) (pgs_cons (pg_name (i := 3) sc_first_odd_cell.nd rfl (.inl rfl)) pgs_nil)))
        (pss_one (ps_for PassesOwn.never (by rfl) (pi_enumT (by rfl) T.z_enumerate (pa_cons (pv 3) pa_nil)) (pg_tup (by rfl) (pgs_cons (pg_name (i := 4) sc_first_odd_cell.nd rfl (.inl rfl)) (pgs_cons (pg_name (i := 5) sc_first_odd_cell.nd rfl (.inl rfl)) pgs_nil)))
          (pss_one (ps_if (pt_not (pt_val (pe_cl c_is_below hr (by first | decide | omega) (by rfl) (pa_cons (pv 5) (pa_cons (pv 0) pa_nil)))))
            (pss_one (ps_ret (pe_tup (pa_cons (pv 2) (pa_cons (pv 4) pa_nil)))))
            pss_nil)))))
      (pss_one (ps_ret pe_non))), ?_⟩
    refine q_enumT (ea_cons (ev_var rfl) ea_nil) hS (fun i σ H' => Ex H H' ∧ ∃ y2 y3 y4 y5, σ = [some (vi n), some (.ref a), y2, y3, y4, y5]) (fun H2 e2 => ⟨e2, none, none, none, none, rfl⟩) (fun i σ H' _ ⟨e, _⟩ => ex_t e hS) (fun i x σ H2 H3 hx ⟨e, y2, y3, y4, y5, hσ⟩ e3 => ?_) (fun σ H2 ⟨e2, _, _, _, _, hσ⟩ => ?_)
    · subst hσ
      have hi : i < ts.length := by rw [← paired_len hP]; exact (List.getElem?_eq_some_iff.mp hx).1
      obtain ⟨x', ex', b, hb, hd⟩ := paired_get hP (List.getElem?_eq_getElem hi)
      have : x' = x := Option.some.inj (ex'.symm.trans hx)
      subst this
      subst hb
      have e03 : Ex H H3 := e.trans e3
      refine s_enumT (ea_cons (ev_var rfl) ea_nil) (ex_t e03 hd) (fun j σ H' => Ex H H' ∧ ∃ y4 y5, σ = [some (vi n), some (.ref a), some (vi i), some (.ref b), y4, y5]) (fun H4 e4 => ⟨e03.trans e4, _, _, rfl⟩) (fun j σ H' _ ⟨e, _⟩ => ex_t e hd) (fun j y σ H4 H5 hy ⟨e4, z4, z5, hσ⟩ e5 => ?_) (fun σ H4 ⟨e4, z4, z5, hσ⟩ => ?_)
      · subst hσ
        have hj : j < ts[i].length := by simpa using (List.getElem?_eq_some_iff.mp hy).1
        have ey : y = vi ts[i][j] := by
          rw [List.getElem?_map, List.getElem?_eq_getElem hj] at hy
          exact (Option.some.inj hy).symm
        subst ey
        have lo : ts[i][j] < n := low _ (List.getElem_mem hi) _ (List.getElem_mem hj)
        exact s_when (b := false) (et_is (et_not (et_val (ev_callV (v := .bl true) (((ts[i][j] : Nat) : Int), (n : Int)) (ea_cons (ev_var rfl) (ea_cons (ev_var rfl) ea_nil)) (fun H4 e4 => ⟨rfl, by show (0 : Int) ≤ ((ts[i][j] : Nat) : Int); omega, by show ((ts[i][j] : Nat) : Int) < (n : Int); omega⟩) (fun _ _ p => p)))) rfl) (fun hb => by cases hb) (fun _ H6 e6 => ⟨(e4.trans e5).trans e6, _, _, rfl⟩)
      · subst hσ
        exact ⟨e4, _, _, _, _, rfl⟩
    · subst hσ
      exact s_ret ev_c fun H3 e3 => q _ H3 (e2.trans e3) rfl
/-- a model of a signature, as tables of natural numbers -/
structure MdlOk (sg : List (Str × Nat)) (n : Nat) (ts : List (List Nat)) : Prop where
  n1 : 1 ≤ n
  n6 : n ≤ 6
  len : ts.length = sg.length
  tab : ∀ i (h1 : i < sg.length) (h2 : i < ts.length), Tab n sg[i].2 ts[i]
theorem MdlOk.low {sg : List (Str × Nat)} {n : Nat} {ts : List (List Nat)} (m : MdlOk sg n ts) : ∀ t ∈ ts, ∀ k ∈ t, k < n := by
  intro t ht k hk
  obtain ⟨i, hi, e⟩ := List.mem_iff_getElem.mp ht
  subst e
  have tb := m.tab i (by rw [← m.len]; exact hi) hi
  obtain ⟨j, hj, e⟩ := List.mem_iff_getElem.mp hk
  have h := tb.low j (by rw [← tb.len]; exact hj)
  have g1 := g_eq hj
  rw [List.getElem?_eq_getElem hj, e] at g1
  rw [← Option.some.inj g1] at h
  exact h
def sp_model_wrong (K : PySem.W.Frag) : Sp := spX (fun (p : List (Str × Nat) × Nat × List (List Nat)) vs H => (∃ u v, vs = [u, v] ∧ Sig K H u p.1 ∧ Mdl K H v p.2.1 p.2.2) ∧ SigOk p.1 ∧ MdlOk p.1 p.2.1 p.2.2) (fun _ v _ => v = .non)
theorem c_model_wrong (T : Txt mg) (D : Df K mg "model_wrong" s_model_wrong ["signature", "thing"]) (c_need_signature : Cl P w K mg base 5 "need_signature" (sp_need_signature K)) (c_is_size : Cl P w K mg base 2 "is_size" sp_is_size)
    (c_power : Cl P w K mg base 1 "power" sp_power) (c_first_odd_cell : Cl P w K mg base 3 "first_odd_cell" (sp_first_odd_cell K)) : Cl P w K mg base 6 "model_wrong" (sp_model_wrong K) := by
  refine cl_of (k := 5) D sc_model_wrong (fun vs H Q E h => ?_) (fun f cdv A outer s H vs Q E hr h => ?_)
  · obtain ⟨p, ⟨⟨u, v, rfl, _⟩, _⟩, _⟩ := h
    rfl
  · obtain ⟨⟨sg, n, ts⟩, ⟨⟨u, v, rfl, hG, hM⟩, sok, mok⟩, q⟩ := h
    refine ⟨_, (pss_cons (ps_expr (pe_cl c_need_signature hr (by first | decide | omega) (by rfl) (pa_cons (pv 0) pa_nil)))
      (pss_cons (ps_if (PW.pt (pw_or (pt_not (pt_val (pe_callB call_isi (by rfl) T.z_isinstance (by decide +kernel) (pa_cons (pv 1) (pa_cons (pe_ty "tuple" (by rfl) T.z_tuple (by decide +kernel)) pa_nil))))) (pw_or1 (pt_cmpR op_ne (pe_callB call_len_seq (by rfl) T.z_len PySem.boot_len (pa_cons (pv 1) pa_nil)) pe_int (nomark _)))))
        (pss_one (ps_ret (pe_tup (pa_cons pe_str pa_nil))))
        pss_nil)
      (pss_cons (ps_asg (pv 1) (pg_tup (by rfl) (pgs_cons (pg_name (i := 2) sc_model_wrong.nd rfl (.inl rfl)) (pgs_cons (pg_name (i := 3) sc_model_wrong.nd rfl (.inl rfl)) pgs_nil))))
      (pss_cons (ps_if (pt_not (pt_val (pe_cl c_is_size hr (by first | decide | omega) (by rfl) (pa_cons (pv 2) pa_nil))))
        (pss_one (ps_ret (pe_tup (pa_cons pe_str pa_nil))))
        pss_nil)
      (pss_cons (ps_if (PW.pt (pw_or (pt_not (pt_val (pe_callB call_isi (by rfl) T.z_isinstance (by decide +kernel) (pa_cons (pv 3) (pa_cons (pe_ty "tuple" (by rfl) T.z_tuple (by decide +kernel)) pa_nil))))) (pw_or1 (pt_cmpR op_ne (pe_callB call_len_seq (by rfl) T.z_len PySem.boot_len (pa_cons (pv 3) pa_nil)) (pe_callB call_len_seq (by rfl) T.z_len PySem.boot_len (pa_cons (pv 0) pa_nil)) (nomark _)))))
        (pss_one (ps_ret (pe_tup (pa_cons pe_str pa_nil))))
        pss_nil)
      (pss_cons (ps_for PassesOwn.never (by rfl) (pi_enumT (by rfl) T.z_enumerate (pa_cons (pv 0) pa_nil)) (pg_tup (by rfl) (pgs_cons (pg_name (i := 4) sc_model_wrong.nd rfl (.inl rfl)) (pgs_cons (pg_name (i := 5) sc_model_wrong.nd rfl (.inl rfl)) pgs_nil)))
        (pss_one (ps_if (PW.pt (pw_or (pt_not (pt_val (pe_callB call_isi (by rfl) T.z_isinstance (by decide +kernel) (pa_cons (pe_ix ix_tup (pv 3) (pv 4) (fun _ _ => rfl)) (pa_cons (pe_ty "tuple" (by rfl) T.z_tuple (by decide +kernel)) pa_nil))))) (pw_or1 (pt_cmpR op_ne (pe_callB call_len_seq (by rfl) T.z_len PySem.boot_len (pa_cons (pe_ix ix_tup (pv 3) (pv 4) (fun _ _ => rfl)) pa_nil)) (pe_cl c_power hr (by first | decide | omega) (by rfl) (pa_cons (pv 2) (pa_cons (pe_ix ix_tup (pv 5) pe_int (fun _ _ => rfl)) pa_nil))) (nomark _)))))
          (pss_one (ps_ret (pe_tup (pa_cons pe_str (pa_cons (pv 4) pa_nil)))))
          pss_nil)))
      (pss_cons (ps_set (i := 6) sc_model_wrong.nd rfl (.inl rfl) (pe_cl c_first_odd_cell hr (by first | decide | omega) (by rfl) (pa_cons (pv 2) (pa_cons (pv 3) pa_nil))))
      (pss_one (ps_ret (pe_ifExp (pt_cmpR op_isN (pv 6) pe_non (nomark _)) pe_non (pe_tup (pa_cons pe_str (pa_cons (pe_ix ix_tup (pv 6) pe_int (fun _ _ => rfl)) (pa_cons (pe_ix ix_tup (pv 6) pe_int (fun _ _ => rfl)) pa_nil)))))))))))))), ?_⟩
    obtain ⟨a, us, rfl, hS, hP⟩ := id hG
    obtain ⟨b, tv, rfl, hB, c, tvs, rfl, hC, hT⟩ := id hM
    have n1 := mok.n1
    have n6 := mok.n6
    have lS : us.length = sg.length := paired_len hP
    have lT : tvs.length = ts.length := paired_len hT
    have lM : ts.length = sg.length := mok.len
    refine q_drop (ev_callV (v := .non) sg (ea_cons (ev_var rfl) ea_nil) (fun H1 e1 => ⟨⟨_, rfl, hG.ex e1⟩, sok⟩) (fun _ _ p => p)) fun H1 e1 => ?_
    refine q_when (b := false) (et_is (et_or (et_not (et_val (ev_isi (ev_var rfl) ev_c (.ty _) (fun _ e => tyx_tup (ex_t (e1.trans e) hB)) kit_tt))) (fun _ => et_test (ev_op (ev_lenT (ev_var rfl) (ex_t e1 hB)) ev_c (rv_ne rfl)))) rfl) (fun hb => by cases hb) (fun _ H2 e2 => ?_)
    have e02 := e1.trans e2
    -- size, tables = thing
    refine ⟨.ref b, rfl, b, _, rfl, ex_t e02 hB, rfl, _, _, rfl, _, _, rfl, rfl, ?_⟩
    refine q_when (b := false) (et_is (et_not (et_val (ev_callV (v := .bl true) n (ea_cons (ev_var rfl) ea_nil) (fun _ _ => ⟨rfl, n1, n6⟩) (fun _ _ p => p)))) rfl) (fun hb => by cases hb) (fun _ H3 e3 => ?_)
    have e03 := e02.trans e3
    refine q_when (b := false) (et_is (et_or (et_not (et_val (ev_isi (ev_var rfl) ev_c (.ty _) (fun _ e => tyx_tup (ex_t (e03.trans e) hC)) kit_tt))) (fun _ => et_test (ev_op (ev_lenT (ev_var rfl) (ex_t e03 hC)) (ev_lenT (ev_var rfl) (ex_t e03 hS)) (rv_ne rfl)))) ?_) (fun hb => by cases hb) (fun _ H4 e4 => ?_)
    · show (!true || !decide (V.int (tvs.length : Int) = V.int (us.length : Int))) = false
      rw [lT, lS, lM, decide_eq_true rfl]
      rfl
    have e04 := e03.trans e4
    refine q_enumT (ea_cons (ev_var rfl) ea_nil) (ex_t e04 hS) (fun i σ H' => Ex H H' ∧ ∃ y4 y5, σ = [some (.ref a), some (.ref b), some (vi n), some (.ref c), y4, y5, none]) (fun H5 e5 => ⟨e04.trans e5, none, none, rfl⟩) (fun i σ H' _ ⟨e, _⟩ => ex_t e hS) (fun i x σ H5 H6 hx ⟨e, y4, y5, hσ⟩ e6 => ?_) (fun σ H5 ⟨e5, y4, y5, hσ⟩ => ?_)
    · subst hσ
      have hi : i < sg.length := by rw [← lS]; exact (List.getElem?_eq_some_iff.mp hx).1
      have hi2 : i < ts.length := by rw [lM]; exact hi
      obtain ⟨x', ex', d, hd, dd⟩ := paired_get hP (List.getElem?_eq_getElem hi)
      have : x' = x := Option.some.inj (ex'.symm.trans hx)
      subst this
      subst hd
      obtain ⟨y', ey', r, hr', rr⟩ := paired_get hT (List.getElem?_eq_getElem hi2)
      subst hr'
      have e06 : Ex H H6 := e.trans e6
      have tb := mok.tab i hi hi2
      have p2 : sg[i].2 ≤ 2 := sok.pl _ (List.getElem_mem hi)
      have tk : Ev (tOp (rIxT K) (tVar 3) (tVar 4)) [some (.ref a), some (.ref b), some (vi n), some (.ref c), some (vi i), some (.ref d), none] H6 (.ref r) := ev_op (ev_var rfl) (ev_var rfl) (rv_ixT (ex_t e06 hC) (atI_vi ey'))
      refine s_when (b := false) (et_is (et_or (et_not (et_val (ev_isi tk ev_c (.ty _) (fun _ e => tyx_tup (ex_t (e06.trans e) rr)) kit_tt))) (fun _ => et_test (ev_op (ev_lenT tk (ex_t e06 rr)) (ev_callV (v := vi (n ^ sg[i].2)) (n, sg[i].2) (ea_cons (ev_var rfl) (ea_cons (ev_op (ev_var rfl) ev_c (rv_ixT (ex_t e06 dd) (atI_vi (k := 1) rfl))) ea_nil)) (fun _ _ => ⟨rfl, n6, Nat.le_trans p2 (by decide)⟩) (fun _ _ p => p)) (rv_ne rfl)))) ?_) (fun hb => by cases hb) (fun _ H7 e7 => ⟨e06.trans e7, _, _, rfl⟩)
      show (!true || !decide (V.int (((ts[i].map vi).length : Nat) : Int) = vi (n ^ sg[i].2))) = false
      rw [List.length_map, tb.len, decide_eq_true rfl]
      rfl
    · subst hσ
      refine q_asg (ev_callV (v := .non) (n, ts) (ea_cons (ev_var rfl) (ea_cons (ev_var rfl) ea_nil)) (fun H6 e6 => ⟨⟨_, rfl, c, tvs, rfl, ex_t (e5.trans e6) hC, paired_imp (fun _ _ z => z.ex (e5.trans e6)) hT⟩, mok.low⟩) (fun _ _ p => p)) fun H6 e6 => ?_
      refine s_ret (ev_if (b := true) ?_ (fun _ => ev_c) (fun hb => by cases hb)) fun H7 e7 => q _ H7 ((e5.trans e6).trans e7) rfl
      exact fun H7 e7 Q q => ⟨_, rfl, rfl, _, rfl, q H7 (Ex.refl H7)⟩
def sp_need_model (K : PySem.W.Frag) : Sp := spX (fun (p : List (Str × Nat) × Nat × List (List Nat)) vs H => (∃ u v, vs = [u, v] ∧ Sig K H u p.1 ∧ Mdl K H v p.2.1 p.2.2) ∧ SigOk p.1 ∧ MdlOk p.1 p.2.1 p.2.2) (fun _ v _ => v = .non)
theorem c_need_model (T : Txt mg) (D : Df K mg "need_model" s_need_model ["signature", "model"]) (c_model_wrong : Cl P w K mg base 6 "model_wrong" (sp_model_wrong K)) : Cl P w K mg base 7 "need_model" (sp_need_model K) := by
  refine cl_of (k := 6) D sc_need_model (fun vs H Q E h => ?_) (fun f cdv A outer s H vs Q E hr h => ?_)
  · obtain ⟨p, ⟨⟨u, v, rfl, _⟩, _⟩, _⟩ := h
    rfl
  · obtain ⟨p, ⟨⟨u, v, rfl, hG, hM⟩, sok, mok⟩, q⟩ := h
    refine ⟨_, (pss_one (ps_if (pt_cmpR op_notN (pe_cl c_model_wrong hr (by first | decide | omega) (by rfl) (pa_cons (pv 0) (pa_cons (pv 1) pa_nil))) pe_non (nomark _))
        (pss_one ps_never)
        pss_nil)), ?_⟩
    exact s_when (b := false) (et_is (et_isN (ev_callV (v := .non) p (ea_cons (ev_var rfl) (ea_cons (ev_var rfl) ea_nil)) (fun H1 e1 => ⟨⟨_, _, rfl, hG.ex e1, hM.ex e1⟩, sok, mok⟩) (fun _ _ p => p))) rfl) (fun hb => by cases hb) (fun _ H1 e1 => q _ H1 e1 rfl)
end
end K80
end
section
namespace K80
open PySem PySem.Spec PyProof.Rows L2 Evl Dw M20
/-! ### terms -/
inductive Tm where
  | var (x : Str)
  | deed (f : Str) (ts : List Tm)
mutual
def Tm.sz : Tm → Nat
  | .var _ => 1
  | .deed _ ts => 1 + szs ts
def szs : List Tm → Nat
  | [] => 0
  | t :: ts => t.sz + szs ts
end
mutual
/-- the variables, at each place -/
def Tm.ls : Tm → List Str
  | .var x => [x]
  | .deed _ ts => lss ts
def lss : List Tm → List Str
  | [] => []
  | t :: ts => t.ls ++ lss ts
end
mutual
def TmV (K : PySem.W.Frag) (H : Hp) : Tm → V → Prop
  | .var x => fun v => ∃ a, v = .ref a ∧ SqT K H a [.str "var", .str x]
  | .deed f ts => fun v => ∃ a b vs, v = .ref a ∧ SqT K H a [.str "deed", .str f, .ref b] ∧ SqT K H b vs ∧ TmsV K H ts vs
def TmsV (K : PySem.W.Frag) (H : Hp) : List Tm → List V → Prop
  | [] => fun vs => vs = []
  | t :: ts => fun vs => ∃ v us, vs = v :: us ∧ TmV K H t v ∧ TmsV K H ts us
end
section
variable {K : PySem.W.Frag} {H H' : Hp}
mutual
theorem TmV.et (e : ET K H H') : ∀ {t : Tm} {v : V}, TmV K H t v → TmV K H' t v
  | .var x, v, h => by
    rw [TmV] at h ⊢
    obtain ⟨a, q, s⟩ := h
    exact ⟨a, q, e _ _ s⟩
  | .deed f ts, v, h => by
    rw [TmV] at h ⊢
    obtain ⟨a, b, vs, q, s, s2, r⟩ := h
    exact ⟨a, b, vs, q, e _ _ s, e _ _ s2, TmsV.et e r⟩
theorem TmsV.et (e : ET K H H') : ∀ {ts : List Tm} {vs : List V}, TmsV K H ts vs → TmsV K H' ts vs
  | [], vs, h => by
    rw [TmsV] at h ⊢
    exact h
  | t :: ts, vs, h => by
    rw [TmsV] at h ⊢
    obtain ⟨v, us, q, a, b⟩ := h
    exact ⟨v, us, q, TmV.et e a, TmsV.et e b⟩
end
theorem szs_app : ∀ (a b : List Tm), szs (a ++ b) = szs a + szs b
  | [], b => by rw [szs, Nat.zero_add]; rfl
  | t :: a, b => by rw [List.cons_append, szs, szs, szs_app a b, Nat.add_assoc]
theorem lss_app : ∀ (a b : List Tm), lss (a ++ b) = lss a ++ lss b
  | [], b => by rw [lss]; rfl
  | t :: a, b => by rw [List.cons_append, lss, lss, lss_app a b, List.append_assoc]
theorem TmsV.app : ∀ {a b : List Tm} {us vs : List V}, TmsV K H a us → TmsV K H b vs → TmsV K H (a ++ b) (us ++ vs)
  | [], b, us, vs, h, k => by
    rw [TmsV] at h
    subst h
    exact k
  | t :: a, b, us, vs, h, k => by
    rw [TmsV] at h
    obtain ⟨v, ws, q, x, y⟩ := h
    subst q
    show TmsV K H (t :: (a ++ b)) (v :: (ws ++ vs))
    rw [TmsV]
    exact ⟨v, _, rfl, x, TmsV.app y k⟩
theorem TmsV.one {t : Tm} {v : V} (h : TmV K H t v) : TmsV K H [t] [v] := by
  rw [TmsV]
  exact ⟨v, [], rfl, h, by rw [TmsV]⟩
theorem TmsV.rev : ∀ {a : List Tm} {us : List V}, TmsV K H a us → TmsV K H a.reverse us.reverse
  | [], us, h => by
    rw [TmsV] at h
    subst h
    show TmsV K H [] []
    rw [TmsV]
  | t :: a, us, h => by
    rw [TmsV] at h
    obtain ⟨v, ws, q, x, y⟩ := h
    subst q
    rw [List.reverse_cons, List.reverse_cons]
    exact (TmsV.rev y).app (TmsV.one x)
theorem TmsV.len : ∀ {a : List Tm} {us : List V}, TmsV K H a us → us.length = a.length
  | [], us, h => by
    rw [TmsV] at h
    subst h
    rfl
  | t :: a, us, h => by
    rw [TmsV] at h
    obtain ⟨v, ws, q, x, y⟩ := h
    subst q
    rw [List.length_cons, List.length_cons, y.len]
/-- the last one of them -/
theorem TmsV.last {a : List Tm} {us : List V} (h : TmsV K H a us) (ne : a ≠ []) : ∃ b t ws v, a = b ++ [t] ∧ us = ws ++ [v] ∧ TmsV K H b ws ∧ TmV K H t v := by
  have r := h.rev
  cases e : a.reverse with
  | nil => exact absurd (List.reverse_eq_nil_iff.mp e) ne
  | cons t b =>
    rw [e, TmsV] at r
    obtain ⟨v, ws, q, x, y⟩ := r
    refine ⟨b.reverse, t, ws.reverse, v, ?_, ?_, y.rev, x⟩
    · have z := congrArg List.reverse e
      rw [List.reverse_reverse, List.reverse_cons] at z
      exact z
    · have z := congrArg List.reverse q
      rw [List.reverse_reverse, List.reverse_cons] at z
      exact z
theorem szs_rev : ∀ a : List Tm, szs a.reverse = szs a
  | [] => rfl
  | t :: a => by
    rw [List.reverse_cons, szs_app, szs_rev a, szs, szs, szs]
    omega
theorem mem_lss_rev {x : Str} : ∀ a : List Tm, x ∈ lss a.reverse ↔ x ∈ lss a
  | [] => Iff.rfl
  | t :: a => by
    rw [List.reverse_cons, lss_app, List.mem_append, mem_lss_rev a, lss, lss, lss, List.append_nil, List.mem_append]
    exact Or.comm
theorem len_szs : ∀ a : List Tm, a.length ≤ szs a
  | [] => Nat.zero_le _
  | t :: a => by
    have h := len_szs a
    have p : 1 ≤ t.sz := by cases t <;> (rw [Tm.sz]; omega)
    rw [szs, List.length_cons]
    omega
end
end K80
end
section
namespace K80
open PySem PySem.Spec PyProof.Rows L2 Evl Dw M20
section
variable {K : PySem.W.Frag} {σ : L2.St} {H : Hp} {ta te : TE}
theorem do_pop {l : Addr} {xs : List V} {y : V} {Q : VK} (hl : H l = some (.lst (xs ++ [y]))) (ha : Ev ta σ H (.ref l)) (h : ∀ H1, Ex H H1 → Q y (upd H1 l (.lst xs))) : tBM0 K "list" rPop ta σ H Q := by
  refine ha H (Ex.refl H) _ fun H1 e1 => ⟨Or.inl ⟨rfl, _, sq_of (e1 l _ hl)⟩, l, _, y, rfl, rfl, e1 l _ hl, ?_, ?_⟩
  · rw [List.length_append, List.length_singleton, Nat.add_sub_cancel, List.getElem?_append_right (Nat.le_refl _), Nat.sub_self]
    rfl
  · rw [List.dropLast_concat]
    exact h H1 e1
theorem do_set {i : Nat} {te : TE} {tz : TS} {D : Ends} (h : te σ H fun x H1 => tz D (σ.set i (some x)) H1) : tSeq (tAsg te (gName i)) tz D σ H := h
theorem do_bm {T : String} {r : V → List V → Hp → VK → Prop} {x : V} {t : TA} {D : Ends} (ha : Ev ta σ H x) (h : ∀ H1, Ex H H1 → tyV K T x H1 ∧ t σ H1 fun xs H2 => r x xs H2 fun _ H3 => D.nx σ H3) : tDrop (tBM K T r ta t) D σ H := ha H (Ex.refl H) _ h
theorem et_truL {l : Addr} {xs : List V} (h : Ev te σ H (.ref l)) (hl : SqL K H l xs) : EvT (fun σ H Q => te σ H fun x H' => ∃ k, TruV K x H' k ∧ Q k H') σ H (!xs.isEmpty) := fun H1 e Q q =>
  h H1 e _ fun H2 e2 => ⟨_, .inl ⟨xs, ex_l (e.trans e2) hl, rfl⟩, q H2 e2⟩
theorem inV_str (x : Str) : ∀ ks : List Str, inV (.str x) (ks.map V.str) = decide (x ∈ ks)
  | [] => rfl
  | k :: ks => by
    have ih := inV_str x ks
    unfold inV at ih ⊢
    rw [List.map_cons, List.any_cons, ih]
    have e : eqV (V.str k) (V.str x) = decide (x = k) := by
      by_cases h : x = k
      · subst h
        simp [eqV]
      · have h2 : ¬ k = x := fun z => h z.symm
        simp [eqV, h, h2]
    rw [e]
    by_cases h : x = k <;> simp [h]
theorem flat_strs (ks : List Str) : (ks.map V.str).all flatV = true := by
  rw [List.all_eq_true]
  intro v hv
  obtain ⟨k, _, e⟩ := List.mem_map.mp hv
  rw [← e]
  rfl
end
section
variable {P : Program} {w : World} {K : PySem.W.Frag} {mg : Str → Option Value} {base : Heap}
def sp_variables_met (K : PySem.W.Frag) : Sp := spX (fun (t : Tm) vs H => (∃ v, vs = [v] ∧ TmV K H t v) ∧ t.sz ≤ 1000) (fun t v H => ∃ (p : Addr) (ks : List Str), v = .ref p ∧ H p = some (.lst (ks.map V.str)) ∧ ks.Nodup ∧ ks.length ≤ t.sz ∧ (∀ x, x ∈ ks ↔ x ∈ t.ls) ∧ ks = firsts t.ls)
theorem c_variables_met (T : Txt mg) (D : Df K mg "variables_met" s_variables_met ["term"]) : Cl P w K mg base 1 "variables_met" (sp_variables_met K) := by
  refine cl_of (k := 0) D sc_variables_met (fun vs H Q E h => ?_) (fun f cdv A outer s H vs Q E hr h => ?_)
  · obtain ⟨p, ⟨⟨v, rfl, _⟩, _⟩, _⟩ := h
    rfl
  · obtain ⟨t, ⟨⟨v, rfl, hv⟩, big⟩, q⟩ := h
    refine ⟨_, (pss_cons (ps_set (i := 1) sc_variables_met.nd rfl (.inl rfl) (pe_lst pa_nil))
      (pss_cons (ps_set (i := 2) sc_variables_met.nd rfl (.inl rfl) (pe_lst (pa_cons (pv 0) pa_nil)))
      (pss_cons (ps_while PassesOwn.never (pt_truth (pv 2) (by intro _; rfl))
        (pss_cons (ps_set (i := 3) sc_variables_met.nd rfl (.inl rfl) (pe_bm0 PySem.F.plainAttrs_list PySem.F.slot_list_pop PySem.F.type_list_pop mt_pop (pv 2)))
        (pss_one (ps_if (pt_cmpR op_eq (pe_ix ix_tup (pv 3) pe_int (fun _ _ => rfl)) pe_str (nomark _))
          (pss_one (ps_expr (pe_bm PySem.F.plainAttrs_list PySem.F.slot_list_extend PySem.F.type_list_extend mt_extT (pv 2) (pa_cons (pe_revT (pe_ix ix_tup (pv 3) pe_int (fun _ _ => rfl))) pa_nil))))
          (pss_one (ps_if (pt_cmpR op_notIn_seq (pe_ix ix_tup (pv 3) pe_int (fun _ _ => rfl)) (pv 1) (by rfl))
            (pss_one (ps_expr (pe_bm PySem.F.plainAttrs_list PySem.F.slot_list_append PySem.F.type_list_append mt_append (pv 1) (pa_cons (pe_ix ix_tup (pv 3) pe_int (fun _ _ => rfl)) pa_nil))))
            pss_nil))))))
      (pss_one (ps_ret (pv 1)))))), ?_⟩
    refine q_asgL (el_lst ea_nil (Nat.zero_le _)) fun m H1 nm e1 hm => ?_
    refine q_asgL (el_lst (ea_cons (ev_var rfl) ea_nil) (by show 1 ≤ 100000; decide)) fun td H2 ntd e2 htd => ?_
    have ntH : H td = none := fresh_back e1 ntd
    have far : m ≠ td := fun z => by
      rw [← z, hm] at ntd
      cases ntd
    have e02 : Ex H H2 := e1.trans e2
    refine q_while (fun k σ H' => Ex H H' ∧ ∃ (stk : List Tm) (us : List V) (ks : List Str) (y : Option V), k = szs stk ∧ H' td = some (.lst us) ∧ TmsV K H' stk us ∧ H' m = some (.lst (ks.map V.str)) ∧ ks.Nodup ∧ (∀ x, (x ∈ ks ∨ x ∈ lss stk) ↔ x ∈ t.ls) ∧ ks.length + szs stk ≤ t.sz ∧ (lss stk.reverse).foldl addK ks = firsts t.ls ∧ σ = [some v, some (.ref m), some (.ref td), y]) (szs [t])
      ⟨e02, [t], [v], [], none, rfl, htd, TmsV.one (hv.et (Dw.Ex.et e02)), e2 _ _ hm, List.nodup_nil, fun x => by rw [lss, lss, List.append_nil]; simp, by rw [szs, szs]; simp, by show (lss [t]).foldl addK [] = _; rw [lss, lss, List.append_nil]; rfl, rfl⟩ (fun k σ H3 hW => ?_)
    obtain ⟨e3, stk, us, ks, y, ek, hus, tms, hks, nd, mem, le, ord, hσ⟩ := hW
    subst hσ
    subst ek
    have lu := tms.len
    have ls := len_szs stk
    refine ⟨_, et_truL (K := K) (ev_var rfl) (sq_of hus), fun hb H4 e4 => ?_, fun hb H4 e4 => ?_⟩
    · have ne : stk ≠ [] := fun z => by
        subst z
        rw [TmsV] at tms
        subst tms
        cases hb
      obtain ⟨b, t', ws, v', rfl, rfl, tb, tv⟩ := tms.last ne
      rw [szs_app, szs, szs] at le
      rw [List.reverse_append, List.reverse_singleton, List.singleton_append, lss] at ord
      refine ⟨fun σ' H' => ∃ k', k' < szs (b ++ [t']) ∧ Ex H H' ∧ ∃ (stk : List Tm) (us : List V) (ks : List Str) (y : Option V), k' = szs stk ∧ H' td = some (.lst us) ∧ TmsV K H' stk us ∧ H' m = some (.lst (ks.map V.str)) ∧ ks.Nodup ∧ (∀ x, (x ∈ ks ∨ x ∈ lss stk) ↔ x ∈ t.ls) ∧ ks.length + szs stk ≤ t.sz ∧ (lss stk.reverse).foldl addK ks = firsts t.ls ∧ σ' = [some v, some (.ref m), some (.ref td), y], fun σ2 H5 ⟨k', lt, r⟩ => ⟨k', lt, r⟩, ?_⟩
      refine do_set (do_pop (e4 _ _ hus) (ev_var rfl) fun H5 e5 => ?_)
      have e35 := e4.trans e5
      have hm6 : (upd H5 td (.lst ws)) m = some (.lst (ks.map V.str)) := by rw [upd_ne far]; exact e35 _ _ hks
      have et6 : ET K H3 (upd H5 td (.lst ws)) := ET.trans (Dw.Ex.et e35) (ET.refl.upd (e35 _ _ hus))
      have x6 : Ex H (upd H5 td (.lst ws)) := (e3.trans e35).mut ntH
      have td6 : (upd H5 td (.lst ws)) td = some (.lst ws) := upd_same
      have tb6 := tb.et et6
      have tv6 := tv.et et6
      generalize upd H5 td (.lst ws) = H6 at *
      show tIfS _ _ _ _ [some v, some (.ref m), some (.ref td), some v'] H6
      cases t' with
      | var x =>
        rw [TmV] at tv6
        obtain ⟨a, rfl, ha⟩ := tv6
        refine s_if (b := false) (et_is (et_test (ev_op (ev_op (ev_var rfl) ev_c (rv_ixT (K := K) ha (atI_vi (k := 0) rfl))) ev_c (rv_eq rfl))) (by decide)) (fun hb => by cases hb) (fun _ H7 e7 => ?_)
        have e67 := x6.trans e7
        refine s_when (et_test (ev_op (ev_op (ev_var rfl) ev_c (rv_ixT (K := K) (ex_t e7 ha) (atI_vi (k := 1) rfl))) (ev_var rfl) (rv_niL (sq_of (e7 _ _ hm6)) rfl (flat_strs ks)))) (fun hb2 H8 e8 => ?_) (fun hb2 H8 e8 => ?_)
        · rw [inV_str] at hb2
          have notMem : x ∉ ks := fun z => by rw [decide_eq_true z] at hb2; cases hb2
          have e78 := e7.trans e8
          refine s_app (e78 _ _ hm6) (ev_var rfl) (ev_op (ev_var rfl) ev_c (rv_ixT (K := K) (ex_t e78 ha) (atI_vi (k := 1) rfl))) (by rw [List.length_map]; omega) fun H9 e9 => ?_
          have e69 := e78.trans e9
          have et9 : ET K H6 (upd H9 m (.lst (ks.map V.str ++ [.str x]))) := ET.trans (Dw.Ex.et e69) (ET.refl.upd (e69 _ _ hm6))
          refine ⟨szs b, by rw [szs_app, szs, Tm.sz]; omega, (x6.trans e69).mut nm, b, ws, ks ++ [x], _, rfl, by rw [upd_ne (Ne.symm far)]; exact e69 _ _ td6, tb6.et et9, by rw [upd_same, List.map_append]; rfl, (List.perm_append_singleton x ks).nodup_iff.mpr (List.nodup_cons.mpr ⟨notMem, nd⟩), fun z => ?_, by rw [List.length_append, List.length_singleton]; rw [Tm.sz] at le; omega, by rw [← ord, Tm.ls, List.singleton_append, List.foldl_cons]; unfold addK; rw [if_neg notMem], rfl⟩
          rw [← mem z, lss_app, lss, lss, Tm.ls, List.append_nil, List.mem_append, List.mem_append, or_assoc, or_comm (a := z ∈ [x])]
        · rw [inV_str] at hb2
          have isMem : x ∈ ks := by
            by_cases z : x ∈ ks
            · exact z
            · rw [decide_eq_false z] at hb2
              cases hb2
          have e68 := e7.trans e8
          refine ⟨szs b, by rw [szs_app, szs, Tm.sz]; omega, x6.trans e68, b, ws, ks, _, rfl, e68 _ _ td6, tb6.et (Dw.Ex.et e68), e68 _ _ hm6, nd, fun z => ?_, by omega, by rw [← ord, Tm.ls, List.singleton_append, List.foldl_cons]; unfold addK; rw [if_pos isMem], rfl⟩
          rw [← mem z, lss_app, lss, lss, Tm.ls, List.append_nil, List.mem_append, List.mem_singleton]
          constructor
          · rintro (a | a)
            · exact .inl a
            · exact .inr (.inl a)
          · rintro (a | a | a)
            · exact .inl a
            · exact .inr a
            · exact .inl (a ▸ isMem)
      | deed f ts =>
        rw [TmV] at tv6
        obtain ⟨a, c, vs, rfl, ha, hc, tvs⟩ := tv6
        have ent : H td = none := ntH
        refine s_if (b := true) (et_is (et_test (ev_op (ev_op (ev_var rfl) ev_c (rv_ixT (K := K) ha (atI_vi (k := 0) rfl))) ev_c (rv_eq rfl))) (by decide)) (fun _ H7 e7 => ?_) (fun hb => by cases hb)
        have big2 := len_szs ts
        have lvs := tvs.len
        have lws := tb.len
        have lb := len_szs b
        rw [Tm.sz] at le
        refine do_bm (ev_var rfl) fun H8 e8 => ⟨Or.inl ⟨rfl, _, sq_of ((e7.trans e8) _ _ td6)⟩, ?_⟩
        have e68 := e7.trans e8
        refine do_cons (ev_op (ev_var rfl) ev_c (rv_ixT (K := K) (ex_t e68 ha) (atI_vi (k := 2) rfl)) H8 (Ex.refl _) _ fun H9 e9 => ⟨c, vs, rfl, ex_t (e68.trans e9) hc, fun p o np od os => ?_⟩)
        have e6x : Ex H6 (upd H9 p (.frz o (.tup vs.reverse))) := (e68.trans e9).trans (Ex.new np)
        refine ⟨td, p, o, ws, vs.reverse, rfl, rfl, e6x _ _ td6, upd_same, od, os, sz_of (by rw [List.length_reverse]; omega), ?_⟩
        have etx : ET K H6 (upd (upd H9 p (.frz o (.tup vs.reverse))) td (.lst (ws ++ vs.reverse))) := ET.trans (Dw.Ex.et e6x) (ET.refl.upd (e6x _ _ td6))
        refine ⟨szs (b ++ ts.reverse), by rw [szs_app, szs_app, szs_rev, szs, szs, Tm.sz]; omega, (x6.trans e6x).mut ntH, b ++ ts.reverse, ws ++ vs.reverse, ks, _, rfl, upd_same, (tb6.et etx).app (tvs.et etx).rev, by rw [upd_ne far]; exact e6x _ _ hm6, nd, fun z => ?_, by rw [szs_app, szs_rev]; omega, by rw [← ord, List.reverse_append, List.reverse_reverse, lss_app, Tm.ls], rfl⟩
        rw [← mem z, lss_app, lss_app, lss, lss, Tm.ls, List.append_nil, List.mem_append, List.mem_append, mem_lss_rev]
    · have no : stk = [] := by
        cases us with
        | nil => exact List.length_eq_zero_iff.mp lu.symm
        | cons _ _ => cases hb
      subst no
      refine s_ret (ev_var rfl) fun H5 e5 => q _ H5 (e3.trans (e4.trans e5)) ⟨m, ks, rfl, (e4.trans e5) _ _ hks, nd, by rw [szs] at le; exact le, fun x => ?_, by rw [List.reverse_nil, lss] at ord; exact ord⟩
      rw [← mem x, lss]
      simp
end
end K80
end
section
namespace K80
open PySem PySem.Spec PyProof.Rows L2 Evl Dw M20
theorem TmsV.get {K : PySem.W.Frag} {H : Hp} : ∀ {ts : List Tm} {us : List V} {i : Nat} {u : V}, TmsV K H ts us → us[i]? = some u → ∃ t, ts[i]? = some t ∧ TmV K H t u
  | [], us, i, u, h, e => by
    rw [TmsV] at h
    subst h
    rw [List.getElem?_nil] at e
    cases e
  | t :: ts, us, i, u, h, e => by
    rw [TmsV] at h
    obtain ⟨v, ws, q, a, b⟩ := h
    subst q
    match i, e with
    | 0, e =>
      cases Option.some.inj (show some v = some u from e)
      exact ⟨t, rfl, a⟩
    | i + 1, e =>
      show ∃ t, ts[i]? = some t ∧ _
      exact TmsV.get b (show ws[i]? = some u from e)
theorem fold_nd : ∀ (xs ks : List Str), ks.Nodup → (xs.foldl addK ks).Nodup
  | [], ks, h => h
  | x :: xs, ks, h => by
    rw [List.foldl_cons]
    refine fold_nd xs _ ?_
    unfold addK
    split
    · exact h
    · rename_i no
      exact (List.perm_append_singleton x ks).nodup_iff.mpr (List.nodup_cons.mpr ⟨no, h⟩)
theorem firsts_nd (xs : List Str) : (firsts xs).Nodup := fold_nd xs [] List.nodup_nil
theorem lss_take {ts : List Tm} {i : Nat} {t : Tm} (h : ts[i]? = some t) : lss (ts.take (i + 1)) = lss (ts.take i) ++ t.ls := by
  rw [List.take_add_one, h, lss_app]
  show _ ++ lss [t] = _
  rw [lss, lss, List.append_nil]
theorem szs_take {ts : List Tm} {i : Nat} {t : Tm} (h : ts[i]? = some t) : szs (ts.take (i + 1)) = szs (ts.take i) + t.sz := by
  rw [List.take_add_one, h, szs_app]
  show _ + szs [t] = _
  rw [szs, szs, Nat.add_zero]
theorem szs_take_le (ts : List Tm) (i : Nat) : szs (ts.take i) ≤ szs ts := by
  have h : szs ts = szs (ts.take i) + szs (ts.drop i) := by rw [← szs_app, List.take_append_drop]
  omega
theorem sz_le {ts : List Tm} {i : Nat} {t : Tm} (h : ts[i]? = some t) : t.sz ≤ szs ts := by
  have a := szs_take h
  have b := szs_take_le ts (i + 1)
  omega
def FStrs (H : Hp) (v : V) (ls : List Str) : Prop := ∃ a o, v = .ref a ∧ H a = some (.frz o (.tup (ls.map V.str))) ∧ o.dict = none
theorem FStrs.ex {H H' : Hp} {v : V} {ls : List Str} (e : Ex H H') (h : FStrs H v ls) : FStrs H' v ls := let ⟨a, o, q, s, d⟩ := h; ⟨a, o, q, e _ _ s, d⟩
section
variable {P : Program} {w : World} {K : PySem.W.Frag} {mg : Str → Option Value} {base : Heap}
theorem pi_or {X : Cx} {tg e : Expr} {w1 w2 : TI} (h1 : PI X tg e w1) (h2 : PI X tg e w2) : PI X tg e (fun σ H R => w1 σ H R ∨ w2 σ H R) := ⟨fun pins s σ H R I h => by
  rcases h with h | h
  · exact h1.run pins s σ H R I h
  · exact h2.run pins s σ H R I h⟩
theorem q_forLT {σ : L2.St} {H H0 : Hp} {a : Addr} {xs : List V} {tl : TE} {g : TG} {tu tz : TS} {D : Ends} (h : Ev tl σ H (.ref a)) (hx : SqL K H a xs ∨ SqT K H a xs) (Pv : Nat → L2.St → Hp → Prop) (h0 : ∀ H1, Ex H H1 → Pv 0 σ H1) (hl : ∀ i σ' H', i ≤ xs.length → Pv i σ' H' → (SqL K H0 a xs → SqL K H' a xs) ∧ (SqT K H0 a xs → SqT K H' a xs)) (h00 : SqL K H0 a xs ∨ SqT K H0 a xs)
    (hs : ∀ i x σ' H', xs[i]? = some x → Pv i σ' H' → g x σ' H' fun σ2 H2 => tu { D with nx := Pv (i + 1), ct := Pv (i + 1), bk := tz D } σ2 H2) (hd : ∀ σ' H', Pv xs.length σ' H' → tz D σ' H') : tSeq (tFor (fun σ H R => iList K tl σ H R ∨ iTup K tl σ H R) g tu) tz D σ H := by
  by_cases z : SqL K H0 a xs
  · have z2 : SqL K H a xs ∨ ¬ SqL K H a xs := Classical.em _
    rcases hx with hx | hx
    · exact Or.inl (q_forL (D := D) (tz := tz) h hx Pv h0 (fun i σ' H' li p => (hl i σ' H' li p).1 z) hs hd)
    · rcases h00 with w | w
      · exact Or.inl (q_forL (D := D) (tz := tz) h ((hl 0 σ H (Nat.zero_le _) (h0 H (Ex.refl H))).1 z) Pv h0 (fun i σ' H' li p => (hl i σ' H' li p).1 z) hs hd)
      · exact Or.inr (q_forT (D := D) (tz := tz) h hx Pv h0 (fun i σ' H' li p => (hl i σ' H' li p).2 w) hs hd)
  · have w : SqT K H0 a xs := h00.resolve_left z
    exact Or.inr (q_forT (D := D) (tz := tz) h ((hl 0 σ H (Nat.zero_le _) (h0 H (Ex.refl H))).2 w) Pv h0 (fun i σ' H' li p => (hl i σ' H' li p).2 w) hs hd)
def sp_variables_of (K : PySem.W.Frag) : Sp := spX (fun (ts : List Tm) vs H => (∃ l us, vs = [.ref l] ∧ (SqL K H l us ∨ SqT K H l us) ∧ TmsV K H ts us) ∧ szs ts ≤ 63) (fun ts v H => ∃ (ys : List Str), FStrs H v ys ∧ ys.Nodup ∧ sortedS ys = true ∧ ∀ x, x ∈ ys ↔ x ∈ lss ts)
theorem c_variables_of (T : Txt mg) (D : Df K mg "variables_of" s_variables_of ["terms"]) (c_variables_met : Cl P w K mg base 1 "variables_met" (sp_variables_met K)) : Cl P w K mg base 2 "variables_of" (sp_variables_of K) := by
  refine cl_of (k := 1) D sc_variables_of (fun vs H Q E h => ?_) (fun f cdv A outer s H vs Q E hr h => ?_)
  · obtain ⟨p, ⟨⟨l, us, rfl, _⟩, _⟩, _⟩ := h
    rfl
  · obtain ⟨ts, ⟨⟨l, us, rfl, hl, tms⟩, big⟩, q⟩ := h
    refine ⟨_, (pss_cons (ps_set (i := 1) sc_variables_of.nd rfl (.inl rfl) (pe_lst pa_nil))
      (pss_cons (ps_for PassesOwn.never (by rfl) (pi_or (pi_list (pv 0)) (pi_tup (pv 0))) (pg_name (i := 2) sc_variables_of.nd rfl (.inl rfl))
        (pss_one (ps_expr (pe_bm PySem.F.plainAttrs_list PySem.F.slot_list_extend PySem.F.type_list_extend mt_extend (pv 1) (pa_cons (pe_cl c_variables_met hr (by first | decide | omega) (by rfl) (pa_cons (pv 2) pa_nil)) pa_nil)))))
      (pss_one (ps_ret (pe_callTy call_tupF (by rfl) T.z_tuple (by decide +kernel) (pa_cons (pe_callB (cr_sortX rfl) (by rfl) T.z_sorted (by decide +kernel) (pa_cons (pe_callTy (cr_setX rfl) (by rfl) T.z_set (by decide +kernel) (pa_cons (pv 1) pa_nil)) pa_nil)) pa_nil)))))), ?_⟩
    have lu := tms.len
    refine q_asgL (el_lst ea_nil (Nat.zero_le _)) fun m H1 nm e1 hm => ?_
    refine q_forLT (K := K) (ev_var rfl) (hl.imp (ex_l e1) (ex_t e1)) (fun i σ H' => Ex H H' ∧ ∃ (ks : List Str) (y : Option V), H' m = some (.lst (ks.map V.str)) ∧ ks.length ≤ szs (ts.take i) ∧ (∀ x, x ∈ ks ↔ x ∈ lss (ts.take i)) ∧ σ = [some (.ref l), some (.ref m), y])
      (fun H2 e2 => ⟨e1.trans e2, [], none, e2 _ _ hm, by rw [List.take_zero, szs]; exact Nat.le_refl _, fun x => by rw [List.take_zero, lss], rfl⟩) (fun i σ H' _ ⟨e, _⟩ => ⟨ex_l e, ex_t e⟩) hl (fun i x σ H2 hx hP => ?_) (fun σ H2 hP => ?_)
    · obtain ⟨e2, ks, y, hks, lk, mem, hσ⟩ := hP
      subst hσ
      obtain ⟨t, ht, tv⟩ := tms.get hx
      have le := sz_le ht
      have st := szs_take ht
      have tl := szs_take_le ts (i + 1)
      show tDrop _ _ [some (.ref l), some (.ref m), some x] H2
      refine do_bm (ev_var rfl) fun H3 e3 => ⟨Or.inl ⟨rfl, _, sq_of (e3 _ _ hks)⟩, do_cons ?_⟩
      refine ep_call t (ea_cons (ev_var rfl) ea_nil) (fun H4 e4 => ⟨⟨_, rfl, tv.et (Dw.Ex.et ((e2.trans e3).trans e4))⟩, by omega⟩) H3 (Ex.refl _) _ fun v H4 e4 hv => ?_
      obtain ⟨b, zs, rfl, hb, nd, lz, mz, _⟩ := hv
      have e34 := e3.trans e4
      refine ⟨m, b, ks.map V.str, zs.map V.str, rfl, rfl, e34 _ _ hks, hb, sz_of (by rw [List.length_map, List.length_map]; omega), ?_⟩
      refine ⟨(e2.trans e34).mut nm, ks ++ zs, _, by rw [upd_same, List.map_append], by rw [List.length_append]; omega, fun z => ?_, rfl⟩
      rw [List.mem_append, mem z, mz z, lss_take ht, List.mem_append]
    · obtain ⟨e2, ks, y, hks, lk, mem, hσ⟩ := hP
      subst hσ
      rw [lu, List.take_length] at lk mem
      have lf := firsts_len ks
      refine do_ret (do_cb (do_cons (do_cb (do_cons (do_cb (do_cons (do_ev (ev_var rfl) fun H3 e3 => ?_)))))))
      refine ⟨m, ks, rfl, sq_of (e3 _ _ hks), by omega, fun p np => ?_⟩
      refine ⟨p, _, rfl, upd_same, by omega, fun ys p2 perm so np2 => ?_⟩
      refine ⟨p2, _, rfl, sq_of upd_same, fun r o nr od => ?_⟩
      have e3r := ((e3.trans (Ex.new np)).trans (Ex.new np2)).trans (Ex.new (o := .frz o (.tup (ys.map V.str))) nr)
      refine q _ _ (e2.trans e3r) ⟨ys, ⟨r, o, rfl, upd_same, od⟩, perm.nodup_iff.mpr (firsts_nd ks), so, fun x => ?_⟩
      rw [perm.mem_iff, mem_firsts, mem x]
end
end K80
end
section
namespace K80
open PySem PySem.Spec PyProof.Rows L2 Evl Dw M20
def vars : List Str := ["u", "v", "w", "x", "y", "z"]
structure Vars (K : PySem.W.Frag) (mg : Str → Option Value) (va : Addr) : Prop where
  at_ : mg "VARIABLES" = some (.ref va)
  sq : ∀ H, SqT K H va (vars.map V.str)
theorem pe_gv {X : Cx} {x : Str} {pos : Pos} {a : Addr} (hg : Gl X x) (h : X.mg x = some (.ref a)) (hn : x ≠ "__name__" := by decide) (hd : (x == ("__debug__" : Str)) = false := by decide) : PE X (.Name x pos) (tC (.ref a)) := pe_glob hg h rfl (hd := hd)
section
variable {σ : L2.St} {H : Hp} {ta tb : TE}
theorem do_par {i j : Nat} {t : TA} {tz : TS} {D : Ends} (h : t σ H fun vs H1 => ∃ x y, vs = [x, y] ∧ tz D ((σ.set i (some x)).set j (some y)) H1) : tSeq (tPar i j t) tz D σ H := h
theorem ev_din {d : Addr} {kvs : List (Key × V)} {x : Str} {b : Bool} (ha : Ev ta σ H (.str x)) (hb : Ev tb σ H (.ref d)) (hd : H d = some (.dK kvs)) (hv : (valV kvs (.inr x)).isSome = b) : Ev (tDIn ta tb) σ H (.bl b) := fun H1 e Q q =>
  ha H1 e _ fun H2 e2 => hb H2 (e.trans e2) _ fun H3 e3 => ⟨d, valV kvs (.inr x), rfl, DGet.k (k := .inr x) (((e.trans e2).trans e3) _ _ hd), by rw [hv]; exact q H3 (e2.trans e3)⟩
theorem ev_dget {d : Addr} {kvs : List (Key × V)} {x : Str} {v : V} (ha : Ev ta σ H (.ref d)) (hb : Ev tb σ H (.str x)) (hd : H d = some (.dK kvs)) (hv : valV kvs (.inr x) = some v) : Ev (tDGet ta tb) σ H v := fun H1 e Q q =>
  ha H1 e _ fun H2 e2 => hb H2 (e.trans e2) _ fun H3 e3 => ⟨d, v, rfl, hv ▸ DGet.k (k := .inr x) (((e.trans e2).trans e3) _ _ hd), q H3 (e2.trans e3)⟩
end
/-- the dict of a signature's deeds -/
def Plc (H : Hp) (d : Addr) (sg : List (Str × Nat)) : Prop := ∃ kvs : List (Key × V), H d = some (.dK kvs) ∧ ∀ p ∈ sg, valV kvs (.inr p.1) = some (vi p.2)
mutual
/-- a term's own form, all through -/
def Tm.ok (sg : List (Str × Nat)) : Tm → Prop
  | .var x => x ∈ vars
  | .deed f ts => (f, ts.length) ∈ sg ∧ oks sg ts
def oks (sg : List (Str × Nat)) : List Tm → Prop
  | [] => True
  | t :: ts => t.ok sg ∧ oks sg ts
end
section
variable {P : Program} {w : World} {K : PySem.W.Frag} {mg : Str → Option Value} {base : Heap} {va : Addr}
def sp_has_term_form (K : PySem.W.Frag) : Sp := spX (fun (p : List (Str × Nat) × Tm) vs H => (∃ d v, vs = [.ref d, v] ∧ Plc H d p.1 ∧ TmV K H p.2 v) ∧ p.2.ok p.1) (fun _ v _ => v = .bl true)
theorem c_has_term_form (T : Txt mg) (V0 : Vars K mg va) (D : Df K mg "has_term_form" s_has_term_form ["places", "thing"]) : Cl P w K mg base 1 "has_term_form" (sp_has_term_form K) := by
  refine cl_of (k := 0) D sc_has_term_form (fun vs H Q E h => ?_) (fun f cdv A outer s H vs Q E hr h => ?_)
  · obtain ⟨p, ⟨⟨d, v, rfl, _⟩, _⟩, _⟩ := h
    rfl
  · obtain ⟨⟨sg, t⟩, ⟨⟨d, v, rfl, ⟨kvs, hd, val⟩, tv⟩, ok⟩, q⟩ := h
    refine ⟨_, (pss_cons (ps_if (pt_not (pt_val (pe_callB call_isi (by rfl) T.z_isinstance (by decide +kernel) (pa_cons (pv 1) (pa_cons (pe_ty "tuple" (by rfl) T.z_tuple (by decide +kernel)) pa_nil)))))
        (pss_one (ps_ret pe_bl))
        pss_nil)
      (pss_cons (ps_if (pt_cmpR op_eq (pe_callB call_len_seq (by rfl) T.z_len PySem.boot_len (pa_cons (pv 1) pa_nil)) pe_int (nomark _))
        (pss_one (ps_ret (pe_and (pe_cmpR op_eq (pe_ix ix_tup (pv 1) pe_int (fun _ _ => rfl)) pe_str (nomark _)) (pe_one (pe_cmpR op_in_seq (pe_ix ix_tup (pv 1) pe_int (fun _ _ => rfl)) (pe_gv (by rfl) V0.at_) (by rfl))))))
        pss_nil)
      (pss_cons (ps_if (PW.pt (pw_or (pt_cmpR op_ne (pe_callB call_len_seq (by rfl) T.z_len PySem.boot_len (pa_cons (pv 1) pa_nil)) pe_int (nomark _)) (pw_or1 (pt_cmpR op_ne (pe_ix ix_tup (pv 1) pe_int (fun _ _ => rfl)) pe_str (nomark _)))))
        (pss_one (ps_ret pe_bl))
        pss_nil)
      (pss_cons (ps_par (i := 2) (j := 3) (by rfl) sc_has_term_form.nd rfl rfl (by decide) rfl rfl (pa_cons (pe_ix ix_tup (pv 1) pe_int (fun _ _ => rfl)) (pa_cons (pe_ix ix_tup (pv 1) pe_int (fun _ _ => rfl)) pa_nil)) (by rfl))
      (pss_one (ps_ret (pe_and (pe_callB call_isi (by rfl) T.z_isinstance (by decide +kernel) (pa_cons (pv 2) (pa_cons (pe_ty "str" (by rfl) T.z_str (by decide +kernel)) pa_nil))) (pe_and (pe_cmp (pc_din (hu_of hr) (pv 2) (pv 0))) (pe_and (pe_callB call_isi (by rfl) T.z_isinstance (by decide +kernel) (pa_cons (pv 3) (pa_cons (pe_ty "tuple" (by rfl) T.z_tuple (by decide +kernel)) pa_nil))) (pe_one (pe_cmpR op_eq (pe_callB call_len_seq (by rfl) T.z_len PySem.boot_len (pa_cons (pv 3) pa_nil)) (pe_dget (hu_of hr) (pv 0) (pv 2) (fun _ _ => rfl)) (nomark _)))))))))))), ?_⟩
    replace tv : TmV K H t v := tv
    replace ok : t.ok sg := ok
    replace val : ∀ p ∈ sg, valV kvs (.inr p.1) = some (vi p.2) := val
    cases t with
    | var x =>
      rw [TmV] at tv
      rw [Tm.ok] at ok
      obtain ⟨a, rfl, ha⟩ := tv
      refine q_when (b := false) (et_is (et_not (et_val (ev_isi (ev_var rfl) ev_c (.ty _) (fun _ e => tyx_tup (ex_t e ha)) kit_tt))) rfl) (fun hb => by cases hb) (fun _ H1 e1 => ?_)
      refine q_when (b := true) (et_is (et_test (ev_op (ev_lenT (ev_var rfl) (ex_t e1 ha)) ev_c (rv_eq rfl))) rfl) (fun _ H2 e2 => ?_) (fun hb => by cases hb)
      have e02 := e1.trans e2
      refine s_ret (v := .bl true) (ev_is (ev_andV (ev_op (ev_op (ev_var rfl) ev_c (rv_ixT (K := K) (ex_t e02 ha) (atI_vi (k := 0) rfl))) ev_c (rv_eq rfl)) (fun _ => ev_op (ev_op (ev_var rfl) ev_c (rv_ixT (K := K) (ex_t e02 ha) (atI_vi (k := 1) rfl))) ev_c (rv_isT (V0.sq _) rfl (flat_strs vars)))) (by rw [inV_str, decide_eq_true ok]; rfl)) fun H3 e3 => q _ H3 (e02.trans e3) rfl
    | deed f ts =>
      rw [TmV] at tv
      rw [Tm.ok] at ok
      obtain ⟨a, b, us, rfl, ha, hb, tms⟩ := tv
      obtain ⟨mem, _⟩ := ok
      have lu := tms.len
      have vf := val _ mem
      refine q_when (b := false) (et_is (et_not (et_val (ev_isi (ev_var rfl) ev_c (.ty _) (fun _ e => tyx_tup (ex_t e ha)) kit_tt))) rfl) (fun hb => by cases hb) (fun _ H1 e1 => ?_)
      refine q_when (b := false) (et_is (et_test (ev_op (ev_lenT (ev_var rfl) (ex_t e1 ha)) ev_c (rv_eq rfl))) rfl) (fun hb => by cases hb) (fun _ H2 e2 => ?_)
      have e02 := e1.trans e2
      refine q_when (b := false) (et_is (et_or (a := false) (b := false) (et_is (et_test (ev_op (ev_lenT (ev_var rfl) (ex_t e02 ha)) ev_c (rv_ne rfl))) rfl) (fun _ => et_is (et_test (ev_op (ev_op (ev_var rfl) ev_c (rv_ixT (K := K) (ex_t e02 ha) (atI_vi (k := 0) rfl))) ev_c (rv_ne rfl))) (by decide))) rfl) (fun hb => by cases hb) (fun _ H3 e3 => ?_)
      have e03 := e02.trans e3
      have two : EvA (tCons (tOp (rIxT K) (tVar 1) (tC (.int 1))) (tCons (tOp (rIxT K) (tVar 1) (tC (.int 2))) tNil)) [some (.ref d), some (.ref a), none, none] H3 [.str f, .ref b] := ea_cons (ev_op (ev_var rfl) ev_c (rv_ixT (K := K) (ex_t e03 ha) (atI_vi (k := 1) rfl))) (ea_cons (ev_op (ev_var rfl) ev_c (rv_ixT (K := K) (ex_t e03 ha) (atI_vi (k := 2) rfl))) ea_nil)
      refine do_par (two H3 (Ex.refl _) _ fun H4 e4 => ⟨_, _, rfl, ?_⟩)
      have e04 := e03.trans e4
      show tRet _ _ [some (.ref d), some (.ref a), some (.str f), some (.ref b)] H4
      refine s_ret (v := .bl true) (ev_is (ev_andV (a := true) (ev_isi (ev_var rfl) ev_c (.ty _) (fun _ _ => tyx_str f) kit_ss) (fun _ => ev_andV (a := true) (ev_din (ev_var rfl) (ev_var rfl) (e04 _ _ hd) (by rw [vf]; rfl)) (fun _ => ev_andV (a := true) (ev_isi (ev_var rfl) ev_c (.ty _) (fun _ e => tyx_tup (ex_t (e04.trans e) hb)) kit_tt) (fun _ => ev_op (ev_lenT (ev_var rfl) (ex_t e04 hb)) (ev_dget (ev_var rfl) (ev_var rfl) (e04 _ _ hd) vf) (rv_eq rfl))))) ?_) fun H5 e5 => q _ H5 (e04.trans e5) rfl
      rw [lu]
      simp
end
end K80
end
section
namespace K80
open PySem PySem.Spec PyProof.Rows L2 Evl Dw M20
/-- a signature, its tuple told with its own object -/
def FSig (K : PySem.W.Frag) (H : Hp) (v : V) (sg : List (Str × Nat)) : Prop := ∃ (a : Addr) (o : Obj) (ps : List Addr), v = .ref a ∧ H a = some (.frz o (.tup (ps.map V.ref))) ∧ o.dict = none ∧ Paired (fun p d => SqT K H p [.str d.1, vi d.2]) ps sg
theorem FSig.ex {K : PySem.W.Frag} {H H' : Hp} {v : V} {sg : List (Str × Nat)} (e : Ex H H') (h : FSig K H v sg) : FSig K H' v sg := let ⟨a, o, ps, q, s, d, p⟩ := h; ⟨a, o, ps, q, e _ _ s, d, paired_imp (fun _ _ z => ex_t e z) p⟩
theorem paired_map {α β γ : Type} {R : α → γ → Prop} {S : β → γ → Prop} {f : α → β} (h : ∀ a c, R a c → S (f a) c) : ∀ {xs : List α} {ys : List γ}, Paired R xs ys → Paired S (xs.map f) ys
  | [], [], .nil => .nil
  | _ :: _, _ :: _, .cons r t => .cons (h _ _ r) (paired_map h t)
theorem FSig.sig {K : PySem.W.Frag} {H : Hp} {v : V} {sg : List (Str × Nat)} (h : FSig K H v sg) : Sig K H v sg := let ⟨a, o, ps, q, s, _, p⟩ := h; ⟨a, _, q, .inl (.inr ⟨o, s⟩), paired_map (f := V.ref) (fun _ _ z => ⟨_, rfl, z⟩) p⟩
/-! the dict of a signature whose names are unlike -/
def kvsOf (sg : List (Str × Nat)) : List (Key × V) := sg.map fun d => (.inr d.1, vi d.2)
theorem val_put (acc : List (Key × V)) (k j : Key) (v : V) : valV (putK acc k v) j = if j = k then some v else valV acc j := by
  unfold putK
  by_cases h : (acc.any fun kv => decide (kv.1 = k)) = true
  · rw [if_pos h, valV_map]
    rw [valV_any] at h
    by_cases e : j = k
    · subst e
      rw [if_pos rfl]
      obtain ⟨y, hy⟩ := Option.isSome_iff_exists.mp h
      rw [hy]
      simp
    · rw [if_neg e]
      cases valV acc j <;> simp [e]
  · rw [if_neg h]
    refine valV_snoc k j v acc ?_
    rw [valV_any] at h
    cases q : valV acc k with
    | none => rfl
    | some y =>
      rw [q] at h
      exact absurd rfl h
theorem val_merge : ∀ (sg : List (Str × Nat)) (acc : List (Key × V)) (x : Str) (n : Nat), (sg.map (·.1)).Nodup → ((x, n) ∈ sg ∨ (x ∉ sg.map (·.1) ∧ valV acc (.inr x) = some (vi n))) → valV (mergeK acc (kvsOf sg)) (.inr x) = some (vi n)
  | [], acc, x, n, _, h => by
    rcases h with h | h
    · cases h
    · exact h.2
  | d :: sg, acc, x, n, nd, h => by
    rw [List.map_cons, List.nodup_cons] at nd
    show valV (mergeK (putK acc (.inr d.1) (vi d.2)) (kvsOf sg)) (.inr x) = some (vi n)
    refine val_merge sg _ x n nd.2 ?_
    rcases h with h | h
    · rcases List.mem_cons.mp h with e | e
      · subst e
        refine .inr ⟨nd.1, ?_⟩
        rw [val_put, if_pos rfl]
      · exact .inl e
    · rw [List.map_cons, List.mem_cons, not_or] at h
      refine .inr ⟨h.1.2, ?_⟩
      rw [val_put, if_neg (fun z => h.1.1 (Sum.inr.inj z))]
      exact h.2
theorem paired_mapR {α β γ : Type} {R : α → β → Prop} {S : α → γ → Prop} {f : β → γ} (h : ∀ a b, R a b → S a (f b)) : ∀ {xs : List α} {ys : List β}, Paired R xs ys → Paired S xs (ys.map f)
  | [], [], .nil => .nil
  | _ :: _, _ :: _, .cons r t => .cons (h _ _ r) (paired_mapR h t)
section
variable {σ : L2.St} {H : Hp}
theorem do_setG {te : TE} {g : TG} {tz : TS} {D : Ends} (h : te σ H fun x H1 => g x σ H1 fun σ2 H2 => tz D σ2 H2) : tSeq (tAsg te g) tz D σ H := h
theorem do_app {K : PySem.W.Frag} {ta te : TE} {l : Addr} {xs : List V} {D : Ends} (hl : H l = some (.lst xs)) (ha : Ev ta σ H (.ref l))
    (h : ∀ H1, Ex H H1 → te σ H1 fun v H2 => ∃ a ys y, V.ref l = .ref a ∧ [v] = [y] ∧ H2 a = some (.lst ys) ∧ ys.length < sizeLine ∧ D.nx σ (upd H2 a (.lst (ys ++ [y])))) : tDrop (tBM K "list" rAppend ta (tCons te tNil)) D σ H :=
  ha H (Ex.refl H) _ fun H1 e1 => ⟨Or.inl ⟨rfl, xs, sq_of (e1 l _ hl)⟩, h H1 e1⟩
/-- for j in reversed(range(n)) -/
theorem s_forRev {te : TE} {tu : TS} {D : Ends} {j n : Nat} (h : Ev te σ H (vi n)) (hn : n ≤ 1000) (Pv : Nat → L2.St → Hp → Prop) (h0 : ∀ H1, Ex H H1 → Pv 0 σ H1)
    (hs : ∀ i σ' H', i < n → Pv i σ' H' → tu { D with nx := Pv (i + 1), ct := Pv (i + 1), bk := D.nx } (σ'.set j (some (vi (n - 1 - i)))) H') (hd : ∀ σ' H', Pv n σ' H' → D.nx σ' H') : tFor (iRevR (tRg1 te)) (gName j) tu D σ H := by
  refine h H (Ex.refl H) _ fun H1 e => ⟨(n : Int), rfl, by omega, by omega, by omega, by omega, ?_⟩
  have z : ((n : Int) - 0).toNat = n := by omega
  rw [z]
  refine for_it (walk_rangeC (lo := (0 : Int) + (n : Int) - 1) (c := -1) (n := n)) Pv (h0 H1 e) (fun _ _ _ _ _ => trivial) (fun i x σ' H2 H3 hi p y => ?_) hd
  obtain ⟨e1, e2⟩ := y
  subst e1
  have e3 : x = vi (n - 1 - i) := by
    rw [e2]
    show V.int _ = V.int (((n - 1 - i : Nat)) : Int)
    congr 1
    omega
  subst e3
  exact hs i σ' H3 hi p
end
/-- something on the stack of term_wrong: a path and a term -/
def PrV (K : PySem.W.Frag) (H : Hp) (sg : List (Str × Nat)) (n : Nat) (u : V) (t : Tm) : Prop := ∃ (a pa : Addr) (v : V) (xs : List V), u = .ref a ∧ SqT K H a [.ref pa, v] ∧ SqT K H pa xs ∧ xs.length + t.sz ≤ n ∧ TmV K H t v ∧ t.ok sg
theorem PrV.et {K : PySem.W.Frag} {H H' : Hp} {sg : List (Str × Nat)} {n : Nat} {u : V} {t : Tm} (e : ET K H H') (h : PrV K H sg n u t) : PrV K H' sg n u t := let ⟨a, pa, v, xs, q, s, p, l, tv, ok⟩ := h; ⟨a, pa, v, xs, q, e _ _ s, e _ _ p, l, tv.et e, ok⟩
theorem paired_last {α β : Type} {R : α → β → Prop} : ∀ {xs : List α} {ys : List β}, Paired R xs ys → ys ≠ [] → ∃ as a bs b, xs = as ++ [a] ∧ ys = bs ++ [b] ∧ Paired R as bs ∧ R a b
  | [], [], .nil, h => absurd rfl h
  | [x], [y], .cons r .nil, _ => ⟨[], x, [], y, rfl, rfl, .nil, r⟩
  | x :: x2 :: xs, y :: y2 :: ys, .cons r t, _ => by
    obtain ⟨as, a, bs, b, e1, e2, p, q⟩ := paired_last t (by simp)
    exact ⟨x :: as, a, y :: bs, b, by rw [e1]; rfl, by rw [e2]; rfl, .cons r p, q⟩
theorem oks_get {sg : List (Str × Nat)} : ∀ {ts : List Tm} {i : Nat} {t : Tm}, oks sg ts → ts[i]? = some t → t.ok sg
  | [], i, t, _, e => by
    rw [List.getElem?_nil] at e
    cases e
  | s :: ts, i, t, h, e => by
    rw [oks] at h
    match i, e with
    | 0, e =>
      cases Option.some.inj (show some s = some t from e)
      exact h.1
    | i + 1, e => exact oks_get h.2 (show ts[i]? = some t from e)
theorem TmsV.put {K : PySem.W.Frag} {H : Hp} {ts : List Tm} {us : List V} {i : Nat} (h : TmsV K H ts us) (hi : i < ts.length) : ∃ u, us[i]? = some u ∧ TmV K H ts[i] u := by
  have lu := h.len
  have e : us[i]? = some us[i] := List.getElem?_eq_getElem (by omega)
  obtain ⟨t, ht, tv⟩ := h.get e
  rw [List.getElem?_eq_getElem hi] at ht
  cases Option.some.inj ht
  exact ⟨_, e, tv⟩
section
variable {P : Program} {w : World} {K : PySem.W.Frag} {mg : Str → Option Value} {base : Heap}
def sp_wrong_in_term (K : PySem.W.Frag) : Sp := spX (fun (p : List (Str × Nat) × Tm) vs H => (∃ d v, vs = [.ref d, v] ∧ Plc H d p.1 ∧ TmV K H p.2 v) ∧ p.2.ok p.1 ∧ p.2.sz ≤ 60) (fun _ v _ => v = .non)
theorem c_wrong_in_term (T : Txt mg) (D : Df K mg "wrong_in_term" s_wrong_in_term ["places", "thing"]) (c_has_term_form : Cl P w K mg base 1 "has_term_form" (sp_has_term_form K)) : Cl P w K mg base 2 "wrong_in_term" (sp_wrong_in_term K) := by
  refine cl_of (k := 1) D sc_wrong_in_term (fun vs H Q E h => ?_) (fun f cdv A outer s H vs Q E hr h => ?_)
  · obtain ⟨p, ⟨⟨u, v, rfl, _⟩, _⟩, _⟩ := h
    rfl
  · obtain ⟨⟨sg, t⟩, ⟨⟨d, v, rfl, plc, tv⟩, ok, small⟩, q⟩ := h
    refine ⟨_, (pss_cons (ps_set (i := 2) sc_wrong_in_term.nd rfl (.inl rfl) pe_int)
      (pss_cons (ps_set (i := 3) sc_wrong_in_term.nd rfl (.inl rfl) (pe_lst (pa_cons (pe_tup (pa_cons (pe_tup pa_nil) (pa_cons (pv 1) pa_nil))) pa_nil)))
      (pss_cons (ps_while PassesOwn.never (pt_truth (pv 3) (by intro _; rfl))
        (pss_cons (ps_asg (pe_bm0 PySem.F.plainAttrs_list PySem.F.slot_list_pop PySem.F.type_list_pop mt_pop (pv 3)) (pg_tup (by rfl) (pgs_cons (pg_name (i := 4) sc_wrong_in_term.nd rfl (.inl rfl)) (pgs_cons (pg_name (i := 5) sc_wrong_in_term.nd rfl (.inl rfl)) pgs_nil))))
        (pss_cons (ps_if (pt_not (pt_val (pe_cl c_has_term_form hr (by first | decide | omega) (by rfl) (pa_cons (pv 0) (pa_cons (pv 5) pa_nil)))))
          (pss_one (ps_ret (pe_tup (pa_cons pe_str (pa_cons (pv 4) pa_nil)))))
          pss_nil)
        (pss_cons (ps_aug (i := 2) sc_wrong_in_term.nd rfl (.inl rfl) pe_int ip_add)
        (pss_one (ps_if (pt_cmpR op_eq (pe_ix ix_tup (pv 5) pe_int (fun _ _ => rfl)) pe_str (nomark _))
          (pss_one (ps_for PassesOwn.never (by rfl) (pi_revR (by rfl) T.z_reversed (prg_1 (by rfl) T.z_range (pe_callB call_len_seq (by rfl) T.z_len PySem.boot_len (pa_cons (pe_ix ix_tup (pv 5) pe_int (fun _ _ => rfl)) pa_nil)))) (pg_name (i := 6) sc_wrong_in_term.nd rfl (.inl rfl))
            (pss_one (ps_expr (pe_bm PySem.F.plainAttrs_list PySem.F.slot_list_append PySem.F.type_list_append mt_append (pv 3) (pa_cons (pe_tup (pa_cons (pe_op op_catA (pv 4) (pe_tup (pa_cons (pv 6) pa_nil))) (pa_cons (pe_ix ix_tup (pe_ix ix_tup (pv 5) pe_int (fun _ _ => rfl)) (pv 6) (fun _ _ => rfl)) pa_nil))) pa_nil))))))
          pss_nil))))))
      (pss_one (ps_ret (pe_ifExp (pt_cmpR op_gt (pv 2) (pe_gi (by rfl) T.c_MOST_PARTS) (nomark _)) (pe_tup (pa_cons pe_str pa_nil)) pe_non)))))), ?_⟩
    replace plc : Plc H d sg := plc
    replace tv : TmV K H t v := tv
    replace ok : t.ok sg := ok
    replace small : t.sz ≤ 60 := small
    have x3 : Ex H H := Ex.refl H
    refine q_asg (v := vi 0) ev_c fun H4 e4 => ?_
    refine do_set (do_lst (do_cons (do_tup (do_cons (do_tup (do_nil ⟨Nat.zero_le _, fun p1 n1 => do_cons (do_ev (ev_var rfl) fun H5 e5 => do_nil ⟨by show 2 ≤ sizeLine; decide, fun p2 n2 => do_nil ⟨by show 1 ≤ sizeLine; decide, fun td ntd => ?_⟩⟩)⟩))))))
    have e45 : Ex H4 H5 := (Ex.new n1).trans e5
    have x6 : Ex H (upd H5 p2 (.tup [.ref p1, v])) := (e4.trans e45).trans (Ex.new n2)
    have s2 : SqT K (upd H5 p2 (.tup [.ref p1, v])) p2 [.ref p1, v] := st_of upd_same
    have s1 : SqT K (upd H5 p2 (.tup [.ref p1, v])) p1 [] := st_of (Ex.new n2 _ _ (e5 _ _ upd_same))
    generalize upd H5 p2 (.tup [.ref p1, v]) = H6 at *
    have nt3 : H td = none := fresh_back x6 ntd
    have tv6 : TmV K H6 t v := tv.et (Dw.Ex.et (x3.trans x6))
    have et7 : ET K H6 (upd H6 td (.lst [.ref p2])) := Dw.Ex.et (Ex.new ntd)
    show tSeq _ _ _ [some (.ref d), some v, some (vi 0), some (.ref td), none, none, none] (upd H6 td (.lst [.ref p2]))
    refine q_while (fun k σ H' => Ex H H' ∧ ∃ (stk : List Tm) (us : List V) (n : Nat) (y5 y6 y7 : Option V), k = szs stk ∧ H' td = some (.lst us) ∧ Paired (PrV K H' sg t.sz) us stk ∧ n + szs stk = t.sz ∧ σ = [some (.ref d), some v, some (vi n), some (.ref td), y5, y6, y7]) (szs [t])
      ⟨x6.trans (Ex.new ntd), [t], [.ref p2], 0, none, none, none, rfl, upd_same, .cons (PrV.et et7 ⟨p2, p1, v, [], rfl, s2, s1, by rw [List.length_nil]; omega, tv6, ok⟩) .nil, by rw [szs, szs]; omega, rfl⟩ (fun k σ H7 hW => ?_)
    obtain ⟨e7, stk, us, n, y5, y6, y7, ek, hus, prs, tot, hσ⟩ := hW
    subst hσ
    subst ek
    have lu := paired_len prs
    have ls := len_szs stk
    refine ⟨_, et_truL (K := K) (ev_var rfl) (sq_of hus), fun hb H8 e8 => ?_, fun hb H8 e8 => ?_⟩
    · have ne : stk ≠ [] := fun z => by
        subst z
        cases prs
        cases hb
      obtain ⟨ws, u', b, t', rfl, rfl, pb, pt⟩ := paired_last prs ne
      rw [szs_app, szs, szs] at tot
      refine ⟨fun σ' H' => ∃ k', k' < szs (b ++ [t']) ∧ Ex H H' ∧ ∃ (stk : List Tm) (us : List V) (n : Nat) (y5 y6 y7 : Option V), k' = szs stk ∧ H' td = some (.lst us) ∧ Paired (PrV K H' sg t.sz) us stk ∧ n + szs stk = t.sz ∧ σ' = [some (.ref d), some v, some (vi n), some (.ref td), y5, y6, y7], fun σ2 H5 ⟨k', lt, r⟩ => ⟨k', lt, r⟩, ?_⟩
      refine do_setG (do_pop (e8 _ _ hus) (ev_var rfl) fun H9 e9 => ?_)
      have e79 := e8.trans e9
      have et10 : ET K H7 (upd H9 td (.lst ws)) := ET.trans (Dw.Ex.et e79) (ET.refl.upd (e79 _ _ hus))
      have x10 : Ex H (upd H9 td (.lst ws)) := (e7.trans e79).mut nt3
      have td10 : (upd H9 td (.lst ws)) td = some (.lst ws) := upd_same
      have pb10 := paired_imp (fun _ _ z => PrV.et et10 z) pb
      have pt10 := PrV.et et10 pt
      generalize upd H9 td (.lst ws) = H10 at *
      obtain ⟨aa, pa, vv, xs, rfl, sa, sp, lx, tvv, okt⟩ := pt10
      refine ⟨aa, _, rfl, sa, rfl, _, _, rfl, _, _, rfl, rfl, ?_⟩
      show tSeq _ _ _ [some (.ref d), some v, some (vi n), some (.ref td), some (.ref pa), some vv, y7] H10
      obtain ⟨kvs, hd, val⟩ := id plc
      refine q_when (b := false) (et_is (et_not (et_val (ev_callV (v := .bl true) (sg, t') (ea_cons (ev_var rfl) (ea_cons (ev_var rfl) ea_nil)) (fun H11 e11 => ⟨⟨_, _, rfl, ⟨kvs, (x10.trans e11) _ _ hd, val⟩, tvv.et (Dw.Ex.et e11)⟩, okt⟩) (fun _ _ p => p)))) rfl) (fun hb => by cases hb) (fun _ H11 e11 => ?_)
      refine q_aug (a := (n : Int)) (b := 1) rfl ev_c fun H12 e12 => ?_
      have en : V.int ((n : Int) + 1) = vi (n + 1) := by
        show _ = V.int (((n + 1 : Nat)) : Int)
        rw [Int.natCast_add]
        rfl
      show tIfS _ _ _ _ [some (.ref d), some v, some (V.int ((n : Int) + 1)), some (.ref td), some (.ref pa), some vv, y7] H12
      rw [en]
      have e1012 := e11.trans e12
      have x12 : Ex H H12 := x10.trans e1012
      have td12 : H12 td = some (.lst ws) := e1012 _ _ td10
      have pb12 := paired_imp (fun _ _ z => PrV.et (Dw.Ex.et e1012) z) pb10
      have tv12 := tvv.et (Dw.Ex.et e1012)
      have sp12 := ex_t e1012 sp
      have lw := paired_len pb12
      have lb := len_szs b
      cases t' with
      | var x =>
        rw [TmV] at tv12
        obtain ⟨c, rfl, hc⟩ := tv12
        refine s_when (b := false) (et_is (et_test (ev_op (ev_op (ev_var rfl) ev_c (rv_ixT (K := K) hc (atI_vi (k := 0) rfl))) ev_c (rv_eq rfl))) (by decide)) (fun hb => by cases hb) (fun _ H13 e13 => ?_)
        rw [Tm.sz] at tot
        exact ⟨szs b, by rw [szs_app, szs, Tm.sz]; omega, x12.trans e13, b, ws, n + 1, _, _, _, rfl, e13 _ _ td12, paired_imp (fun _ _ z => PrV.et (Dw.Ex.et e13) z) pb12, by omega, rfl⟩
      | deed g ts =>
        rw [TmV] at tv12
        rw [Tm.ok] at okt
        obtain ⟨c, cc, vs, rfl, hc, hcc, tvs⟩ := tv12
        have lvs := tvs.len
        have lts := len_szs ts
        rw [Tm.sz] at tot lx
        refine s_when (b := true) (et_is (et_test (ev_op (ev_op (ev_var rfl) ev_c (rv_ixT (K := K) hc (atI_vi (k := 0) rfl))) ev_c (rv_eq rfl))) (by decide)) (fun _ H13 e13 => ?_) (fun hb => by cases hb)
        have hc13 := ex_t e13 hc
        have hcc13 := ex_t e13 hcc
        refine s_forRev (n := ts.length) (ev_is (ev_lenT (K := K) (ev_op (ev_var rfl) ev_c (rv_ixT (K := K) hc13 (atI_vi (k := 2) rfl))) hcc13) (by rw [lvs])) (by omega) (fun i σ' H' => Ex H H' ∧ ET K H13 H' ∧ ∃ (us : List V) (y7 : Option V), H' td = some (.lst us) ∧ Paired (PrV K H' sg t.sz) us (b ++ ts.reverse.take i) ∧ σ' = [some (.ref d), some v, some (vi (n + 1)), some (.ref td), some (.ref pa), some (.ref c), y7])
          (fun H14 e14 => ⟨(x12.trans e13).trans e14, Dw.Ex.et e14, ws, _, (e13.trans e14) _ _ td12, by rw [List.take_zero, List.append_nil]; exact paired_imp (fun _ _ z => PrV.et (Dw.Ex.et (e13.trans e14)) z) pb12, rfl⟩) (fun i σ' H14 hi hP => ?_) (fun σ' H14 hP => ?_)
        · obtain ⟨x14, et14, us', y7', td14, p14, hσ⟩ := hP
          subst hσ
          have ln := paired_len p14
          have kl : ts.length - 1 - i < ts.length := by omega
          have e5 : List.length (ts.reverse.take i) ≤ ts.length := by rw [List.length_take, List.length_reverse]; omega
          rw [List.length_append] at ln
          obtain ⟨cv, hcv, tcv⟩ := (tvs.et (ET.trans (Dw.Ex.et e13) et14)).put kl
          have hc14 := et14 _ _ hc13
          have hcc14 := et14 _ _ hcc13
          have sp14 := et14 _ _ (ex_t e13 sp12)
          have szc : (ts[ts.length - 1 - i]).sz ≤ szs ts := sz_le (List.getElem?_eq_getElem kl)
          show tDrop _ _ [some (.ref d), some v, some (vi (n + 1)), some (.ref td), some (.ref pa), some (.ref c), some (vi (ts.length - 1 - i))] H14
          refine do_app td14 (ev_var rfl) fun H15 e15 => do_tup (do_cons (do_op (do_ev (ev_var rfl) fun H16 e16 => do_tup (do_cons (do_ev (ev_var rfl) fun H17 e17 => do_nil ⟨by show 1 ≤ sizeLine; decide, fun q1 nq1 => ?_⟩)))))
          have e1417 := (e15.trans e16).trans e17
          have x18 : Ex H14 (upd H17 q1 (.tup [vi (ts.length - 1 - i)])) := e1417.trans (Ex.new nq1)
          have sq1 : SqT K (upd H17 q1 (.tup [vi (ts.length - 1 - i)])) q1 [vi (ts.length - 1 - i)] := st_of upd_same
          generalize upd H17 q1 (.tup [vi (ts.length - 1 - i)]) = H18 at *
          have go : ∀ (H19 : Hp) (pv : Addr) (zs : List V), Ex H18 H19 → SqT K H19 pv zs → zs.length = xs.length + 1 → tCons (tOp (rIxT K) (tOp (rIxT K) (tVar 5) (tC (.int 2))) (tVar 6)) tNil [some (.ref d), some v, some (vi (n + 1)), some (.ref td), some (.ref pa), some (.ref c), some (vi (ts.length - 1 - i))] H19 (fun rest H20 => (V.ref pv :: rest).length ≤ sizeLine ∧ ∀ p, H20 p = none → (∃ a1 ys y, V.ref td = .ref a1 ∧ [V.ref p] = [y] ∧ (upd H20 p (.tup (V.ref pv :: rest))) a1 = some (.lst ys) ∧ ys.length < sizeLine ∧ (Ex H (upd (upd H20 p (.tup (V.ref pv :: rest))) a1 (.lst (ys ++ [y]))) ∧ ET K H13 (upd (upd H20 p (.tup (V.ref pv :: rest))) a1 (.lst (ys ++ [y]))) ∧ ∃ (us : List V) (y7 : Option V), (upd (upd H20 p (.tup (V.ref pv :: rest))) a1 (.lst (ys ++ [y]))) td = some (.lst us) ∧ Paired (PrV K (upd (upd H20 p (.tup (V.ref pv :: rest))) a1 (.lst (ys ++ [y]))) sg t.sz) us (b ++ ts.reverse.take (i + 1)) ∧ [some (.ref d), some v, some (vi (n + 1)), some (.ref td), some (.ref pa), some (.ref c), some (vi (ts.length - 1 - i))] = [some (.ref d), some v, some (vi (n + 1)), some (.ref td), some (.ref pa), some (.ref c), y7]))) := by
            intro H19 pv zs e19 sz19 lz
            have e1419 := x18.trans e19
            refine do_cons (do_ev (ev_op (ev_op (ev_var rfl) ev_c (rv_ixT (K := K) (ex_t e1419 hc14) (atI_vi (k := 2) rfl))) (ev_var rfl) (rv_ixT (K := K) (ex_t e1419 hcc14) (atI_vi (k := ts.length - 1 - i) hcv))) fun H20 e20 => do_nil ⟨by show 2 ≤ sizeLine; decide, fun p np => ?_⟩)
            have x21 : Ex H14 (upd H20 p (.tup [.ref pv, cv])) := (e1419.trans e20).trans (Ex.new np)
            have td21 : (upd H20 p (.tup [.ref pv, cv])) td = some (.lst us') := x21 _ _ td14
            refine ⟨td, us', .ref p, rfl, rfl, td21, sz_lt (by omega), (x14.trans x21).mut nt3, ET.trans et14 (ET.trans (Dw.Ex.et x21) (ET.refl.upd td21)), us' ++ [.ref p], _, upd_same, ?_, rfl⟩
            have et22 : ET K H14 (upd (upd H20 p (.tup [.ref pv, cv])) td (.lst (us' ++ [.ref p]))) := ET.trans (Dw.Ex.et x21) (ET.refl.upd td21)
            have et23 : ET K (upd H20 p (.tup [.ref pv, cv])) (upd (upd H20 p (.tup [.ref pv, cv])) td (.lst (us' ++ [.ref p]))) := ET.refl.upd td21
            have hr2 : ts.reverse[i]? = some ts[ts.length - 1 - i] := by
              rw [List.getElem?_reverse (by omega), List.getElem?_eq_getElem kl]
            rw [List.take_add_one, hr2, ← List.append_assoc]
            refine paired_snoc ⟨p, pv, cv, zs, rfl, et23 _ _ (st_of upd_same), et23 _ _ (ex_t (e20.trans (Ex.new np)) sz19), by omega, tcv.et et22, oks_get okt.2 (List.getElem?_eq_getElem kl)⟩ (paired_imp (fun _ _ z => PrV.et et22 z) p14)
          refine ⟨pa, q1, xs, [vi (ts.length - 1 - i)], rfl, rfl, ex_t x18 sp14, sq1, sz_of (by rw [List.length_singleton]; omega), fun e => ?_, fun _ z => (by cases z), fun ne2 _ p3 np3 => ?_⟩
          · subst e
            exact go H18 q1 _ (Ex.refl _) sq1 rfl
          · exact go _ p3 _ (Ex.new np3) (st_of upd_same) (by rw [List.length_append]; rfl)
        · obtain ⟨x14, et14, us', y7', td14, p14, hσ⟩ := hP
          subst hσ
          have full : ts.reverse.take ts.length = ts.reverse := List.take_of_length_le (by rw [List.length_reverse]; exact Nat.le_refl _)
          rw [full] at p14
          exact ⟨szs (b ++ ts.reverse), by rw [szs_app, szs_app, szs_rev, szs, szs, Tm.sz]; omega, x14, b ++ ts.reverse, us', n + 1, _, _, _, rfl, td14, p14, by rw [szs_app, szs_rev]; omega, rfl⟩
    · have no : stk = [] := by
        cases us with
        | nil => exact List.length_eq_zero_iff.mp lu.symm
        | cons _ _ => cases hb
      subst no
      rw [szs] at tot
      have le : n ≤ 60 := by omega
      exact s_ret (v := .non) (ev_if (b := false) (et_is (et_test (ev_op (ev_var rfl) ev_c rv_I0)) (decide_eq_false (by show ¬ ((n : Int) > 60); omega))) (fun z => by cases z) (fun _ => ev_c)) fun H9 e9 => q _ H9 (x3.trans (e7.trans (e8.trans e9))) rfl
def sp_term_wrong (K : PySem.W.Frag) : Sp := spX (fun (p : List (Str × Nat) × Tm) vs H => (∃ u v, vs = [u, v] ∧ FSig K H u p.1 ∧ TmV K H p.2 v) ∧ SigOk p.1 ∧ p.2.ok p.1 ∧ p.2.sz ≤ 60) (fun _ v _ => v = .non)
theorem c_term_wrong (T : Txt mg) (D : Df K mg "term_wrong" s_term_wrong ["signature", "thing"]) (c_need_signature : Cl P w K mg base 5 "need_signature" (sp_need_signature K)) (c_wrong_in_term : Cl P w K mg base 2 "wrong_in_term" (sp_wrong_in_term K)) : Cl P w K mg base 6 "term_wrong" (sp_term_wrong K) := by
  refine cl_of (k := 5) D sc_term_wrong (fun vs H Q E h => ?_) (fun f cdv A outer s H vs Q E hr h => ?_)
  · obtain ⟨p, ⟨⟨u, v, rfl, _⟩, _⟩, _⟩ := h
    rfl
  · obtain ⟨⟨sg, t⟩, ⟨⟨u, v, rfl, hF, tv⟩, sok, ok, small⟩, q⟩ := h
    refine ⟨_, (pss_cons (ps_expr (pe_cl c_need_signature hr (by first | decide | omega) (by rfl) (pa_cons (pv 0) pa_nil)))
      (pss_one (ps_ret (pe_cl c_wrong_in_term hr (by first | decide | omega) (by rfl) (pa_cons (pe_callTy (call_dictT rfl) (by rfl) T.z_dict (by decide +kernel) (pa_cons (pv 0) pa_nil)) (pa_cons (pv 1) pa_nil)))))), ?_⟩
    replace hF : FSig K H u sg := hF
    replace tv : TmV K H t v := tv
    replace sok : SigOk sg := sok
    replace ok : t.ok sg := ok
    replace small : t.sz ≤ 60 := small
    refine q_drop (ev_callV (v := .non) sg (ea_cons (ev_var rfl) ea_nil) (fun H1 e1 => ⟨⟨_, rfl, (hF.ex e1).sig⟩, sok⟩) (fun _ _ p => p)) fun H1 e1 => ?_
    obtain ⟨a, o, ps, rfl, ha, od, pr⟩ := hF.ex e1
    refine do_ret (do_cons (do_cb (do_cons (do_ev (ev_var rfl) fun H2 e2 => ?_))))
    refine ⟨a, o, ps, kvsOf sg, rfl, e2 _ _ ha, od, paired_mapR (f := fun d : Str × Nat => ((Sum.inr d.1 : Key), vi d.2)) (fun _ _ z => ex_t e2 z) pr, fun d nd => ?_⟩
    have x3 : Ex H (upd H2 d (.dK (mergeK [] (kvsOf sg)))) := (e1.trans e2).trans (Ex.new nd)
    have plc : Plc (upd H2 d (.dK (mergeK [] (kvsOf sg)))) d sg := ⟨_, upd_same, fun p hp => val_merge sg [] p.1 p.2 sok.nd (.inl hp)⟩
    generalize upd H2 d (.dK (mergeK [] (kvsOf sg))) = H3 at *
    refine do_cons (do_ev (ev_var rfl) fun H4 e4 => do_nil ?_)
    obtain ⟨kvs, hd, val⟩ := id plc
    exact ⟨(sg, t), ⟨⟨d, v, rfl, ⟨kvs, e4 _ _ hd, val⟩, tv.et (Dw.Ex.et (x3.trans e4))⟩, ok, small⟩, fun v H' e p => q v H' (x3.trans (e4.trans e)) p⟩
def sp_need_term (K : PySem.W.Frag) : Sp := sp_term_wrong K
theorem c_need_term (T : Txt mg) (D : Df K mg "need_term" s_need_term ["signature", "term"]) (c_term_wrong : Cl P w K mg base 6 "term_wrong" (sp_term_wrong K)) : Cl P w K mg base 7 "need_term" (sp_need_term K) := by
  refine cl_of (k := 6) D sc_need_term (fun vs H Q E h => ?_) (fun f cdv A outer s H vs Q E hr h => ?_)
  · obtain ⟨p, ⟨⟨u, v, rfl, _⟩, _⟩, _⟩ := h
    rfl
  · obtain ⟨p, ⟨⟨u, v, rfl, hF, tv⟩, rest⟩, q⟩ := h
    refine ⟨_, (pss_one (ps_if (pt_cmpR op_notN (pe_cl c_term_wrong hr (by first | decide | omega) (by rfl) (pa_cons (pv 0) (pa_cons (pv 1) pa_nil))) pe_non (nomark _))
        (pss_one ps_never)
        pss_nil)), ?_⟩
    exact s_when (b := false) (et_is (et_isN (ev_callV (v := .non) p (ea_cons (ev_var rfl) (ea_cons (ev_var rfl) ea_nil)) (fun H1 e1 => ⟨⟨_, _, rfl, hF.ex e1, tv.et (Dw.Ex.et e1)⟩, rest⟩) (fun _ _ p => p))) (by decide)) (fun z => by cases z) (fun _ H1 e1 => q _ H1 e1 rfl)
end
end K80
end
section
namespace K80
open PySem PySem.Spec PyProof.Rows L2 Evl RZ Dw M20
/-! ### worths -/
def plc (n : Nat) (ns : List Nat) : Nat := ns.foldl (fun acc k => acc * n + k) 0
def tbOf : List (Str × Nat) → List (List Nat) → Str → List Nat
  | d :: sg, tb :: tbs, f => if d.1 = f then tb else tbOf sg tbs f
  | _, _, _ => []
theorem tbOf_at : ∀ {sg : List (Str × Nat)} {tbs : List (List Nat)} {f : Str} {i : Nat} (h1 : i < sg.length) (h2 : i < tbs.length), sg[i].1 = f → (∀ j (h : j < sg.length), j < i → sg[j].1 ≠ f) → tbOf sg tbs f = tbs[i]
  | d :: sg, tb :: tbs, f, 0, _, _, e, _ => by
    rw [tbOf, if_pos (show d.1 = f from e)]
    rfl
  | d :: sg, tb :: tbs, f, i + 1, h1, h2, e, no => by
    rw [tbOf, if_neg (show ¬ d.1 = f from no 0 (Nat.zero_lt_succ _) (Nat.zero_lt_succ _))]
    exact tbOf_at (sg := sg) (tbs := tbs) (i := i) (Nat.lt_of_succ_lt_succ h1) (Nat.lt_of_succ_lt_succ h2) e fun j h lt => no (j + 1) (Nat.succ_lt_succ h) (Nat.succ_lt_succ lt)
mutual
def Tm.wt (n : Nat) (sg : List (Str × Nat)) (tbs : List (List Nat)) (env : Str → Nat) : Tm → Nat
  | .var x => env x
  | .deed f ts => g (tbOf sg tbs f) (plc n (wts n sg tbs env ts))
def wts (n : Nat) (sg : List (Str × Nat)) (tbs : List (List Nat)) (env : Str → Nat) : List Tm → List Nat
  | [] => []
  | t :: ts => t.wt n sg tbs env :: wts n sg tbs env ts
end
theorem wts_len {n : Nat} {sg : List (Str × Nat)} {tbs : List (List Nat)} {env : Str → Nat} : ∀ ts : List Tm, (wts n sg tbs env ts).length = ts.length
  | [] => by rw [wts]; rfl
  | t :: ts => by rw [wts, List.length_cons, List.length_cons, wts_len ts]
theorem plc_low {n : Nat} : ∀ {ns : List Nat}, (∀ k ∈ ns, k < n) → ns.length ≤ 2 → plc n ns < n ^ ns.length
  | [], _, _ => by
    show 0 < n ^ 0
    rw [Nat.pow_zero]
    decide
  | [a], h, _ => by
    have := h a (List.mem_singleton.mpr rfl)
    show 0 * n + a < n ^ 1
    rw [Nat.pow_one, Nat.zero_mul, Nat.zero_add]
    exact this
  | [a, b], h, _ => by
    have ha := h a (List.mem_cons_self ..)
    have hb := h b (List.mem_cons_of_mem _ (List.mem_singleton.mpr rfl))
    show (0 * n + a) * n + b < n ^ 2
    rw [Nat.zero_mul, Nat.zero_add, Nat.pow_two]
    exact mul_lt ha hb
  | _ :: _ :: _ :: _, _, l => by
    rw [List.length_cons, List.length_cons, List.length_cons] at l
    omega
/-- the table of a deed that stands in the signature -/
theorem tb_tab {n : Nat} {sg : List (Str × Nat)} {tbs : List (List Nat)} (m : MdlOk sg n tbs) (so : SigOk sg) {f : Str} {k : Nat} (h : (f, k) ∈ sg) : Tab n k (tbOf sg tbs f) := by
  obtain ⟨i, hi⟩ := List.mem_iff_getElem?.mp h
  have il : i < sg.length := (List.getElem?_eq_some_iff.mp hi).1
  have it : i < tbs.length := by rw [m.len]; exact il
  have e : sg[i] = (f, k) := by
    rw [List.getElem?_eq_getElem il] at hi
    exact Option.some.inj hi
  have nd := so.nd
  rw [tbOf_at il it (by rw [e]) fun j hj lt z => ?_]
  · have t := m.tab i il it
    rw [e] at t
    exact t
  · have a : (sg.map (·.1))[j]'(by rw [List.length_map]; exact hj) = (sg.map (·.1))[i]'(by rw [List.length_map]; exact il) := by
      rw [List.getElem_map, List.getElem_map, z, e]
    exact List.pairwise_iff_getElem.mp nd j i (by rw [List.length_map]; exact hj) (by rw [List.length_map]; exact il) lt a
mutual
theorem wt_low {n : Nat} {sg : List (Str × Nat)} {tbs : List (List Nat)} {env : Str → Nat} (m : MdlOk sg n tbs) (so : SigOk sg) : ∀ (t : Tm), t.ok sg → (∀ x ∈ t.ls, env x < n) → t.wt n sg tbs env < n
  | .var x, _, h => by
    rw [Tm.wt]
    exact h x (by rw [Tm.ls]; exact List.mem_singleton.mpr rfl)
  | .deed f ts, ok, h => by
    rw [Tm.ok] at ok
    rw [Tm.ls] at h
    have low := wts_low m so ts ok.2 h
    have tab := tb_tab m so ok.1
    have l := wts_len (n := n) (sg := sg) (tbs := tbs) (env := env) ts
    have p2 : ts.length ≤ 2 := so.pl _ ok.1
    have pl := plc_low low (by rw [l]; exact p2)
    rw [l] at pl
    rw [Tm.wt]
    exact tab.low _ pl
theorem wts_low {n : Nat} {sg : List (Str × Nat)} {tbs : List (List Nat)} {env : Str → Nat} (m : MdlOk sg n tbs) (so : SigOk sg) : ∀ (ts : List Tm), oks sg ts → (∀ x ∈ lss ts, env x < n) → ∀ k ∈ wts n sg tbs env ts, k < n
  | [], _, _, k, hk => by
    rw [wts] at hk
    cases hk
  | t :: ts, ok, h, k, hk => by
    rw [oks] at ok
    rw [lss] at h
    rw [wts] at hk
    rcases List.mem_cons.mp hk with e | e
    · rw [e]
      exact wt_low m so t ok.1 fun x hx => h x (List.mem_append_left _ hx)
    · exact wts_low m so ts ok.2 (fun x hx => h x (List.mem_append_right _ hx)) k e
end
section
variable {σ : L2.St} {H : Hp} {ta tb te : TE}
end
section
variable {P : Program} {w : World} {K : PySem.W.Frag} {mg : Str → Option Value} {base : Heap}
def sp_table_of (K : PySem.W.Frag) : Sp := spX (fun (p : List (Str × Nat) × Nat × List (List Nat) × Str × Nat) vs H => (∃ u v, vs = [u, v, .str p.2.2.2.1] ∧ Sig K H u p.1 ∧ Tabs K H v p.2.2.1) ∧ p.2.2.1.length = p.1.length ∧ (p.2.2.2.1, p.2.2.2.2) ∈ p.1) (fun p v H => Nats K H v (tbOf p.1 p.2.2.1 p.2.2.2.1))
theorem c_table_of (T : Txt mg) (D : Df K mg "table_of" s_table_of ["signature", "tables", "name"]) : Cl P w K mg base 1 "table_of" (sp_table_of K) := by
  refine cl_of (k := 0) D sc_table_of (fun vs H Q E h => ?_) (fun f cdv A outer s H vs Q E hr h => ?_)
  · obtain ⟨p, ⟨⟨u, v, rfl, _⟩, _⟩, _⟩ := h
    rfl
  · obtain ⟨⟨sg, n, tbs, f, k⟩, ⟨⟨u, v, rfl, hG, hT⟩, lM, mem⟩, q⟩ := h
    refine ⟨_, (pss_cons (ps_for PassesOwn.never (by rfl) (pi_zipA (by rfl) T.z_zip (pa_cons (pv 0) (pa_cons (pv 1) pa_nil))) (pg_tup (by rfl) (pgs_cons (pg_name (i := 3) sc_table_of.nd rfl (.inl rfl)) (pgs_cons (pg_name (i := 4) sc_table_of.nd rfl (.inl rfl)) pgs_nil)))
        (pss_one (ps_if (pt_cmpR op_eq (pe_ix ix_tup (pv 3) pe_int (fun _ _ => rfl)) (pv 2) (nomark _))
          (pss_one (ps_ret (pv 4)))
          pss_nil)))
      (pss_one (ps_ret pe_non))), ?_⟩
    replace lM : tbs.length = sg.length := lM
    replace mem : (f, k) ∈ sg := mem
    obtain ⟨a, us, rfl, hS, hP⟩ := id hG
    obtain ⟨b, tvs, rfl, hB, hR⟩ := id hT
    replace hP : Paired (Deed K H) us sg := hP
    replace hR : Paired (Nats K H) tvs tbs := hR
    have lS : us.length = sg.length := paired_len hP
    have lT : tvs.length = tbs.length := paired_len hR
    refine q_zipT (ea_cons (ev_var rfl) (ea_cons (ev_var rfl) ea_nil)) hS hB (by rw [lS, lT, lM]) (fun i σ H' => Ex H H' ∧ (∀ j (h : j < sg.length), j < i → sg[j].1 ≠ f) ∧ ∃ y3 y4, σ = [some (.ref a), some (.ref b), some (.str f), y3, y4])
      (fun H2 e2 => ⟨e2, fun j _ z => absurd z (Nat.not_lt_zero _), none, none, rfl⟩) (fun i σ H' _ ⟨e, _⟩ => ⟨ex_t e hS, ex_t e hB⟩) (fun i d tv p σ H2 hd ht hPv np => ?_) (fun σ H2 hPv => ?_)
    · obtain ⟨e2, no, y3, y4, hσ⟩ := hPv
      subst hσ
      have hi : i < sg.length := by rw [← lS]; exact (List.getElem?_eq_some_iff.mp hd).1
      have hi2 : i < tbs.length := by rw [lM]; exact hi
      obtain ⟨d', ed', c, hc, dc⟩ := paired_get hP (List.getElem?_eq_getElem hi)
      have : d' = d := Option.some.inj (ed'.symm.trans hd)
      subst this
      subst hc
      obtain ⟨t', et', nt⟩ := paired_get hR (List.getElem?_eq_getElem hi2)
      have : t' = tv := Option.some.inj (et'.symm.trans ht)
      subst this
      have e3 : Ex H2 (upd H2 p (.tup [.ref c, t'])) := Ex.new np
      have e03 : Ex H (upd H2 p (.tup [.ref c, t'])) := e2.trans e3
      refine ⟨p, _, rfl, st_of upd_same, rfl, _, _, rfl, _, _, rfl, rfl, ?_⟩
      show tIfS _ _ _ _ [some (.ref a), some (.ref b), some (.str f), some (.ref c), some t'] (upd H2 p (.tup [.ref c, t']))
      refine s_when (et_test (ev_op (ev_op (ev_var rfl) ev_c (rv_ixT (K := K) (ex_t e03 dc) (atI_vi (k := 0) rfl))) (ev_var rfl) (rv_eq rfl))) (fun hb H4 e4 => ?_) (fun hb H4 e4 => ?_)
      · have isF : sg[i].1 = f := V.str.inj (of_decide_eq_true hb)
        refine s_ret (ev_var rfl) fun H5 e5 => q _ H5 (e03.trans (e4.trans e5)) ?_
        show Nats K H5 t' (tbOf sg tbs f)
        rw [tbOf_at hi hi2 isF no]
        exact nt.ex (e03.trans (e4.trans e5))
      · have notF : sg[i].1 ≠ f := fun z => by
          rw [z] at hb
          exact absurd rfl (of_decide_eq_false hb)
        refine ⟨e03.trans e4, fun j h lt => ?_, _, _, rfl⟩
        by_cases e : j < i
        · exact no j h e
        · have : j = i := by omega
          subst this
          exact notF
    · obtain ⟨e2, no, y3, y4, hσ⟩ := hPv
      obtain ⟨i, hi⟩ := List.mem_iff_getElem?.mp mem
      have il : i < sg.length := (List.getElem?_eq_some_iff.mp hi).1
      rw [List.getElem?_eq_getElem il] at hi
      exact absurd (by rw [Option.some.inj hi]) (no i il (by rw [lS]; exact il))
end
end K80
end
section
namespace K80
open PySem PySem.Spec PyProof.Rows L2 Evl RZ Dw M20
/-- what worth_under is handed -/
structure WArg where
  sg : List (Str × Nat)
  n : Nat
  tbs : List (List Nat)
  t : Tm
  env : Str → Nat
def WArg.wt (p : WArg) : Nat := p.t.wt p.n p.sg p.tbs p.env
structure WOk (d : Nat) (p : WArg) : Prop where
  so : SigOk p.sg
  mo : MdlOk p.sg p.n p.tbs
  ok : p.t.ok p.sg
  low : ∀ x ∈ p.t.ls, p.env x < p.n
  few : p.t.sz ≤ d
/-- a dict that tells the worths of some letters -/
def Env (H : Hp) (dd : Addr) (ls : List Str) (env : Str → Nat) : Prop := ∃ kvs : List (Key × V), H dd = some (.dK kvs) ∧ ∀ x ∈ ls, valV kvs (.inr x) = some (vi (env x))
theorem wts_take {n : Nat} {sg : List (Str × Nat)} {tbs : List (List Nat)} {env : Str → Nat} : ∀ {ts : List Tm} {i : Nat} {t : Tm}, ts[i]? = some t → wts n sg tbs env (ts.take (i + 1)) = wts n sg tbs env (ts.take i) ++ [t.wt n sg tbs env]
  | [], i, t, e => by
    rw [List.getElem?_nil] at e
    cases e
  | s :: ts, 0, t, e => by
    cases Option.some.inj (show some s = some t from e)
    show wts n sg tbs env [s] = wts n sg tbs env [] ++ _
    rw [wts, wts]
    rfl
  | s :: ts, i + 1, t, e => by
    show wts n sg tbs env (s :: ts.take (i + 1)) = wts n sg tbs env (s :: ts.take i) ++ _
    rw [wts, wts, wts_take (ts := ts) (i := i) (show ts[i]? = some t from e)]
    rfl
theorem ls_mem {ts : List Tm} {i : Nat} {t : Tm} (h : ts[i]? = some t) {x : Str} (hx : x ∈ t.ls) : x ∈ lss ts := by
  have a : x ∈ lss (ts.take (i + 1)) := by
    rw [lss_take h]
    exact List.mem_append_right _ hx
  have b : lss ts = lss (ts.take (i + 1)) ++ lss (ts.drop (i + 1)) := by rw [← lss_app, List.take_append_drop]
  rw [b]
  exact List.mem_append_left _ a
section
variable {P : Program} {w : World} {K : PySem.W.Frag} {mg : Str → Option Value} {base : Heap}
end
end K80
end
section
namespace K80
open PySem PySem.Spec PyProof.Rows L2 Evl RZ Dw M20
section
variable {P : Program} {w : World} {K : PySem.W.Frag} {mg : Str → Option Value} {base : Heap}
end
end K80
end
section
namespace K80
open PySem PySem.Spec PyProof.Rows L2 Evl RZ Dw M20
theorem pow_small {n m : Nat} (h : n ≤ 6) (l : m ≤ 4) : n ^ m ≤ 1296 := by
  have h1 : n ^ m ≤ 6 ^ m := Nat.pow_le_pow_left h m
  have h2 : 6 ^ m ≤ 6 ^ 4 := Nat.pow_le_pow_right (by decide) l
  have h3 : 6 ^ 4 = 1296 := by decide
  omega
/-- the worths of letters in row r of all -/
def envR (n : Nat) (ls : List Str) (r : Nat) (x : Str) : Nat := r / n ^ (ls.length - 1 - ls.idxOf x) % n
structure CArg where
  sg : List (Str × Nat)
  n : Nat
  tbs : List (List Nat)
  t : Tm
  ls : List Str
def CArg.at (p : CArg) (r : Nat) : Nat := p.t.wt p.n p.sg p.tbs (envR p.n p.ls r)
def CArg.col (p : CArg) : List V := (List.range (p.n ^ p.ls.length)).map fun r => vi (p.at r)
structure COk (d : Nat) (p : CArg) : Prop where
  so : SigOk p.sg
  mo : MdlOk p.sg p.n p.tbs
  ok : p.t.ok p.sg
  has : ∀ x ∈ p.t.ls, x ∈ p.ls
  l4 : p.ls.length ≤ 4
  few : p.t.sz ≤ d
section
variable {P : Program} {w : World} {K : PySem.W.Frag} {mg : Str → Option Value} {base : Heap}
def sp_letter_column : Sp := spL (fun (p : Nat × Nat × Nat) vs _ => vs = [vi p.1, vi p.2.1, vi p.2.2] ∧ 1 ≤ p.1 ∧ p.1 ≤ 6 ∧ p.2.1 ≤ 4 ∧ p.2.2 < p.2.1) (fun p => (List.range (p.1 ^ p.2.1)).map fun r => vi (r / p.1 ^ (p.2.1 - 1 - p.2.2) % p.1))
theorem c_letter_column (T : Txt mg) (D : Df K mg "letter_column" s_letter_column ["size", "many", "at"]) (c_power : Cl P w K mg base 1 "power" sp_power) : Cl P w K mg base 2 "letter_column" sp_letter_column := by
  refine cl_of (k := 1) D sc_letter_column (fun vs H Q E h => ?_) (fun f cdv A outer s H vs Q E hr h => ?_)
  · obtain ⟨p, ⟨rfl, _⟩, _⟩ := h
    rfl
  · obtain ⟨⟨n, m, k⟩, ⟨rfl, n1, n6, m4, km⟩, q⟩ := h
    refine ⟨_, (pss_cons (ps_set (i := 3) sc_letter_column.nd rfl (.inr rfl) (pe_cl c_power hr (by first | decide | omega) (by rfl) (pa_cons (pv 0) (pa_cons (pe_op op_sub (pe_op op_sub (pv 1) pe_int) (pv 2)) pa_nil))))
      (pss_one (ps_ret (pe_lc (own := [("row", 4)]) (g := (gName 4)) (by rfl) sc_letter_column.nd (pi_range1 (by rfl) T.z_range (pa_cons (pe_cl c_power hr (by first | decide | omega) (by rfl) (pa_cons (pv 0) (pa_cons (pv 1) pa_nil))) pa_nil)) (blkOk_by (own := [("row", 4)]) (N := ["size", "many", "at", "step", "row"]) (sc := defScope s_letter_column) (by decide +kernel)) (fun _ _ _ _ _ => (pg_name (i := 4) sc_letter_column.nd rfl (.inl rfl))) (fun _ _ _ _ _ => pts_nil) (fun _ _ _ _ _ => (pe_op op_mod (pe_op op_fdiv (pv 4) (pv 3)) (pv 0))))))), ?_⟩
    replace n1 : 1 ≤ n := n1
    replace n6 : n ≤ 6 := n6
    replace m4 : m ≤ 4 := m4
    replace km : k < m := km
    have small : n ^ (m - 1 - k) ≤ 1296 := pow_small n6 (by omega)
    have pos : 0 < n ^ (m - 1 - k) := Nat.pow_pos n1
    have big : n ^ m ≤ 1296 := pow_small n6 m4
    refine q_asg (v := vi (n ^ (m - 1 - k))) (ev_callV (n, m - 1 - k) (ea_cons (ev_var rfl) (ea_cons (ev_subM (a := m - 1) (b := k) (ev_subM (a := m) (b := 1) (ev_var rfl) ev_c (by omega)) (ev_var rfl) (by omega)) ea_nil)) (fun _ _ => ⟨rfl, n6, by show m - 1 - k ≤ 4; omega⟩) (fun _ _ p => p)) fun H1 e1 => ?_
    refine s_retL (el_lcR (n := n ^ m) (ea_cons (ev_callV (v := vi (n ^ m)) (n, m) (ea_cons (ev_var rfl) (ea_cons (ev_var rfl) ea_nil)) (fun _ _ => ⟨rfl, n6, m4⟩) (fun _ _ p => p)) ea_nil) (fun r => vi (r / n ^ (m - 1 - k) % n)) (by omega) (fun _ => rfl) (fun i H2 e2 hi => ev_modM (ev_divM (ev_var rfl) (ev_var rfl) pos (by omega)) (ev_var rfl) n1)) fun p H2 np e2 hp => q p H2 (fresh_back e1 np) (e1.trans e2) hp
end
end K80
end
section
namespace K80
open PySem PySem.Spec PyProof.Rows L2 Evl RZ Dw M20
section
variable {P : Program} {w : World} {K : PySem.W.Frag} {mg : Str → Option Value} {base : Heap}
def sp_term_column (K : PySem.W.Frag) (d : Nat) : Sp := spL (fun (p : CArg) vs H => (∃ u m tv lv, vs = [u, m, tv, lv] ∧ Sig K H u p.sg ∧ Mdl K H m p.n p.tbs ∧ TmV K H p.t tv ∧ FStrs H lv p.ls) ∧ COk d p) CArg.col
theorem threes {R : Addr → Tm → Prop} {S : Addr → Tm → Prop} {ts : List Tm} {ps : List Addr} (l : ts.length ≤ 2) (h : Paired (fun p t => R p t ∧ S p t) ps ts) : (ts = [] ∧ ps = []) ∨ (∃ t1 p1, ts = [t1] ∧ ps = [p1] ∧ S p1 t1) ∨ ∃ t1 t2 p1 p2, ts = [t1, t2] ∧ ps = [p1, p2] ∧ S p1 t1 ∧ S p2 t2 := by
  cases h with
  | nil => exact .inl ⟨rfl, rfl⟩
  | cons a r =>
    cases r with
    | nil => exact .inr (.inl ⟨_, _, rfl, rfl, a.2⟩)
    | cons b r2 =>
      cases r2 with
      | nil => exact .inr (.inr ⟨_, _, _, _, rfl, rfl, a.2, b.2⟩)
      | cons c r3 =>
        rw [List.length_cons, List.length_cons, List.length_cons] at l
        omega
theorem c_term_column (T : Txt mg) (D : Df K mg "term_column" s_term_column ["signature", "model", "term", "letters"]) (c_table_of : Cl P w K mg base 1 "table_of" (sp_table_of K)) (c_letter_column : Cl P w K mg base 2 "letter_column" sp_letter_column) (c_power : Cl P w K mg base 1 "power" sp_power) : ∀ d : Nat, Cl P w K mg base (d + 3) "term_column" (sp_term_column K d)
  | 0 => cl_of (k := 2) D sc_term_column (fun vs H Q E h => by
      obtain ⟨p, ⟨⟨u, m, tv, lv, rfl, _⟩, _⟩, _⟩ := h
      rfl) (fun f cdv A outer s H vs Q E hr h => by
      obtain ⟨p, ⟨_, w⟩, _⟩ := h
      have a := w.few
      have b : 1 ≤ p.t.sz := by cases p.t <;> (rw [Tm.sz]; omega)
      omega)
  | d + 1 => by
    have c_rec := c_term_column T D c_table_of c_letter_column c_power d
    refine cl_of (k := d + 3) D sc_term_column (fun vs H Q E h => ?_) (fun f cdv A outer s H vs Q E hr h => ?_)
    · obtain ⟨p, ⟨⟨u, m, tv, lv, rfl, _⟩, _⟩, _⟩ := h
      rfl
    · obtain ⟨⟨sg, n, tbs, t, ls⟩, ⟨⟨u, m, tv, lv, rfl, hG, hM, hT, hL⟩, cok⟩, q⟩ := h
      refine ⟨_, (pss_cons (ps_asg (pv 1) (pg_tup (by rfl) (pgs_cons (pg_name (i := 4) sc_term_column.nd rfl (.inr rfl)) (pgs_cons (pg_name (i := 5) sc_term_column.nd rfl (.inl rfl)) pgs_nil))))
      (pss_cons (ps_if (pt_cmpR op_eq (pe_ix ix_tup (pv 2) pe_int (fun _ _ => rfl)) pe_str (nomark _))
        (pss_one (ps_ret (pe_cl c_letter_column hr (by first | decide | omega) (by rfl) (pa_cons (pv 4) (pa_cons (pe_callB call_len_seq (by rfl) T.z_len PySem.boot_len (pa_cons (pv 3) pa_nil)) (pa_cons (pe_mG ty_frz PySem.F.plainAttrs_tuple PySem.F.slot_tuple_index PySem.F.type_tuple_index (mt_tindexS K) (pv 3) (pa_cons (pe_ix ix_tup (pv 2) pe_int (fun _ _ => rfl)) pa_nil)) pa_nil))))))
        pss_nil)
      (pss_cons (ps_set (i := 6) sc_term_column.nd rfl (.inr rfl) (pe_cl c_table_of hr (by first | decide | omega) (by rfl) (pa_cons (pv 0) (pa_cons (pv 5) (pa_cons (pe_ix ix_tup (pv 2) pe_int (fun _ _ => rfl)) pa_nil)))))
      (pss_cons (ps_set (i := 7) sc_term_column.nd rfl (.inl rfl) (pe_lst pa_nil))
      (pss_cons (ps_for PassesOwn.never (by rfl) (pi_tup (pe_ix ix_tup (pv 2) pe_int (fun _ _ => rfl))) (pg_name (i := 8) sc_term_column.nd rfl (.inl rfl))
        (pss_one (ps_expr (pe_bm PySem.F.plainAttrs_list PySem.F.slot_list_append PySem.F.type_list_append mt_append (pv 7) (pa_cons (pe_cl c_rec hr (by first | decide | omega) (by rfl) (pa_cons (pv 0) (pa_cons (pv 1) (pa_cons (pv 8) (pa_cons (pv 3) pa_nil))))) pa_nil)))))
      (pss_cons (ps_if (pt_not (pt_truth (pv 7) (by intro _; rfl)))
        (pss_one (ps_ret (pe_op op_rep (pe_lst (pa_cons (pe_ix ix_tup (pv 6) pe_int (fun _ _ => rfl)) pa_nil)) (pe_cl c_power hr (by first | decide | omega) (by rfl) (pa_cons (pv 4) (pa_cons (pe_callB call_len_seq (by rfl) T.z_len PySem.boot_len (pa_cons (pv 3) pa_nil)) pa_nil))))))
        pss_nil)
      (pss_cons (ps_if (pt_cmpR op_eq (pe_callB call_len_seq (by rfl) T.z_len PySem.boot_len (pa_cons (pv 7) pa_nil)) pe_int (nomark _))
        (pss_one (ps_ret (pe_lc (own := [("number", 9)]) (g := (gName 9)) (by rfl) sc_term_column.nd (pi_list (pe_ix ix_list (pv 7) pe_int (fun _ _ => rfl))) (blkOk_by (own := [("number", 9)]) (N := ["signature", "model", "term", "letters", "size", "tables", "table", "columns", "part", "number", "one", "other"]) (sc := defScope s_term_column) (by decide +kernel)) (fun _ _ _ _ _ => (pg_name (i := 9) sc_term_column.nd rfl (.inl rfl))) (fun _ _ _ _ _ => pts_nil) (fun _ _ _ _ _ => (pe_ix (ix_tupK K) (pv 6) (pv 9) (fun _ _ => rfl))))))
        pss_nil)
      (pss_one (ps_ret (pe_lc (own := [("one", 10), ("other", 11)]) (g := (gTup _ 2 (gCons (gName 10) (gCons (gName 11) gNil)))) (by rfl) sc_term_column.nd (pi_zipA (by rfl) T.z_zip (pa_cons (pe_ix ix_list (pv 7) pe_int (fun _ _ => rfl)) (pa_cons (pe_ix ix_list (pv 7) pe_int (fun _ _ => rfl)) pa_nil))) (blkOk_by (own := [("one", 10), ("other", 11)]) (N := ["signature", "model", "term", "letters", "size", "tables", "table", "columns", "part", "number", "one", "other"]) (sc := defScope s_term_column) (by decide +kernel)) (fun _ _ _ _ _ => (pg_tup (by rfl) (pgs_cons (pg_name (i := 10) sc_term_column.nd rfl (.inl rfl)) (pgs_cons (pg_name (i := 11) sc_term_column.nd rfl (.inl rfl)) pgs_nil)))) (fun _ _ _ _ _ => pts_nil) (fun _ _ _ _ _ => (pe_ix (ix_tupK K) (pv 6) (pe_op op_add (pe_op op_mul (pv 10) (pv 4)) (pv 11)) (fun _ _ => rfl))))))))))))), ?_⟩
      replace hG : Sig K H u sg := hG
      replace hM : Mdl K H m n tbs := hM
      replace hT : TmV K H t tv := hT
      replace hL : FStrs H lv ls := hL
      obtain ⟨so, mo, ok, has, l4, few⟩ := id cok
      replace so : SigOk sg := so
      replace mo : MdlOk sg n tbs := mo
      replace ok : t.ok sg := ok
      replace has : ∀ x ∈ t.ls, x ∈ ls := has
      replace l4 : ls.length ≤ 4 := l4
      replace few : t.sz ≤ d + 1 := few
      have n1 := mo.n1
      have n6 := mo.n6
      have big : n ^ ls.length ≤ 1296 := pow_small n6 l4
      obtain ⟨ma, mu, rfl, hm1, hm2⟩ := id hM
      obtain ⟨la, lo, rfl, hla, lod⟩ := id hL
      have sqL : SqT K H la (ls.map V.str) := .inl (.inr ⟨lo, hla⟩)
      refine ⟨.ref ma, rfl, ma, _, rfl, hm1, rfl, _, _, rfl, _, _, rfl, rfl, ?_⟩
      cases t with
      | var x =>
        rw [TmV] at hT
        obtain ⟨a, rfl, ha⟩ := hT
        have hx : x ∈ ls := has x (by rw [Tm.ls]; exact List.mem_singleton.mpr rfl)
        have ix : ls.idxOf x < ls.length := List.idxOf_lt_length_of_mem hx
        refine q_when (b := true) (et_is (et_test (ev_op (ev_op (ev_var rfl) ev_c (rv_ixT (K := K) ha (atI_vi (k := 0) rfl))) ev_c (rv_eq rfl))) (by decide)) (fun _ H1 e1 => ?_) (fun hb => by cases hb)
        have lenE : Ev (tCB (rLenS K) (tCons (tVar 3) tNil)) [some u, some (.ref ma), some (.ref a), some (.ref la), some (vi n), some mu, none, none, none, none, none, none] H1 (vi ls.length) := ev_is (ev_lenT (ev_var rfl) (ex_t e1 sqL)) (by rw [List.length_map])
        have ixE : Ev (tMG tyFrz (rTIndexS K) (tVar 3) (tCons (tOp (rIxT K) (tVar 2) (tC (.int 1))) tNil)) [some u, some (.ref ma), some (.ref a), some (.ref la), some (vi n), some mu, none, none, none, none, none, none] H1 (vi (ls.idxOf x)) := fun H2 e2 Q2 q2 => ev_var rfl H2 (Ex.refl _) _ fun H3 e3 => by
          have e13 := e1.trans (e2.trans e3)
          exact ⟨⟨la, lo, _, rfl, e13 _ _ hla, lod⟩, ea_cons (ev_op (ev_var rfl) ev_c (rv_ixT (K := K) (ex_t e13 ha) (atI_vi (k := 1) rfl))) ea_nil H3 (Ex.refl _) _ fun H4 e4 => ⟨la, ls, x, rfl, rfl, ex_t (e13.trans e4) sqL, hx, q2 H4 (e3.trans e4)⟩⟩
        refine s_retL (el_call (n, ls.length, ls.idxOf x) (ea_cons (ev_var rfl) (ea_cons lenE (ea_cons ixE ea_nil))) (fun _ _ => ⟨rfl, n1, n6, l4, ix⟩)) fun p H2 np e2 hp => q p H2 (fresh_back e1 np) (e1.trans e2) ?_
        rw [hp]
        show some (HO.lst _) = some (HO.lst ((List.range (n ^ ls.length)).map fun r => vi (Tm.wt n sg tbs (envR n ls r) (.var x))))
        congr 2
      | deed g ts =>
        rw [TmV] at hT
        rw [Tm.ok] at ok
        rw [Tm.ls] at has
        rw [Tm.sz] at few
        obtain ⟨a, b, us, rfl, ha, hb, tms⟩ := hT
        have lu := tms.len
        have p2 : ts.length ≤ 2 := so.pl _ ok.1
        have tab := tb_tab mo so ok.1
        refine q_when (b := false) (et_is (et_test (ev_op (ev_op (ev_var rfl) ev_c (rv_ixT (K := K) ha (atI_vi (k := 0) rfl))) ev_c (rv_eq rfl))) (by decide)) (fun hb => by cases hb) (fun _ H1 e1 => ?_)
        -- the table
        refine q_asgP (ep_callP (sg, n, tbs, g, ts.length) (eap_cons (P := fun v H' => Sig K H' v sg) (ep_ev (ev_var rfl) (fun H' e => hG.ex (e1.trans e))) (eap_cons (P := fun v H' => Tabs K H' v tbs) (ep_ev (ev_var rfl) (fun H' e => hm2.ex (e1.trans e))) (eap_cons (P := fun v _ => v = .str g) (ep_ev (ev_op (ev_var rfl) ev_c (rv_ixT (K := K) (ex_t e1 ha) (atI_vi (k := 1) rfl))) (fun _ _ => rfl)) eap_nil (fun _ _ _ _ h => h)) (fun v _ _ e h => Tabs.ex e h)) (fun v _ _ e h => Sig.ex e h)) (fun vs H4 e4 ⟨v1, r1, q1, p1, v2, r2, q2, p2', v3, r3, q3, p3, q4⟩ => by
            subst q1 q2 q3 q4 p3
            exact ⟨⟨_, _, rfl, p1, p2'⟩, mo.len, ok.1⟩)) fun tv H2 e2 hN => ?_
        obtain ⟨ta, rfl, hta⟩ := hN
        replace hta : SqT K H2 ta ((tbOf sg tbs g).map vi) := hta
        have e02 := e1.trans e2
        refine q_asgL (el_lst ea_nil (Nat.zero_le _)) fun l H3 nl e3 hl => ?_
        have nlH : H l = none := fresh_back e02 nl
        have nl2 : H2 l = none := nl
        have e03 := e02.trans e3
        let cl : Tm → List V := fun t' => CArg.col ⟨sg, n, tbs, t', ls⟩
        refine q_forT (K := K) (ev_op (ev_var rfl) ev_c (rv_ixT (K := K) (ex_t e03 ha) (atI_vi (k := 2) rfl))) (ex_t e03 hb) (fun i σ H' => Ex H2 H' ∧ (∃ ps : List Addr, H' l = some (.lst (ps.map V.ref)) ∧ Paired (fun p t' => p ≠ l ∧ H' p = some (.lst (cl t'))) ps (ts.take i)) ∧ ∃ y : Option V, σ = [some u, some (.ref ma), some (.ref a), some (.ref la), some (vi n), some mu, some (.ref ta), some (.ref l), y, none, none, none])
          (fun H4 e4 => ⟨e3.trans e4, ⟨[], e4 _ _ hl, by rw [List.take_zero]; exact .nil⟩, none, rfl⟩) (fun i σ H' _ ⟨e, _⟩ => ex_t (e02.trans e) hb) (fun i x σ H4 hx hP => ?_) (fun σ H4 hP => ?_)
        · obtain ⟨e4, ⟨ps, hps, prs⟩, y, hσ⟩ := hP
          subst hσ
          obtain ⟨t', ht', tv'⟩ := tms.get hx
          have le := sz_le ht'
          have e04 := e02.trans e4
          have lp := paired_len prs
          have il : i < ts.length := (List.getElem?_eq_some_iff.mp ht').1
          rw [List.length_take] at lp
          show tDrop _ _ [some u, some (.ref ma), some (.ref a), some (.ref la), some (vi n), some mu, some (.ref ta), some (.ref l), some x, none, none, none] H4
          refine s_appL hps (ev_var rfl) (el_call (CArg.mk sg n tbs t' ls) (ea_cons (ev_var rfl) (ea_cons (ev_var rfl) (ea_cons (ev_var rfl) (ea_cons (ev_var rfl) ea_nil)))) (fun H5 e5 => ⟨⟨_, _, _, _, rfl, hG.ex (e04.trans e5), hM.ex (e04.trans e5), tv'.et (Dw.Ex.et (e04.trans e5)), hL.ex (e04.trans e5)⟩, so, mo, oks_get ok.2 ht', fun x hx => has x (ls_mem ht' hx), l4, by show t'.sz ≤ d; omega⟩)) (by rw [List.length_map]; omega) fun p H5 np e5 hp => ?_
          have pl : p ≠ l := fun z => by
            rw [z, hps] at np
            cases np
          have up : ∀ c o, c ≠ l → H5 c = some o → (upd H5 l (.lst (ps.map V.ref ++ [.ref p]))) c = some o := fun c o h e => by rw [upd_ne h]; exact e
          refine ⟨(e4.trans e5).mut nl2, ⟨ps ++ [p], by rw [upd_same, List.map_append]; rfl, ?_⟩, _, rfl⟩
          rw [List.take_add_one, ht']
          exact paired_snoc ⟨pl, up _ _ pl hp⟩ (paired_imp (fun c t' z => ⟨z.1, up _ _ z.1 (e5 _ _ z.2)⟩) prs)
        · obtain ⟨e4, ⟨ps, hps, prs⟩, y, hσ⟩ := hP
          subst hσ
          rw [lu, List.take_length] at prs
          have e04 := e02.trans e4
          have hta4 := ex_t e4 hta
          have colAt : ∀ (t' : Tm) (i : Nat) (x : V), (cl t')[i]? = some x → i < n ^ ls.length ∧ x = vi (t'.wt n sg tbs (envR n ls i)) := by
            intro t' i x hx
            have hx' : ((List.range (n ^ ls.length)).map fun r => vi (t'.wt n sg tbs (envR n ls r)))[i]? = some x := hx
            rw [List.getElem?_map] at hx'
            by_cases hi : i < n ^ ls.length
            · rw [List.getElem?_range hi] at hx'
              exact ⟨hi, (Option.some.inj hx').symm⟩
            · rw [List.getElem?_eq_none_iff.mpr (by rw [List.length_range]; omega)] at hx'
              cases hx'
          have clLen : ∀ t', (cl t').length = n ^ ls.length := fun t' => by
            show (((List.range (n ^ ls.length)).map fun r => vi (t'.wt n sg tbs (envR n ls r)))).length = _
            rw [List.length_map, List.length_range]
          have lowAt : ∀ t' : Tm, t' ∈ ts → ∀ i, t'.wt n sg tbs (envR n ls i) < n := fun t' hm i => by
            obtain ⟨j, hj⟩ := List.mem_iff_getElem?.mp hm
            exact wt_low mo so t' (oks_get ok.2 hj) fun x _ => Nat.mod_lt _ n1
          have fin : ∀ {xs : List V} {p : Addr} {H5 : Hp}, H4 p = none → Ex H4 H5 → H5 p = some (.lst xs) → xs = cl (.deed g ts) → Q (.ref p) H5 := fun np e5 hp ex => q _ _ (fresh_back e04 np) (e04.trans e5) (by rw [hp, ex])
          have three : (ts = [] ∧ ps = []) ∨ (∃ t1 p1, ts = [t1] ∧ ps = [p1] ∧ H4 p1 = some (.lst (cl t1))) ∨ ∃ t1 t2 p1 p2, ts = [t1, t2] ∧ ps = [p1, p2] ∧ H4 p1 = some (.lst (cl t1)) ∧ H4 p2 = some (.lst (cl t2)) := threes p2 prs
          clear prs
          rcases three with ⟨ets, eps⟩ | ⟨t1, p1, ets, eps, h1⟩ | ⟨t1, t2, p1, p2, ets, eps, h1, h2⟩
          · rw [eps] at hps
            refine q_when (b := true) (et_is (et_not (et_truL (K := K) (ev_var rfl) (sq_of hps))) rfl) (fun _ H5 e5 => ?_) (fun hb => by cases hb)
            have t0 : 0 < (tbOf sg tbs g).length := by
              rw [tab.len]
              exact Nat.pow_pos n1
            refine s_retL (el_rep (n := n ^ ls.length) (el_lst (ea_cons (ev_op (ev_var rfl) ev_c (rv_ixT (K := K) (ex_t e5 hta4) (atI_vi (k := 0) (v := vi (M20.g (tbOf sg tbs g) 0)) (by rw [List.getElem?_map, g_eq t0]; rfl)))) ea_nil) (by show 1 ≤ 100000; decide)) (ev_callV (n, ls.length) (ea_cons (ev_var rfl) (ea_cons (ev_is (ev_lenT (ev_var rfl) (ex_t (e04.trans e5) sqL)) (by rw [List.length_map])) ea_nil)) (fun _ _ => ⟨rfl, n6, l4⟩) (fun _ _ p => p)) (by rw [List.length_singleton]; omega) (by omega)) fun p H6 np e6 hp => fin (fresh_back e5 np) (e5.trans e6) hp ?_
            rw [rep1, ets]
            show _ = (List.range (n ^ ls.length)).map fun r => vi (Tm.wt n sg tbs (envR n ls r) (.deed g []))
            have e : (fun r => vi (Tm.wt n sg tbs (envR n ls r) (.deed g []))) = fun _ => vi (M20.g (tbOf sg tbs g) 0) := funext fun r => by
              rw [Tm.wt, wts]
              rfl
            rw [e, List.map_const', List.length_range]
          · rw [eps] at hps
            refine q_when (b := false) (et_is (et_not (et_truL (K := K) (ev_var rfl) (sq_of hps))) rfl) (fun hb => by cases hb) (fun _ H5 e5 => ?_)
            refine q_when (b := true) (et_is (et_test (ev_op (ev_len (K := K) (ev_var rfl) (sq_of (e5 _ _ hps))) ev_c (rv_eq rfl))) rfl) (fun _ H6 e6 => ?_) (fun hb => by cases hb)
            have e46 := e5.trans e6
            have lw := lowAt t1 (by rw [ets]; exact List.mem_singleton.mpr rfl)
            have z := el_lcL (K := K) (t := tYes) (te := tOp (rIxT K) (tVar 6) (tVar 9)) (tl := tOp (rIxL K) (tVar 7) (tC (.int 0))) (σ := [some u, some (.ref ma), some (.ref a), some (.ref la), some (vi n), some mu, some (.ref ta), some (.ref l), y, none, none, none]) (H := H6) (j := 9) (vs := [9]) (a := p1) (xs := cl t1) (fun _ => true) (fun i => vi (M20.g (tbOf sg tbs g) (t1.wt n sg tbs (envR n ls i))))
              (ev_op (ev_var rfl) ev_c (rv_ixL (sq_of (e46 _ _ hps)) (atI_vi (k := 0) rfl))) (sq_of (e46 _ _ h1)) (by rw [clLen]; omega) (fun _ => rfl) (fun _ _ _ _ _ => et_yes) (fun i x H7 e7 hx _ => by
                obtain ⟨_, rfl⟩ := colAt t1 i x hx
                exact ev_op (ev_var rfl) (ev_var rfl) (rv_ixT (K := K) (ex_t (e46.trans e7) hta4) (atI_vi (by rw [List.getElem?_map, g_eq (by rw [tab.len, ets, List.length_singleton, Nat.pow_one]; exact lw i)]; rfl))))
            rw [given_all, clLen] at z
            refine s_retL z fun p H7 np e7 hp => fin (fresh_back e46 np) (e46.trans e7) hp ?_
            rw [ets]
            show _ = (List.range (n ^ ls.length)).map fun r => vi (Tm.wt n sg tbs (envR n ls r) (.deed g [t1]))
            apply List.map_congr_left
            intro r _
            rw [Tm.wt, wts, wts]
            show vi (M20.g _ _) = vi (M20.g _ (0 * n + _))
            rw [Nat.zero_mul, Nat.zero_add]
          · rw [eps] at hps
            refine q_when (b := false) (et_is (et_not (et_truL (K := K) (ev_var rfl) (sq_of hps))) rfl) (fun hb => by cases hb) (fun _ H5 e5 => ?_)
            refine q_when (b := false) (et_is (et_test (ev_op (ev_len (K := K) (ev_var rfl) (sq_of (e5 _ _ hps))) ev_c (rv_eq rfl))) rfl) (fun hb => by cases hb) (fun _ H6 e6 => ?_)
            have e46 := e5.trans e6
            have lw1 := lowAt t1 (by rw [ets]; exact List.mem_cons_self ..)
            have lw2 := lowAt t2 (by rw [ets]; exact List.mem_cons_of_mem _ (List.mem_singleton.mpr rfl))
            refine s_retL (el_lcZ (K := K) (a := p1) (b := p2) (xs := cl t1) (ys := cl t2) (ea_cons (ev_op (ev_var rfl) ev_c (rv_ixL (sq_of (e46 _ _ hps)) (atI_vi (k := 0) rfl))) (ea_cons (ev_op (ev_var rfl) ev_c (rv_ixL (sq_of (e46 _ _ hps)) (atI_vi (k := 1) rfl))) ea_nil)) (sq_of (e46 _ _ h1)) (sq_of (e46 _ _ h2)) (by rw [clLen, clLen]) (fun i => vi (M20.g (tbOf sg tbs g) (t1.wt n sg tbs (envR n ls i) * n + t2.wt n sg tbs (envR n ls i)))) (by rw [clLen]; omega) (fun _ _ => rfl) (fun i x y H7 e7 hx hy => by
                obtain ⟨_, rfl⟩ := colAt t1 i x hx
                obtain ⟨_, rfl⟩ := colAt t2 i y hy
                have l1 := lw1 i
                have l2 := lw2 i
                exact ev_op (ev_var rfl) (ev_addM (ev_mulM (ev_var rfl) (ev_var rfl) (by omega)) (ev_var rfl)) (rv_ixT (K := K) (ex_t (e46.trans e7) hta4) (atI_vi (by rw [List.getElem?_map, g_eq (by rw [tab.len, ets]; show _ < n ^ 2; rw [Nat.pow_two]; exact mul_lt l1 l2)]; rfl))))) fun p H7 np e7 hp => fin (fresh_back e46 np) (e46.trans e7) hp ?_
            rw [clLen, ets]
            show _ = (List.range (n ^ ls.length)).map fun r => vi (Tm.wt n sg tbs (envR n ls r) (.deed g [t1, t2]))
            apply List.map_congr_left
            intro r _
            rw [Tm.wt, wts, wts, wts]
            show vi (M20.g _ _) = vi (M20.g _ ((0 * n + _) * n + _))
            rw [Nat.zero_mul, Nat.zero_add]
end
end K80
end
section
namespace K80
open PySem PySem.Spec PyProof.Rows L2 Evl RZ Dw M20
/-! ### the letters of a term, in order -/
def inner (t : Tm) : List Str := vars.filter fun x => decide (x ∈ t.ls)
abbrev up (a b : Str) : Prop := vars.idxOf a ≤ vars.idxOf b
theorem v_le : ∀ a ∈ vars, ∀ b ∈ vars, ltCps b.cps.toList a.cps.toList = false → up a b := by decide +kernel
theorem v_inj : ∀ a ∈ vars, ∀ b ∈ vars, up a b → up b a → a = b := by decide +kernel
theorem vars_up : vars.Pairwise up := by decide +kernel
theorem vars_nd : vars.Nodup := by decide +kernel
theorem rising_up : ∀ (r : List Str) (p : Str), p ∈ vars → (∀ x ∈ r, x ∈ vars) → risingS p r = true → (∀ x ∈ r, up p x) ∧ r.Pairwise up
  | [], p, _, _, _ => ⟨fun x hx => (nomatch hx), List.Pairwise.nil⟩
  | y :: r, p, hp, hr, h => by
    rw [risingS, Bool.and_eq_true, Bool.not_eq_true'] at h
    have hy : y ∈ vars := hr y (List.mem_cons_self ..)
    obtain ⟨a, b⟩ := rising_up r y hy (fun x hx => hr x (List.mem_cons_of_mem _ hx)) h.2
    have py : up p y := v_le p hp y hy h.1
    refine ⟨fun x hx => ?_, List.pairwise_cons.mpr ⟨a, b⟩⟩
    rcases List.mem_cons.mp hx with e | e
    · rw [e]
      exact py
    · exact Nat.le_trans py (a x e)
theorem sorted_up {ys : List Str} (h : sortedS ys = true) (sub : ∀ x ∈ ys, x ∈ vars) : ys.Pairwise up := by
  cases ys with
  | nil => exact .nil
  | cons x r =>
    obtain ⟨a, b⟩ := rising_up r x (sub x (List.mem_cons_self ..)) (fun y hy => sub y (List.mem_cons_of_mem _ hy)) h
    exact List.pairwise_cons.mpr ⟨a, b⟩
theorem inner_nd (t : Tm) : (inner t).Nodup := List.Pairwise.filter _ vars_nd
theorem mem_inner {t : Tm} (sub : ∀ x ∈ t.ls, x ∈ vars) {x : Str} : x ∈ inner t ↔ x ∈ t.ls := by
  unfold inner
  rw [List.mem_filter]
  constructor
  · intro h
    exact of_decide_eq_true h.2
  · intro h
    exact ⟨sub x h, decide_eq_true h⟩
theorem sorted_is {ys : List Str} {t : Tm} (nd : ys.Nodup) (so : sortedS ys = true) (sub : ∀ x ∈ t.ls, x ∈ vars) (mem : ∀ x, x ∈ ys ↔ x ∈ t.ls) : ys = inner t := by
  have sy : ∀ x ∈ ys, x ∈ vars := fun x hx => sub x ((mem x).mp hx)
  refine List.Perm.eq_of_pairwise (le := up) (fun a b ha hb => v_inj a (sy a ha) b (List.mem_filter.mp hb).1) (sorted_up so sy) (List.Pairwise.filter _ vars_up) ?_
  exact (List.perm_ext_iff_of_nodup nd (inner_nd t)).mpr fun x => by rw [mem x, mem_inner sub]
mutual
theorem ls_vars {sg : List (Str × Nat)} : ∀ (t : Tm), t.ok sg → ∀ x ∈ t.ls, x ∈ vars
  | .var y, h, x, hx => by
    rw [Tm.ok] at h
    rw [Tm.ls] at hx
    rw [List.mem_singleton.mp hx]
    exact h
  | .deed f ts, h, x, hx => by
    rw [Tm.ok] at h
    rw [Tm.ls] at hx
    exact lss_vars ts h.2 x hx
theorem lss_vars {sg : List (Str × Nat)} : ∀ (ts : List Tm), oks sg ts → ∀ x ∈ lss ts, x ∈ vars
  | [], _, x, hx => by
    rw [lss] at hx
    cases hx
  | t :: ts, h, x, hx => by
    rw [oks] at h
    rw [lss] at hx
    rcases List.mem_append.mp hx with e | e
    · exact ls_vars t h.1 x e
    · exact lss_vars ts h.2 x e
end
/-! ### a dict of letters and worths -/
def envN (ls : List Str) (ns : List Nat) (x : Str) : Nat := g ns (ls.idxOf x)
section
variable {K : PySem.W.Frag} {σ : L2.St} {H : Hp} {ta tb te : TE}
theorem ep_new {xs : List V} (h : EvL te σ H xs) : EvP te σ H (fun v H' => ∃ l, v = .ref l ∧ H' l = some (.lst xs)) := fun H1 e Q q => h H1 e _ fun l H2 _ e2 hl => q _ H2 e2 ⟨l, rfl, hl⟩
end
theorem given_filter (xs : List Str) (p : Str → Bool) : given xs.length (fun i => p (xs.getD i "")) (fun i => .str (xs.getD i "")) = (xs.filter p).map V.str := by
  have e : xs = (List.range xs.length).map fun i => xs.getD i "" := by
    apply List.ext_getElem?
    intro i
    by_cases hi : i < xs.length
    · rw [List.getElem?_map, List.getElem?_range hi, List.getElem?_eq_getElem hi]
      show _ = some (xs.getD i "")
      rw [List.getD_eq_getElem?_getD, List.getElem?_eq_getElem hi]
      rfl
    · rw [List.getElem?_eq_none_iff.mpr (by omega), List.getElem?_eq_none_iff.mpr (by simp; omega)]
  unfold given
  conv => rhs; rw [e]
  rw [List.filter_map, List.map_map]
  rfl
theorem dps_strs {K : PySem.W.Frag} {H : Hp} : ∀ zs : List Str, DpAll K H (zs.map V.str) (zs.map PyData.str)
  | [] => .nil
  | z :: zs => .cons (.str z) (dps_strs zs)
/-- what worth_by is handed -/
structure BArg where
  sg : List (Str × Nat)
  n : Nat
  tbs : List (List Nat)
  t : Tm
  ns : List Nat
def BArg.wt (p : BArg) : Nat := p.t.wt p.n p.sg p.tbs (envN (inner p.t) p.ns)
theorem g_mem {ns : List Nat} {i : Nat} (h : i < ns.length) : g ns i ∈ ns := List.mem_iff_getElem?.mpr ⟨i, g_eq h⟩
section
variable {P : Program} {w : World} {K : PySem.W.Frag} {mg : Str → Option Value} {base : Heap} {va : Addr}
/-- variables_of([term]) -/
theorem ep_vars {σ : L2.St} {H : Hp} {te : TE} {E : XK} {tv : V} {t : Tm} {sg : List (Str × Nat)} (h : Ev te σ H tv) (hT : TmV K H t tv) (ok : t.ok sg) (few : t.sz ≤ 60) :
    EvP (tCall (sp_variables_of K) [] E (tCons (tLst (tCons te tNil)) tNil)) σ H (fun v H' => FStrs H' v (inner t)) := by
  refine (ep_callP [t] (eap_cons (P := fun v H' => ∃ l, v = .ref l ∧ H' l = some (.lst [tv])) (ep_new (el_lst (ea_cons h ea_nil) (by show 1 ≤ 100000; decide))) eap_nil (fun _ _ _ e ⟨l, a, b⟩ => ⟨l, a, e _ _ b⟩)) (fun vs H1 e1 ⟨v, r, q1, ⟨l, q2, hl⟩, q3⟩ => by
    subst q1 q2 q3
    exact ⟨⟨l, [tv], rfl, .inl (sq_of hl), TmsV.one (hT.et (Dw.Ex.et e1))⟩, by rw [szs, szs]; omega⟩)).imp fun v H' _ hp => ?_
  obtain ⟨ys, hp, nd, so, mem⟩ := hp
  have sub := ls_vars t ok
  have ey : ys = inner t := sorted_is nd so sub fun x => by rw [mem x, lss, lss, List.append_nil]
  rw [ey] at hp
  exact hp
end
end K80
end
section
namespace K80
open PySem PySem.Spec PyProof.Rows L2 Evl RZ Dw M20
/-! ### the purse -/
/-- a purse at p, its cells at c, t draws done -/
def Pur (H : Hp) (p c : Addr) (t : Nat) : Prop := c = p ∧ ∃ (d m : Int) (k : Nat), H p = some (.lst [.int d, .int m, vi k]) ∧ 0 ≤ d ∧ d < 10 ^ 180 ∧ 0 ≤ m ∧ m < 2147483629 ∧ k ≤ t + 3000
/-- all but these two as it was -/
def Off (H H' : Hp) (p c : Addr) : Prop := ∀ b o, b ≠ p → b ≠ c → H b = some o → H' b = some o
theorem Off.refl {H : Hp} {p c : Addr} : Off H H p c := fun _ _ _ _ h => h
theorem Off.trans {H H1 H2 : Hp} {p c : Addr} (a : Off H H1 p c) (b : Off H1 H2 p c) : Off H H2 p c := fun x o h1 h2 h => b x o h1 h2 (a x o h1 h2 h)
theorem Off.of_ex {H H' : Hp} {p c : Addr} (e : Ex H H') : Off H H' p c := fun b o _ _ h => e b o h
theorem Pur.ex {H H' : Hp} {p c : Addr} {t : Nat} (e : Ex H H') (h : Pur H p c t) : Pur H' p c t := ⟨h.1, let ⟨d, m, k, a, r⟩ := h.2; ⟨d, m, k, e _ _ a, r⟩⟩
theorem Pur.at1 {H : Hp} {p c : Addr} {t : Nat} (h : Pur H p c t) : ∃ xs, H p = some (.lst xs) := let ⟨_, _, _, a, _⟩ := h.2; ⟨_, a⟩
theorem Pur.at2 {H : Hp} {p c : Addr} {t : Nat} (h : Pur H p c t) : ∃ xs, H c = some (.lst xs) := by
  rw [h.1]
  exact h.at1
/-- a new address is neither -/
theorem Pur.fresh {H : Hp} {p c b : Addr} {t : Nat} (h : Pur H p c t) (n : H b = none) : b ≠ p ∧ b ≠ c := by
  obtain ⟨xs, h1⟩ := h.at1
  have e : b ≠ p := fun e => by
    rw [e, h1] at n
    cases n
  exact ⟨e, by rw [h.1]; exact e⟩
theorem Off.et {K : PySem.W.Frag} {H H' : Hp} {p c : Addr} {t : Nat} (o : Off H H' p c) (h : Pur H p c t) : ET K H H' := fun a xs q => by
  obtain ⟨xs1, h1⟩ := h.at1
  obtain ⟨xs2, h2⟩ := h.at2
  have no : ∀ u, H a = some u → (∀ ys, u ≠ .lst ys) → H' a = some u := fun u hu hl => o a u (fun e => by rw [e, h1] at hu; exact hl _ (Option.some.inj hu).symm) (fun e => by
    rw [e, h2] at hu
    exact hl _ (Option.some.inj hu).symm) hu
  rcases q with (q | ⟨ob, q⟩) | q
  · exact .inl (.inl (no _ q fun _ z => by cases z))
  · exact .inl (.inr ⟨ob, no _ q fun _ z => by cases z⟩)
  · exact .inr q
section
variable {P : Program} {w : World} {K : PySem.W.Frag} {mg : Str → Option Value} {base : Heap}
theorem vi_mod {x : Int} {n : Nat} (h : 1 ≤ n) : ∃ k, k < n ∧ V.int (x % (n : Int)) = vi k := by
  have h1 : 0 ≤ x % (n : Int) := Int.emod_nonneg _ (by omega)
  have h2 : x % (n : Int) < n := Int.emod_lt_of_pos _ (by omega)
  exact ⟨(x % (n : Int)).toNat, by omega, by show V.int _ = V.int _; rw [Int.toNat_of_nonneg h1]⟩
end
theorem Off.upd {H H' : Hp} {p c l : Addr} {o : HO} (f : Off H H' p c) (n : H l = none) : Off H (upd H' l o) p c := fun b u b1 b2 h => by
  rw [upd_ne (ne_of_none h n)]
  exact f b u b1 b2 h
theorem Off.back {H H' : Hp} {p c l : Addr} (f : Off H H' p c) (h1 : l ≠ p) (h2 : l ≠ c) (n : H' l = none) : H l = none := by
  cases e : H l with
  | none => rfl
  | some o =>
    rw [f l o h1 h2 e] at n
    cases n
theorem Pur.upd {H : Hp} {p c l : Addr} {t : Nat} {o : HO} (h : Pur H p c t) (h1 : l ≠ p) (h2 : l ≠ c) : Pur (upd H l o) p c t := ⟨h.1, let ⟨d, m, k, a, r⟩ := h.2; ⟨d, m, k, by rw [upd_ne (Ne.symm h1)]; exact a, r⟩⟩
section
variable {P : Program} {w : World} {K : PySem.W.Frag} {mg : Str → Option Value} {base : Heap}
section
variable {σ : L2.St} {H : Hp} {D : Ends} {tu tz : TS}
/-- for x in range(e), e by what holds of it -/
theorem q_forRX {ta : TA} {j : Nat} (C : Nat → Hp → Prop) (h : ∀ Q : List V → Hp → Prop, (∀ n H1, C n H1 → Q [vi n] H1) → ta σ H Q) (hn : ∀ n H1, C n H1 → n ≤ 100000) (Pv : Nat → Nat → L2.St → Hp → Prop) (h0 : ∀ n H1, C n H1 → Pv n 0 σ H1)
    (hs : ∀ n i σ' H', i < n → Pv n i σ' H' → tu { D with nx := Pv n (i + 1), ct := Pv n (i + 1), bk := tz D } (σ'.set j (some (vi i))) H') (hd : ∀ n σ' H', Pv n n σ' H' → tz D σ' H') : tSeq (tFor (iRng1 ta) (gName j) tu) tz D σ H :=
  h _ fun n H1 c => ⟨(n : Int), rfl, by have := hn n H1 c; omega, by have := hn n H1 c; omega, for_range (D := { D with nx := tz D }) (lo := 0) (n := ((n : Nat) : Int).toNat) (Pv n) (h0 n H1 c) (fun i σ' H' hi p => by
    have e0 : (0 : Int) + (i : Int) = (i : Int) := Int.zero_add _
    show tu { D with nx := Pv n (i + 1), ct := Pv n (i + 1), bk := tz D } (σ'.set j (some (.int ((0 : Int) + (i : Int))))) H'
    rw [e0]
    exact hs n i σ' H' (by rw [Int.toNat_natCast] at hi; exact hi) p) (fun σ' H' p => hd n σ' H' (by rw [Int.toNat_natCast] at p; exact p))⟩
end
end
/-- a comprehension whose element may do anything, by what holds between its turns -/
theorem do_lcIt {J : It} {n : Nat} {G : Hp → Prop} {Y : Nat → Hp → V → Hp → Prop} {wi : TI} {g : TG} {te : TE} {σ : L2.St} {H : Hp} {vs : List Nat} {Q : VK} (w : Walk J n G Y) (hw0 : ∀ R : It → Hp → Prop, (∀ H1, Ex H H1 → R J H1) → wi σ H R) (Pv : Addr → Nat → Hp → Prop)
    (h0 : ∀ D H1, Ex H H1 → H1 D = none → Pv D 0 (upd H1 D (.lst []))) (hG : ∀ D i H', i ≤ n → Pv D i H' → G H')
    (hs : ∀ D i x H' H'', i < n → Pv D i H' → Y i H' x H'' → g x (wipe σ vs) H'' fun σ2 H2 => wipe σ2 vs = wipe σ vs ∧ if true = true then te σ2 H2 fun y H4 => ∃ acc, H4 D = some (.lst acc) ∧ acc.length < sizeLine ∧ Pv D (i + 1) (upd H4 D (.lst (acc ++ [y]))) else Pv D (i + 1) H2)
    (hd : ∀ D H', Pv D n H' → Q (.ref D) H') : tLc wi g tYes te vs σ H Q :=
  hw0 _ fun H1 e1 Dl nD => lc_it w (Pv Dl) (h0 Dl H1 e1 nD) (hG Dl) (fun i x H2 H3 hi p y => hs Dl i x H2 H3 hi p y) (fun H2 p => hd Dl H2 p)
end K80
end
section
namespace K80
open PySem PySem.Spec PyProof.Rows L2 Evl RZ Dw M20
/-- a comprehension, test and element may do anything, by what holds between its turns -/
theorem do_lcG {J : It} {n : Nat} {G : Hp → Prop} {Y : Nat → Hp → V → Hp → Prop} {wi : TI} {g : TG} {tt : TT} {te : TE} {σ : L2.St} {H : Hp} {vs : List Nat} {Q : VK} (w : Walk J n G Y) (hw0 : ∀ R : It → Hp → Prop, (∀ H1, Ex H H1 → R J H1) → wi σ H R) (Pv : Addr → Nat → Hp → Prop)
    (h0 : ∀ D H1, Ex H H1 → H1 D = none → Pv D 0 (upd H1 D (.lst []))) (hG : ∀ D i H', i ≤ n → Pv D i H' → G H')
    (hs : ∀ D i x H' H'', i < n → Pv D i H' → Y i H' x H'' → g x (wipe σ vs) H'' fun σ2 H2 => wipe σ2 vs = wipe σ vs ∧ tt σ2 H2 fun b H3 => if b = true then te σ2 H3 fun y H4 => ∃ acc, H4 D = some (.lst acc) ∧ acc.length < sizeLine ∧ Pv D (i + 1) (upd H4 D (.lst (acc ++ [y]))) else Pv D (i + 1) H3)
    (hd : ∀ D H', Pv D n H' → Q (.ref D) H') : tLc wi g tt te vs σ H Q :=
  hw0 _ fun H1 e1 Dl nD => lc_it w (Pv Dl) (h0 Dl H1 e1 nD) (hG Dl) (fun i x H2 H3 hi p y => hs Dl i x H2 H3 hi p y) (fun H2 p => hd Dl H2 p)
theorem iteF {a b : Prop} (h : b) : if false = true then a else b := h
section
variable {P : Program} {w : World} {K : PySem.W.Frag} {mg : Str → Option Value} {base : Heap}
/-! ### pick -/
/-! ### cells, whole -/
end
end K80
end
section
namespace K80
open PySem PySem.Spec PyProof.Rows L2 Evl RZ Dw M20
/-! ### texts joined of single signs -/
abbrev one (c : Nat) : Str := ⟨#[c]⟩
section
variable {K : PySem.W.Frag} {σ : L2.St} {H : Hp} {te tl : TE}
/-- .. for a, b in a list or tuple of pairs that stand -/
theorem el_lcP {J : It} {G : Hp → Prop} {wi : TI} {ps : List Addr} {f1 f2 : Nat → V} {j1 j2 : Nat} {vs : List Nat} (w : Walk J (ps.map V.ref).length G (YAt (ps.map V.ref))) (hw0 : ∀ H0, Ex H H0 → ∀ R : It → Hp → Prop, (∀ H1, Ex H0 H1 → R J H1) → wi σ H0 R) (hG : ∀ H1, Ex H H1 → G H1)
    (hp : ∀ (i : Nat) q, ps[i]? = some q → SqT K H q [f1 i, f2 i]) (u : Nat → V) (hn : ps.length ≤ 40000) (hw : ∀ x y, wipe (((wipe σ vs).set j1 (some x)).set j2 (some y)) vs = wipe σ vs)
    (he : ∀ (i : Nat) H1, Ex H H1 → i < ps.length → Ev te (((wipe σ vs).set j1 (some (f1 i))).set j2 (some (f2 i))) H1 (u i)) : EvL (tLc wi (gTup K 2 (gCons (gName j1) (gCons (gName j2) gNil))) tYes te vs) σ H ((List.range ps.length).map u) := fun H0 e Q q => hw0 H0 e _ fun H1 e1 Dl nD =>
  lc_it w (fun i H2 => Ex H1 H2 ∧ H2 Dl = some (.lst ((List.range i).map u))) ⟨Ex.new nD, upd_same⟩ (fun i H2 _ p => hG H2 ((e.trans e1).trans p.1)) (fun i x H2 H3 hi p y => by
    obtain ⟨rfl, hx⟩ := y
    rw [List.getElem?_map] at hx
    cases hk : ps[i]? with
    | none =>
      rw [hk] at hx
      cases hx
    | some r =>
      rw [hk] at hx
      cases Option.some.inj hx
      have il : i < ps.length := (List.getElem?_eq_some_iff.mp hk).1
      have e03 := (e.trans e1).trans p.1
      refine ⟨r, _, rfl, ex_t e03 (hp i r hk), rfl, _, _, rfl, _, _, rfl, rfl, hw _ _, et_yes _ (Ex.refl _) _ fun H5 e5 => ?_⟩
      refine iteT ?_
      refine he i H5 (e03.trans e5) il _ (Ex.refl _) _ fun H4 e4 => ⟨_, e4 _ _ (e5 _ _ p.2), sz_lt (by rw [List.length_map, List.length_range]; omega), ((p.1.trans e5).trans e4).mut nD, ?_⟩
      rw [upd_same, List.range_succ, List.map_append]
      rfl) (fun H2 p => q Dl H2 (fresh_back e1 nD) (e1.trans p.1) (by rw [← List.length_map (f := V.ref)]; exact p.2))
end
theorem paired_at {α β : Type} {R : α → β → Prop} : ∀ {xs : List α} {ys : List β} {i : Nat} {x : α}, Paired R xs ys → xs[i]? = some x → ∃ y, ys[i]? = some y ∧ R x y
  | _, _, _, _, .nil, h => by simp at h
  | _, _, 0, _, .cons a _, h => by
    have e := Option.some.inj h
    subst e
    exact ⟨_, rfl, a⟩
  | _, _, i + 1, x, .cons _ b, h => by
    obtain ⟨y, e, r⟩ := paired_at (i := i) b h
    exact ⟨y, e, r⟩
section
variable {P : Program} {w : World} {K : PySem.W.Frag} {mg : Str → Option Value} {base : Heap}
end
end K80
end
section
namespace K80
open PySem PySem.Spec PyProof.Rows L2 Evl RZ Dw M20
section
variable {K : PySem.W.Frag} {σ : L2.St} {H : Hp} {ta tb tc te : TE}
end
section
variable {P : Program} {w : World} {K : PySem.W.Frag} {mg : Str → Option Value} {base : Heap}
end
end K80
end
section
namespace K80
open PySem PySem.Spec PyProof.Rows L2 Evl RZ Dw M20
mutual
/-- how deep a term is -/
def Tm.hgt : Tm → Nat
  | .var _ => 0
  | .deed _ ts => 1 + hgts ts
def hgts : List Tm → Nat
  | [] => 0
  | t :: ts => max t.hgt (hgts ts)
end
theorem hgts_le {n : Nat} : ∀ {ts : List Tm}, (∀ t ∈ ts, t.hgt ≤ n) → hgts ts ≤ n
  | [], _ => by rw [hgts]; exact Nat.zero_le _
  | t :: ts, h => by
    rw [hgts]
    exact Nat.max_le.mpr ⟨h t (List.mem_cons_self ..), hgts_le fun x hx => h x (List.mem_cons_of_mem _ hx)⟩
theorem TmsV.snoc {K : PySem.W.Frag} {H : Hp} {ts : List Tm} {us : List V} {t : Tm} {u : V} (h : TmsV K H ts us) (k : TmV K H t u) : TmsV K H (ts ++ [t]) (us ++ [u]) := h.app (.one k)
theorem tmv_var {K : PySem.W.Frag} {H : Hp} {a : Addr} {x : Str} (h : SqT K H a [.str "var", .str x]) : TmV K H (.var x) (.ref a) := by
  rw [TmV]
  exact ⟨a, rfl, h⟩
theorem tmv_deed {K : PySem.W.Frag} {H : Hp} {a b : Addr} {f : Str} {ts : List Tm} {us : List V} (h : SqT K H a [.str "deed", .str f, .ref b]) (h2 : SqT K H b us) (h3 : TmsV K H ts us) : TmV K H (.deed f ts) (.ref a) := by
  rw [TmV]
  exact ⟨a, b, us, rfl, h, h2, h3⟩
theorem FSig.off {K : PySem.W.Frag} {H H' : Hp} {v : V} {sg : List (Str × Nat)} {p c : Addr} {t : Nat} (pu : Pur H p c t) (o : Off H H' p c) (h : FSig K H v sg) : FSig K H' v sg := by
  obtain ⟨a, ob, ps, q, s, d, pr⟩ := h
  obtain ⟨xs1, h1⟩ := pu.at1
  obtain ⟨xs2, h2⟩ := pu.at2
  refine ⟨a, ob, ps, q, o _ _ (fun e => ?_) (fun e => ?_) s, d, paired_imp (fun _ _ z => o.et pu _ _ z) pr⟩
  · rw [e, h1] at s
    cases s
  · rw [e, h2] at s
    cases s
section
variable {K : PySem.W.Frag} {σ : L2.St} {H : Hp} {ta tb tc : TE} {t1 : TT}
theorem do_when {c : TT} {tu tz : TS} {D : Ends} (h : c σ H fun b H1 => if b = true then tu { D with nx := tz D } σ H1 else tz D σ H1) : tSeq (tIfS c tu tNext) tz D σ H := h
end
section
variable {P : Program} {w : World} {K : PySem.W.Frag} {mg : Str → Option Value} {base : Heap}
theorem mem_lss {x : Str} : ∀ {ts : List Tm}, x ∈ lss ts → ∃ t, t ∈ ts ∧ x ∈ t.ls
  | [], h => by
    rw [lss] at h
    cases h
  | t :: ts, h => by
    rw [lss, List.mem_append] at h
    rcases h with h | h
    · exact ⟨t, List.mem_cons_self .., h⟩
    · obtain ⟨u, hu, hx⟩ := mem_lss h
      exact ⟨u, List.mem_cons_of_mem _ hu, hx⟩
end
end K80
end
section
namespace K80
open PySem PySem.Spec PyProof.Rows L2 Evl RZ Dw M20
section
variable {P : Program} {w : World} {K : PySem.W.Frag} {mg : Str → Option Value} {base : Heap}
end
end K80
end
section
namespace K80
open PySem PySem.Spec PyProof.Rows L2 Evl RZ Dw M20
theorem op_catAK {X : Cx} (K : PySem.W.Frag) (h : X.K = K := by rfl) : OpR X (binaryOp .Add) (rCatA K) := by
  subst h
  exact op_catA
section
variable {K : PySem.W.Frag} {σ : L2.St} {H : Hp} {te tl : TE} {tt : TT} {D : Ends} {tu tz : TS} {g : TG}
theorem do_bmV {T : String} {r : V → List V → Hp → VK → Prop} {ta : TE} {t : TA} {Q : VK} (h : ta σ H fun x H1 => tyV K T x H1 ∧ t σ H1 fun xs H2 => r x xs H2 Q) : tBM K T r ta t σ H Q := h
end
theorem plc_snoc (n : Nat) (l : List Nat) (k : Nat) : plc n (l ++ [k]) = plc n l * n + k := by
  unfold plc
  rw [List.foldl_append]
  rfl
/-- all rows of numbers below n, in order -/
def rowsN (n : Nat) : Nat → List (List Nat)
  | 0 => [[]]
  | m + 1 => (rowsN n m).flatMap fun r => (List.range n).map fun k => r ++ [k]
theorem rowsN_len (n : Nat) : ∀ m, (rowsN n m).length = n ^ m
  | 0 => rfl
  | m + 1 => by
    have h : ∀ l : List (List Nat), (l.flatMap fun r => (List.range n).map fun k => r ++ [k]).length = l.length * n := by
      intro l
      induction l with
      | nil => rw [List.flatMap_nil, List.length_nil, Nat.zero_mul]
      | cons r l ih => rw [List.flatMap_cons, List.length_append, ih, List.length_map, List.length_range, List.length_cons, Nat.succ_mul, Nat.add_comm]
    rw [rowsN, h, rowsN_len n m, Nat.pow_succ]
theorem rowsN_each (n : Nat) : ∀ m, ∀ r ∈ rowsN n m, r.length = m ∧ ∀ k ∈ r, k < n
  | 0, r, h => by
    rw [rowsN] at h
    rw [List.mem_singleton.mp h]
    exact ⟨rfl, fun _ z => (nomatch z)⟩
  | m + 1, r, h => by
    rw [rowsN] at h
    obtain ⟨r', h1, h2⟩ := List.mem_flatMap.mp h
    obtain ⟨k, hk, e⟩ := List.mem_map.mp h2
    obtain ⟨a, b⟩ := rowsN_each n m r' h1
    rw [← e]
    refine ⟨by rw [List.length_append, a]; rfl, fun x hx => ?_⟩
    rcases List.mem_append.mp hx with z | z
    · exact b x z
    · rw [List.mem_singleton.mp z]
      exact List.mem_range.mp hk
section
variable {P : Program} {w : World} {K : PySem.W.Frag} {mg : Str → Option Value} {base : Heap}
/-! ### the law's own worth -/
/-! ### rows -/
/-! ### letters met -/
end
end K80
end
section
namespace K80
open PySem PySem.Spec PyProof.Rows L2 Evl RZ Dw M20
/-! ### rows and columns -/
theorem g_app_lt {l : List Nat} {k i : Nat} (h : i < l.length) : g (l ++ [k]) i = g l i := by
  have a := g_eq (l := l ++ [k]) (k := i) (by rw [List.length_append]; omega)
  have b := g_eq (l := l) (k := i) h
  rw [List.getElem?_append_left h, b] at a
  exact (Option.some.inj a).symm
theorem g_app_eq {l : List Nat} {k : Nat} : g (l ++ [k]) l.length = k := by
  have a := g_eq (l := l ++ [k]) (k := l.length) (by rw [List.length_append, List.length_singleton]; omega)
  rw [List.getElem?_append_right (Nat.le_refl _), Nat.sub_self] at a
  exact (Option.some.inj a).symm
theorem flat_at_ (n : Nat) (n1 : 1 ≤ n) : ∀ (l : List (List Nat)) (r : Nat) (row : List Nat), l[r / n]? = some row → (l.flatMap fun x => (List.range n).map fun k => x ++ [k])[r]? = some (row ++ [r % n])
  | [], r, row, h => by
    rw [List.getElem?_nil] at h
    cases h
  | x :: l, r, row, h => by
    rw [List.flatMap_cons]
    have len : ((List.range n).map fun k => x ++ [k]).length = n := by rw [List.length_map, List.length_range]
    by_cases lt : r < n
    · rw [Nat.div_eq_of_lt lt] at h
      cases Option.some.inj (show some x = some row from h)
      rw [List.getElem?_append_left (by rw [len]; exact lt), List.getElem?_map, List.getElem?_range lt, Nat.mod_eq_of_lt lt]
      rfl
    · have ge : n ≤ r := by omega
      have e1 : r / n = (r - n) / n + 1 := by
        rw [← Nat.sub_add_cancel ge, Nat.add_div_right _ n1, Nat.add_sub_cancel]
      have e2 : r % n = (r - n) % n := by
        conv => lhs; rw [← Nat.sub_add_cancel ge]
        rw [Nat.add_mod_right]
      rw [e1] at h
      rw [List.getElem?_append_right (by rw [len]; exact ge), len, e2]
      exact flat_at_ n n1 l (r - n) row h
/-- row r of all, place by place -/
theorem rowsN_at (n : Nat) (n1 : 1 ≤ n) : ∀ (m r : Nat), r < n ^ m → ∃ row, (rowsN n m)[r]? = some row ∧ row.length = m ∧ ∀ i, i < m → g row i = r / n ^ (m - 1 - i) % n
  | 0, r, h => by
    rw [Nat.pow_zero] at h
    have : r = 0 := by omega
    subst this
    exact ⟨[], rfl, rfl, fun i hi => absurd hi (Nat.not_lt_zero _)⟩
  | m + 1, r, h => by
    have h1 : r / n < n ^ m := Nat.div_lt_of_lt_mul (by rw [Nat.mul_comm, ← Nat.pow_succ]; exact h)
    obtain ⟨row, a, b, c⟩ := rowsN_at n n1 m (r / n) h1
    refine ⟨row ++ [r % n], by rw [rowsN]; exact flat_at_ n n1 _ r row a, by rw [List.length_append, b]; rfl, fun i hi => ?_⟩
    by_cases lt : i < m
    · rw [g_app_lt (by rw [b]; exact lt), c i lt, Nat.div_div_eq_div_mul, ← Nat.pow_succ']
      have e : m - 1 - i + 1 = m + 1 - 1 - i := by omega
      show r / n ^ (m - 1 - i + 1) % n = _
      rw [e]
    · have e : i = row.length := by omega
      subst e
      rw [g_app_eq, b]
      have e : m + 1 - 1 - m = 0 := by omega
      rw [e, Nat.pow_zero, Nat.div_one]
/-! ### more data -/
theorem dps_vi {K : PySem.W.Frag} {H : Hp} : ∀ ks : List Nat, DpAll K H (ks.map vi) (ks.map fun k => .int ((k : Nat) : Int))
  | [] => .nil
  | k :: ks => .cons (.int _) (dps_vi ks)
section
variable {K : PySem.W.Frag} {σ : L2.St} {H : Hp} {ta tb te tl : TE} {P R : V → Hp → Prop} {z : V} {D : Ends} {tu tz : TS}
/-- for x in (something that makes a list): by what holds of it -/
theorem q_forNX {j : Nat} (C : Addr → List V → Hp → Prop) (h : ∀ Q : VK, (∀ a xs H1, C a xs H1 → Q (.ref a) H1) → te σ H Q) (hC : ∀ a xs H1, C a xs H1 → SqL K H1 a xs) (Pv : Addr → List V → Nat → L2.St → Hp → Prop) (h0 : ∀ a xs H1, C a xs H1 → Pv a xs 0 σ H1) (hl : ∀ a xs i σ' H', i ≤ xs.length → Pv a xs i σ' H' → SqL K H' a xs)
    (hs : ∀ a xs i x σ' H', xs[i]? = some x → Pv a xs i σ' H' → tu { D with nx := Pv a xs (i + 1), ct := Pv a xs (i + 1), bk := tz D } (σ'.set j (some x)) H') (hd : ∀ a xs σ' H', Pv a xs xs.length σ' H' → tz D σ' H') : tSeq (tFor (iList K te) (gName j) tu) tz D σ H :=
  h _ fun a xs H1 c => ⟨a, rfl, ⟨xs, hC a xs H1 c⟩, for_it (D := { D with nx := tz D }) walk_list (Pv a xs) (h0 a xs H1 c) (hl a xs) (fun i x σ' H2 H3 hi p y => by
    obtain ⟨rfl, hx⟩ := y
    exact hs a xs i x σ' H3 hx p) (hd a xs)⟩
end
section
variable {P : Program} {w : World} {K : PySem.W.Frag} {mg : Str → Option Value} {base : Heap}
end
end K80
end
section
namespace K80
open PySem PySem.Spec PyProof.Rows L2 Evl RZ Dw M20
/-- the row of numbers at a place -/
def rowAt (n m r : Nat) : List Nat := (List.range m).map fun i => r / n ^ (m - 1 - i) % n
section
variable {P : Program} {w : World} {K : PySem.W.Frag} {mg : Str → Option Value} {base : Heap}
end
end K80
end
section
namespace K80
open PySem PySem.Spec PyProof.Rows L2 Evl RZ Dw M20
section
variable {P : Program} {w : World} {K : PySem.W.Frag} {mg : Str → Option Value} {base : Heap}
end
end K80
end
section
namespace K80
open PySem PySem.Spec PyProof.Rows L2 Evl RZ Dw M20
/-! equations -/
structure Eqn where
  l : Tm
  r : Tm
/-- both sides under one roof -/
def Eqn.tm (e : Eqn) : Tm := .deed "" [e.l, e.r]
def EqV (K : PySem.W.Frag) (H : Hp) (v : V) (e : Eqn) : Prop := ∃ a u1 u2, v = .ref a ∧ SqT K H a [u1, u2] ∧ TmV K H e.l u1 ∧ TmV K H e.r u2
theorem EqV.et {K : PySem.W.Frag} {H H' : Hp} {v : V} {e : Eqn} (x : ET K H H') (h : EqV K H v e) : EqV K H' v e := let ⟨a, u1, u2, q, s, t1, t2⟩ := h; ⟨a, u1, u2, q, x _ _ s, t1.et x, t2.et x⟩
theorem EqV.ex {K : PySem.W.Frag} {H H' : Hp} {v : V} {e : Eqn} (x : Ex H H') (h : EqV K H v e) : EqV K H' v e := h.et (Dw.Ex.et x)
structure EqOk (sg : List (Str × Nat)) (e : Eqn) : Prop where
  okl : e.l.ok sg
  okr : e.r.ok sg
  fewl : e.l.sz ≤ 12
  fewr : e.r.sz ≤ 12
  l4 : (inner e.tm).length ≤ 4
theorem EqOk.sub {sg : List (Str × Nat)} {e : Eqn} (h : EqOk sg e) : ∀ x ∈ e.tm.ls, x ∈ vars := by
  intro x hx
  rw [Eqn.tm, Tm.ls, lss, lss, lss, List.append_nil, List.mem_append] at hx
  rcases hx with z | z
  · exact ls_vars _ h.okl x z
  · exact ls_vars _ h.okr x z
section
variable {P : Program} {w : World} {K : PySem.W.Frag} {mg : Str → Option Value} {base : Heap} {σ : L2.St} {H : Hp}
theorem FStrs.sq {v : V} {ls : List Str} (h : FStrs H v ls) : ∃ a, v = .ref a ∧ SqT K H a (ls.map V.str) := let ⟨a, o, q, s, _⟩ := h; ⟨a, q, .inl (.inr ⟨o, s⟩)⟩
/-- equations in a tuple, a kind -/
def EqsV (K : PySem.W.Frag) (H : Hp) (b : Addr) (es : List Eqn) : Prop := ∃ us, SqT K H b us ∧ Paired (fun u e => EqV K H u e) us es
theorem EqsV.ex {H H' : Hp} {b : Addr} {es : List Eqn} (x : Ex H H') (h : EqsV K H b es) : EqsV K H' b es := let ⟨us, s, p⟩ := h; ⟨us, ex_t x s, paired_imp (fun _ _ z => z.ex x) p⟩
def KindV (K : PySem.W.Frag) (H : Hp) (v : V) (sg : List (Str × Nat)) (es : List Eqn) : Prop := ∃ a u b, v = .ref a ∧ SqT K H a [u, .ref b] ∧ FSig K H u sg ∧ EqsV K H b es
theorem KindV.ex {H H' : Hp} {v : V} {sg : List (Str × Nat)} {es : List Eqn} (x : Ex H H') (h : KindV K H v sg es) : KindV K H' v sg es := let ⟨a, u, b, q, s, f, e⟩ := h; ⟨a, u, b, q, ex_t x s, f.ex x, e.ex x⟩
end
end K80
end
section
namespace K80
open PySem PySem.Spec PyProof.Rows L2 Evl RZ Dw M20
structure UArg where
  sg : List (Str × Nat)
  n : Nat
  tbs : List (List Nat)
  e : Eqn
def UArg.ls (p : UArg) : List Str := inner p.e.tm
def UArg.m (p : UArg) : Nat := p.ls.length
def UArg.lc (p : UArg) : CArg := ⟨p.sg, p.n, p.tbs, p.e.l, p.ls⟩
def UArg.rc (p : UArg) : CArg := ⟨p.sg, p.n, p.tbs, p.e.r, p.ls⟩
def UArg.odd (p : UArg) (r : Nat) : Bool := !decide (p.lc.at r = p.rc.at r)
/-- the places at which the sides are unlike -/
def UArg.unl (p : UArg) : List Nat := (List.range (p.n ^ p.m)).filter p.odd
structure UOk (p : UArg) : Prop where
  so : SigOk p.sg
  mo : MdlOk p.sg p.n p.tbs
  eo : EqOk p.sg p.e
theorem UOk.lc {p : UArg} (h : UOk p) : COk 12 p.lc := ⟨h.so, h.mo, h.eo.okl, fun x hx => (mem_inner h.eo.sub).mpr (by rw [Eqn.tm, Tm.ls, lss]; exact List.mem_append_left _ hx), h.eo.l4, h.eo.fewl⟩
theorem UOk.rc {p : UArg} (h : UOk p) : COk 12 p.rc := ⟨h.so, h.mo, h.eo.okr, fun x hx => (mem_inner h.eo.sub).mpr (by rw [Eqn.tm, Tm.ls, lss, lss, lss, List.append_nil]; exact List.mem_append_right _ hx), h.eo.l4, h.eo.fewr⟩
section
variable {P : Program} {w : World} {K : PySem.W.Frag} {mg : Str → Option Value} {base : Heap} {σ : L2.St} {H : Hp}
end
end K80
end
section
namespace K80
open PySem PySem.Spec PyProof.Rows L2 Evl RZ Dw M20
/-- the first that is broken, ahead of place i -/
def dueAt (bs : List (Option (List Nat))) : Nat → Option (Nat × List Nat)
  | 0 => none
  | i + 1 => match dueAt bs i with
    | some x => some x
    | none => match bs[i]? with
      | some (some r) => some (i, r)
      | _ => none
def due (bs : List (Option (List Nat))) : Option (Nat × List Nat) := dueAt bs bs.length
def UArg.bad (p : UArg) : Option (List Nat) := p.unl.head?.map (rowAt p.n p.m)
def DueV (K : PySem.W.Frag) (H : Hp) (v : V) : Option (Nat × List Nat) → Prop
  | none => v = .non
  | some (k, row) => ∃ a b, v = .ref a ∧ SqT K H a [vi k, .ref b] ∧ SqT K H b (row.map vi)
structure KArg where
  sg : List (Str × Nat)
  n : Nat
  tbs : List (List Nat)
  es : List Eqn
def KArg.u (p : KArg) (e : Eqn) : UArg := ⟨p.sg, p.n, p.tbs, e⟩
def KArg.bs (p : KArg) : List (Option (List Nat)) := p.es.map fun e => (p.u e).bad
section
variable {P : Program} {w : World} {K : PySem.W.Frag} {mg : Str → Option Value} {base : Heap} {σ : L2.St} {H : Hp}
/-- equations in a list -/
def EqsL (K : PySem.W.Frag) (H : Hp) (v : V) (es : List Eqn) : Prop := ∃ l us, v = .ref l ∧ H l = some (.lst us) ∧ Paired (fun u e => EqV K H u e) us es
theorem EqsL.ex {H H' : Hp} {v : V} {es : List Eqn} (x : Ex H H') (h : EqsL K H v es) : EqsL K H' v es := let ⟨l, us, q, s, p⟩ := h; ⟨l, us, q, x _ _ s, paired_imp (fun _ _ z => z.ex x) p⟩
end
end K80
end
section
namespace K80
open PySem PySem.Spec PyProof.Rows L2 Evl RZ Dw M20
/-! ### terms as data -/
mutual
def Tm.data : Tm → PyData
  | .var x => .tuple [.str "var", .str x]
  | .deed f ts => .tuple [.str "deed", .str f, .tuple (datas ts)]
def datas : List Tm → List PyData
  | [] => []
  | t :: ts => t.data :: datas ts
end
mutual
theorem TmV.dp {K : PySem.W.Frag} {H : Hp} : ∀ {t : Tm} {v : V}, TmV K H t v → Dp K H v t.data
  | .var x, v, h => by
    rw [TmV] at h
    obtain ⟨a, rfl, s⟩ := h
    rw [Tm.data]
    exact .tup s (.cons (.str _) (.cons (.str _) .nil))
  | .deed f ts, v, h => by
    rw [TmV] at h
    obtain ⟨a, b, vs, rfl, s, s2, r⟩ := h
    rw [Tm.data]
    exact .tup s (.cons (.str _) (.cons (.str _) (.cons (.tup s2 (TmsV.dp r)) .nil)))
theorem TmsV.dp {K : PySem.W.Frag} {H : Hp} : ∀ {ts : List Tm} {vs : List V}, TmsV K H ts vs → DpAll K H vs (datas ts)
  | [], vs, h => by
    rw [TmsV] at h
    subst h
    rw [datas]
    exact .nil
  | t :: ts, vs, h => by
    rw [TmsV] at h
    obtain ⟨v, us, rfl, a, b⟩ := h
    rw [datas]
    exact .cons (TmV.dp a) (TmsV.dp b)
end
def wB : Nat → Nat
  | 0 => 10
  | h + 1 => 6 * wB h + 9
theorem wB_mono : ∀ {a b : Nat}, a ≤ b → wB a ≤ wB b := by
  intro a b h
  induction h with
  | refl => exact Nat.le_refl _
  | step _ ih =>
    rw [wB]
    omega
theorem gd_strB {z : Str} (h : ∀ c ∈ z.cps.toList, c < 0x110000) (l : z.cps.size ≤ 4) : Gd 0 4 (.str z) := by
  have g := gd_str h (Nat.le_trans l (by decide))
  exact ⟨g.lay, g.dep, by rw [PyData.weight]; exact l, g.its, g.sho⟩
theorem vars_cps4 : ∀ z ∈ vars, (∀ c ∈ z.cps.toList, c < 0x110000) ∧ z.cps.size ≤ 4 := by decide +kernel
theorem datas_len : ∀ ts : List Tm, (datas ts).length = ts.length
  | [] => by rw [datas]; rfl
  | t :: ts => by rw [datas, List.length_cons, List.length_cons, datas_len ts]
theorem name_cps {z : Str} (h : Name z) : ∀ c ∈ z.cps.toList, c < 0x110000 := fun c hc => by
  have all : ∀ c ∈ letters.cps.toList, c < 0x110000 := by decide
  exact all c (h.abc c hc)
mutual
theorem gd_tm {sg : List (Str × Nat)} (so : SigOk sg) : ∀ t : Tm, t.ok sg → Gd (2 * t.hgt + 1) (wB t.hgt) t.data
  | .var x, ok => by
    rw [Tm.ok] at ok
    rw [Tm.hgt, Tm.data]
    refine gd_tup (k := 0) (W := 4) (L := 2) (fun d hd => ?_) (Nat.le_refl 2)
    simp only [List.mem_cons, List.not_mem_nil, or_false] at hd
    rcases hd with e | e
    · rw [e]
      exact gd_strB (by decide) (by decide)
    · rw [e]
      exact gd_strB (vars_cps4 x ok).1 (vars_cps4 x ok).2
  | .deed f ts, ok => by
    rw [Tm.ok] at ok
    rw [Tm.hgt, Tm.data]
    have p2 : ts.length ≤ 2 := so.pl _ ok.1
    have nm := so.nm _ ok.1
    have ch := gd_tms so ts ok.2
    have inn : Gd (2 * hgts ts + 1 + 1) (2 * (wB (hgts ts) + 1)) (.tuple (datas ts)) := gd_tup ch (by rw [datas_len]; exact p2)
    have e1 : 2 * (1 + hgts ts) + 1 = 2 * hgts ts + 1 + 1 + 1 := by omega
    have e2 : wB (1 + hgts ts) = 3 * (2 * (wB (hgts ts) + 1) + 1) := by
      rw [Nat.add_comm, wB]
      omega
    rw [e1, e2]
    refine gd_tup (fun d hd => ?_) (Nat.le_refl 3)
    simp only [List.mem_cons, List.not_mem_nil, or_false] at hd
    rcases hd with e | e | e
    · rw [e]
      exact (gd_strB (by decide) (by decide)).mono (Nat.zero_le _) (by have := wB_mono (Nat.zero_le (hgts ts)); rw [wB] at this; omega)
    · rw [e]
      exact (gd_strB (name_cps nm) nm.l4).mono (Nat.zero_le _) (by have := wB_mono (Nat.zero_le (hgts ts)); rw [wB] at this; omega)
    · rw [e]
      exact inn
theorem gd_tms {sg : List (Str × Nat)} (so : SigOk sg) : ∀ ts : List Tm, oks sg ts → ∀ d ∈ datas ts, Gd (2 * hgts ts + 1) (wB (hgts ts)) d
  | [], _, d, hd => by
    rw [datas] at hd
    cases hd
  | t :: ts, ok, d, hd => by
    rw [oks] at ok
    rw [datas] at hd
    rw [hgts]
    rcases List.mem_cons.mp hd with e | e
    · rw [e]
      exact (gd_tm so t ok.1).mono (by have := Nat.le_max_left t.hgt (hgts ts); omega) (wB_mono (Nat.le_max_left _ _))
    · exact (gd_tms so ts ok.2 d e).mono (by have := Nat.le_max_right t.hgt (hgts ts); omega) (wB_mono (Nat.le_max_right _ _))
end
theorem MdlOk.gdM {sg : List (Str × Nat)} {n : Nat} {ts : List (List Nat)} (m : MdlOk sg n ts) (so : SigOk sg) : Gd 3 3178 (dM n ts) := by
  have n6 := m.n6
  refine gd_mdl (by omega) (fun t ht => ⟨fun k hk => by have := m.low t ht k hk; omega, ?_⟩) (by rw [m.len]; exact so.l4)
  obtain ⟨i, hi⟩ := List.mem_iff_getElem?.mp ht
  have il : i < ts.length := (List.getElem?_eq_some_iff.mp hi).1
  have is : i < sg.length := by rw [← m.len]; exact il
  have tb := m.tab i is il
  rw [List.getElem?_eq_getElem il] at hi
  rw [← Option.some.inj hi, tb.len]
  have h1 : n ^ sg[i].2 ≤ 6 ^ sg[i].2 := Nat.pow_le_pow_left n6 _
  have h2 : 6 ^ sg[i].2 ≤ 6 ^ 2 := Nat.pow_le_pow_right (by decide) (so.pl _ (List.getElem_mem is))
  omega
theorem SigOk.gdS {sg : List (Str × Nat)} (so : SigOk sg) : Gd 2 812 (dS sg) := gd_sig (fun p hp => ⟨name_cps (so.nm p hp), Nat.le_trans (so.nm p hp).l4 (by decide), Nat.le_trans (so.pl p hp) (by decide)⟩) so.l4
mutual
theorem hgt_sz : ∀ t : Tm, t.hgt ≤ t.sz
  | .var x => by
    rw [Tm.hgt]
    exact Nat.zero_le _
  | .deed f ts => by
    have := hgts_szs ts
    rw [Tm.hgt, Tm.sz]
    omega
theorem hgts_szs : ∀ ts : List Tm, hgts ts ≤ szs ts
  | [] => by
    rw [hgts]
    exact Nat.zero_le _
  | t :: ts => by
    have a := hgt_sz t
    have b := hgts_szs ts
    rw [hgts, szs]
    exact Nat.max_le.mpr ⟨by omega, by omega⟩
end
def Eqn.data (e : Eqn) : PyData := .tuple [e.l.data, e.r.data]
theorem EqV.dp {K : PySem.W.Frag} {H : Hp} {v : V} {e : Eqn} (h : EqV K H v e) : Dp K H v e.data := by
  obtain ⟨a, u1, u2, rfl, s, t1, t2⟩ := h
  exact .tup s (.cons (TmV.dp t1) (.cons (TmV.dp t2) .nil))
end K80
end
section
namespace K80
open PySem PySem.Spec PyProof.Rows L2 Evl RZ Dw M20
section
variable {P : Program} {w : World} {K : PySem.W.Frag} {mg : Str → Option Value} {base : Heap} {σ : L2.St} {H : Hp}
end
end K80
end
section
namespace K80
open PySem PySem.Spec PyProof.Rows L2 Evl RZ Dw M20
theorem rowAt_len (n m r : Nat) : (rowAt n m r).length = m := by rw [rowAt, List.length_map, List.length_range]
theorem rowAt_g {n m r i : Nat} (h : i < m) : g (rowAt n m r) i = r / n ^ (m - 1 - i) % n := by
  have e := g_eq (l := rowAt n m r) (k := i) (by rw [rowAt_len]; exact h)
  rw [rowAt, List.getElem?_map, List.getElem?_eq_getElem (by rw [List.length_range]; exact h), List.getElem_range] at e
  exact (Option.some.inj e).symm
theorem row_is {n m r : Nat} {row : List Nat} (len : row.length = m) (h : ∀ i, i < m → g row i = r / n ^ (m - 1 - i) % n) : row = rowAt n m r := by
  apply List.ext_getElem?
  intro i
  by_cases hi : i < m
  · rw [g_eq (l := row) (k := i) (by omega), g_eq (l := rowAt n m r) (k := i) (by rw [rowAt_len]; exact hi), h i hi, rowAt_g hi]
  · rw [List.getElem?_eq_none (by omega), List.getElem?_eq_none (by rw [rowAt_len]; omega)]
theorem rowsN_row {n m r : Nat} (n1 : 1 ≤ n) (h : r < n ^ m) : (rowsN n m)[r]? = some (rowAt n m r) := by
  obtain ⟨row, e, len, gs⟩ := rowsN_at n n1 m r h
  rw [e, row_is len gs]
def RowsV (K : PySem.W.Frag) (H : Hp) (l : Addr) (rows : List (List Nat)) : Prop := ∃ us, H l = some (.lst us) ∧ Paired (Nats K H) us rows
theorem nats_et {K : PySem.W.Frag} {H H' : Hp} (e : ET K H H') {us : List V} {rows : List (List Nat)} (h : Paired (Nats K H) us rows) : Paired (Nats K H') us rows := paired_imp (fun _ _ ⟨a, q, s⟩ => ⟨a, q, e _ _ s⟩) h
theorem paired_snoc {α β : Type} {R : α → β → Prop} : ∀ {xs : List α} {ys : List β} {x : α} {y : β}, Paired R xs ys → R x y → Paired R (xs ++ [x]) (ys ++ [y])
  | [], [], _, _, .nil, h => .cons h .nil
  | _ :: _, _ :: _, _, _, .cons r p, h => .cons r (paired_snoc p h)
section
variable {P : Program} {w : World} {K : PySem.W.Frag} {mg : Str → Option Value} {base : Heap} {σ : L2.St} {H : Hp}
end
end K80
end
section
namespace K80
open PySem PySem.Spec PyProof.Rows L2 Evl RZ Dw M20
/-! ### repr of any thing, data of rows and of what is due -/
def Plain (v : V) : Prop := (∃ a, v = .ref a) ∨ v = .non ∨ ∃ b, v = .bl b
def dR (rows : List (List Nat)) : PyData := .list (rows.map dN)
section
variable {K : PySem.W.Frag} {σ : L2.St} {H : Hp} {te : TE}
theorem RowsV.ex {H' : Hp} {l : Addr} {rows : List (List Nat)} (e : Ex H H') (h : RowsV K H l rows) : RowsV K H' l rows := let ⟨us, a, b⟩ := h; ⟨us, e _ _ a, nats_et (Dw.Ex.et e) b⟩
theorem RowsV.dp {l : Addr} {rows : List (List Nat)} (h : RowsV K H l rows) : Dp K H (.ref l) (dR rows) := let ⟨us, a, b⟩ := h; .lst (sq_of a) (dps_paired (fun _ _ z => Nats.dp z) b)
def dDue : Option (Nat × List Nat) → PyData
  | none => .none
  | some (k, row) => .tuple [.int (k : Int), dN row]
theorem DueV.dp {v : V} : ∀ {x : Option (Nat × List Nat)}, DueV K H v x → Dp K H v (dDue x)
  | none, h => by
    replace h : v = .non := h
    subst h
    exact .non
  | some (k, row), h => by
    obtain ⟨a, b, rfl, s1, s2⟩ := h
    exact .tup s1 (.cons (.int _) (.cons (Nats.dp ⟨b, rfl, s2⟩) .nil))
theorem DueV.ex {H' : Hp} {v : V} (e : Ex H H') : ∀ {x : Option (Nat × List Nat)}, DueV K H v x → DueV K H' v x
  | none, h => h
  | some (k, row), h => by
    obtain ⟨a, b, rfl, s1, s2⟩ := h
    exact ⟨a, b, rfl, ex_t e s1, ex_t e s2⟩
end
theorem DueV.plain {K : PySem.W.Frag} {H : Hp} {v : V} : ∀ {x : Option (Nat × List Nat)}, DueV K H v x → Plain v
  | none, h => .inr (.inl h)
  | some (k, row), h => by
    obtain ⟨a, b, rfl, _⟩ := h
    exact .inl ⟨a, rfl⟩
end K80
end
section
namespace K80
open PySem PySem.Spec PyProof.Rows L2 Evl RZ Dw M20
section
variable {K : PySem.W.Frag} {σ : L2.St} {H : Hp} {te ta tb : TE}
end
end K80
end
section
namespace K80
open PySem PySem.Spec PyProof.Rows L2 Evl RZ Dw M20
/-! ### terms with their variables exchanged -/
mutual
def Tm.put (f : Str → Tm) : Tm → Tm
  | .var x => f x
  | .deed g ts => .deed g (puts f ts)
def puts (f : Str → Tm) : List Tm → List Tm
  | [] => []
  | t :: ts => t.put f :: puts f ts
end
def rn (w : Str → Str) : Str → Tm := fun x => .var (w x)
theorem puts_map (f : Str → Tm) : ∀ ts : List Tm, puts f ts = ts.map (Tm.put f)
  | [] => by rw [puts]; rfl
  | t :: ts => by rw [puts, puts_map f ts]; rfl
mutual
theorem put_congr {f g : Str → Tm} : ∀ t : Tm, (∀ x ∈ t.ls, f x = g x) → t.put f = t.put g
  | .var x, h => by
    rw [Tm.put, Tm.put]
    exact h x (by rw [Tm.ls]; exact List.mem_singleton.mpr rfl)
  | .deed n ts, h => by
    rw [Tm.put, Tm.put, puts_congr ts (fun x hx => h x (by rw [Tm.ls]; exact hx))]
theorem puts_congr {f g : Str → Tm} : ∀ ts : List Tm, (∀ x ∈ lss ts, f x = g x) → puts f ts = puts g ts
  | [], _ => by rw [puts, puts]
  | t :: ts, h => by
    rw [puts, puts, put_congr t (fun x hx => h x (by rw [lss]; exact List.mem_append_left _ hx)), puts_congr ts (fun x hx => h x (by rw [lss]; exact List.mem_append_right _ hx))]
end
theorem puts_len {f : Str → Tm} (ts : List Tm) : (puts f ts).length = ts.length := by rw [puts_map, List.length_map]
/-! ### the order in which letters first come -/
def posS : List Str → Str → Nat
  | [], _ => 0
  | k :: r, x => if x = k then 0 else posS r x + 1
/-! ### equations by other letters -/
def Eqn.ls (e : Eqn) : List Str := e.l.ls ++ e.r.ls
def Eqn.names (e : Eqn) : List Str := firsts e.ls
/-- back from the letters: what is the same by its letters is led over by the names, one by one -/
def back (ks : List Str) (z : Str) : Str := ks.getD (posS vars z) "u"
end K80
end
section
namespace K80
open PySem PySem.Spec PyProof.Rows L2 Evl RZ Dw M20
/-! ### texts of terms -/
def cl (s : Str) : List Nat := s.cps.toList
theorem cl_app (a b : Str) : cl (a ++ b) = cl a ++ cl b := Array.toList_append
def isL (c : Nat) : Prop := 97 ≤ c ∧ c ≤ 122
/-! ### the lesser one of an equation and the one turned about -/
end K80
end
section
namespace K80
open PySem PySem.Spec PyProof.Rows L2 Evl RZ Dw M20
/-! ### ways to lead letters, one to one -/
/-- by the way zs the i-th name is led to the i-th one -/
def wz (ks zs : List Str) (x : Str) : Str := zs.getD (posS ks x) "u"
/-! ### the same data -/
end K80
end
section
namespace K80
open PySem PySem.Spec PyProof.Rows L2 Evl RZ Dw M20
/-- a dict by which letters are exchanged -/
def PutD (K : PySem.W.Frag) (H : Hp) (v : V) (f : Str → Tm) (xs : List Str) : Prop := ∃ (d : Addr) (kvs : List (Key × V)), v = .ref d ∧ H d = some (.dK kvs) ∧ ∀ x ∈ xs, (valV kvs (.inr x) = none ∧ f x = .var x) ∨ ∃ u, valV kvs (.inr x) = some u ∧ TmV K H (f x) u
theorem PutD.ex {K : PySem.W.Frag} {H H' : Hp} {v : V} {f : Str → Tm} {xs : List Str} (e : Ex H H') (h : PutD K H v f xs) : PutD K H' v f xs := by
  obtain ⟨d, kvs, q, hd, all⟩ := h
  refine ⟨d, kvs, q, e _ _ hd, fun x hx => ?_⟩
  rcases all x hx with z | ⟨u, a, b⟩
  · exact .inl z
  · exact .inr ⟨u, a, b.et (Dw.Ex.et e)⟩
theorem PutD.sub {K : PySem.W.Frag} {H : Hp} {v : V} {f : Str → Tm} {xs ys : List Str} (s : ∀ y ∈ ys, y ∈ xs) (h : PutD K H v f xs) : PutD K H v f ys := let ⟨d, kvs, q, hd, all⟩ := h; ⟨d, kvs, q, hd, fun x hx => all x (s x hx)⟩
theorem puts_take {f : Str → Tm} {ts : List Tm} {i : Nat} {t : Tm} (h : ts[i]? = some t) : puts f (ts.take (i + 1)) = puts f (ts.take i) ++ [t.put f] := by
  rw [puts_map, puts_map, List.take_add_one, h, List.map_append]
  rfl
theorem ls_at {ts : List Tm} {i : Nat} {t : Tm} (h : ts[i]? = some t) {x : Str} (hx : x ∈ t.ls) : x ∈ lss ts := by
  have e : lss ts = lss (ts.take (i + 1)) ++ lss (ts.drop (i + 1)) := by rw [← lss_app, List.take_append_drop]
  rw [e, lss_take h]
  exact List.mem_append_left _ (List.mem_append_right _ hx)
section
variable {P : Program} {w : World} {K : PySem.W.Frag} {mg : Str → Option Value} {base : Heap} {σ : L2.St} {H : Hp}
/-- d.get(x, y), told by what it is -/
theorem do_get2 {td ty tz : TE} {v u : V} {x : Str} {f : Str → Tm} {xs : List Str} {Q : VK} (hd : Ev td σ H v) (hx : Ev ty σ H (.str x)) (hz : Ev tz σ H u) (hp : PutD K H v f xs) (mem : x ∈ xs) (hu : TmV K H (.var x) u) (h : ∀ r H1, Ex H H1 → TmV K H1 (f x) r → Q r H1) : tDGet2 td ty tz σ H Q := by
  refine hd H (Ex.refl _) _ fun H1 e1 => ?_
  obtain ⟨d, kvs, rfl, h1, _⟩ := hp.ex e1
  refine ⟨d, rfl, .inl ⟨kvs, .inl h1⟩, hx H1 e1 _ fun H2 e2 => hz H2 (e1.trans e2) _ fun H3 e3 => ?_⟩
  have e03 := (e1.trans e2).trans e3
  obtain ⟨d', kvs', q, h3, all⟩ := hp.ex e03
  cases q
  refine ⟨valV kvs' (.inr x), DGet.k (k := .inr x) h3, ?_⟩
  rcases all x mem with ⟨a, b⟩ | ⟨r, a, b⟩
  · rw [a]
    exact h u H3 e03 (by rw [b]; exact hu.et (Dw.Ex.et e03))
  · rw [a]
    exact h r H3 e03 b
end
end K80
end
section
namespace K80
open PySem PySem.Spec PyProof.Rows L2 Evl RZ Dw M20
/-! ### how long texts are -/
theorem len_cl (s : Str) : s.length = (cl s).length := (Array.length_toList).symm
theorem len_app (a b : Str) : (a ++ b).length = a.length + b.length := by rw [len_cl, len_cl, len_cl, cl_app, List.length_append]
section
variable {P : Program} {w : World} {K : PySem.W.Frag} {mg : Str → Option Value} {base : Heap} {σ : L2.St} {H : Hp}
end
end K80
end
section
namespace K80
open PySem PySem.Spec PyProof.Rows L2 Evl RZ Dw M20
/-- a dict comprehension, by what holds between its turns -/
theorem dc_it {J : It} {n : Nat} {G : Hp → Prop} {Y : Nat → Hp → V → Hp → Prop} {g : TG} {tt : TT} {tk tv : TE} {σ : L2.St} {H1 : Hp} {D : Addr} {vs : List Nat} {Q : VK} (w : Walk J n G Y) (Pv : Nat → Hp → Prop) (h0 : Pv 0 (upd H1 D (.dK []))) (hG : ∀ i H', i ≤ n → Pv i H' → G H')
    (hs : ∀ i x H' H'', i < n → Pv i H' → Y i H' x H'' → g x (wipe σ vs) H'' fun σ2 H2 => wipe σ2 vs = wipe σ vs ∧ tt σ2 H2 fun b H3 => if b = true then tk σ2 H3 fun y H4 => tv σ2 H4 fun z H5 => ∃ kvs k, y = kV k ∧ H5 D = some (.dK kvs) ∧ kvs.length < sizeLine ∧ Pv (i + 1) (upd H5 D (.dK (putK kvs k z))) else Pv (i + 1) H3)
    (hd : ∀ H', Pv n H' → Q (.ref D) H') :
    ∃ W : Nat → Nat → Hp → Prop, (∃ m, W 0 m (upd H1 D (.dK []))) ∧ ∀ i m H, W i m H → (J.stop i H ∧ Q (.ref D) H) ∨ (J.go i H ∧ ∃ Nx : Hp → Prop, (∀ H', Nx H' → ∃ m', m' < m ∧ W (i + 1) m' H') ∧ ∀ x H', J.yld i H x H' → g x (wipe σ vs) H' fun σ2 H2 => wipe σ2 vs = wipe σ vs ∧ tt σ2 H2 fun b H3 => if b = true then tk σ2 H3 fun y H4 => tv σ2 H4 fun z H5 => ∃ kvs k, y = kV k ∧ H5 D = some (.dK kvs) ∧ kvs.length < sizeLine ∧ Nx (upd H5 D (.dK (putK kvs k z))) else Nx H3) := by
  refine ⟨fun i m H => m = n - i ∧ i ≤ n ∧ Pv i H, ⟨n, rfl, Nat.zero_le _, h0⟩, ?_⟩
  rintro i m H ⟨rfl, hi, p⟩
  have gH := hG i H hi p
  by_cases lt : i < n
  · exact .inr ⟨w.goes i H lt gH, Pv (i + 1), fun H' p' => ⟨n - (i + 1), by omega, rfl, lt, p'⟩, fun x H' y => hs i x H H' lt p (w.yields i H x H' lt gH y)⟩
  · have e : i = n := by omega
    subst e
    exact .inl ⟨w.stops H gH, hd H p⟩
theorem ET.updD {K : PySem.W.Frag} {H H' : Hp} {l : Addr} {xs ys : List (Key × V)} (e : ET K H H') (h : H' l = some (.dK xs)) : ET K H (upd H' l (.dK ys)) := fun a zs q => by
  rcases e a zs q with (q | ⟨o, q⟩) | q
  · exact .inl (.inl (by rw [upd_ne (fun z => by rw [z, h] at q; cases q)]; exact q))
  · exact .inl (.inr ⟨o, by rw [upd_ne (fun z => by rw [z, h] at q; cases q)]; exact q⟩)
  · exact .inr q
theorem put_len (c : List (Key × V)) (k : Key) (x : V) : (putK c k x).length ≤ c.length + 1 := by
  unfold putK
  split
  · rw [List.length_map]
    exact Nat.le_add_right _ _
  · rw [List.length_append]
    exact Nat.le_refl _
theorem do_yes {σ : L2.St} {H : Hp} {A B : Hp → Prop} (h : A H) : tYes σ H fun b H3 => if b = true then A H3 else B H3 := h
section
variable {P : Program} {w : World} {K : PySem.W.Frag} {mg : Str → Option Value} {base : Heap} {σ : L2.St} {H : Hp} {va : Addr}
end
end K80
end
section
namespace K80
open PySem PySem.Spec PyProof.Rows L2 Evl RZ Dw M20
section
variable {P : Program} {w : World} {K : PySem.W.Frag} {mg : Str → Option Value} {base : Heap} {σ : L2.St} {H : Hp} {va : Addr}
def PairArg (K : PySem.W.Frag) (p : List (Str × Nat) × Eqn) (vs : List V) (H : Hp) : Prop := (∃ u v, vs = [u, v] ∧ FSig K H u p.1 ∧ EqV K H v p.2) ∧ SigOk p.1 ∧ EqOk p.1 p.2
end
end K80
end
section
namespace K80
open PySem PySem.Spec PyProof.Rows L2 Evl RZ Dw M20
section
variable {P : Program} {w : World} {K : PySem.W.Frag} {mg : Str → Option Value} {base : Heap} {σ : L2.St} {H : Hp}
/-! ### come -/
end
end K80
end
section
namespace K80
open PySem PySem.Spec PyProof.Rows L2 Evl RZ Dw M20
section
variable {P : Program} {w : World} {K : PySem.W.Frag} {mg : Str → Option Value} {base : Heap} {σ : L2.St} {H : Hp}
end
end K80
end
section
namespace K80
open PySem PySem.Spec PyProof.Rows L2 Evl RZ Dw M20
theorem val_mergeG : ∀ (kvs acc : List (Key × V)) (k : Key) (v : V), (kvs.map (·.1)).Nodup → ((k, v) ∈ kvs ∨ (k ∉ kvs.map (·.1) ∧ valV acc k = some v)) → valV (mergeK acc kvs) k = some v
  | [], acc, k, v, _, h => by
    rcases h with h | h
    · cases h
    · exact h.2
  | d :: r, acc, k, v, nd, h => by
    obtain ⟨no, nd2⟩ := List.nodup_cons.mp (show (d.1 :: r.map (·.1)).Nodup from nd)
    show valV (mergeK (putK acc d.1 d.2) r) k = some v
    refine val_mergeG r _ k v nd2 ?_
    rcases h with h | ⟨h1, h2⟩
    · rcases List.mem_cons.mp h with e | e
      · subst e
        refine .inr ⟨no, ?_⟩
        rw [valV_put, if_pos rfl]
      · exact .inl e
    · have h1' : k ∉ d.1 :: r.map (·.1) := h1
      refine .inr ⟨fun z => h1' (List.mem_cons_of_mem _ z), ?_⟩
      rw [valV_put, if_neg (fun (e : k = d.1) => h1' (by rw [e]; exact List.mem_cons_self ..))]
      exact h2
theorem nodup_inr : ∀ {ks : List Str}, ks.Nodup → (ks.map (Sum.inr : Str → Key)).Nodup
  | [], _ => List.nodup_nil
  | k :: r, h => by
    obtain ⟨no, nd⟩ := List.nodup_cons.mp h
    refine List.nodup_cons.mpr ⟨fun z => ?_, nodup_inr nd⟩
    obtain ⟨y, hy, e⟩ := List.mem_map.mp z
    exact no (Sum.inr.inj e ▸ hy)
section
variable {P : Program} {w : World} {K : PySem.W.Frag} {mg : Str → Option Value} {base : Heap} {σ : L2.St} {H : Hp}
/-- what dict(pairs of a name and a letter) is -/
def PairsV (K : PySem.W.Frag) (H : Hp) (D : Addr) (ks : List Str) (g : Str → Tm) : Prop := ∃ (ps : List Addr) (kvs : List (Key × V)), H D = some (.lst (ps.map V.ref)) ∧ Paired (fun p kv => SqT K H p [kV kv.1, kv.2]) ps kvs ∧ kvs.map (·.1) = ks.map Sum.inr ∧ ∀ kv ∈ kvs, ∀ x, kv.1 = Sum.inr x → TmV K H (g x) kv.2
theorem PairsV.put {D : Addr} {ks : List Str} {g : Str → Tm} (nd : ks.Nodup) {kvs : List (Key × V)} (keys : kvs.map (·.1) = ks.map Sum.inr) {H' : Hp} (all : ∀ kv ∈ kvs, ∀ x, kv.1 = Sum.inr x → TmV K H' (g x) kv.2) (h : H' D = some (.dK (mergeK [] kvs))) : PutD K H' (.ref D) g ks := by
  have ndk : (kvs.map (·.1)).Nodup := by
    rw [keys]
    exact nodup_inr nd
  refine ⟨D, _, rfl, h, fun x hx => .inr ?_⟩
  have m : (Sum.inr x : Key) ∈ kvs.map (·.1) := by
    rw [keys]
    exact List.mem_map_of_mem hx
  obtain ⟨⟨k, u⟩, hk, ek⟩ := List.mem_map.mp m
  have ek' : k = Sum.inr x := ek
  subst ek'
  exact ⟨u, val_mergeG kvs [] _ u ndk (.inl hk), all _ hk x rfl⟩
end
end K80
end
section
namespace K80
open PySem PySem.Spec PyProof.Rows L2 Evl RZ Dw M20
section
variable {P : Program} {w : World} {K : PySem.W.Frag} {mg : Str → Option Value} {base : Heap} {σ : L2.St} {H : Hp}
end
end K80
end
section
namespace K80
open PySem PySem.Spec PyProof.Rows L2 Evl RZ Dw M20
section
variable {P : Program} {w : World} {K : PySem.W.Frag} {mg : Str → Option Value} {base : Heap} {σ : L2.St} {H : Hp}
theorem do_put {td ty tv : TE} {D : Ends} (h : tv σ H fun v H1 => td σ H1 fun x H2 => ty σ H2 fun y H3 => ∃ a H4, x = .ref a ∧ DPut H3 a y v H4 ∧ D.nx σ H4) : sDPut td ty tv D σ H := h
end
end K80
end
section
namespace K80
open PySem PySem.Spec PyProof.Rows L2 Evl RZ Dw M20 LiI
theorem val_none : ∀ {kvs : List (Key × V)} {k : Key}, k ∉ kvs.map (·.1) → valV kvs k = none
  | [], _, _ => rfl
  | p :: r, k, h => by
    have h' : k ∉ p.1 :: r.map (·.1) := h
    rw [valV_neg (fun e => h' (by rw [e]; exact List.mem_cons_self ..))]
    exact val_none fun z => h' (List.mem_cons_of_mem _ z)
theorem merge_app : ∀ (kvs acc : List (Key × V)), ((acc ++ kvs).map (·.1)).Nodup → mergeK acc kvs = acc ++ kvs
  | [], acc, _ => by
    rw [List.append_nil]
    rfl
  | p :: r, acc, nd => by
    have no : p.1 ∉ acc.map (·.1) := by
      rw [List.map_append] at nd
      intro z
      exact (List.nodup_append.mp nd).2.2 p.1 z p.1 (by simp) rfl
    show mergeK (putK acc p.1 p.2) r = _
    rw [putK_new p.2 (val_none no), merge_app r _ (by rw [List.append_assoc]; exact nd), List.append_assoc]
    rfl
theorem merge_nil {kvs : List (Key × V)} (nd : (kvs.map (·.1)).Nodup) : mergeK [] kvs = kvs := merge_app kvs [] nd
section
variable {P : Program} {w : World} {K : PySem.W.Frag} {mg : Str → Option Value} {base : Heap} {σ : L2.St} {H : Hp}
/-- a way as a dict -/
def WayD (K : PySem.W.Frag) (H : Hp) (d : Addr) (ks zs : List Str) : Prop := ∃ kvs : List (Key × V), H d = some (.dK kvs) ∧ kvs.map (·.1) = ks.map Sum.inr ∧ ∀ kv ∈ kvs, ∀ x, kv.1 = Sum.inr x → TmV K H (.var (wz ks zs x)) kv.2
theorem WayD.ex {H H' : Hp} {d : Addr} {ks zs : List Str} (e : Ex H H') (h : WayD K H d ks zs) : WayD K H' d ks zs := let ⟨kvs, a, b, c⟩ := h; ⟨kvs, e _ _ a, b, fun kv hk x ex => (c kv hk x ex).et (Dw.Ex.et e)⟩
theorem WayD.upd {H : Hp} {d l : Addr} {ks zs : List Str} {xs ys : List V} (hl : H l = some (.lst xs)) (h : WayD K H d ks zs) : WayD K (upd H l (.lst ys)) d ks zs := by
  obtain ⟨kvs, a, b, c⟩ := h
  refine ⟨kvs, ?_, b, fun kv hk x ex => (c kv hk x ex).et (ET.refl.upd hl)⟩
  rw [upd_ne (fun z => by rw [z, hl] at a; cases a)]
  exact a
theorem WayD.put {H : Hp} {d : Addr} {ks zs : List Str} (nd : ks.Nodup) (h : WayD K H d ks zs) : PutD K H (.ref d) (rn (wz ks zs)) ks := by
  obtain ⟨kvs, a, b, c⟩ := h
  have ndk : (kvs.map (·.1)).Nodup := by
    rw [b]
    exact nodup_inr nd
  refine PairsV.put nd b c ?_
  rw [merge_nil ndk]
  exact a
end
end K80
end
section
namespace K80
open PySem PySem.Spec PyProof.Rows L2 Evl RZ Dw M20
section
variable {P : Program} {w : World} {K : PySem.W.Frag} {mg : Str → Option Value} {base : Heap} {σ : L2.St} {H : Hp}
end
end K80
end
section
namespace K80
open PySem PySem.Spec PyProof.Rows L2 Evl RZ Dw M20
theorem nd_len : ∀ {xs ys : List Str}, xs.Nodup → (∀ x ∈ xs, x ∈ ys) → xs.length ≤ ys.length
  | [], _, _, _ => Nat.zero_le _
  | x :: xs, ys, nd, h => by
    obtain ⟨no, nd2⟩ := List.nodup_cons.mp nd
    have m := h x (List.mem_cons_self ..)
    have a := nd_len (ys := ys.erase x) nd2 fun y hy => (List.mem_erase_of_ne (fun (e : y = x) => no (e ▸ hy))).mpr (h y (List.mem_cons_of_mem _ hy))
    have b := List.length_erase_of_mem m
    have c := List.length_pos_of_mem m
    rw [List.length_cons]
    omega
/-! ### parts by paths -/
def Tm.kids : Tm → List Tm
  | .var _ => []
  | .deed _ ts => ts
def sub : List Nat → Tm → Option Tm
  | [], t => some t
  | k :: p, t => t.kids[k]?.bind (sub p)
section
variable {P : Program} {w : World} {K : PySem.W.Frag} {mg : Str → Option Value} {base : Heap} {σ : L2.St} {H : Hp}
def TOk (p : List (Str × Nat) × Tm) : Prop := SigOk p.1 ∧ p.2.ok p.1 ∧ p.2.sz ≤ 60
theorem ev_need {ta tb : TE} {E : XK} {p : List (Str × Nat) × Tm} {u v : V} (h1 : Ev ta σ H u) (h2 : Ev tb σ H v) (hF : FSig K H u p.1) (tv : TmV K H p.2 v) (ok : TOk p) : Ev (tCall (sp_need_term K) [] E (tCons ta (tCons tb tNil))) σ H .non := ev_callV (v := .non) p (ea_cons h1 (ea_cons h2 ea_nil)) (fun H1 e1 => ⟨⟨_, _, rfl, hF.ex e1, tv.et (Dw.Ex.et e1)⟩, ok⟩) (fun _ _ p => p)
end
end K80
end
section
namespace K80
open PySem PySem.Spec PyProof.Rows L2 Evl RZ Dw M20
theorem TmsV.take {K : PySem.W.Frag} {H : Hp} : ∀ {ts : List Tm} {us : List V} (n : Nat), TmsV K H ts us → TmsV K H (ts.take n) (us.take n)
  | [], us, n, h => by
    rw [TmsV] at h
    subst h
    rw [List.take_nil, List.take_nil, TmsV]
  | t :: ts, us, n, h => by
    rw [TmsV] at h
    obtain ⟨v, ws, rfl, a, b⟩ := h
    cases n with
    | zero =>
      rw [List.take_zero, List.take_zero, TmsV]
    | succ n =>
      rw [List.take_succ_cons, List.take_succ_cons, TmsV]
      exact ⟨v, _, rfl, a, b.take n⟩
theorem TmsV.drop {K : PySem.W.Frag} {H : Hp} : ∀ {ts : List Tm} {us : List V} (n : Nat), TmsV K H ts us → TmsV K H (ts.drop n) (us.drop n)
  | [], us, n, h => by
    rw [TmsV] at h
    subst h
    rw [List.drop_nil, List.drop_nil, TmsV]
  | t :: ts, us, n, h => by
    have h0 := h
    rw [TmsV] at h
    obtain ⟨v, ws, rfl, a, b⟩ := h
    cases n with
    | zero => exact h0
    | succ n =>
      rw [List.drop_succ_cons, List.drop_succ_cons]
      exact b.drop n
section
variable {P : Program} {w : World} {K : PySem.W.Frag} {mg : Str → Option Value} {base : Heap} {σ : L2.St} {H : Hp}
theorem do_asg {i : Nat} {te : TE} {D : Ends} (h : te σ H fun x H1 => D.nx (σ.set i (some x)) H1) : tAsg te (gName i) D σ H := h
/-- the slices of a tuple, told by what they hold -/
theorem cut_to {xs : List V} {k : Nat} (h : k ≤ xs.length) : cutV xs none (some (k : Int)) = xs.take k := by
  unfold cutV
  rw [HT.sIx_none, show HT.sIx xs.length xs.length (some (k : Int)) = min k xs.length from HT.sIx_nat _ _ k, Nat.min_eq_left h, Nat.sub_zero, List.drop_zero]
theorem cut_from {xs : List V} {k : Nat} (h : k ≤ xs.length) : cutV xs (some (k : Int)) none = xs.drop k := by
  unfold cutV
  rw [show HT.sIx xs.length 0 (some (k : Int)) = min k xs.length from HT.sIx_nat _ _ k, HT.sIx_none, Nat.min_eq_left h]
  exact List.take_of_length_le (by rw [List.length_drop]; exact Nat.le_refl _)
def TupV (K : PySem.W.Frag) (H : Hp) (v : V) (xs : List V) : Prop := ∃ a, v = .ref a ∧ SqT K H a xs
theorem TupV.ex {H H' : Hp} {v : V} {xs : List V} (e : Ex H H') (h : TupV K H v xs) : TupV K H' v xs := let ⟨a, q, s⟩ := h; ⟨a, q, ex_t e s⟩
theorem ep_cutTo {ta tb : TE} {a : Addr} {xs : List V} {k : Nat} (h : Ev ta σ H (.ref a)) (hx : SqT K H a xs) (hb : Ev tb σ H (vi k)) (hk : k ≤ xs.length) : EvP (tSl (rSlA K) ta tNoPart (tPart tb)) σ H (fun v H' => TupV K H' v (xs.take k)) := fun H1 e1 Q q =>
  h H1 e1 _ fun H2 e2 => hb H2 (e1.trans e2) _ fun H3 e3 => ⟨(k : Int), rfl, a, xs, rfl, ex_t ((e1.trans e2).trans e3) hx, fun z => by
    have z2 : HT.sIx xs.length xs.length (some (k : Int)) = xs.length := z.2
    rw [show HT.sIx xs.length xs.length (some (k : Int)) = min k xs.length from HT.sIx_nat _ _ k, Nat.min_eq_left hk] at z2
    refine q _ H3 (e2.trans e3) ⟨a, rfl, ?_⟩
    rw [z2, List.take_length]
    exact ex_t ((e1.trans e2).trans e3) hx, fun _ p np => by
    rw [cut_to hk]
    exact q _ _ ((e2.trans e3).trans (Ex.new np)) ⟨p, rfl, st_of upd_same⟩⟩
theorem ep_cutFrom {ta tb : TE} {a : Addr} {xs : List V} {k : Nat} (h : Ev ta σ H (.ref a)) (hx : SqT K H a xs) (hb : Ev tb σ H (vi k)) (hk : k ≤ xs.length) : EvP (tSl (rSlA K) ta (tPart tb) tNoPart) σ H (fun v H' => TupV K H' v (xs.drop k)) := fun H1 e1 Q q =>
  h H1 e1 _ fun H2 e2 => hb H2 (e1.trans e2) _ fun H3 e3 => ⟨(k : Int), rfl, a, xs, rfl, ex_t ((e1.trans e2).trans e3) hx, fun z => by
    have z1 : HT.sIx xs.length 0 (some (k : Int)) = 0 := z.1
    rw [show HT.sIx xs.length 0 (some (k : Int)) = min k xs.length from HT.sIx_nat _ _ k, Nat.min_eq_left hk] at z1
    refine q _ H3 (e2.trans e3) ⟨a, rfl, ?_⟩
    rw [z1, List.drop_zero]
    exact ex_t ((e1.trans e2).trans e3) hx, fun _ p np => by
    rw [cut_from hk]
    exact q _ _ ((e2.trans e3).trans (Ex.new np)) ⟨p, rfl, st_of upd_same⟩⟩
theorem ep_cat {ta tb : TE} {xs ys : List V} (ha : EvP ta σ H (fun v H' => TupV K H' v xs)) (hb : EvP tb σ H (fun v H' => TupV K H' v ys)) (hl : xs.length + ys.length ≤ 100000) : EvP (tOp (rCatA K) ta tb) σ H (fun v H' => TupV K H' v (xs ++ ys)) := fun H1 e1 Q q =>
  ha H1 e1 _ fun v H2 e2 hv => hb H2 (e1.trans e2) _ fun u H3 e3 hu => by
    obtain ⟨a, rfl, sa⟩ := hv.ex e3
    obtain ⟨b, rfl, sb⟩ := hu
    refine ⟨a, b, xs, ys, rfl, rfl, sa, sb, sz_of hl, fun z => ?_, fun _ z => ?_, fun _ _ p np => ?_⟩
    · subst z
      exact q _ H3 (e2.trans e3) ⟨b, rfl, sb⟩
    · subst z
      rw [List.append_nil] at q
      exact q _ H3 (e2.trans e3) ⟨a, rfl, sa⟩
    · exact q _ _ ((e2.trans e3).trans (Ex.new np)) ⟨p, rfl, st_of upd_same⟩
theorem ep_tup1 {ta : TE} {x : V} (h : Ev ta σ H x) : EvP (tTup (tCons ta tNil)) σ H (fun v H' => TupV K H' v [x]) := fun H1 e1 Q q => eu_tup (ea_cons h ea_nil) (by show 1 ≤ 100000; decide) H1 e1 _ fun p H2 np e2 hp => q _ H2 e2 ⟨p, rfl, st_of hp⟩
end
end K80
end
section
namespace K80
open PySem PySem.Spec PyProof.Rows L2 Evl RZ Dw M20
/-! ### all paths -/
mutual
def Tm.pths : Tm → List (List Nat)
  | .var _ => [[]]
  | .deed _ ts => [] :: pthss 0 ts
def pthss : Nat → List Tm → List (List Nat)
  | _, [] => []
  | k, t :: ts => t.pths.map (k :: ·) ++ pthss (k + 1) ts
end
section
variable {P : Program} {w : World} {K : PySem.W.Frag} {mg : Str → Option Value} {base : Heap} {σ : L2.St} {H : Hp}
/-- something on the stack: a path and a term -/
def PqV (K : PySem.W.Frag) (H : Hp) (n : Nat) (u : V) (q : List Nat × Tm) : Prop := ∃ (a pa : Addr) (v : V), u = .ref a ∧ SqT K H a [.ref pa, v] ∧ SqT K H pa (q.1.map vi) ∧ q.1.length + q.2.sz ≤ n ∧ TmV K H q.2 v
theorem PqV.et {H H' : Hp} {n : Nat} {u : V} {q : List Nat × Tm} (e : ET K H H') (h : PqV K H n u q) : PqV K H' n u q := let ⟨a, pa, v, z, s, p, l, tv⟩ := h; ⟨a, pa, v, z, e _ _ s, e _ _ p, l, tv.et e⟩
def PathsV (K : PySem.W.Frag) (H : Hp) (l : Addr) (ps : List (List Nat)) : Prop := ∃ as : List Addr, H l = some (.lst (as.map V.ref)) ∧ Paired (fun a p => SqT K H a (p.map vi)) as ps
theorem PathsV.ex {H H' : Hp} {l : Addr} {ps : List (List Nat)} (e : Ex H H') (h : PathsV K H l ps) : PathsV K H' l ps := let ⟨as, a, b⟩ := h; ⟨as, e _ _ a, paired_imp (fun _ _ z => ex_t e z) b⟩
mutual
theorem pths_len : ∀ t : Tm, t.pths.length = t.sz
  | .var x => by rw [Tm.pths, Tm.sz]; rfl
  | .deed f ts => by rw [Tm.pths, Tm.sz, List.length_cons, pthss_len 0 ts, Nat.add_comm]
theorem pthss_len : ∀ (k : Nat) (ts : List Tm), (pthss k ts).length = szs ts
  | _, [] => by rw [pthss, szs]; rfl
  | k, t :: ts => by rw [pthss, szs, List.length_append, List.length_map, pths_len t, pthss_len (k + 1) ts]
end
end
end K80
end
section
namespace K80
open PySem PySem.Spec PyProof.Rows L2 Evl RZ Dw M20
section
variable {P : Program} {w : World} {K : PySem.W.Frag} {mg : Str → Option Value} {base : Heap} {σ : L2.St} {H : Hp}
/-! ### how many parts a term has when it is put in -/
mutual
def Tm.szb (n : Str → Nat) : Tm → Nat
  | .var x => n x
  | .deed _ ts => 1 + szbs n ts
def szbs (n : Str → Nat) : List Tm → Nat
  | [] => 0
  | t :: ts => t.szb n + szbs n ts
end
theorem szbs_app (n : Str → Nat) : ∀ (a b : List Tm), szbs n (a ++ b) = szbs n a + szbs n b
  | [], b => by rw [szbs, Nat.zero_add]; rfl
  | t :: a, b => by rw [List.cons_append, szbs, szbs, szbs_app n a b, Nat.add_assoc]
mutual
theorem szb_put {n : Str → Nat} {f : Str → Tm} : ∀ t : Tm, (∀ x ∈ t.ls, n x = (f x).sz) → t.szb n = (t.put f).sz
  | .var x, h => by
    rw [Tm.szb, Tm.put]
    exact h x (by rw [Tm.ls]; exact List.mem_singleton.mpr rfl)
  | .deed g ts, h => by
    rw [Tm.szb, Tm.put, Tm.sz, szbs_put ts fun x hx => h x (by rw [Tm.ls]; exact hx)]
theorem szbs_put {n : Str → Nat} {f : Str → Tm} : ∀ ts : List Tm, (∀ x ∈ lss ts, n x = (f x).sz) → szbs n ts = szs (puts f ts)
  | [], _ => by rw [szbs, puts, szs]
  | t :: ts, h => by rw [szbs, puts, szs, szb_put t fun x hx => h x (by rw [lss]; exact List.mem_append_left _ hx), szbs_put ts fun x hx => h x (by rw [lss]; exact List.mem_append_right _ hx)]
end
/-- a dict of numbers -/
def NumD (H : Hp) (v : V) (n : Str → Nat) (xs : List Str) : Prop := ∃ (d : Addr) (kvs : List (Key × V)), v = .ref d ∧ H d = some (.dK kvs) ∧ ∀ x ∈ xs, (valV kvs (.inr x)).getD (vi 1) = vi (n x)
theorem NumD.ex {H H' : Hp} {v : V} {n : Str → Nat} {xs : List Str} (e : Ex H H') (h : NumD H v n xs) : NumD H' v n xs := let ⟨d, kvs, q, hd, all⟩ := h; ⟨d, kvs, q, e _ _ hd, all⟩
theorem ev_getN {td ty tz : TE} {v : V} {x : Str} {n : Str → Nat} {xs : List Str} (hd : Ev td σ H v) (hx : Ev ty σ H (.str x)) (hz : Ev tz σ H (vi 1)) (hp : NumD H v n xs) (mem : x ∈ xs) : Ev (tDGet2 td ty tz) σ H (vi (n x)) := fun H0 e0 Q q => by
  refine hd H0 e0 _ fun H1 e1 => ?_
  obtain ⟨d, kvs, rfl, h1, all⟩ := hp.ex (e0.trans e1)
  refine ⟨d, rfl, .inl ⟨kvs, .inl h1⟩, hx H1 (e0.trans e1) _ fun H2 e2 => hz H2 ((e0.trans e1).trans e2) _ fun H3 e3 => ?_⟩
  refine ⟨valV kvs (.inr x), DGet.k (k := .inr x) ((e2.trans e3) _ _ h1), ?_⟩
  rw [all x mem]
  exact q H3 ((e1.trans e2).trans e3)
end
end K80
end
section
namespace K80
open PySem PySem.Spec PyProof.Rows L2 Evl RZ Dw M20
/-! ### puttings -/
def PutV (K : PySem.W.Frag) (H : Hp) (v : V) (ks : List Str) (g : Str → Tm) : Prop := ∃ (d : Addr) (kvs : List (Key × V)), v = .ref d ∧ H d = some (.dK kvs) ∧ kvs.map (·.1) = ks.map Sum.inr ∧ ∀ kv ∈ kvs, ∀ x, kv.1 = Sum.inr x → TmV K H (g x) kv.2
theorem PutV.ex {K : PySem.W.Frag} {H H' : Hp} {v : V} {ks : List Str} {g : Str → Tm} (e : Ex H H') (h : PutV K H v ks g) : PutV K H' v ks g := let ⟨d, kvs, q, a, b, c⟩ := h; ⟨d, kvs, q, e _ _ a, b, fun kv hk x ex => (c kv hk x ex).et (Dw.Ex.et e)⟩
/-! ### while a dict is walked -/
section
variable {P : Program} {w : World} {K : PySem.W.Frag} {mg : Str → Option Value} {base : Heap} {σ : L2.St} {H : Hp} {va : Addr}
theorem do_dcW {wi : TI} {g : TG} {tt : TT} {tk tv : TE} {vs : List Nat} {Q : VK} {J : It} {n : Nat} {G : Hp → Prop} {Y : Nat → Hp → V → Hp → Prop} (w : Walk J n G Y) (h : ∀ R : It → Hp → Prop, (∀ H1, Ex H H1 → R J H1) → wi σ H R) (Pv : Addr → Nat → Hp → Prop) (h0 : ∀ D H1, Ex H H1 → H1 D = none → Pv D 0 (upd H1 D (.dK []))) (hG : ∀ D i H', i ≤ n → Pv D i H' → G H')
    (hs : ∀ D i x H' H'', i < n → Pv D i H' → Y i H' x H'' → g x (wipe σ vs) H'' fun σ2 H2 => wipe σ2 vs = wipe σ vs ∧ tt σ2 H2 fun b H3 => if b = true then tk σ2 H3 fun y H4 => tv σ2 H4 fun z H5 => ∃ kvs k, y = kV k ∧ H5 D = some (.dK kvs) ∧ kvs.length < sizeLine ∧ Pv D (i + 1) (upd H5 D (.dK (putK kvs k z))) else Pv D (i + 1) H3)
    (hd : ∀ D H', Pv D n H' → Q (.ref D) H') : tDc wi g tt tk tv vs σ H Q := h _ fun H1 e1 D nD => dc_it w (Pv D) (h0 D H1 e1 nD) (hG D) (fun i x H2 H3 hi p y => hs D i x H2 H3 hi p y) (fun H2 p => hd D H2 p)
end
end K80
end
section
namespace K80
open PySem PySem.Spec PyProof.Rows L2 Evl RZ Dw M20
/-! ### matching -/
theorem puts_iff {h : Str → Tm} : ∀ {ts us : List Tm}, ts.length = us.length → (puts h ts = us ↔ ∀ q ∈ ts.zip us, q.1.put h = q.2)
  | [], [], _ => by
    rw [puts]
    exact ⟨fun _ q z => (nomatch z), fun _ => rfl⟩
  | [], _ :: _, l => by cases l
  | _ :: _, [], l => by cases l
  | t :: ts, u :: us, l => by
    rw [puts, List.zip_cons_cons]
    have ih := puts_iff (h := h) (ts := ts) (us := us) (Nat.succ.inj l)
    constructor
    · intro e q hq
      obtain ⟨e1, e2⟩ := List.cons.inj e
      rcases List.mem_cons.mp hq with z | z
      · rw [z]
        exact e1
      · exact ih.mp e2 q z
    · intro e
      rw [ih.mpr fun q hq => e q (List.mem_cons_of_mem _ hq)]
      have e1 : t.put h = u := e (t, u) (List.mem_cons_self ..)
      rw [e1]
theorem deed_iff {h : Str → Tm} {f : Str} {ts us : List Tm} (l : ts.length = us.length) : (Tm.deed f ts).put h = .deed f us ↔ ∀ q ∈ ts.zip us, q.1.put h = q.2 := by
  rw [Tm.put, ← puts_iff l]
  constructor
  · intro e
    injection e
  · intro e
    rw [e]
theorem zip_ls {x : Str} : ∀ {ts us : List Tm}, ts.length = us.length → (x ∈ lss ts ↔ ∃ q ∈ ts.zip us, x ∈ q.1.ls)
  | [], [], _ => by
    rw [lss]
    exact ⟨fun z => (nomatch z), fun ⟨q, z, _⟩ => (nomatch z)⟩
  | [], _ :: _, l => by cases l
  | _ :: _, [], l => by cases l
  | t :: ts, u :: us, l => by
    rw [lss, List.zip_cons_cons, List.mem_append, zip_ls (Nat.succ.inj l)]
    constructor
    · rintro (h | ⟨q, hq, h⟩)
      · exact ⟨(t, u), List.mem_cons_self .., h⟩
      · exact ⟨q, List.mem_cons_of_mem _ hq, h⟩
    · rintro ⟨q, hq, h⟩
      rcases List.mem_cons.mp hq with z | z
      · rw [z] at h
        exact .inl h
      · exact .inr ⟨q, z, h⟩
theorem oks_mem {sg : List (Str × Nat)} : ∀ {ts : List Tm}, oks sg ts → ∀ t ∈ ts, t.ok sg
  | [], _, t, h => nomatch h
  | u :: ts, o, t, h => by
    rw [oks] at o
    rcases List.mem_cons.mp h with z | z
    · rw [z]
      exact o.1
    · exact oks_mem o.2 t z
theorem hgts_mem : ∀ {ts : List Tm}, ∀ t ∈ ts, t.hgt ≤ hgts ts
  | [], t, h => nomatch h
  | u :: ts, t, h => by
    rw [hgts]
    rcases List.mem_cons.mp h with z | z
    · rw [z]
      exact Nat.le_max_left _ _
    · exact Nat.le_trans (hgts_mem t z) (Nat.le_max_right _ _)
/-- what is still to be matched is well -/
structure MOk (sg : List (Str × Nat)) (q : Tm × Tm) : Prop where
  o1 : q.1.ok sg
  o2 : q.2.ok sg
  low : q.2.hgt ≤ 29
structure FInv (sg : List (Str × Nat)) (p t : Tm) (S : List (Tm × Tm)) (ks : List Str) (g : Str → Tm) : Prop where
  iff : ∀ f, p.put f = t ↔ ((∀ x ∈ ks, f x = g x) ∧ ∀ q ∈ S, q.1.put f = q.2)
  ls : ∀ x, x ∈ p.ls ↔ (x ∈ ks ∨ ∃ q ∈ S, x ∈ q.1.ls)
  nd : ks.Nodup
  sub : ∀ x ∈ ks, x ∈ vars
  ok : ∀ q ∈ S, MOk sg q
  gok : ∀ x ∈ ks, (g x).ok sg ∧ (g x).hgt ≤ 29
theorem FInv.start {sg : List (Str × Nat)} {p t : Tm} (o : MOk sg (p, t)) : FInv sg p t [(p, t)] [] Tm.var :=
  ⟨fun f => ⟨fun h => ⟨fun x hx => (nomatch hx), fun q hq => by rw [List.mem_singleton.mp hq]; exact h⟩, fun h => h.2 (p, t) (List.mem_singleton.mpr rfl)⟩, fun x => ⟨fun h => .inr ⟨(p, t), List.mem_singleton.mpr rfl, h⟩, fun h => by
    rcases h with z | ⟨q, hq, z⟩
    · cases z
    · rw [List.mem_singleton.mp hq] at z; exact z⟩, List.nodup_nil, fun x hx => (nomatch hx), fun q hq => by rw [List.mem_singleton.mp hq]; exact o, fun x hx => (nomatch hx)⟩
theorem snoc_all {α : Type} {P : α → Prop} {b : List α} {z : α} : (∀ q ∈ b ++ [z], P q) ↔ (∀ q ∈ b, P q) ∧ P z := by
  constructor
  · intro h
    exact ⟨fun q hq => h q (List.mem_append_left _ hq), h z (List.mem_append_right _ (List.mem_singleton.mpr rfl))⟩
  · rintro ⟨h1, h2⟩ q hq
    rcases List.mem_append.mp hq with y | y
    · exact h1 q y
    · rw [List.mem_singleton.mp y]
      exact h2
theorem snoc_ex {α : Type} {P : α → Prop} {b : List α} {z : α} : (∃ q ∈ b ++ [z], P q) ↔ (∃ q ∈ b, P q) ∨ P z := by
  constructor
  · rintro ⟨q, hq, h⟩
    rcases List.mem_append.mp hq with y | y
    · exact .inl ⟨q, y, h⟩
    · rw [List.mem_singleton.mp y] at h
      exact .inr h
  · rintro (⟨q, hq, h⟩ | h)
    · exact ⟨q, List.mem_append_left _ hq, h⟩
    · exact ⟨z, List.mem_append_right _ (List.mem_singleton.mpr rfl), h⟩
section
variable {sg : List (Str × Nat)} {p t b2 : Tm} {S : List (Tm × Tm)} {ks : List Str} {g : Str → Tm} {x : Str}
def ug (g : Str → Tm) (x : Str) (b : Tm) (y : Str) : Tm := if y = x then b else g y
theorem FInv.new (h : FInv sg p t (S ++ [(.var x, b2)]) ks g) (hx : x ∉ ks) : FInv sg p t S (ks ++ [x]) (ug g x b2) := by
  have m := h.ok (.var x, b2) (List.mem_append_right _ (List.mem_singleton.mpr rfl))
  have same : ∀ y ∈ ks, ug g x b2 y = g y := fun y hy => if_neg fun (e : y = x) => hx (e ▸ hy)
  have own : ug g x b2 x = b2 := if_pos rfl
  refine ⟨fun f => ?_, fun y => ?_, ?_, ?_, fun q hq => h.ok q (List.mem_append_left _ hq), ?_⟩
  · rw [h.iff f, snoc_all, snoc_all, own]
    constructor
    · rintro ⟨a, b, c⟩
      exact ⟨⟨fun y hy => by rw [a y hy, same y hy], c⟩, b⟩
    · rintro ⟨⟨a, c⟩, b⟩
      exact ⟨fun y hy => by rw [a y hy, same y hy], b, c⟩
  · rw [h.ls y, snoc_ex, List.mem_append, List.mem_singleton]
    have z : y ∈ (Tm.var x, b2).1.ls ↔ y = x := by
      show y ∈ (Tm.var x).ls ↔ y = x
      rw [Tm.ls, List.mem_singleton]
    rw [z]
    constructor
    · rintro (a | a | a)
      · exact .inl (.inl a)
      · exact .inr a
      · exact .inl (.inr a)
    · rintro ((a | a) | a)
      · exact .inl a
      · exact .inr (.inr a)
      · exact .inr (.inl a)
  · exact List.nodup_append.mpr ⟨h.nd, List.nodup_cons.mpr ⟨fun z => (nomatch z), List.nodup_nil⟩, fun a ha c hc e => hx (by rw [List.mem_singleton.mp hc] at e; exact e ▸ ha)⟩
  · intro y hy
    rcases List.mem_append.mp hy with z | z
    · exact h.sub y z
    · rw [List.mem_singleton.mp z]
      have o := m.o1
      show x ∈ vars
      rw [show (Tm.var x, b2).1 = Tm.var x from rfl, Tm.ok] at o
      exact o
  · intro y hy
    rcases List.mem_append.mp hy with z | z
    · rw [same y z]
      exact h.gok y z
    · rw [List.mem_singleton.mp z, own]
      exact ⟨m.o2, m.low⟩
theorem FInv.odd {a : Tm} (h : FInv sg p t (S ++ [(a, b2)]) ks g) (e : ∀ f, a.put f ≠ b2) : ∀ f, p.put f ≠ t := fun f z => e f (snoc_all.mp ((h.iff f).mp z).2).2
theorem sig_one (so : SigOk sg) {f : Str} {n m : Nat} (h1 : (f, n) ∈ sg) (h2 : (f, m) ∈ sg) : n = m := by
  have nd := so.nd
  clear so
  induction sg with
  | nil => cases h1
  | cons d r ih =>
    obtain ⟨no, nd2⟩ := List.nodup_cons.mp (show (d.1 :: r.map (·.1)).Nodup from nd)
    rcases List.mem_cons.mp h1 with a | a <;> rcases List.mem_cons.mp h2 with b | b
    · rw [← a] at b
      exact (Prod.mk.inj b).2.symm
    · exact absurd (by rw [← a]; exact List.mem_map_of_mem (f := (·.1)) b) no
    · exact absurd (by rw [← b]; exact List.mem_map_of_mem (f := (·.1)) a) no
    · exact ih a b nd2
/-- the parts of two deeds of one name -/
theorem FInv.deed (so : SigOk sg) {f : Str} {ts us : List Tm} (h : FInv sg p t (S ++ [(.deed f ts, .deed f us)]) ks g) : ts.length = us.length ∧ FInv sg p t (S ++ ts.zip us) ks g := by
  have m := h.ok (.deed f ts, .deed f us) (List.mem_append_right _ (List.mem_singleton.mpr rfl))
  have o1 : (Tm.deed f ts).ok sg := m.o1
  have o2 : (Tm.deed f us).ok sg := m.o2
  have lo : (Tm.deed f us).hgt ≤ 29 := m.low
  rw [Tm.ok] at o1 o2
  rw [Tm.hgt] at lo
  have l := sig_one so o1.1 o2.1
  refine ⟨l, fun f' => ?_, fun y => ?_, h.nd, h.sub, fun q hq => ?_, h.gok⟩
  · rw [h.iff f', snoc_all]
    have d : (Tm.deed f ts, Tm.deed f us).1.put f' = (Tm.deed f ts, Tm.deed f us).2 ↔ _ := deed_iff (h := f') (f := f) l
    rw [d]
    constructor
    · rintro ⟨a, b, c⟩
      refine ⟨a, fun q hq => ?_⟩
      rcases List.mem_append.mp hq with z | z
      · exact b q z
      · exact c q z
    · rintro ⟨a, b⟩
      exact ⟨a, fun q hq => b q (List.mem_append_left _ hq), fun q hq => b q (List.mem_append_right _ hq)⟩
  · rw [h.ls y, snoc_ex]
    have d : y ∈ (Tm.deed f ts, Tm.deed f us).1.ls ↔ ∃ q ∈ ts.zip us, y ∈ q.1.ls := by
      show y ∈ (Tm.deed f ts).ls ↔ _
      rw [Tm.ls]
      exact zip_ls l
    rw [d]
    constructor
    · rintro (a | ⟨q, hq, a⟩ | ⟨q, hq, a⟩)
      · exact .inl a
      · exact .inr ⟨q, List.mem_append_left _ hq, a⟩
      · exact .inr ⟨q, List.mem_append_right _ hq, a⟩
    · rintro (a | ⟨q, hq, a⟩)
      · exact .inl a
      · rcases List.mem_append.mp hq with z | z
        · exact .inr (.inl ⟨q, z, a⟩)
        · exact .inr (.inr ⟨q, z, a⟩)
  · rcases List.mem_append.mp hq with z | z
    · exact h.ok q (List.mem_append_left _ z)
    · obtain ⟨z1, z2⟩ := List.of_mem_zip (a := q.1) (b := q.2) (by exact z)
      have lo2 := hgts_mem q.2 z2
      exact ⟨oks_mem o1.2 _ z1, oks_mem o2.2 _ z2, by omega⟩
end
end K80
end
section
namespace K80
open PySem PySem.Spec PyProof.Rows L2 Evl RZ Dw M20
section
variable {P : Program} {w : World} {K : PySem.W.Frag} {mg : Str → Option Value} {base : Heap} {σ : L2.St} {H : Hp}
def PsV (K : PySem.W.Frag) (H : Hp) (u : V) (q : Tm × Tm) : Prop := ∃ (a : Addr) (x y : V), u = .ref a ∧ SqT K H a [x, y] ∧ TmV K H q.1 x ∧ TmV K H q.2 y
theorem PsV.et {H H' : Hp} {u : V} {q : Tm × Tm} (e : ET K H H') (h : PsV K H u q) : PsV K H' u q := let ⟨a, x, y, z, s, p, r⟩ := h; ⟨a, x, y, z, e _ _ s, p.et e, r.et e⟩
end
end K80
end
section
namespace K80
open PySem PySem.Spec PyProof.Rows L2 Evl RZ Dw M20
section
variable {P : Program} {w : World} {K : PySem.W.Frag} {mg : Str → Option Value} {base : Heap} {σ : L2.St} {H : Hp}
theorem FSig.updD {H : Hp} {v : V} {sg : List (Str × Nat)} {d : Addr} {xs ys : List (Key × V)} (hG : FSig K H v sg) (h : H d = some (.dK xs)) : FSig K (upd H d (.dK ys)) v sg := by
  obtain ⟨a, o, ps, q, s, e, pr⟩ := hG
  exact ⟨a, o, ps, q, by rw [upd_ne (fun z => by rw [z, h] at s; cases s)]; exact s, e, paired_imp (fun _ _ z => ET.updD ET.refl h _ _ z) pr⟩
end
end K80
end
section
namespace K80
open PySem PySem.Spec PyProof.Rows L2 Evl RZ Dw M20
mutual
theorem ok_put {sg : List (Str × Nat)} {f : Str → Tm} : ∀ t : Tm, t.ok sg → (∀ x ∈ t.ls, (f x).ok sg) → (t.put f).ok sg
  | .var x, o, h => by
    rw [Tm.put]
    exact h x (by rw [Tm.ls]; exact List.mem_singleton.mpr rfl)
  | .deed g ts, o, h => by
    rw [Tm.ok] at o
    rw [Tm.put, Tm.ok, puts_len6]
    exact ⟨o.1, oks_put ts o.2 fun x hx => h x (by rw [Tm.ls]; exact hx)⟩
theorem oks_put {sg : List (Str × Nat)} {f : Str → Tm} : ∀ ts : List Tm, oks sg ts → (∀ x ∈ lss ts, (f x).ok sg) → oks sg (puts f ts)
  | [], _, _ => by
    rw [puts, oks]
    trivial
  | t :: ts, o, h => by
    rw [oks] at o
    rw [puts, oks]
    exact ⟨ok_put t o.1 fun x hx => h x (by rw [lss]; exact List.mem_append_left _ hx), oks_put ts o.2 fun x hx => h x (by rw [lss]; exact List.mem_append_right _ hx)⟩
theorem puts_len6 {f : Str → Tm} : ∀ {ts : List Tm}, (puts f ts).length = ts.length
  | [] => by rw [puts]
  | t :: ts => by rw [puts, List.length_cons, List.length_cons, puts_len6]
end
section
variable {P : Program} {w : World} {K : PySem.W.Frag} {mg : Str → Option Value} {base : Heap} {σ : L2.St} {H : Hp}
end
end K80
end
section
namespace K80
open PySem PySem.Spec PyProof.Rows L2 Evl RZ Dw M20
mutual
theorem put_put {f g : Str → Tm} : ∀ t : Tm, (t.put f).put g = t.put (fun x => (f x).put g)
  | .var x => by rw [Tm.put, Tm.put]
  | .deed h ts => by rw [Tm.put, Tm.put, Tm.put, puts_puts ts]
theorem puts_puts {f g : Str → Tm} : ∀ ts : List Tm, puts g (puts f ts) = puts (fun x => (f x).put g) ts
  | [] => by rw [puts, puts, puts]
  | t :: ts => by rw [puts, puts, puts, put_put t, puts_puts ts]
end
mutual
theorem hgt_put {f : Str → Tm} {n : Nat} (h : ∀ x, (f x).hgt ≤ n) : ∀ t : Tm, (t.put f).hgt ≤ t.hgt + n
  | .var x => by
    rw [Tm.put]
    exact Nat.le_trans (h x) (Nat.le_add_left _ _)
  | .deed g ts => by
    have := hgts_put h ts
    rw [Tm.put, Tm.hgt, Tm.hgt]
    omega
theorem hgts_put {f : Str → Tm} {n : Nat} (h : ∀ x, (f x).hgt ≤ n) : ∀ ts : List Tm, hgts (puts f ts) ≤ hgts ts + n
  | [] => by
    rw [puts, hgts]
    exact Nat.zero_le _
  | t :: ts => by
    have a := hgt_put h t
    have b := hgts_put h ts
    rw [puts, hgts, hgts]
    exact Nat.max_le.mpr ⟨Nat.le_trans a (Nat.add_le_add_right (Nat.le_max_left _ _) _), Nat.le_trans b (Nat.add_le_add_right (Nat.le_max_right _ _) _)⟩
end
section
variable {P : Program} {w : World} {K : PySem.W.Frag} {mg : Str → Option Value} {base : Heap} {σ : L2.St} {H : Hp}
end
end K80
end
section
namespace K80
open PySem PySem.Spec PyProof.Rows L2 Evl RZ Dw M20
end K80
end
section
namespace K80
open PySem PySem.Spec PyProof.Rows L2 Evl RZ Dw M20
section
variable {P : Program} {w : World} {K : PySem.W.Frag} {mg : Str → Option Value} {base : Heap} {σ : L2.St} {H : Hp}
end
end K80
end
section
namespace K80
open PySem PySem.Spec PyProof.Rows L2 Evl RZ Dw M20
/-- a dict of numbers by letters -/
def NumK (H : Hp) (v : V) (f : Str → Nat) (xs : List Str) : Prop := ∃ (d : Addr) (kvs : List (Key × V)), v = .ref d ∧ H d = some (.dK kvs) ∧ kvs.length ≤ 12 ∧ ∀ x ∈ xs, valV kvs (.inr x) = some (vi (f x))
theorem NumK.ex {H H' : Hp} {v : V} {f : Str → Nat} {xs : List Str} (e : Ex H H') (h : NumK H v f xs) : NumK H' v f xs := let ⟨d, kvs, q, a, l, b⟩ := h; ⟨d, kvs, q, e _ _ a, l, b⟩
theorem NumK.sub {H : Hp} {v : V} {f : Str → Nat} {xs ys : List Str} (h : NumK H v f xs) (s : ∀ y ∈ ys, y ∈ xs) : NumK H v f ys := let ⟨d, kvs, q, a, l, b⟩ := h; ⟨d, kvs, q, a, l, fun x hx => b x (s x hx)⟩
section
variable {P : Program} {w : World} {K : PySem.W.Frag} {mg : Str → Option Value} {base : Heap} {σ : L2.St} {H : Hp}
end
end K80
end
section
namespace K80
open PySem PySem.Spec PyProof.Rows L2 Evl RZ Dw M20
theorem merge_new : ∀ {kvs acc : List (Key × V)}, ((acc ++ kvs).map (·.1)).Nodup → mergeK acc kvs = acc ++ kvs
  | [], acc, _ => by
    rw [List.append_nil]
    rfl
  | p :: r, acc, nd => by
    show mergeK (putK acc p.1 p.2) r = acc ++ p :: r
    have no : valV acc p.1 = none := val_none fun z => by
      rw [List.map_append, List.nodup_append] at nd
      exact nd.2.2 _ z _ (List.mem_map.mpr ⟨p, List.mem_cons_self .., rfl⟩) rfl
    rw [putK_new _ no, merge_new (by rw [List.append_assoc]; exact nd), List.append_assoc]
    rfl
def signs (z : Str) : List Str := z.cps.toList.map fun c => (⟨#[c]⟩ : Str)
section
variable {P : Program} {w : World} {K : PySem.W.Frag} {mg : Str → Option Value} {base : Heap} {σ : L2.St} {H : Hp}
end
end K80
end
section
namespace K80
open PySem PySem.Spec PyProof.Rows L2 Evl RZ Dw M20
/-! ### worths of what is put in -/
mutual
theorem wt_put {n : Nat} {sg : List (Str × Nat)} {tbs : List (List Nat)} {env : Str → Nat} {f : Str → Tm} : ∀ t : Tm, (t.put f).wt n sg tbs env = t.wt n sg tbs (fun x => (f x).wt n sg tbs env)
  | .var x => by rw [Tm.put, Tm.wt]
  | .deed h ts => by rw [Tm.put, Tm.wt, Tm.wt, wts_put ts]
theorem wts_put {n : Nat} {sg : List (Str × Nat)} {tbs : List (List Nat)} {env : Str → Nat} {f : Str → Tm} : ∀ ts : List Tm, wts n sg tbs env (puts f ts) = wts n sg tbs (fun x => (f x).wt n sg tbs env) ts
  | [] => by rw [puts, wts, wts]
  | t :: ts => by rw [puts, wts, wts, wt_put t, wts_put ts]
end
end K80
end
section
namespace K80
open PySem PySem.Spec PyProof.Rows L2 Evl RZ Dw M20
section
variable {P : Program} {w : World} {K : PySem.W.Frag} {mg : Str → Option Value} {base : Heap} {σ : L2.St} {H : Hp}
end
end K80
end
section
namespace K80
open PySem PySem.Spec PyProof.Rows L2 Evl RZ Dw M20
/-! ### numbers by their digits -/
def nz (n : Nat) (f : Nat → Nat) : Nat → Nat
  | 0 => 0
  | m + 1 => nz n f m * n + f m
/-! ### how many rows break, by other letters -/
def UArg.by (p : UArg) (e : Eqn) : UArg := ⟨p.sg, p.n, p.tbs, e⟩
/-! ### kept -/
def Kept (p : UArg) : Prop := ∀ env : Str → Nat, (∀ x, env x < p.n) → p.e.l.wt p.n p.sg p.tbs env = p.e.r.wt p.n p.sg p.tbs env
theorem Kept.put {p : UArg} (h : Kept p) {f : Str → Tm} (low : ∀ env : Str → Nat, (∀ x, env x < p.n) → ∀ x, (f x).wt p.n p.sg p.tbs env < p.n) : Kept (p.by ⟨p.e.l.put f, p.e.r.put f⟩) := fun env he => by
  show (p.e.l.put f).wt p.n p.sg p.tbs env = (p.e.r.put f).wt p.n p.sg p.tbs env
  rw [wt_put, wt_put]
  exact h _ (low env he)
theorem Kept.refl {p : UArg} {t : Tm} : Kept (p.by ⟨t, t⟩) := fun _ _ => rfl
/-! ### a term with another one at a path -/
end K80
end
section
namespace K80
open PySem PySem.Spec PyProof.Rows L2 Evl RZ Dw M20
section
variable {P : Program} {w : World} {K : PySem.W.Frag} {mg : Str → Option Value} {base : Heap} {σ : L2.St} {H : Hp}
def five : Str := "uvwxz"
end
end K80
end
section
namespace K80
open PySem PySem.Spec PyProof.Rows L2 Evl RZ Dw M20
section
variable {P : Program} {w : World} {K : PySem.W.Frag} {mg : Str → Option Value} {base : Heap} {σ : L2.St} {H : Hp}
/-! tuples of terms -/
def TpV (K : PySem.W.Frag) (H : Hp) (v : V) (ts : List Tm) : Prop := ∃ a us, v = .ref a ∧ SqT K H a us ∧ TmsV K H ts us
theorem TpV.ex {H H' : Hp} {v : V} {ts : List Tm} (e : Ex H H') (h : TpV K H v ts) : TpV K H' v ts := let ⟨a, us, q, s, t⟩ := h; ⟨a, us, q, ex_t e s, t.et (Dw.Ex.et e)⟩
end
end K80
end
section
namespace K80
open PySem PySem.Spec PyProof.Rows L2 Evl RZ Dw M20
section
variable {P : Program} {w : World} {K : PySem.W.Frag} {mg : Str → Option Value} {base : Heap} {σ : L2.St} {H : Hp}
end
end K80
end
section
namespace K80
open PySem PySem.Spec PyProof.Rows L2 Evl RZ Dw M20
section
variable {P : Program} {w : World} {K : PySem.W.Frag} {mg : Str → Option Value} {base : Heap} {σ : L2.St} {H : Hp}
/-! ### come -/
end
end K80
end
section
namespace K80
open PySem PySem.Spec PyProof.Rows L2 Evl RZ Dw M20 LiI
/-! ### matching, as the law goes through it -/
abbrev Sta := Option (List Str × (Str → Tm))
def StV (K : PySem.W.Frag) (H : Hp) (v : V) : Sta → Prop
  | none => v = .non
  | some q => PutV K H v q.1 q.2
theorem StV.ex {K : PySem.W.Frag} {H H' : Hp} {v : V} (e : Ex H H') : ∀ {S : Sta}, StV K H v S → StV K H' v S
  | none, h => h
  | some q, h => PutV.ex e h
structure SOk (sg : List (Str × Nat)) (S : Sta) : Prop where
  nd : ∀ q, S = some q → q.1.Nodup
  ok : ∀ q, S = some q → ∀ x ∈ q.1, x ∈ vars ∧ TOk (sg, q.2 x) ∧ (q.2 x).hgt ≤ 29
theorem SOk.none {sg : List (Str × Nat)} : SOk sg none := ⟨(fun q z => by cases z), (fun q z => by cases z)⟩
section
variable {P : Program} {w : World} {K : PySem.W.Frag} {mg : Str → Option Value} {base : Heap} {σ : L2.St} {H : Hp}
end
end K80
end
section
namespace K80
open PySem PySem.Spec PyProof.Rows L2 Evl RZ Dw M20 LiI
section
variable {P : Program} {w : World} {K : PySem.W.Frag} {mg : Str → Option Value} {base : Heap} {σ : L2.St} {H : Hp}
end
end K80
end
section
namespace K80
open PySem PySem.Spec PyProof.Rows L2 Evl RZ Dw M20 LiI
section
variable {P : Program} {w : World} {K : PySem.W.Frag} {mg : Str → Option Value} {base : Heap} {σ : L2.St} {H : Hp}
end
end K80
end
section
namespace K80
open PySem PySem.Spec PyProof.Rows L2 Evl RZ Dw M20 LiI
section
variable {P : Program} {w : World} {K : PySem.W.Frag} {mg : Str → Option Value} {base : Heap} {σ : L2.St} {H : Hp}
/-! tuples of terms -/
theorem q_whenE {c : TT} {tu tz : TS} {D : Ends} (h : c σ H fun b H1 => if b = true then tu { D with nx := tz D } σ H1 else tz D σ H1) : tSeq (tIfS c tu tNext) tz D σ H := h
end
end K80
end
section
namespace K80
open PySem PySem.Spec PyProof.Rows L2 Evl RZ Dw M20 LiI
section
variable {P : Program} {w : World} {K : PySem.W.Frag} {mg : Str → Option Value} {base : Heap} {σ : L2.St} {H : Hp} {C G : Addr}
/-- a try whose body is one call -/
theorem do_try {W0 : Ends → WX} {sp : Sp} {ta : TA} {tz : TS} {D : Ends} (h : ta σ H fun vs H1 => sp vs H1 (fun _ H2 => tz D σ H2) (WE (W0 { D with nx := tz D }) σ)) : tSeq (fun D σ H => tDrop (tCallS sp (fun σ => WE (W0 D) σ) ta) D σ H) tz D σ H := h
end
end K80
end
section
namespace K80
open PySem PySem.Spec PyProof.Rows L2 Evl RZ Dw M20
section
variable {P : Program} {w : World} {K : PySem.W.Frag} {mg : Str → Option Value} {base : Heap} {σ : L2.St} {H : Hp} {P0 B0 T0 G0 : Addr}
/-- what is no whole number -/
inductive NotInt (K : PySem.W.Frag) (H : Hp) : V → Prop where
  | bl (b : Bool) : NotInt K H (.bl b)
  | non : NotInt K H .non
  | str (z : Str) : NotInt K H (.str z)
  | tup {a : Addr} {xs : List V} (h : SqT K H a xs) : NotInt K H (.ref a)
theorem NotInt.ex {H' : Hp} {v : V} (e : Ex H H') (h : NotInt K H v) : NotInt K H' v := by
  cases h with
  | bl b => exact .bl b
  | non => exact .non
  | str z => exact .str z
  | tup h => exact .tup (ex_t e h)
theorem kit_nt : PySem.W.kitOne K (.type "NoneType") (.type "tuple") = some false := kit_ty (by decide +kernel)
theorem kit_it : PySem.W.kitOne K (.type "int") (.type "tuple") = some false := kit_ty (by decide +kernel)
theorem kit_st : PySem.W.kitOne K (.type "str") (.type "tuple") = some false := kit_ty (by decide +kernel)
theorem kit_lt : PySem.W.kitOne K (.type "list") (.type "tuple") = some false := kit_ty (by decide +kernel)
def isI : V → Bool
  | .int _ => true
  | _ => false
/-- what is no tuple -/
inductive NoTup (H : Hp) : V → Prop where
  | non : NoTup H .non
  | int (i : Int) : NoTup H (.int i)
  | str (z : Str) : NoTup H (.str z)
  | lst {a : Addr} {xs : List V} (h : H a = some (.lst xs)) : NoTup H (.ref a)
theorem NoTup.ex {H' : Hp} {v : V} (e : Ex H H') (h : NoTup H v) : NoTup H' v := by
  cases h with
  | non => exact .non
  | int i => exact .int i
  | str z => exact .str z
  | lst h => exact .lst (e _ _ h)
/-- no way on from u -/
def BadAt (K : PySem.W.Frag) (H : Hp) (u : Tm) (x : V) : Prop := (∃ y, u = .var y) ∨ NotInt K H x ∨ ∃ i : Int, x = .int i ∧ ¬ (0 ≤ i ∧ i < (u.kids.length : Int))
theorem BadAt.ex {H' : Hp} {u : Tm} {x : V} (e : Ex H H') (h : BadAt K H u x) : BadAt K H' u x := h.imp id (.imp (NotInt.ex e) id)
/-- no path of t -/
def OddV (K : PySem.W.Frag) (H : Hp) (t : Tm) (th : V) : Prop := NoTup H th ∨ ∃ (a : Addr) (q : List Nat) (u : Tm) (x : V) (rest : List V), th = .ref a ∧ SqT K H a (q.map vi ++ x :: rest) ∧ sub q t = some u ∧ BadAt K H u x
theorem OddV.ex {H' : Hp} {t : Tm} {v : V} (e : Ex H H') (h : OddV K H t v) : OddV K H' t v := by
  rcases h with h | ⟨a, q, u, x, r, h1, h2, h3, h4⟩
  · exact .inl (h.ex e)
  · exact .inr ⟨a, q, u, x, r, h1, ex_t e h2, h3, h4.ex e⟩
end
end K80
end
section
namespace K80
open PySem PySem.Spec PyProof.Rows L2 Evl RZ Dw M20
section
variable {P : Program} {w : World} {K : PySem.W.Frag} {mg : Str → Option Value} {base : Heap} {σ : L2.St} {H : Hp} {P0 B0 T0 G0 : Addr} {va : Addr}
theorem do_if {b : Bool} {tt : TT} {ta tb : TE} {Q : VK} (h : EvT tt σ H b) (h1 : b = true → ∀ H1, Ex H H1 → ta σ H1 Q) (h2 : b = false → ∀ H1, Ex H H1 → tb σ H1 Q) : tIf tt ta tb σ H Q := by
  refine h H (Ex.refl _) _ fun H1 e1 => ?_
  cases b with
  | true => exact h1 rfl H1 e1
  | false => exact h2 rfl H1 e1
/-- a letter that is none -/
def OddT (K : PySem.W.Frag) (H : Hp) (v : V) : Prop := ∃ a x, v = .ref a ∧ SqT K H a [.str "var", .str x] ∧ x ∉ vars
theorem OddT.ex {H' : Hp} {v : V} (e : Ex H H') (h : OddT K H v) : OddT K H' v := let ⟨a, x, h1, h2, h3⟩ := h; ⟨a, x, h1, ex_t e h2, h3⟩
end
end K80
end
section
namespace K80
open PySem PySem.Spec PyProof.Rows L2 Evl RZ Dw M20
section
variable {P : Program} {w : World} {K : PySem.W.Frag} {mg : Str → Option Value} {base : Heap} {σ : L2.St} {H : Hp} {P0 B0 T0 G0 : Addr} {va : Addr}
theorem et_isNP {ta : TE} (h : EvP ta σ H fun v _ => ∃ a, v = .ref a) : EvT (tTest (tOp (fun x y H Q => y = .non ∧ Q (.bl (!decide (x = .non))) H) ta (tC .non))) σ H true := fun H1 e Q q => h H1 e _ fun v H2 e2 ⟨a, hv⟩ => by
  subst hv
  exact ⟨rfl, _, rfl, q H2 e2⟩
/-- no term over sg -/
def BadT (K : PySem.W.Frag) (H : Hp) (sg : List (Str × Nat)) (v : V) : Prop := OddT K H v ∨ ∃ tm : Tm, TmV K H tm v ∧ tm.ok sg ∧ tm.sz ≤ 100 ∧ 60 < tm.sz
theorem BadT.ex {H' : Hp} {sg : List (Str × Nat)} {v : V} (e : Ex H H') (h : BadT K H sg v) : BadT K H' sg v := h.imp (·.ex e) fun ⟨tm, h1, h2⟩ => ⟨tm, h1.et (Dw.Ex.et e), h2⟩
end
end K80
end
section
namespace K80
open PySem PySem.Spec PyProof.Rows L2 Evl RZ Dw M20
mutual
def Tm.spots : Tm → List Nat → List (List Nat × Tm)
  | .var x, p => [(p, .var x)]
  | .deed f ts, p => (p, .deed f ts) :: spotss ts p 0
def spotss : List Tm → List Nat → Nat → List (List Nat × Tm)
  | [], _, _ => []
  | t :: ts, p, k => t.spots (p ++ [k]) ++ spotss ts p (k + 1)
end
mutual
theorem spots_fst : ∀ (t : Tm) (p : List Nat), (t.spots p).map (·.1) = t.pths.map (p ++ ·)
  | .var x, p => by
    rw [Tm.spots, Tm.pths]
    show [p] = [p ++ []]
    rw [List.append_nil]
  | .deed f ts, p => by
    rw [Tm.spots, Tm.pths, List.map_cons, List.map_cons, List.append_nil, spotss_fst ts p 0]
theorem spotss_fst : ∀ (ts : List Tm) (p : List Nat) (k : Nat), (spotss ts p k).map (·.1) = (pthss k ts).map (p ++ ·)
  | [], p, k => by
    rw [spotss, pthss]
    rfl
  | t :: ts, p, k => by
    rw [spotss, pthss, List.map_append, List.map_append, spots_fst t (p ++ [k]), spotss_fst ts p (k + 1), List.map_map]
    congr 1
    refine List.map_congr_left fun q _ => ?_
    show (p ++ [k]) ++ q = p ++ (k :: q)
    rw [List.append_assoc]
    rfl
end
theorem spots_len (t : Tm) (p : List Nat) : (t.spots p).length = t.sz := by
  rw [← pths_len t]
  have := congrArg List.length (spots_fst t p)
  rw [List.length_map, List.length_map] at this
  exact this
section
variable {P : Program} {w : World} {K : PySem.W.Frag} {mg : Str → Option Value} {base : Heap} {σ : L2.St} {H : Hp}
def SpV (K : PySem.W.Frag) (H : Hp) (u : V) (e : List Nat × Tm) : Prop := ∃ (a b : Addr) (v : V), u = .ref a ∧ SqT K H a [.ref b, v] ∧ SqT K H b (e.1.map vi) ∧ TmV K H e.2 v
theorem SpV.et {H' : Hp} {u : V} {e : List Nat × Tm} (x : ET K H H') (h : SpV K H u e) : SpV K H' u e := let ⟨a, b, v, h1, h2, h3, h4⟩ := h; ⟨a, b, v, h1, x _ _ h2, x _ _ h3, h4.et x⟩
def SpsV (K : PySem.W.Frag) (H : Hp) (v : V) (es : List (List Nat × Tm)) : Prop := ∃ (l : Addr) (us : List V), v = .ref l ∧ H l = some (.lst us) ∧ Paired (SpV K H) us es
theorem SpsV.ex {H' : Hp} {u : V} {e : List (List Nat × Tm)} (x : Ex H H') (h : SpsV K H u e) : SpsV K H' u e := let ⟨a, us, h1, h2, h3⟩ := h; ⟨a, us, h1, x _ _ h2, paired_imp (fun _ _ z => z.et (Dw.Ex.et x)) h3⟩
def natsD (p : List Nat) : List PyData := p.map fun k => .int ((k : Nat) : Int)
end
end K80
end
section
namespace K80
open PySem PySem.Spec PyProof.Rows L2 Evl RZ Dw M20
section
variable {P : Program} {w : World} {K : PySem.W.Frag} {mg : Str → Option Value} {base : Heap} {σ : L2.St} {H : Hp} {P0 B0 T0 G0 a1 a2 a3 a4 a5 a6 : Addr} {va : Addr}
def StrsV (H : Hp) (v : V) (ws : List Str) : Prop := ∃ l, v = .ref l ∧ H l = some (.lst (ws.map V.str))
theorem StrsV.ex {H' : Hp} {v : V} {ws : List Str} (e : Ex H H') (h : StrsV H v ws) : StrsV H' v ws := let ⟨l, a, b⟩ := h; ⟨l, a, e _ _ b⟩
theorem do_callS {sp : Sp} {E : L2.St → XK} {ta : TA} {D : Ends} (h : ta σ H fun vs H1 => sp vs H1 (fun _ H2 => D.nx σ H2) (E σ)) : tDrop (tCallS sp E ta) D σ H := h
end
end K80
end
section
namespace K80
open PySem PySem.Spec PyProof.Rows L2 Evl RZ Dw M20
section
variable {P : Program} {w : World} {K : PySem.W.Frag} {mg : Str → Option Value} {base : Heap} {σ : L2.St} {H : Hp} {P0 B0 T0 G0 : Addr} {va : Addr}
/-- can be shown -/
def RpV (K : PySem.W.Frag) (H : Hp) (v : V) : Prop := (∃ (a : Addr) (d : PyData), v = .ref a ∧ Dp K H (.ref a) d ∧ Gd 5 100000 d) ∨ v = .non ∨ (∃ i : Int, v = .int i ∧ i.natAbs.log2 < 1920) ∨ ∃ z : Str, v = .str z ∧ (reprText z).length ≤ sizeLine
mutual
theorem dp_ex {H' : Hp} (e : Ex H H') : ∀ {v : V} {d : PyData}, Dp K H v d → Dp K H' v d
  | _, _, .non => .non
  | _, _, .bl b => .bl b
  | _, _, .int i => .int i
  | _, _, .str x => .str x
  | _, _, .lst s h => .lst (ex_l e s) (dps_ex e h)
  | _, _, .tup s h => .tup (ex_t e s) (dps_ex e h)
theorem dps_ex {H' : Hp} (e : Ex H H') : ∀ {vs : List V} {ds : List PyData}, DpAll K H vs ds → DpAll K H' vs ds
  | _, _, .nil => .nil
  | _, _, .cons a b => .cons (dp_ex e a) (dps_ex e b)
end
theorem RpV.ex {H' : Hp} {v : V} (e : Ex H H') (h : RpV K H v) : RpV K H' v := h.imp (fun ⟨a, d, h1, h2, h3⟩ => ⟨a, d, h1, dp_ex e h2, h3⟩) id
/-- what _law_odd looks at -/
def ThV (K : PySem.W.Frag) (H : Hp) (t : Tm) (v : V) : Prop := (OddV K H t v ∧ RpV K H v) ∨ ∃ a, v = .ref a ∧ SqT K H a []
theorem ThV.ex {H' : Hp} {t : Tm} {v : V} (e : Ex H H') (h : ThV K H t v) : ThV K H' t v := h.imp (fun ⟨a, b⟩ => ⟨a.ex e, b.ex e⟩) fun ⟨a, h1, h2⟩ => ⟨a, h1, ex_t e h2⟩
def EvAP (K : PySem.W.Frag) (ta : TA) (σ : L2.St) (H : Hp) (t : Tm) (n : Nat) : Prop := ∀ H1, Ex H H1 → ∀ Q : List V → Hp → Prop, (∀ vs H2, Ex H1 H2 → vs.length = n → (∀ v ∈ vs, ThV K H2 t v) → Q vs H2) → ta σ H1 Q
theorem eap_nil {t : Tm} : EvAP K tNil σ H t 0 := fun H1 e Q q => do_nil (q [] H1 (Ex.refl _) rfl fun v h => by cases h)
theorem eap_cons {te : TE} {ta : TA} {t : Tm} {n : Nat} (h : EvP te σ H (fun v H' => ThV K H' t v)) (k : EvAP K ta σ H t n) : EvAP K (tCons te ta) σ H t (n + 1) := fun H1 e Q q =>
  do_cons (h H1 e _ fun v H2 e2 hv => k H2 (e.trans e2) _ fun vs H3 e3 l hvs => q (v :: vs) H3 (e2.trans e3) (by rw [List.length_cons, l]) fun x hx => by
    rcases List.mem_cons.mp hx with z | z
    · rw [z]
      exact hv.ex e3
    · exact hvs x z)
def gdN (p : List Nat) : Prop := ∀ k ∈ p, k ≤ 1000
theorem gd_nats {p : List Nat} (h : gdN p) : ∀ d ∈ natsD p, Gd 0 10 d := fun d hd => by
  obtain ⟨k, hk, e⟩ := List.mem_map.mp hd
  rw [← e]
  exact gd_int (h k hk)
end
end K80
end
section
namespace K80
open PySem PySem.Spec PyProof.Rows L2 Evl RZ Dw M20
section
variable {P : Program} {w : World} {K : PySem.W.Frag} {mg : Str → Option Value} {base : Heap} {σ : L2.St} {H : Hp} {P0 B0 T0 G0 : Addr} {va : Addr}
end
end K80
end
section
namespace K80
open PySem PySem.Spec PyProof.Rows L2 Evl RZ Dw M20
section
variable {P : Program} {w : World} {K : PySem.W.Frag} {mg : Str → Option Value} {base : Heap} {σ : L2.St} {H : Hp} {P0 B0 T0 G0 : Addr} {va : Addr}
def named (sg : List (Str × Nat)) (m : Nat) : List Str := (sg.filter fun d => d.2 == m).map (·.1)
/-- a long term of one letter -/
structure Chn (sg : List (Str × Nat)) (n : Nat) (t : Tm) : Prop where
  ok : t.ok sg
  sz : t.sz = n
  zs : ∀ x ∈ t.ls, x = ("z" : Str)
  ne : t.ls ≠ []
theorem Chn.one {sg : List (Str × Nat)} {n : Nat} {t : Tm} {f : Str} (h : Chn sg n t) (hf : (f, 1) ∈ sg) : Chn sg (n + 1) (.deed f [t]) := by
  have l : (Tm.deed f [t]).ls = t.ls := by rw [Tm.ls, lss, lss, List.append_nil]
  refine ⟨by rw [Tm.ok, oks, oks]; exact ⟨hf, h.ok, trivial⟩, by rw [Tm.sz, szs, szs, h.sz]; omega, fun x hx => h.zs x (l ▸ hx), by rw [l]; exact h.ne⟩
end
end K80
end
section
namespace K80
open PySem PySem.Spec PyProof.Rows L2 Evl RZ Dw M20
theorem oks_of {sg : List (Str × Nat)} : ∀ {ts : List Tm}, (∀ t ∈ ts, t.ok sg) → oks sg ts
  | [], _ => by
    rw [oks]
    trivial
  | t :: ts, h => by
    rw [oks]
    exact ⟨h t (List.mem_cons_self ..), oks_of fun x hx => h x (List.mem_cons_of_mem _ hx)⟩
section
variable {P : Program} {w : World} {K : PySem.W.Frag} {mg : Str → Option Value} {base : Heap} {σ : L2.St} {H : Hp} {P0 B0 T0 G0 : Addr} {va : Addr}
/-- two things of the same data are not unequal -/
theorem ev_same {ta tb : TE} {d : PyData} (ha : EvP ta σ H fun v H' => Dp K H' v d) (hb : EvP tb σ H fun v H' => Dp K H' v d) (l : Lay d) : Ev (tOp (rNeL K) ta tb) σ H (.bl false) := fun H1 e Q q =>
  ha H1 e _ fun x H2 e2 hx => hb H2 (e.trans e2) _ fun y H3 e3 hy => ⟨d, d, dp_ex e3 hx, hy, l, l, by
    rw [SeqAt.eqv_refl d l.1]
    exact q H3 (e2.trans e3)⟩
theorem et_same {ta tb : TE} {d : PyData} (ha : EvP ta σ H fun v H' => Dp K H' v d) (hb : EvP tb σ H fun v H' => Dp K H' v d) (l : Lay d) : EvT (tTest (tOp (rNeL K) ta tb)) σ H false := et_test (ev_same ha hb l)
theorem Gd.layd {k W : Nat} {d : PyData} (h : Gd k W d) (a : k ≤ 190) : Lay d := ⟨h.lay, Nat.le_trans h.dep a⟩
theorem lay_tm {sg : List (Str × Nat)} {t : Tm} (so : SigOk sg) (ok : t.ok sg) (h : t.hgt ≤ 90) : Lay t.data := Gd.layd (gd_tm so t ok) (by omega)
/-! words -/
def dWs (ws : List Str) : PyData := .list (ws.map PyData.str)
theorem StrsV.dp {v : V} {ws : List Str} (h : StrsV H v ws) : Dp K H v (dWs ws) := by
  obtain ⟨l, rfl, hl⟩ := h
  exact .lst (sq_of hl) (dps_strs ws)
def dPs (ps : List (List Nat)) : PyData := .list (ps.map fun p => .tuple (natsD p))
theorem dps_paths {as : List Addr} {ps : List (List Nat)} (h : Paired (fun a p => SqT K H a (p.map vi)) as ps) : DpAll K H (as.map V.ref) (ps.map fun p => .tuple (natsD p)) := by
  induction h with
  | nil => exact .nil
  | cons a b ih => exact .cons (.tup a (dps_vi _)) ih
theorem PathsV.dp {l : Addr} {ps : List (List Nat)} (h : PathsV K H l ps) : Dp K H (.ref l) (dPs ps) := by
  obtain ⟨as, ha, pr⟩ := h
  exact .lst (sq_of ha) (dps_paths pr)
theorem SpsV.len {v : V} {y : Tm} (h : SpsV K H v (y.spots [])) : ∃ l us, v = .ref l ∧ H l = some (.lst us) ∧ us.length = y.sz := by
  obtain ⟨l, us, rfl, hl, pr⟩ := h
  exact ⟨l, us, rfl, hl, by rw [← spots_len y []]; exact paired_len pr⟩
end
end K80
end
section
namespace K80
open PySem PySem.Spec PyProof.Rows L2 Evl RZ Dw M20
section
variable {P : Program} {w : World} {K : PySem.W.Frag} {mg : Str → Option Value} {base : Heap} {σ : L2.St} {H : Hp} {P0 B0 T0 G0 : Addr} {va : Addr}
end
end K80
end
section
namespace K80
open PySem PySem.Spec PyProof.Rows L2 Evl RZ Dw M20
section
variable {P : Program} {w : World} {K : PySem.W.Frag} {mg : Str → Option Value} {base : Heap} {σ : L2.St} {H : Hp} {P0 B0 T0 G0 : Addr} {va : Addr}
end
end K80
end
section
namespace K80
open PySem PySem.Spec PyProof.Rows L2 Evl RZ Dw M20
section
variable {P : Program} {w : World} {K : PySem.W.Frag} {mg : Str → Option Value} {base : Heap} {σ : L2.St} {H : Hp} {P0 B0 T0 G0 : Addr} {va : Addr}
theorem s_forP {te : TE} {g : TG} {tu : TS} {D : Ends} {Pq : V → Hp → Prop} (h : EvP te σ H Pq) (k : ∀ v H1, Ex H H1 → Pq v H1 → ∃ a xs, v = .ref a ∧ SqL K H1 a xs ∧ ∃ Pv : Nat → L2.St → Hp → Prop, Pv 0 σ H1 ∧ (∀ i σ' H', i ≤ xs.length → Pv i σ' H' → SqL K H' a xs) ∧ (∀ i x σ' H', xs[i]? = some x → Pv i σ' H' → g x σ' H' fun σ2 H2 => tu { D with nx := Pv (i + 1), ct := Pv (i + 1), bk := D.nx } σ2 H2) ∧ ∀ σ' H', Pv xs.length σ' H' → D.nx σ' H') : tFor (iList K te) g tu D σ H := h H (Ex.refl H) _ fun v H1 e p => by
  obtain ⟨a, xs, rfl, hx, Pv, h0, hl, hs, hd⟩ := k v H1 e p
  exact ⟨a, rfl, ⟨xs, hx⟩, for_it walk_list Pv h0 hl (fun i x σ' H2 H3 hi p y => by
    obtain ⟨rfl, hx⟩ := y
    exact hs i x σ' _ hx p) hd⟩
theorem q_forP {te : TE} {g : TG} {tu tz : TS} {D : Ends} {Pq : V → Hp → Prop} (h : EvP te σ H Pq) (k : ∀ v H1, Ex H H1 → Pq v H1 → ∃ a xs, v = .ref a ∧ SqL K H1 a xs ∧ ∃ Pv : Nat → L2.St → Hp → Prop, Pv 0 σ H1 ∧ (∀ i σ' H', i ≤ xs.length → Pv i σ' H' → SqL K H' a xs) ∧ (∀ i x σ' H', xs[i]? = some x → Pv i σ' H' → g x σ' H' fun σ2 H2 => tu { D with nx := Pv (i + 1), ct := Pv (i + 1), bk := tz D } σ2 H2) ∧ ∀ σ' H', Pv xs.length σ' H' → tz D σ' H') : tSeq (tFor (iList K te) g tu) tz D σ H := s_forP (D := { D with nx := tz D }) h k
end
end K80
end
section
namespace K80
open PySem PySem.Spec PyProof.Rows L2 Evl RZ Dw M20
/-- a bent term: a letter, a deed over bent terms, anything else -/
inductive Bt where
  | var (x : Str)
  | deed (f : Str) (ts : List Bt)
  | odd (d : PyData)
/-- what is no text -/
inductive NoStr (K : PySem.W.Frag) (H : Hp) : V → Prop where
  | non : NoStr K H .non
  | int (i : Int) : NoStr K H (.int i)
  | tup {a : Addr} {xs : List V} (h : SqT K H a xs) : NoStr K H (.ref a)
/-- a list that is not of the purse -/
def FarL (_ : Hp) (xs : List V) : Prop := ∀ (i : Int) (r : List V), xs ≠ .int i :: r
theorem FarL.ex {H H' : Hp} {xs : List V} (e : Ex H H') (h : FarL H xs) : FarL H' xs := h
/-- data without lists, or a list of such, or a deed over one -/
inductive Dq (K : PySem.W.Frag) (H : Hp) : V → PyData → Prop where
  | fl {v : V} {d : PyData} (h : Dp K H v d) (nl : noL d = true) : Dq K H v d
  | lst {a : Addr} {xs : List V} {ds : List PyData} (h : H a = some (.lst xs)) (hd : DpAll K H xs ds) (nl : noLs ds = true) (far : FarL H xs) : Dq K H (.ref a) (.list ds)
  | deed {a b : Addr} {f : Str} {xs : List V} {ds : List PyData} (h0 : SqT K H a [.str "deed", .str f, .ref b]) (h : H b = some (.lst xs)) (hd : DpAll K H xs ds) (nl : noLs ds = true) (far : FarL H xs) : Dq K H (.ref a) (.tuple [.str "deed", .str f, .list ds])
theorem Dq.dp {K : PySem.W.Frag} {H : Hp} {v : V} {d : PyData} (h : Dq K H v d) : Dp K H v d := by
  cases h with
  | fl h => exact h
  | lst h hd => exact .lst (sq_of h) hd
  | deed h0 h hd => exact .tup h0 (.cons (.str _) (.cons (.str _) (.cons (.lst (sq_of h) hd) .nil)))
theorem Dq.ex {K : PySem.W.Frag} {H H' : Hp} {v : V} {d : PyData} (e : Ex H H') (h : Dq K H v d) : Dq K H' v d := by
  cases h with
  | fl h nl => exact .fl (dp_ex e h) nl
  | lst h hd nl far => exact .lst (e _ _ h) (dps_ex e hd) nl (far.ex e)
  | deed h0 h hd nl far => exact .deed (ex_t e h0) (e _ _ h) (dps_ex e hd) nl (far.ex e)
/-- what is no tuple (truths too) -/
inductive NoTu (H : Hp) : V → Prop where
  | non : NoTu H .non
  | int (i : Int) : NoTu H (.int i)
  | bl (b : Bool) : NoTu H (.bl b)
  | str (z : Str) : NoTu H (.str z)
  | lst {a : Addr} {xs : List V} (h : H a = some (.lst xs)) (far : FarL H xs) : NoTu H (.ref a)
/-- no term's form, at its own place -/
inductive NF (K : PySem.W.Frag) (H : Hp) (sg : List (Str × Nat)) : V → Prop where
  | tup {v : V} (h : NoTu H v) : NF K H sg v
  | len {a : Addr} {xs : List V} (h : SqT K H a xs) (h2 : xs.length ≠ 2) (h3 : xs.length ≠ 3) : NF K H sg (.ref a)
  | two {a : Addr} {z : Str} {x : V} (h : SqT K H a [.str z, x]) (ne : z ≠ "var") : NF K H sg (.ref a)
  | letter {a : Addr} {x : V} (h : SqT K H a [.str "var", x]) (fl : flatV x = true) (no : inV x (vars.map V.str) = false) : NF K H sg (.ref a)
  | three {a : Addr} {z : Str} {x y : V} (h : SqT K H a [.str z, x, y]) (ne : z ≠ "deed") : NF K H sg (.ref a)
  | name {a : Addr} {x y : V} (h : SqT K H a [.str "deed", x, y]) (no : NoStr K H x) : NF K H sg (.ref a)
  | terms {a : Addr} {f : Str} {y : V} (h : SqT K H a [.str "deed", .str f, y]) (no : NoTu H y) : NF K H sg (.ref a)
  | many {a b : Addr} {f : Str} {us : List V} (h : SqT K H a [.str "deed", .str f, .ref b]) (h2 : SqT K H b us) (no : (f, us.length) ∉ sg) (sk : PyData.strOk f = true) : NF K H sg (.ref a)
section
variable {P : Program} {w : World} {K : PySem.W.Frag} {mg : Str → Option Value} {base : Heap} {σ : L2.St} {H H' : Hp} {va : Addr} {sg : List (Str × Nat)}
theorem NoStr.ex {v : V} (e : Ex H H') (h : NoStr K H v) : NoStr K H' v := by
  cases h with
  | non => exact .non
  | int i => exact .int i
  | tup h => exact .tup (ex_t e h)
theorem NoTu.ex {v : V} (e : Ex H H') (h : NoTu H v) : NoTu H' v := by
  cases h with
  | non => exact .non
  | int i => exact .int i
  | bl b => exact .bl b
  | str z => exact .str z
  | lst h far => exact .lst (e _ _ h) (far.ex e)
theorem NF.ex {v : V} (e : Ex H H') (h : NF K H sg v) : NF K H' sg v := by
  cases h with
  | tup h => exact .tup (h.ex e)
  | len h h2 h3 => exact .len (ex_t e h) h2 h3
  | two h ne => exact .two (ex_t e h) ne
  | letter h fl no => exact .letter (ex_t e h) fl no
  | three h ne => exact .three (ex_t e h) ne
  | name h no => exact .name (ex_t e h) (no.ex e)
  | terms h no => exact .terms (ex_t e h) (no.ex e)
  | many h h2 no sk => exact .many (ex_t e h) (ex_t e h2) no sk
mutual
def BtV (K : PySem.W.Frag) (H : Hp) (sg : List (Str × Nat)) : Bt → V → Prop
  | .var x => fun v => ∃ a, v = .ref a ∧ SqT K H a [.str "var", .str x]
  | .deed f ts => fun v => ∃ a b vs, v = .ref a ∧ SqT K H a [.str "deed", .str f, .ref b] ∧ SqT K H b vs ∧ BtsV K H sg ts vs
  | .odd d => fun v => Dq K H v d ∧ NF K H sg v
def BtsV (K : PySem.W.Frag) (H : Hp) (sg : List (Str × Nat)) : List Bt → List V → Prop
  | [] => fun vs => vs = []
  | t :: ts => fun vs => ∃ v us, vs = v :: us ∧ BtV K H sg t v ∧ BtsV K H sg ts us
end
mutual
/-- letters and deeds in their form -/
def Bt.ok (sg : List (Str × Nat)) : Bt → Prop
  | .var x => x ∈ vars
  | .deed f ts => (f, ts.length) ∈ sg ∧ boks sg ts
  | .odd _ => True
def boks (sg : List (Str × Nat)) : List Bt → Prop
  | [] => True
  | t :: ts => t.ok sg ∧ boks sg ts
end
mutual
theorem BtV.ex (e : Ex H H') : ∀ {t : Bt} {v : V}, BtV K H sg t v → BtV K H' sg t v
  | .var x, v, h => by
    rw [BtV] at h ⊢
    obtain ⟨a, q, s⟩ := h
    exact ⟨a, q, ex_t e s⟩
  | .deed f ts, v, h => by
    rw [BtV] at h ⊢
    obtain ⟨a, b, vs, q, s, s2, r⟩ := h
    exact ⟨a, b, vs, q, ex_t e s, ex_t e s2, BtsV.ex e r⟩
  | .odd d, v, h => by
    rw [BtV] at h ⊢
    exact ⟨h.1.ex e, h.2.ex e⟩
theorem BtsV.ex (e : Ex H H') : ∀ {ts : List Bt} {vs : List V}, BtsV K H sg ts vs → BtsV K H' sg ts vs
  | [], vs, h => by
    rw [BtsV] at h ⊢
    exact h
  | t :: ts, vs, h => by
    rw [BtsV] at h ⊢
    obtain ⟨v, us, q, a, b⟩ := h
    exact ⟨v, us, q, BtV.ex e a, BtsV.ex e b⟩
end
theorem BtsV.len : ∀ {ts : List Bt} {vs : List V}, BtsV K H sg ts vs → vs.length = ts.length
  | [], vs, h => by
    rw [BtsV] at h
    rw [h]
    rfl
  | t :: ts, vs, h => by
    rw [BtsV] at h
    obtain ⟨v, us, rfl, _, b⟩ := h
    rw [List.length_cons, List.length_cons, BtsV.len b]
/-- has it a term's form? -/
def Bt.fits : Bt → Bool
  | .odd _ => false
  | _ => true
/-- the dict of a signature's deeds, and nothing else -/
def PlcX (H : Hp) (d : Addr) (sg : List (Str × Nat)) : Prop := ∃ kvs : List (Key × V), H d = some (.dK kvs) ∧ (∀ p ∈ sg, valV kvs (.inr p.1) = some (vi p.2)) ∧ ∀ x, x ∉ sg.map (·.1) → valV kvs (.inr x) = none
theorem PlcX.ex {d : Addr} (e : Ex H H') (h : PlcX H d sg) : PlcX H' d sg := let ⟨k, a, b⟩ := h; ⟨k, e _ _ a, b⟩
theorem kit_bt : PySem.W.kitOne K (.type "bool") (.type "tuple") = some false := kit_ty (by decide +kernel)
theorem kit_is : PySem.W.kitOne K (.type "int") (.type "str") = some false := kit_ty (by decide +kernel)
theorem kit_ns : PySem.W.kitOne K (.type "NoneType") (.type "str") = some false := kit_ty (by decide +kernel)
theorem kit_ts : PySem.W.kitOne K (.type "tuple") (.type "str") = some false := kit_ty (by decide +kernel)
theorem ev_noTu {ta tb : TE} {x : V} (ha : Ev ta σ H x) (hc : Ev tb σ H (.ty "tuple")) (h : NoTu H x) : Ev (tCB (rIsi K) (tCons ta (tCons tb tNil))) σ H (.bl false) := by
  cases h with
  | non => exact ev_isi ha hc (.ty _) (fun _ _ => tyx_non) kit_nt
  | int i => exact ev_isi ha hc (.ty _) (fun _ _ => tyx_int i) kit_it
  | bl b => exact ev_isi ha hc (.ty _) (fun _ _ => tyx_bl b) kit_bt
  | str z => exact ev_isi ha hc (.ty _) (fun _ _ => tyx_str z) kit_st
  | lst h _ => exact ev_isi ha hc (.ty _) (fun _ e => .base (.lst (e _ _ h))) kit_lt
theorem ev_noStr {ta tb : TE} {x : V} (ha : Ev ta σ H x) (hc : Ev tb σ H (.ty "str")) (h : NoStr K H x) : Ev (tCB (rIsi K) (tCons ta (tCons tb tNil))) σ H (.bl false) := by
  cases h with
  | non => exact ev_isi ha hc (.ty _) (fun _ _ => tyx_non) kit_ns
  | int i => exact ev_isi ha hc (.ty _) (fun _ _ => tyx_int i) kit_is
  | tup h => exact ev_isi ha hc (.ty _) (fun _ e => tyx_tup (ex_t e h)) kit_ts
def sp_form_any (K : PySem.W.Frag) : Sp := spX (fun (p : List (Str × Nat) × Bt) vs H => (∃ d v, vs = [.ref d, v] ∧ PlcX H d p.1 ∧ BtV K H p.1 p.2 v) ∧ p.2.ok p.1 ∧ (p.1.map (·.1)).Nodup) (fun p v _ => v = .bl p.2.fits)
theorem c_form_any (T : Txt mg) (V0 : Vars K mg va) (D : Df K mg "has_term_form" s_has_term_form ["places", "thing"]) : Cl P w K mg base 1 "has_term_form" (sp_form_any K) := by
  refine cl_of (k := 0) D sc_has_term_form (fun vs H Q E h => ?_) (fun f cdv A outer s H vs Q E hr h => ?_)
  · obtain ⟨p, ⟨⟨d, v, rfl, _⟩, _⟩, _⟩ := h
    rfl
  · obtain ⟨⟨sg, t⟩, ⟨⟨d, v, rfl, ⟨kvs, hd, val, out⟩, tv⟩, ok, nd⟩, q⟩ := h
    refine ⟨_, (pss_cons (ps_if (pt_not (pt_val (pe_callB call_isi (by rfl) T.z_isinstance (by decide +kernel) (pa_cons (pv 1) (pa_cons (pe_ty "tuple" (by rfl) T.z_tuple (by decide +kernel)) pa_nil)))))
        (pss_one (ps_ret pe_bl))
        pss_nil)
      (pss_cons (ps_if (pt_cmpR op_eq (pe_callB call_len_seq (by rfl) T.z_len PySem.boot_len (pa_cons (pv 1) pa_nil)) pe_int (nomark _))
        (pss_one (ps_ret (pe_and (pe_cmpR op_eq (pe_ix ix_tup (pv 1) pe_int (fun _ _ => rfl)) pe_str (nomark _)) (pe_one (pe_cmpR op_in_seq (pe_ix ix_tup (pv 1) pe_int (fun _ _ => rfl)) (pe_gv (by rfl) V0.at_) (by rfl))))))
        pss_nil)
      (pss_cons (ps_if (PW.pt (pw_or (pt_cmpR op_ne (pe_callB call_len_seq (by rfl) T.z_len PySem.boot_len (pa_cons (pv 1) pa_nil)) pe_int (nomark _)) (pw_or1 (pt_cmpR op_ne (pe_ix ix_tup (pv 1) pe_int (fun _ _ => rfl)) pe_str (nomark _)))))
        (pss_one (ps_ret pe_bl))
        pss_nil)
      (pss_cons (ps_par (i := 2) (j := 3) (by rfl) sc_has_term_form.nd rfl rfl (by decide) rfl rfl (pa_cons (pe_ix ix_tup (pv 1) pe_int (fun _ _ => rfl)) (pa_cons (pe_ix ix_tup (pv 1) pe_int (fun _ _ => rfl)) pa_nil)) (by rfl))
      (pss_one (ps_ret (pe_and (pe_callB call_isi (by rfl) T.z_isinstance (by decide +kernel) (pa_cons (pv 2) (pa_cons (pe_ty "str" (by rfl) T.z_str (by decide +kernel)) pa_nil))) (pe_and (pe_cmp (pc_din (hu_of hr) (pv 2) (pv 0))) (pe_and (pe_callB call_isi (by rfl) T.z_isinstance (by decide +kernel) (pa_cons (pv 3) (pa_cons (pe_ty "tuple" (by rfl) T.z_tuple (by decide +kernel)) pa_nil))) (pe_one (pe_cmpR op_eq (pe_callB call_len_seq (by rfl) T.z_len PySem.boot_len (pa_cons (pv 3) pa_nil)) (pe_dget (hu_of hr) (pv 0) (pv 2) (fun _ _ => rfl)) (nomark _)))))))))))), ?_⟩
    replace tv : BtV K H sg t v := tv
    replace ok : t.ok sg := ok
    replace nd : (sg.map (·.1)).Nodup := nd
    replace val : ∀ p ∈ sg, valV kvs (.inr p.1) = some (vi p.2) := val
    replace out : ∀ x, x ∉ sg.map (·.1) → valV kvs (.inr x) = none := out
    replace q : ∀ r H', Ex H H' → r = .bl t.fits → Q r H' := q
    have isT : ∀ {a : Addr} {xs : List V}, SqT K H a xs → ∀ {H1 : Hp}, Ex H H1 → ∀ {y2 y3 : Option V}, EvT (tNot (tB (tCB (rIsi K) (tCons (tVar 1) (tCons (tC (.ty "tuple")) tNil))))) [some (.ref d), some (.ref a), y2, y3] H1 false := fun {a xs} h {H1} e1 {y2 y3} => et_is (et_not (et_val (ev_isi (ev_var rfl) ev_c (.ty _) (fun _ e => tyx_tup (ex_t (e1.trans e) h)) kit_tt))) rfl
    have len2 : ∀ {a : Addr} {xs : List V}, SqT K H a xs → ∀ {H1 : Hp}, Ex H H1 → ∀ {y2 y3 : Option V}, EvT (tTest (tOp rEq (tCB (rLenS K) (tCons (tVar 1) tNil)) (tC (.int 2)))) [some (.ref d), some (.ref a), y2, y3] H1 (decide (xs.length = 2)) := fun {a xs} h {H1} e1 {y2 y3} => et_is (et_test (ev_op (ev_lenT (ev_var rfl) (ex_t e1 h)) ev_c (rv_eq rfl))) (by
      show decide (V.int (xs.length : Int) = V.int 2) = _
      by_cases z : xs.length = 2
      · rw [decide_eq_true z, decide_eq_true (by rw [z]; rfl)]
      · rw [decide_eq_false z, decide_eq_false (fun y => z (by
          injection y with y
          omega))])
    have ne3 : ∀ {a : Addr} {xs : List V}, SqT K H a xs → ∀ {H1 : Hp}, Ex H H1 → ∀ {y2 y3 : Option V}, EvT (tTest (tOp rNe (tCB (rLenS K) (tCons (tVar 1) tNil)) (tC (.int 3)))) [some (.ref d), some (.ref a), y2, y3] H1 (!decide (xs.length = 3)) := fun {a xs} h {H1} e1 {y2 y3} => et_is (et_test (ev_op (ev_lenT (ev_var rfl) (ex_t e1 h)) ev_c (rv_ne rfl))) (by
      show (!decide (V.int (xs.length : Int) = V.int 3)) = _
      by_cases z : xs.length = 3
      · rw [decide_eq_true z, decide_eq_true (by rw [z]; rfl)]
      · rw [decide_eq_false z, decide_eq_false (fun y => z (by
          injection y with y
          omega))])
    have at0 : ∀ {a : Addr} {x : V} {xs : List V} {k : Nat}, SqT K H a xs → xs[k]? = some x → ∀ {H1 : Hp}, Ex H H1 → ∀ {y2 y3 : Option V}, Ev (tOp (rIxT K) (tVar 1) (tC (vi k))) [some (.ref d), some (.ref a), y2, y3] H1 x := fun {a x xs k} h hk {H1} e1 {y2 y3} => ev_op (ev_var rfl) ev_c (rv_ixT (K := K) (ex_t e1 h) (atI_vi (k := k) hk))
    have str_ne : ∀ {z y : Str}, z ≠ y → decide (V.str z = V.str y) = false := fun {z y} h => decide_eq_false (fun e => h (by injection e))
    have noF : ∀ {y2 y3 : Option V} {w0 : V} {H1 : Hp}, Ex H H1 → t.fits = false → tRet (tC (.bl false)) { nx := fun _ H' => Q .non H', rt := Q } [some (.ref d), some w0, y2, y3] H1 := fun {y2 y3 w0 H1} e1 hf => s_ret (v := .bl false) ev_c fun H2 e2 => q _ H2 (e1.trans e2) (by rw [hf])
    cases t with
    | var x =>
      rw [BtV] at tv
      rw [Bt.ok] at ok
      obtain ⟨a, rfl, ha⟩ := tv
      refine q_when (b := false) (isT ha (Ex.refl _)) (fun hb => by cases hb) (fun _ H1 e1 => ?_)
      refine q_when (b := true) (len2 ha e1) (fun _ H2 e2 => ?_) (fun hb => by cases hb)
      have e02 := e1.trans e2
      refine s_ret (v := .bl true) (ev_is (ev_andV (ev_op (at0 (k := 0) ha rfl e02) ev_c (rv_eq rfl)) (fun _ => ev_op (at0 (k := 1) ha rfl e02) ev_c (rv_isT (V0.sq _) rfl (flat_strs vars)))) (by rw [inV_str, decide_eq_true ok]; rfl)) fun H3 e3 => q _ H3 (e02.trans e3) rfl
    | deed f ts =>
      rw [BtV] at tv
      rw [Bt.ok] at ok
      obtain ⟨a, b, us, rfl, ha, hb, tms⟩ := tv
      obtain ⟨mem, _⟩ := ok
      have lu := tms.len
      have vf := val _ mem
      refine q_when (b := false) (isT ha (Ex.refl _)) (fun hb => by cases hb) (fun _ H1 e1 => ?_)
      refine q_when (b := false) (len2 ha e1) (fun hb => by cases hb) (fun _ H2 e2 => ?_)
      have e02 := e1.trans e2
      refine q_when (b := false) (et_is (et_or (a := false) (b := false) (ne3 ha e02) (fun _ => et_is (et_test (ev_op (at0 (k := 0) ha rfl e02) ev_c (rv_ne rfl))) (by decide))) rfl) (fun hb => by cases hb) (fun _ H3 e3 => ?_)
      have e03 := e02.trans e3
      refine do_par ((ea_cons (at0 (k := 1) ha rfl e03) (ea_cons (at0 (k := 2) ha rfl e03) ea_nil)) H3 (Ex.refl _) _ fun H4 e4 => ⟨_, _, rfl, ?_⟩)
      have e04 := e03.trans e4
      show tRet _ _ [some (.ref d), some (.ref a), some (.str f), some (.ref b)] H4
      refine s_ret (v := .bl true) (ev_is (ev_andV (a := true) (ev_isi (ev_var rfl) ev_c (.ty _) (fun _ _ => tyx_str f) kit_ss) (fun _ => ev_andV (a := true) (ev_din (ev_var rfl) (ev_var rfl) (e04 _ _ hd) (by rw [vf]; rfl)) (fun _ => ev_andV (a := true) (ev_isi (ev_var rfl) ev_c (.ty _) (fun _ e => tyx_tup (ex_t (e04.trans e) hb)) kit_tt) (fun _ => ev_op (ev_lenT (ev_var rfl) (ex_t e04 hb)) (ev_dget (ev_var rfl) (ev_var rfl) (e04 _ _ hd) vf) (rv_eq rfl))))) ?_) fun H5 e5 => q _ H5 (e04.trans e5) rfl
      rw [lu]
      simp
    | odd dd =>
      rw [BtV] at tv
      obtain ⟨_, nf⟩ := tv
      cases nf with
      | tup h => exact q_when (b := true) (et_is (et_not (et_val (ev_noTu (K := K) (ev_var rfl) ev_c h))) rfl) (fun _ H1 e1 => noF e1 rfl) (fun hb => by cases hb)
      | len h h2 h3 =>
        refine q_when (b := false) (isT h (Ex.refl _)) (fun hb => by cases hb) (fun _ H1 e1 => ?_)
        refine q_when (b := false) (et_is (len2 h e1) (decide_eq_false h2)) (fun hb => by cases hb) (fun _ H2 e2 => ?_)
        exact q_when (b := true) (et_is (et_or (a := true) (b := false) (et_is (ne3 h (e1.trans e2)) (by rw [decide_eq_false h3]; rfl)) (fun z => by cases z)) rfl) (fun _ H3 e3 => noF ((e1.trans e2).trans e3) rfl) (fun hb => by cases hb)
      | two h ne =>
        refine q_when (b := false) (isT h (Ex.refl _)) (fun hb => by cases hb) (fun _ H1 e1 => ?_)
        refine q_when (b := true) (len2 h e1) (fun _ H2 e2 => ?_) (fun hb => by cases hb)
        exact s_ret (v := .bl false) (ev_is (ev_andV (a := false) (b := false) (ev_is (ev_op (at0 (k := 0) h rfl (e1.trans e2)) ev_c (rv_eq rfl)) (by rw [str_ne ne])) (fun z => by cases z)) rfl) fun H3 e3 => q _ H3 ((e1.trans e2).trans e3) rfl
      | letter h fl no =>
        refine q_when (b := false) (isT h (Ex.refl _)) (fun hb => by cases hb) (fun _ H1 e1 => ?_)
        refine q_when (b := true) (len2 h e1) (fun _ H2 e2 => ?_) (fun hb => by cases hb)
        have e02 := e1.trans e2
        exact s_ret (v := .bl false) (ev_is (ev_andV (ev_op (at0 (k := 0) h rfl e02) ev_c (rv_eq rfl)) (fun _ => ev_op (at0 (k := 1) h rfl e02) ev_c (rv_isT (V0.sq _) fl (flat_strs vars)))) (by rw [no, Bool.and_false])) fun H3 e3 => q _ H3 (e02.trans e3) rfl
      | three h ne =>
        refine q_when (b := false) (isT h (Ex.refl _)) (fun hb => by cases hb) (fun _ H1 e1 => ?_)
        refine q_when (b := false) (len2 h e1) (fun hb => by cases hb) (fun _ H2 e2 => ?_)
        have e02 := e1.trans e2
        exact q_when (b := true) (et_is (et_or (a := false) (b := true) (ne3 h e02) (fun _ => et_is (et_test (ev_op (at0 (k := 0) h rfl e02) ev_c (rv_ne rfl))) (by rw [str_ne ne]; rfl))) rfl) (fun _ H3 e3 => noF (e02.trans e3) rfl) (fun hb => by cases hb)
      | @name a x y h no =>
        refine q_when (b := false) (isT h (Ex.refl _)) (fun hb => by cases hb) (fun _ H1 e1 => ?_)
        refine q_when (b := false) (len2 h e1) (fun hb => by cases hb) (fun _ H2 e2 => ?_)
        have e02 := e1.trans e2
        refine q_when (b := false) (et_is (et_or (a := false) (b := false) (ne3 h e02) (fun _ => et_is (et_test (ev_op (at0 (k := 0) h rfl e02) ev_c (rv_ne rfl))) (by decide))) rfl) (fun hb => by cases hb) (fun _ H3 e3 => ?_)
        have e03 := e02.trans e3
        refine do_par ((ea_cons (at0 (k := 1) h rfl e03) (ea_cons (at0 (k := 2) h rfl e03) ea_nil)) H3 (Ex.refl _) _ fun H4 e4 => ⟨_, _, rfl, ?_⟩)
        have e04 := e03.trans e4
        show tRet _ _ [some (.ref d), some (.ref a), some x, some y] H4
        exact s_ret (v := .bl false) (ev_is (ev_andV (a := false) (b := false) (ev_noStr (K := K) (ev_var rfl) ev_c (no.ex e04)) (fun z => by cases z)) rfl) fun H5 e5 => q _ H5 (e04.trans e5) rfl
      | @terms a f y h no =>
        refine q_when (b := false) (isT h (Ex.refl _)) (fun hb => by cases hb) (fun _ H1 e1 => ?_)
        refine q_when (b := false) (len2 h e1) (fun hb => by cases hb) (fun _ H2 e2 => ?_)
        have e02 := e1.trans e2
        refine q_when (b := false) (et_is (et_or (a := false) (b := false) (ne3 h e02) (fun _ => et_is (et_test (ev_op (at0 (k := 0) h rfl e02) ev_c (rv_ne rfl))) (by decide))) rfl) (fun hb => by cases hb) (fun _ H3 e3 => ?_)
        have e03 := e02.trans e3
        refine do_par ((ea_cons (at0 (k := 1) h rfl e03) (ea_cons (at0 (k := 2) h rfl e03) ea_nil)) H3 (Ex.refl _) _ fun H4 e4 => ⟨_, _, rfl, ?_⟩)
        have e04 := e03.trans e4
        show tRet _ _ [some (.ref d), some (.ref a), some (.str f), some y] H4
        exact s_ret (v := .bl false) (ev_is (ev_andV (a := true) (b := false) (ev_isi (ev_var rfl) ev_c (.ty _) (fun _ _ => tyx_str f) kit_ss) (fun _ => ev_is (ev_andV (b := false) (ev_din (ev_var rfl) (ev_var rfl) (e04 _ _ hd) rfl) (fun _ => ev_is (ev_andV (a := false) (b := false) (ev_noTu (K := K) (ev_var rfl) ev_c (no.ex e04)) (fun z => by cases z)) rfl)) (by rw [Bool.and_false]))) rfl) fun H5 e5 => q _ H5 (e04.trans e5) rfl
      | @many a b f us h h2 no sk =>
        refine q_when (b := false) (isT h (Ex.refl _)) (fun hb => by cases hb) (fun _ H1 e1 => ?_)
        refine q_when (b := false) (len2 h e1) (fun hb => by cases hb) (fun _ H2 e2 => ?_)
        have e02 := e1.trans e2
        refine q_when (b := false) (et_is (et_or (a := false) (b := false) (ne3 h e02) (fun _ => et_is (et_test (ev_op (at0 (k := 0) h rfl e02) ev_c (rv_ne rfl))) (by decide))) rfl) (fun hb => by cases hb) (fun _ H3 e3 => ?_)
        have e03 := e02.trans e3
        refine do_par ((ea_cons (at0 (k := 1) h rfl e03) (ea_cons (at0 (k := 2) h rfl e03) ea_nil)) H3 (Ex.refl _) _ fun H4 e4 => ⟨_, _, rfl, ?_⟩)
        have e04 := e03.trans e4
        show tRet _ _ [some (.ref d), some (.ref a), some (.str f), some (.ref b)] H4
        by_cases mem : f ∈ sg.map (·.1)
        · obtain ⟨pr, hpr, epr⟩ := List.mem_map.mp mem
          obtain ⟨f', n⟩ := pr
          cases (show f' = f from epr)
          have vf : valV kvs (.inr f) = some (vi n) := val _ hpr
          refine s_ret (v := .bl false) (ev_is (ev_andV (a := true) (b := false) (ev_isi (ev_var rfl) ev_c (.ty _) (fun _ _ => tyx_str f) kit_ss) (fun _ => ev_is (ev_andV (a := true) (b := false) (ev_din (ev_var rfl) (ev_var rfl) (e04 _ _ hd) (by rw [vf]; rfl)) (fun _ => ev_is (ev_andV (a := true) (b := false) (ev_isi (ev_var rfl) ev_c (.ty _) (fun _ e => tyx_tup (ex_t (e04.trans e) h2)) kit_tt) (fun _ => ev_is (ev_op (ev_lenT (ev_var rfl) (ex_t e04 h2)) (ev_dget (ev_var rfl) (ev_var rfl) (e04 _ _ hd) vf) (rv_eq rfl)) ?_)) rfl)) rfl)) rfl) fun H5 e5 => q _ H5 (e04.trans e5) rfl
          show V.bl (decide (V.int (us.length : Int) = V.int (n : Int))) = .bl false
          rw [decide_eq_false (fun z => no (by
            injection z with z
            have : us.length = n := by omega
            rw [this]
            exact hpr))]
        · exact s_ret (v := .bl false) (ev_is (ev_andV (a := true) (b := false) (ev_isi (ev_var rfl) ev_c (.ty _) (fun _ _ => tyx_str f) kit_ss) (fun _ => ev_is (ev_andV (a := false) (b := false) (ev_din (ev_var rfl) (ev_var rfl) (e04 _ _ hd) (by rw [out f mem]; rfl)) (fun z => by cases z)) rfl)) rfl) fun H5 e5 => q _ H5 (e04.trans e5) rfl
end
end K80
end
section
namespace K80
open PySem PySem.Spec PyProof.Rows L2 Evl RZ Dw M20
mutual
/-- how many parts are met -/
def Bt.sz : Bt → Nat
  | .var _ => 1
  | .deed _ ts => 1 + bszs ts
  | .odd _ => 1
def bszs : List Bt → Nat
  | [] => 0
  | t :: ts => t.sz + bszs ts
end
mutual
/-- what is met, with its paths -/
def Bt.met : Bt → List Nat → List (List Nat × Bt)
  | .var x, p => [(p, .var x)]
  | .deed f ts, p => (p, .deed f ts) :: mets ts p 0
  | .odd d, p => [(p, .odd d)]
def mets : List Bt → List Nat → Nat → List (List Nat × Bt)
  | [], _, _ => []
  | t :: ts, p, k => t.met (p ++ [k]) ++ mets ts p (k + 1)
end
mutual
theorem met_len : ∀ (t : Bt) (p : List Nat), (t.met p).length = t.sz
  | .var x, p => by rw [Bt.met, Bt.sz]; rfl
  | .deed f ts, p => by rw [Bt.met, Bt.sz, List.length_cons, mets_len ts p 0, Nat.add_comm]
  | .odd d, p => by rw [Bt.met, Bt.sz]; rfl
theorem mets_len : ∀ (ts : List Bt) (p : List Nat) (k : Nat), (mets ts p k).length = bszs ts
  | [], p, k => by rw [mets, bszs]; rfl
  | t :: ts, p, k => by rw [mets, bszs, List.length_append, met_len t, mets_len ts]
end
theorem len_bszs : ∀ ts : List Bt, ts.length ≤ bszs ts
  | [] => Nat.zero_le _
  | t :: ts => by
    have a := len_bszs ts
    have b : 1 ≤ t.sz := by
      cases t <;> rw [Bt.sz] <;> omega
    rw [List.length_cons, bszs]
    omega
theorem bsz_le : ∀ {ts : List Bt} {k : Nat} {u : Bt}, ts[k]? = some u → u.sz ≤ bszs ts
  | [], k, u, h => by
    rw [List.getElem?_nil] at h
    cases h
  | t :: ts, 0, u, h => by
    cases Option.some.inj h
    rw [bszs]
    omega
  | t :: ts, k + 1, u, h => by
    have := bsz_le (ts := ts) (k := k) (u := u) h
    rw [bszs]
    omega
/-- a row of things at their paths -/
def flatB (S : List (List Nat × Bt)) : List (List Nat × Bt) := S.flatMap fun q => q.2.met q.1
def kidsB (p : List Nat) : Nat → List Bt → List (List Nat × Bt)
  | _, [] => []
  | k, t :: ts => (p ++ [k], t) :: kidsB p (k + 1) ts
theorem kidsB_flat (p : List Nat) : ∀ (k : Nat) (ts : List Bt), flatB (kidsB p k ts) = mets ts p k
  | _, [] => by
    rw [kidsB, mets]
    rfl
  | k, t :: ts => by
    rw [kidsB, mets, ← kidsB_flat p (k + 1) ts]
    rfl
theorem kidsB_len (p : List Nat) : ∀ (k : Nat) (ts : List Bt), (kidsB p k ts).length = ts.length
  | _, [] => by rw [kidsB]; rfl
  | k, t :: ts => by rw [kidsB, List.length_cons, kidsB_len p (k + 1) ts, List.length_cons]
theorem kidsB_get (p : List Nat) : ∀ (k : Nat) (ts : List Bt) (i : Nat) (h : i < ts.length), (kidsB p k ts)[i]? = some (p ++ [k + i], ts[i])
  | _, [], i, h => absurd h (Nat.not_lt_zero _)
  | k, t :: ts, 0, h => by
    rw [kidsB]
    rfl
  | k, t :: ts, i + 1, h => by
    rw [kidsB]
    have h' : i < ts.length := Nat.lt_of_succ_lt_succ h
    show (kidsB p (k + 1) ts)[i]? = some (p ++ [k + (i + 1)], ts[i])
    rw [kidsB_get p (k + 1) ts i h', show k + (i + 1) = k + 1 + i by omega]
theorem flatB_app (a b : List (List Nat × Bt)) : flatB (a ++ b) = flatB a ++ flatB b := List.flatMap_append
/-- how far a stack has to go -/
def stS (S : List (List Nat × Bt)) : Nat := (flatB S).length
theorem stS_app (a b : List (List Nat × Bt)) : stS (a ++ b) = stS a + stS b := by
  rw [stS, flatB_app, List.length_append]
  rfl
theorem stS_one (p : List Nat) (t : Bt) : stS [(p, t)] = t.sz := by
  rw [stS]
  show (t.met p ++ []).length = t.sz
  rw [List.append_nil, met_len]
theorem stS_rev : ∀ S : List (List Nat × Bt), stS S.reverse = stS S
  | [] => rfl
  | q :: S => by
    rw [List.reverse_cons, stS_app, stS_rev S, show q :: S = [q] ++ S from rfl, stS_app]
    omega
theorem len_stS : ∀ S : List (List Nat × Bt), S.length ≤ stS S
  | [] => Nat.zero_le _
  | (p, t) :: S => by
    rw [show (p, t) :: S = [(p, t)] ++ S from rfl, stS_app, stS_one, List.length_append]
    have a := len_stS S
    have b : 1 ≤ t.sz := by
      cases t <;> rw [Bt.sz] <;> omega
    show 1 + S.length ≤ _
    omega
theorem BtsV.put {K : PySem.W.Frag} {H : Hp} {sg : List (Str × Nat)} : ∀ {ts : List Bt} {us : List V} {k : Nat} (h : k < ts.length), BtsV K H sg ts us → ∃ v, us[k]? = some v ∧ BtV K H sg ts[k] v
  | [], us, k, h, _ => absurd h (Nat.not_lt_zero _)
  | t :: ts, us, 0, h, r => by
    rw [BtsV] at r
    obtain ⟨v, ws, rfl, a, _⟩ := r
    exact ⟨v, rfl, a⟩
  | t :: ts, us, k + 1, h, r => by
    rw [BtsV] at r
    obtain ⟨v, ws, rfl, _, b⟩ := r
    exact BtsV.put (k := k) (Nat.lt_of_succ_lt_succ h) b
theorem boks_get {sg : List (Str × Nat)} : ∀ {ts : List Bt} {k : Nat} (h : k < ts.length), boks sg ts → (ts[k]).ok sg
  | [], k, h, _ => absurd h (Nat.not_lt_zero _)
  | t :: ts, 0, h, o => by
    rw [boks] at o
    exact o.1
  | t :: ts, k + 1, h, o => by
    rw [boks] at o
    exact boks_get (k := k) (Nat.lt_of_succ_lt_succ h) o.2
/-- what is wrong in it, as data -/
def wrongL (l : List (List Nat × Bt)) : PyData := match l.find? (fun e => !e.2.fits) with
  | some e => .tuple [.str "term", .tuple (natsD e.1)]
  | none => if 60 < l.length then .tuple [.str "parts"] else .none
theorem wrongL_odd {a b : List (List Nat × Bt)} {e : List Nat × Bt} (h : ∀ x ∈ a, x.2.fits = true) (he : e.2.fits = false) : wrongL (a ++ e :: b) = .tuple [.str "term", .tuple (natsD e.1)] := by
  have f : (a ++ e :: b).find? (fun e => !e.2.fits) = some e := by
    rw [List.find?_append, List.find?_eq_none.mpr (fun x hx => by rw [h x hx]; decide)]
    rw [Option.none_or, List.find?_cons_of_pos (by rw [he]; rfl)]
  rw [wrongL, f]
theorem wrongL_fine {a : List (List Nat × Bt)} (h : ∀ x ∈ a, x.2.fits = true) : wrongL a = if 60 < a.length then .tuple [.str "parts"] else .none := by
  rw [wrongL, List.find?_eq_none.mpr (fun x hx => by rw [h x hx]; decide)]
section
variable {P : Program} {w : World} {K : PySem.W.Frag} {mg : Str → Option Value} {base : Heap} {σ : L2.St} {H H0 H' : Hp} {va : Addr} {sg : List (Str × Nat)}
/-- something on the stack: the thing as it stood at H0 -/
def SbV (K : PySem.W.Frag) (H0 H : Hp) (sg : List (Str × Nat)) (n : Nat) (u : V) (q : List Nat × Bt) : Prop := ∃ (a pa : Addr) (v : V), u = .ref a ∧ SqT K H a [.ref pa, v] ∧ SqT K H pa (q.1.map vi) ∧ q.1.length + q.2.sz ≤ n ∧ BtV K H0 sg q.2 v ∧ q.2.ok sg
theorem SbV.et {n : Nat} {u : V} {q : List Nat × Bt} (e : ET K H H') (h : SbV K H0 H sg n u q) : SbV K H0 H' sg n u q := let ⟨a, pa, v, z, s, p, l, tv⟩ := h; ⟨a, pa, v, z, e _ _ s, e _ _ p, l, tv⟩
def sp_wrong_any (K : PySem.W.Frag) : Sp := spX (fun (p : List (Str × Nat) × Bt) vs H => (∃ d v, vs = [.ref d, v] ∧ PlcX H d p.1 ∧ BtV K H p.1 p.2 v) ∧ p.2.ok p.1 ∧ (p.1.map (·.1)).Nodup ∧ p.2.sz ≤ 100) (fun p v H => Dp K H v (wrongL (p.2.met [])))
theorem c_wrong_any (T : Txt mg) (D : Df K mg "wrong_in_term" s_wrong_in_term ["places", "thing"]) (c_form_any : Cl P w K mg base 1 "has_term_form" (sp_form_any K)) : Cl P w K mg base 2 "wrong_in_term" (sp_wrong_any K) := by
  refine cl_of (k := 1) D sc_wrong_in_term (fun vs H Q E h => ?_) (fun f cdv A outer s H vs Q E hr h => ?_)
  · obtain ⟨p, ⟨⟨u, v, rfl, _⟩, _⟩, _⟩ := h
    rfl
  · obtain ⟨⟨sg, t⟩, ⟨⟨d, v, rfl, plc, tv⟩, ok, nd, small⟩, q⟩ := h
    have c_has_term_form := c_form_any
    refine ⟨_, (pss_cons (ps_set (i := 2) sc_wrong_in_term.nd rfl (.inl rfl) pe_int)
      (pss_cons (ps_set (i := 3) sc_wrong_in_term.nd rfl (.inl rfl) (pe_lst (pa_cons (pe_tup (pa_cons (pe_tup pa_nil) (pa_cons (pv 1) pa_nil))) pa_nil)))
      (pss_cons (ps_while PassesOwn.never (pt_truth (pv 3) (by intro _; rfl))
        (pss_cons (ps_asg (pe_bm0 PySem.F.plainAttrs_list PySem.F.slot_list_pop PySem.F.type_list_pop mt_pop (pv 3)) (pg_tup (by rfl) (pgs_cons (pg_name (i := 4) sc_wrong_in_term.nd rfl (.inl rfl)) (pgs_cons (pg_name (i := 5) sc_wrong_in_term.nd rfl (.inl rfl)) pgs_nil))))
        (pss_cons (ps_if (pt_not (pt_val (pe_cl c_has_term_form hr (by first | decide | omega) (by rfl) (pa_cons (pv 0) (pa_cons (pv 5) pa_nil)))))
          (pss_one (ps_ret (pe_tup (pa_cons pe_str (pa_cons (pv 4) pa_nil)))))
          pss_nil)
        (pss_cons (ps_aug (i := 2) sc_wrong_in_term.nd rfl (.inl rfl) pe_int ip_add)
        (pss_one (ps_if (pt_cmpR op_eq (pe_ix ix_tup (pv 5) pe_int (fun _ _ => rfl)) pe_str (nomark _))
          (pss_one (ps_for PassesOwn.never (by rfl) (pi_revR (by rfl) T.z_reversed (prg_1 (by rfl) T.z_range (pe_callB call_len_seq (by rfl) T.z_len PySem.boot_len (pa_cons (pe_ix ix_tup (pv 5) pe_int (fun _ _ => rfl)) pa_nil)))) (pg_name (i := 6) sc_wrong_in_term.nd rfl (.inl rfl))
            (pss_one (ps_expr (pe_bm PySem.F.plainAttrs_list PySem.F.slot_list_append PySem.F.type_list_append mt_append (pv 3) (pa_cons (pe_tup (pa_cons (pe_op op_catA (pv 4) (pe_tup (pa_cons (pv 6) pa_nil))) (pa_cons (pe_ix ix_tup (pe_ix ix_tup (pv 5) pe_int (fun _ _ => rfl)) (pv 6) (fun _ _ => rfl)) pa_nil))) pa_nil))))))
          pss_nil))))))
      (pss_one (ps_ret (pe_ifExp (pt_cmpR op_gt (pv 2) (pe_gi (by rfl) T.c_MOST_PARTS) (nomark _)) (pe_tup (pa_cons pe_str pa_nil)) pe_non)))))), ?_⟩
    replace plc : PlcX H d sg := plc
    replace tv : BtV K H sg t v := tv
    replace ok : t.ok sg := ok
    replace small : t.sz ≤ 100 := small
    replace nd : (sg.map (·.1)).Nodup := nd
    replace q : ∀ r H', Ex H H' → Dp K H' r (wrongL (t.met [])) → Q r H' := q
    refine q_asg (v := vi 0) ev_c fun H4 e4 => ?_
    refine do_set (do_lst (do_cons (do_tup (do_cons (do_tup (do_nil ⟨Nat.zero_le _, fun p1 n1 => do_cons (do_ev (ev_var rfl) fun H5 e5 => do_nil ⟨by show 2 ≤ sizeLine; decide, fun p2 n2 => do_nil ⟨by show 1 ≤ sizeLine; decide, fun td ntd => ?_⟩⟩)⟩))))))
    have e45 : Ex H4 H5 := (Ex.new n1).trans e5
    have x6 : Ex H (upd H5 p2 (.tup [.ref p1, v])) := (e4.trans e45).trans (Ex.new n2)
    have s2 : SqT K (upd H5 p2 (.tup [.ref p1, v])) p2 [.ref p1, v] := st_of upd_same
    have s1 : SqT K (upd H5 p2 (.tup [.ref p1, v])) p1 [] := st_of (Ex.new n2 _ _ (e5 _ _ upd_same))
    generalize upd H5 p2 (.tup [.ref p1, v]) = H6 at *
    have nt3 : H td = none := fresh_back x6 ntd
    have et7 : ET K H6 (upd H6 td (.lst [.ref p2])) := Dw.Ex.et (Ex.new ntd)
    show tSeq _ _ _ [some (.ref d), some v, some (vi 0), some (.ref td), none, none, none] (upd H6 td (.lst [.ref p2]))
    refine q_while (fun k σ H' => Ex H H' ∧ ∃ (S : List (List Nat × Bt)) (us : List V) (dn : List (List Nat × Bt)) (y5 y6 y7 : Option V), k = stS S ∧ H' td = some (.lst us) ∧ Paired (SbV K H H' sg t.sz) us S ∧ (∀ x ∈ dn, x.2.fits = true) ∧ dn ++ flatB S.reverse = t.met [] ∧ σ = [some (.ref d), some v, some (vi dn.length), some (.ref td), y5, y6, y7]) (stS [([], t)])
      ⟨x6.trans (Ex.new ntd), [([], t)], [.ref p2], [], none, none, none, rfl, upd_same, .cons (SbV.et et7 ⟨p2, p1, v, rfl, s2, s1, by show 0 + t.sz ≤ t.sz; omega, tv, ok⟩) .nil, fun x hx => (by cases hx), by show [] ++ (t.met [] ++ []) = t.met []; rw [List.append_nil, List.nil_append], rfl⟩ (fun k σ H7 hW => ?_)
    obtain ⟨e7, S, us, dn, y5, y6, y7, ek, hus, prs, fine, tot, hσ⟩ := hW
    subst hσ
    subst ek
    have lu := paired_len prs
    have ls := len_stS S
    have lt := congrArg List.length tot
    rw [List.length_append, met_len] at lt
    have lt2 : (flatB S.reverse).length = stS S := stS_rev S
    refine ⟨_, et_truL (K := K) (ev_var rfl) (sq_of hus), fun hb H8 e8 => ?_, fun hb H8 e8 => ?_⟩
    · have ne : S ≠ [] := fun z => by
        subst z
        cases prs
        cases hb
      obtain ⟨ws, u', b, q', rfl, rfl, pb, pt⟩ := paired_last prs ne
      refine ⟨fun σ' H' => ∃ k', k' < stS (b ++ [q']) ∧ Ex H H' ∧ ∃ (S : List (List Nat × Bt)) (us : List V) (dn : List (List Nat × Bt)) (y5 y6 y7 : Option V), k' = stS S ∧ H' td = some (.lst us) ∧ Paired (SbV K H H' sg t.sz) us S ∧ (∀ x ∈ dn, x.2.fits = true) ∧ dn ++ flatB S.reverse = t.met [] ∧ σ' = [some (.ref d), some v, some (vi dn.length), some (.ref td), y5, y6, y7], fun σ2 H5 ⟨k', lt, r⟩ => ⟨k', lt, r⟩, ?_⟩
      refine do_setG (do_pop (e8 _ _ hus) (ev_var rfl) fun H9 e9 => ?_)
      have e79 := e8.trans e9
      have et10 : ET K H7 (upd H9 td (.lst ws)) := ET.trans (Dw.Ex.et e79) (ET.refl.upd (e79 _ _ hus))
      have x10 : Ex H (upd H9 td (.lst ws)) := (e7.trans e79).mut nt3
      have td10 : (upd H9 td (.lst ws)) td = some (.lst ws) := upd_same
      have pb10 := paired_imp (fun _ _ z => SbV.et et10 z) pb
      have pt10 := SbV.et et10 pt
      generalize upd H9 td (.lst ws) = H10 at *
      obtain ⟨p, t'⟩ := q'
      obtain ⟨aa, pa, vv, rfl, sa, sp, lx, tvv, okt⟩ := pt10
      replace sp : SqT K H10 pa (p.map vi) := sp
      replace lx : p.length + t'.sz ≤ t.sz := lx
      replace tvv : BtV K H sg t' vv := tvv
      replace okt : t'.ok sg := okt
      refine ⟨aa, _, rfl, sa, rfl, _, _, rfl, _, _, rfl, rfl, ?_⟩
      show tSeq _ _ _ [some (.ref d), some v, some (vi dn.length), some (.ref td), some (.ref pa), some vv, y7] H10
      rw [List.reverse_append, List.reverse_singleton, flatB_app] at tot
      have one1 : flatB [(p, t')] = t'.met p := by
        show t'.met p ++ [] = _
        rw [List.append_nil]
      rw [one1] at tot
      have meas : stS (b ++ [(p, t')]) = stS b + t'.sz := by rw [stS_app, stS_one]
      have lb := len_stS b
      have lw := paired_len pb10
      have test : EvT (tNot (tB (tCall (sp_form_any K) [] E0 (tCons (tVar 0) (tCons (tVar 5) tNil))))) [some (.ref d), some v, some (vi dn.length), some (.ref td), some (.ref pa), some vv, y7] H10 (!t'.fits) := et_not (et_val (ev_callV (v := .bl t'.fits) (sg, t') (ea_cons (ev_var rfl) (ea_cons (ev_var rfl) ea_nil)) (fun H11 e11 => ⟨⟨_, _, rfl, plc.ex (x10.trans e11), tvv.ex (x10.trans e11)⟩, okt, nd⟩) (fun _ _ p => p)))
      by_cases ft : t'.fits = true
      · refine q_when (b := false) (et_is test (by rw [ft]; rfl)) (fun hb => by cases hb) (fun _ H11 e11 => ?_)
        refine q_aug (a := (dn.length : Int)) (b := 1) rfl ev_c fun H12 e12 => ?_
        have en : V.int ((dn.length : Int) + 1) = vi (dn.length + 1) := by
          show _ = V.int (((dn.length + 1 : Nat)) : Int)
          rw [Int.natCast_add]
          rfl
        show tIfS _ _ _ _ [some (.ref d), some v, some (V.int ((dn.length : Int) + 1)), some (.ref td), some (.ref pa), some vv, y7] H12
        rw [en]
        have e1012 := e11.trans e12
        have x12 : Ex H H12 := x10.trans e1012
        have td12 : H12 td = some (.lst ws) := e1012 _ _ td10
        have pb12 := paired_imp (fun _ _ z => SbV.et (Dw.Ex.et e1012) z) pb10
        have sp12 := ex_t e1012 sp
        have fine2 : ∀ x ∈ dn ++ [(p, t')], x.2.fits = true := fun x hx => by
          rcases List.mem_append.mp hx with z | z
          · exact fine x z
          · rw [List.mem_singleton.mp z]
            exact ft
        have ld : (dn ++ [(p, t')]).length = dn.length + 1 := by rw [List.length_append]; rfl
        cases t' with
        | odd dd => cases ft
        | var x =>
          have tv12 := tvv.ex x12
          rw [BtV] at tv12
          obtain ⟨c, rfl, hc⟩ := tv12
          refine s_when (b := false) (et_is (et_test (ev_op (ev_op (ev_var rfl) ev_c (rv_ixT (K := K) hc (atI_vi (k := 0) rfl))) ev_c (rv_eq rfl))) (by decide)) (fun hb => by cases hb) (fun _ H13 e13 => ?_)
          refine ⟨stS b, by rw [meas, Bt.sz]; omega, x12.trans e13, b, ws, dn ++ [(p, .var x)], _, _, _, rfl, e13 _ _ td12, paired_imp (fun _ _ z => SbV.et (Dw.Ex.et e13) z) pb12, fine2, ?_, by rw [ld]⟩
          rw [← tot, Bt.met, List.append_assoc]
        | deed g ts =>
          rw [BtV] at tvv
          rw [Bt.ok] at okt
          obtain ⟨c, cc, vs, rfl, hcH, hccH, tvs0⟩ := tvv
          have hc := ex_t x12 hcH
          have hcc := ex_t x12 hccH
          have lvs := tvs0.len
          have lts := len_bszs ts
          rw [Bt.sz] at lx meas
          obtain ⟨kq, hkq⟩ : ∃ kq, kq = kidsB p 0 ts := ⟨_, rfl⟩
          have lkq : kq.length = ts.length := by rw [hkq, kidsB_len]
          refine s_when (b := true) (et_is (et_test (ev_op (ev_op (ev_var rfl) ev_c (rv_ixT (K := K) hc (atI_vi (k := 0) rfl))) ev_c (rv_eq rfl))) (by decide)) (fun _ H13 e13 => ?_) (fun hb => by cases hb)
          have hc13 := ex_t e13 hc
          have hcc13 := ex_t e13 hcc
          refine s_forRev (n := ts.length) (ev_is (ev_lenT (K := K) (ev_op (ev_var rfl) ev_c (rv_ixT (K := K) hc13 (atI_vi (k := 2) rfl))) hcc13) (by rw [lvs])) (by omega) (fun i σ' H' => Ex H H' ∧ ET K H13 H' ∧ ∃ (us : List V) (y7 : Option V), H' td = some (.lst us) ∧ Paired (SbV K H H' sg t.sz) us (b ++ kq.reverse.take i) ∧ σ' = [some (.ref d), some v, some (vi (dn.length + 1)), some (.ref td), some (.ref pa), some (.ref c), y7])
            (fun H14 e14 => ⟨(x12.trans e13).trans e14, Dw.Ex.et e14, ws, _, (e13.trans e14) _ _ td12, by rw [List.take_zero, List.append_nil]; exact paired_imp (fun _ _ z => SbV.et (Dw.Ex.et (e13.trans e14)) z) pb12, rfl⟩) (fun i σ' H14 hi hP => ?_) (fun σ' H14 hP => ?_)
          · obtain ⟨x14, et14, us', y7', td14, p14, hσ⟩ := hP
            subst hσ
            have ln := paired_len p14
            have kl : ts.length - 1 - i < ts.length := by omega
            have e5 : List.length (kq.reverse.take i) ≤ ts.length := by rw [List.length_take, List.length_reverse]; omega
            rw [List.length_append] at ln
            have hc14 := et14 _ _ hc13
            have hcc14 := et14 _ _ hcc13
            have sp14 := et14 _ _ (ex_t e13 sp12)
            obtain ⟨cv, hcv, tcv⟩ := tvs0.put kl
            have szc : (ts[ts.length - 1 - i]).sz ≤ bszs ts := bsz_le (List.getElem?_eq_getElem kl)
            show tDrop _ _ [some (.ref d), some v, some (vi (dn.length + 1)), some (.ref td), some (.ref pa), some (.ref c), some (vi (ts.length - 1 - i))] H14
            have pv : Ev (tVar 4) [some (.ref d), some v, some (vi (dn.length + 1)), some (.ref td), some (.ref pa), some (.ref c), some (vi (ts.length - 1 - i))] H14 (.ref pa) := ev_var rfl
            have kv : Ev (tVar 6) [some (.ref d), some v, some (vi (dn.length + 1)), some (.ref td), some (.ref pa), some (.ref c), some (vi (ts.length - 1 - i))] H14 (vi (ts.length - 1 - i)) := ev_var rfl
            have cat := ep_cat (K := K) (xs := p.map vi) (ys := [vi (ts.length - 1 - i)]) (ep_ev (P := fun v H' => TupV K H' v (p.map vi)) pv (fun H' e' => ⟨pa, rfl, ex_t e' sp14⟩)) (ep_tup1 (K := K) kv) (by rw [List.length_map]; show p.length + 1 ≤ 100000; omega)
            refine do_app td14 (ev_var rfl) fun H15 e15 => do_tup (do_cons (cat H15 e15 _ fun pv2 H16 e16 hpv => do_cons (do_ev (ev_op (ev_op (ev_var rfl) ev_c (rv_ixT (K := K) (ex_t (e15.trans e16) hc14) (atI_vi (k := 2) rfl))) (ev_var rfl) (rv_ixT (K := K) (ex_t (e15.trans e16) hcc14) (atI_vi (k := ts.length - 1 - i) hcv))) fun H20 e20 => do_nil ⟨by show 2 ≤ sizeLine; decide, fun r nr => ?_⟩)))
            obtain ⟨pa2, rfl, spa2⟩ := hpv
            have x21 : Ex H14 (upd H20 r (.tup [.ref pa2, cv])) := ((e15.trans e16).trans e20).trans (Ex.new nr)
            have td21 : (upd H20 r (.tup [.ref pa2, cv])) td = some (.lst us') := x21 _ _ td14
            have r21 : (upd H20 r (.tup [.ref pa2, cv])) r = some (.tup [.ref pa2, cv]) := upd_same
            have sp21 := ex_t (e20.trans (Ex.new nr (o := .tup [.ref pa2, cv]))) spa2
            refine ⟨td, us', .ref r, rfl, rfl, td21, sz_lt (by omega), (x14.trans x21).mut nt3, ET.trans et14 (ET.trans (Dw.Ex.et x21) (ET.refl.upd td21)), us' ++ [.ref r], _, upd_same, ?_, rfl⟩
            have et22 : ET K H14 (upd (upd H20 r (.tup [.ref pa2, cv])) td (.lst (us' ++ [.ref r]))) := ET.trans (Dw.Ex.et x21) (ET.refl.upd td21)
            have et23 : ET K (upd H20 r (.tup [.ref pa2, cv])) (upd (upd H20 r (.tup [.ref pa2, cv])) td (.lst (us' ++ [.ref r]))) := ET.refl.upd td21
            have hr2 : kq.reverse[i]? = some (p ++ [ts.length - 1 - i], ts[ts.length - 1 - i]) := by
              rw [List.getElem?_reverse (by omega), lkq, hkq, kidsB_get p 0 ts _ kl, Nat.zero_add]
            rw [List.take_add_one, hr2, ← List.append_assoc]
            refine Dw.paired_snoc (R := SbV K H (upd (upd H20 r (.tup [.ref pa2, cv])) td (.lst (us' ++ [.ref r]))) sg t.sz) (y := (p ++ [ts.length - 1 - i], ts[ts.length - 1 - i])) ⟨r, pa2, cv, rfl, et23 _ _ (st_of r21), ?_, ?_, tcv, boks_get kl okt.2⟩ (paired_imp (fun _ _ z => SbV.et et22 z) p14)
            · show SqT K _ pa2 ((p ++ [ts.length - 1 - i]).map vi)
              rw [List.map_append]
              exact et23 _ _ sp21
            · show (p ++ [ts.length - 1 - i]).length + (ts[ts.length - 1 - i]).sz ≤ t.sz
              rw [List.length_append, List.length_singleton]
              omega
          · obtain ⟨x14, et14, us', y7', td14, p14, hσ⟩ := hP
            subst hσ
            have full : kq.reverse.take ts.length = kq.reverse := List.take_of_length_le (by rw [List.length_reverse, lkq]; exact Nat.le_refl _)
            rw [full] at p14
            have mk : stS kq = bszs ts := by rw [stS, hkq, kidsB_flat, mets_len]
            refine ⟨stS (b ++ kq.reverse), by rw [meas, stS_app, stS_rev, mk]; omega, x14, b ++ kq.reverse, us', dn ++ [(p, .deed g ts)], _, _, _, rfl, td14, p14, fine2, ?_, by rw [ld]⟩
            rw [← tot, List.reverse_append, List.reverse_reverse, flatB_app, hkq, kidsB_flat, Bt.met, List.append_assoc]
            rfl
      · have ff : t'.fits = false := by
          cases h : t'.fits with
          | true => exact absurd h ft
          | false => rfl
        have metp : t'.met p = [(p, t')] := by
          cases t' with
          | var x => cases ff
          | deed g ts => cases ff
          | odd dd => rw [Bt.met]
        rw [metp] at tot
        have res : wrongL (t.met []) = .tuple [.str "term", .tuple (natsD p)] := by
          rw [← tot, List.singleton_append]
          exact wrongL_odd (e := (p, t')) fine ff
        refine q_when (b := true) (et_is test (by rw [ff]; rfl)) (fun _ H11 e11 => ?_) (fun hb => by cases hb)
        refine do_ret (do_tup (do_cons (do_ev ev_c fun H12 e12 => do_cons (do_ev (ev_var rfl) fun H13 e13 => do_nil ⟨by show 2 ≤ sizeLine; decide, fun r nr => ?_⟩))))
        refine q _ _ (x10.trans ((e11.trans (e12.trans e13)).trans (Ex.new nr))) ?_
        rw [res]
        exact .tup (st_of upd_same) (.cons (.str _) (.cons (.tup (ex_t ((e11.trans (e12.trans e13)).trans (Ex.new nr)) sp) (dps_vi p)) .nil))
    · have no : S = [] := by
        cases us with
        | nil => exact List.length_eq_zero_iff.mp lu.symm
        | cons _ _ => cases hb
      subst no
      have all : dn = t.met [] := by
        rw [← tot]
        show dn = dn ++ []
        rw [List.append_nil]
      have res := wrongL_fine fine
      rw [all] at res
      have ldn : dn.length = (t.met []).length := by rw [all]
      by_cases big : 60 < (t.met []).length
      · rw [if_pos big] at res
        exact do_ret (do_if (b := true) (et_is (et_test (ev_op (ev_var rfl) ev_c rv_I0)) (decide_eq_true (by show ((dn.length : Int) > 60); omega))) (fun _ H9 e9 => do_tup (do_cons (do_ev ev_c fun H10 e10 => do_nil ⟨by show 1 ≤ sizeLine; decide, fun r nr => q _ _ ((e7.trans (e8.trans (e9.trans e10))).trans (Ex.new nr)) (by
          rw [res]
          exact .tup (st_of upd_same) (.cons (.str _) .nil))⟩))) (fun z => by cases z))
      · rw [if_neg big] at res
        exact do_ret (do_if (b := false) (et_is (et_test (ev_op (ev_var rfl) ev_c rv_I0)) (decide_eq_false (by show ¬ ((dn.length : Int) > 60); omega))) (fun z => by cases z) (fun _ H9 e9 => do_ev ev_c fun H10 e10 => q _ _ (e7.trans (e8.trans (e9.trans e10))) (by
          rw [res]
          exact .non)))
end
end K80
end
section
namespace K80
open PySem PySem.Spec PyProof.Rows L2 Evl RZ Dw M20
theorem kvs_keys {sg : List (Str × Nat)} {x : Str} (h : (Sum.inr x : Key) ∈ (kvsOf sg).map (·.1)) : x ∈ sg.map (·.1) := by
  obtain ⟨kv, hk, e⟩ := List.mem_map.mp h
  obtain ⟨p, hp, e2⟩ := List.mem_map.mp hk
  rw [← e2] at e
  have e3 : (Sum.inr p.1 : Key) = Sum.inr x := e
  injection e3 with e3
  rw [← e3]
  exact List.mem_map_of_mem hp
theorem kvs_nodup : ∀ {sg : List (Str × Nat)}, (sg.map (·.1)).Nodup → ((kvsOf sg).map (·.1)).Nodup
  | [], _ => List.Pairwise.nil
  | p :: sg, h => by
    rw [List.map_cons, List.nodup_cons] at h
    show (Sum.inr p.1 :: (kvsOf sg).map (·.1)).Nodup
    rw [List.nodup_cons]
    exact ⟨fun z => h.1 (kvs_keys z), kvs_nodup h.2⟩
section
variable {P : Program} {w : World} {K : PySem.W.Frag} {mg : Str → Option Value} {base : Heap} {σ : L2.St} {H : Hp} {P0 B0 T0 G0 : Addr} {va : Addr}
def BPre (K : PySem.W.Frag) (p : List (Str × Nat) × Bt) (vs : List V) (H : Hp) : Prop := (∃ u v, vs = [u, v] ∧ FSig K H u p.1 ∧ BtV K H p.1 p.2 v) ∧ SigOk p.1 ∧ p.2.ok p.1 ∧ p.2.sz ≤ 100
def sp_term_any (K : PySem.W.Frag) : Sp := spX (BPre K) (fun p v H => Dp K H v (wrongL (p.2.met [])))
theorem c_term_any (T : Txt mg) (D : Df K mg "term_wrong" s_term_wrong ["signature", "thing"]) (c_need_signature : Cl P w K mg base 5 "need_signature" (sp_need_signature K)) (c_wrong_any : Cl P w K mg base 2 "wrong_in_term" (sp_wrong_any K)) : Cl P w K mg base 6 "term_wrong" (sp_term_any K) := by
  refine cl_of (k := 5) D sc_term_wrong (fun vs H Q E h => ?_) (fun f cdv A outer s H vs Q E hr h => ?_)
  · obtain ⟨p, ⟨⟨u, v, rfl, _⟩, _⟩, _⟩ := h
    rfl
  · obtain ⟨⟨sg, t⟩, ⟨⟨u, v, rfl, hF, tv⟩, sok, ok, small⟩, q⟩ := h
    have c_wrong_in_term := c_wrong_any
    refine ⟨_, (pss_cons (ps_expr (pe_cl c_need_signature hr (by first | decide | omega) (by rfl) (pa_cons (pv 0) pa_nil)))
      (pss_one (ps_ret (pe_cl c_wrong_in_term hr (by first | decide | omega) (by rfl) (pa_cons (pe_callTy (call_dictT rfl) (by rfl) T.z_dict (by decide +kernel) (pa_cons (pv 0) pa_nil)) (pa_cons (pv 1) pa_nil)))))), ?_⟩
    replace hF : FSig K H u sg := hF
    replace tv : BtV K H sg t v := tv
    replace sok : SigOk sg := sok
    replace ok : t.ok sg := ok
    replace small : t.sz ≤ 100 := small
    refine q_drop (ev_callV (v := .non) sg (ea_cons (ev_var rfl) ea_nil) (fun H1 e1 => ⟨⟨_, rfl, (hF.ex e1).sig⟩, sok⟩) (fun _ _ p => p)) fun H1 e1 => ?_
    obtain ⟨a, o, ps, rfl, ha, od, pr⟩ := hF.ex e1
    refine do_ret (do_cons (do_cb (do_cons (do_ev (ev_var rfl) fun H2 e2 => ?_))))
    refine ⟨a, o, ps, kvsOf sg, rfl, e2 _ _ ha, od, paired_mapR (f := fun d : Str × Nat => ((Sum.inr d.1 : Key), vi d.2)) (fun _ _ z => ex_t e2 z) pr, fun d nd => ?_⟩
    have x3 : Ex H (upd H2 d (.dK (mergeK [] (kvsOf sg)))) := (e1.trans e2).trans (Ex.new nd)
    have nds : ((([] : List (Key × V)) ++ kvsOf sg).map (·.1)).Nodup := by
      rw [List.nil_append]
      exact kvs_nodup sok.nd
    have plc : PlcX (upd H2 d (.dK (mergeK [] (kvsOf sg)))) d sg := ⟨_, upd_same, fun p hp => val_merge sg [] p.1 p.2 sok.nd (.inl hp), fun x hx => by
      rw [merge_new nds, List.nil_append]
      exact val_none fun z => hx (kvs_keys z)⟩
    generalize upd H2 d (.dK (mergeK [] (kvsOf sg))) = H3 at *
    refine do_cons (do_ev (ev_var rfl) fun H4 e4 => do_nil ?_)
    exact ⟨(sg, t), ⟨⟨d, v, rfl, plc.ex e4, tv.ex (x3.trans e4)⟩, ok, sok.nd, small⟩, fun v H' e p => q v H' (x3.trans (e4.trans e)) p⟩
end
end K80
end
section
namespace K80
open PySem PySem.Spec PyProof.Rows L2 Evl RZ Dw M20
section
variable {P : Program} {w : World} {K : PySem.W.Frag} {mg : Str → Option Value} {base : Heap} {σ : L2.St} {H : Hp} {va : Addr}
end
end K80
end
section
namespace K80
open PySem PySem.Spec PyProof.Rows L2 Evl RZ Dw M20
theorem bsz1 : ∀ t : Bt, 1 ≤ t.sz
  | .var x => by rw [Bt.sz]; exact Nat.le_refl _
  | .deed f ts => by rw [Bt.sz]; omega
  | .odd d => by rw [Bt.sz]; exact Nat.le_refl _
section
variable {P : Program} {w : World} {K : PySem.W.Frag} {mg : Str → Option Value} {base : Heap} {σ : L2.St} {H : Hp} {va : Addr} {sg : List (Str × Nat)}
def SmV (K : PySem.W.Frag) (H : Hp) (sg : List (Str × Nat)) (u : V) (e : List Nat × Bt) : Prop := ∃ (a b : Addr) (v : V), u = .ref a ∧ SqT K H a [.ref b, v] ∧ SqT K H b (e.1.map vi) ∧ BtV K H sg e.2 v
theorem SmV.ex {H' : Hp} {u : V} {e : List Nat × Bt} (x : Ex H H') (h : SmV K H sg u e) : SmV K H' sg u e := let ⟨a, b, v, h1, h2, h3, h4⟩ := h; ⟨a, b, v, h1, ex_t x h2, ex_t x h3, h4.ex x⟩
def SmsV (K : PySem.W.Frag) (H : Hp) (sg : List (Str × Nat)) (v : V) (es : List (List Nat × Bt)) : Prop := ∃ (l : Addr) (us : List V), v = .ref l ∧ H l = some (.lst us) ∧ Paired (SmV K H sg) us es
theorem SmsV.ex {H' : Hp} {u : V} {e : List (List Nat × Bt)} (x : Ex H H') (h : SmsV K H sg u e) : SmsV K H' sg u e := let ⟨a, us, h1, h2, h3⟩ := h; ⟨a, us, h1, x _ _ h2, paired_imp (fun _ _ z => z.ex x) h3⟩
end
end K80
end
section
namespace K80
open PySem PySem.Spec PyProof.Rows L2 Evl RZ Dw M20
section
variable {P : Program} {w : World} {K : PySem.W.Frag} {mg : Str → Option Value} {base : Heap} {σ : L2.St} {H : Hp} {va : Addr} {sg : List (Str × Nat)}
end
end K80
end
section
namespace K80
open PySem PySem.Spec PyProof.Rows L2 Evl RZ Dw M20
mutual
def Bt.data : Bt → PyData
  | .var x => .tuple [.str "var", .str x]
  | .deed f ts => .tuple [.str "deed", .str f, .tuple (bdatas ts)]
  | .odd d => d
def bdatas : List Bt → List PyData
  | [] => []
  | t :: ts => t.data :: bdatas ts
end
mutual
def Bt.fine : Bt → Prop
  | .var _ => True
  | .deed _ ts => bfines ts
  | .odd d => Gd 5 100 d
def bfines : List Bt → Prop
  | [] => True
  | t :: ts => t.fine ∧ bfines ts
end
theorem gd_deed {f : Str} {k W : Nat} {ds : List PyData} (gf : Gd 0 4 (.str f)) (lay : PyData.canLayAll0 ds = true) (dep : PyData.depthAll ds ≤ k) (wgt : PyData.weightAll ds ≤ W) (its : PyData.intsShortAll 13 ds = true) (sho : PyData.showableAll ds = true) : Gd (k + 2) (W + 12) (.tuple [.str "deed", .str f, .tuple ds]) := by
  have g1 : Gd 0 4 (.str ("deed" : Str)) := gd_strB (by decide) (by decide)
  have w1 := g1.wgt
  have w2 := gf.wgt
  have d1 := g1.dep
  have d2 := gf.dep
  refine ⟨?_, ?_, ?_, ?_, ?_⟩
  · rw [PyData.canLay0, PyData.canLayAll0, PyData.canLayAll0, PyData.canLayAll0, PyData.canLayAll0, g1.lay, gf.lay, PyData.canLay0, lay]
    rfl
  · rw [PyData.depth, PyData.depthAll, PyData.depthAll, PyData.depthAll, PyData.depthAll]
    have : PyData.depth (.tuple ds) = PyData.depthAll ds + 1 := by rw [PyData.depth]
    omega
  · rw [PyData.weight, PyData.weightAll, PyData.weightAll, PyData.weightAll, PyData.weightAll]
    have : PyData.weight (.tuple ds) = PyData.weightAll ds := by rw [PyData.weight]
    omega
  · rw [PyData.intsShort, PyData.intsShortAll, PyData.intsShortAll, PyData.intsShortAll, PyData.intsShortAll, g1.its, gf.its, PyData.intsShort, its]
    rfl
  · rw [PyData.showable, PyData.showableAll, PyData.showableAll, PyData.showableAll, PyData.showableAll, g1.sho, gf.sho, PyData.showable, sho]
    rfl
mutual
theorem gd_bt {sg : List (Str × Nat)} (so : SigOk sg) : ∀ t : Bt, t.ok sg → t.fine → Gd (2 * t.sz + 3) (110 * t.sz - 1) t.data
  | .var x, ok, _ => by
    rw [Bt.ok] at ok
    rw [Bt.sz, Bt.data]
    have g : Gd (0 + 1) (2 * (4 + 1)) (.tuple [.str "var", .str x]) := by
     refine gd_tup (k := 0) (W := 4) (L := 2) (fun d hd => ?_) (Nat.le_refl 2)
     simp only [List.mem_cons, List.not_mem_nil, or_false] at hd
     rcases hd with e | e
     · rw [e]
       exact gd_strB (by decide) (by decide)
     · rw [e]
       exact gd_strB (vars_cps4 x ok).1 (vars_cps4 x ok).2
    exact g.mono (by decide) (by decide)
  | .deed f ts, ok, fi => by
    rw [Bt.ok] at ok
    rw [Bt.fine] at fi
    rw [Bt.sz, Bt.data]
    have nm := so.nm _ ok.1
    obtain ⟨a, b, c, d, e⟩ := gd_bts so ts ok.2 fi
    exact (gd_deed (gd_strB (name_cps nm) nm.l4) a b c d e).mono (by omega) (by omega)
  | .odd d, _, fi => by
    rw [Bt.fine] at fi
    rw [Bt.sz, Bt.data]
    exact fi.mono (by decide) (by decide)
theorem gd_bts {sg : List (Str × Nat)} (so : SigOk sg) : ∀ ts : List Bt, boks sg ts → bfines ts → PyData.canLayAll0 (bdatas ts) = true ∧ PyData.depthAll (bdatas ts) ≤ 2 * bszs ts + 3 ∧ PyData.weightAll (bdatas ts) ≤ 110 * bszs ts ∧ PyData.intsShortAll 13 (bdatas ts) = true ∧ PyData.showableAll (bdatas ts) = true
  | [], _, _ => by
    rw [bdatas, bszs]
    exact ⟨by rw [PyData.canLayAll0], by rw [PyData.depthAll]; exact Nat.zero_le _, by rw [PyData.weightAll]; exact Nat.zero_le _, by rw [PyData.intsShortAll], by rw [PyData.showableAll]⟩
  | t :: ts, ok, fi => by
    rw [boks] at ok
    rw [bfines] at fi
    have g := gd_bt so t ok.1 fi.1
    obtain ⟨a, b, c, d, e⟩ := gd_bts so ts ok.2 fi.2
    have z := bsz1 t
    have g2 := g.dep
    have g3 := g.wgt
    rw [bdatas, bszs]
    refine ⟨?_, ?_, ?_, ?_, ?_⟩
    · rw [PyData.canLayAll0, g.lay, a]
      rfl
    · rw [PyData.depthAll]
      omega
    · rw [PyData.weightAll]
      omega
    · rw [PyData.intsShortAll, g.its, d]
      rfl
    · rw [PyData.showableAll, g.sho, e]
      rfl
end
section
variable {P : Program} {w : World} {K : PySem.W.Frag} {mg : Str → Option Value} {base : Heap} {σ : L2.St} {H H' : Hp} {va p c : Addr} {n : Nat} {sg : List (Str × Nat)}
mutual
theorem BtV.dp : ∀ {t : Bt} {v : V}, BtV K H sg t v → Dp K H v t.data
  | .var x, v, h => by
    rw [BtV] at h
    obtain ⟨a, rfl, s⟩ := h
    rw [Bt.data]
    exact .tup s (.cons (.str _) (.cons (.str _) .nil))
  | .deed f ts, v, h => by
    rw [BtV] at h
    obtain ⟨a, b, us, rfl, s, s2, r⟩ := h
    rw [Bt.data]
    exact .tup s (.cons (.str _) (.cons (.str _) (.cons (.tup s2 (BtsV.dp r)) .nil)))
  | .odd d, v, h => by
    rw [BtV] at h
    rw [Bt.data]
    exact h.1.dp
theorem BtsV.dp : ∀ {ts : List Bt} {vs : List V}, BtsV K H sg ts vs → DpAll K H vs (bdatas ts)
  | [], vs, h => by
    rw [BtsV] at h
    rw [h, bdatas]
    exact .nil
  | t :: ts, vs, h => by
    rw [BtsV] at h
    obtain ⟨v, us, rfl, a, b⟩ := h
    rw [bdatas]
    exact .cons (BtV.dp a) (BtsV.dp b)
end
mutual
theorem dp_off (pu : Pur H p c n) (o : Off H H' p c) : ∀ {v : V} {d : PyData}, Dp K H v d → noL d = true → Dp K H' v d
  | _, _, .non, _ => .non
  | _, _, .bl b, _ => .bl b
  | _, _, .int i, _ => .int i
  | _, _, .str x, _ => .str x
  | _, _, .lst _ _, h => by
    rw [noL] at h
    cases h
  | _, _, .tup s r, h => by
    rw [noL] at h
    exact .tup (o.et pu _ _ s) (dps_off pu o r h)
theorem dps_off (pu : Pur H p c n) (o : Off H H' p c) : ∀ {vs : List V} {ds : List PyData}, DpAll K H vs ds → noLs ds = true → DpAll K H' vs ds
  | _, _, .nil, _ => .nil
  | _, _, .cons a b, h => by
    rw [noLs, Bool.and_eq_true] at h
    exact .cons (dp_off pu o a h.1) (dps_off pu o b h.2)
end
theorem NoStr.off {v : V} (pu : Pur H p c n) (o : Off H H' p c) (h : NoStr K H v) : NoStr K H' v := by
  cases h with
  | non => exact .non
  | int i => exact .int i
  | tup h => exact .tup (o.et pu _ _ h)
theorem btv_var {a : Addr} {x : Str} (h : SqT K H a [.str "var", .str x]) : BtV K H sg (.var x) (.ref a) := by
  rw [BtV]
  exact ⟨a, rfl, h⟩
theorem btv_deed {a b : Addr} {f : Str} {ts : List Bt} {us : List V} (h : SqT K H a [.str "deed", .str f, .ref b]) (h2 : SqT K H b us) (h3 : BtsV K H sg ts us) : BtV K H sg (.deed f ts) (.ref a) := by
  rw [BtV]
  exact ⟨a, b, us, rfl, h, h2, h3⟩
theorem BtsV.app : ∀ {a b : List Bt} {us vs : List V}, BtsV K H sg a us → BtsV K H sg b vs → BtsV K H sg (a ++ b) (us ++ vs)
  | [], b, us, vs, h1, h2 => by
    rw [BtsV] at h1
    subst h1
    exact h2
  | t :: a, b, us, vs, h1, h2 => by
    rw [BtsV] at h1
    obtain ⟨v, ws, rfl, x, y⟩ := h1
    rw [List.cons_append, List.cons_append, BtsV]
    exact ⟨v, _, rfl, x, BtsV.app y h2⟩
theorem BtsV.one {t : Bt} {v : V} (h : BtV K H sg t v) : BtsV K H sg [t] [v] := by
  rw [BtsV]
  exact ⟨v, [], rfl, h, by rw [BtsV]⟩
theorem BtsV.nil : BtsV K H sg [] [] := by rw [BtsV]
theorem BtsV.take : ∀ {ts : List Bt} {us : List V} (k : Nat), BtsV K H sg ts us → BtsV K H sg (ts.take k) (us.take k)
  | [], us, k, h => by
    rw [BtsV] at h
    subst h
    rw [List.take_nil, List.take_nil]
    exact BtsV.nil
  | t :: ts, us, 0, h => BtsV.nil
  | t :: ts, us, k + 1, h => by
    rw [BtsV] at h
    obtain ⟨v, ws, rfl, x, y⟩ := h
    rw [List.take_succ_cons, List.take_succ_cons, BtsV]
    exact ⟨v, _, rfl, x, BtsV.take k y⟩
theorem BtsV.drop : ∀ {ts : List Bt} {us : List V} (k : Nat), BtsV K H sg ts us → BtsV K H sg (ts.drop k) (us.drop k)
  | [], us, k, h => by
    rw [BtsV] at h
    subst h
    rw [List.drop_nil, List.drop_nil]
    exact BtsV.nil
  | t :: ts, us, 0, h => h
  | t :: ts, us, k + 1, h => by
    rw [BtsV] at h
    obtain ⟨v, ws, rfl, x, y⟩ := h
    exact BtsV.drop k y
end
mutual
def Tm.bt : Tm → Bt
  | .var x => .var x
  | .deed f ts => .deed f (bts ts)
def bts : List Tm → List Bt
  | [] => []
  | t :: ts => t.bt :: bts ts
end
theorem bts_len : ∀ ts : List Tm, (bts ts).length = ts.length
  | [] => by rw [bts]; rfl
  | t :: ts => by rw [bts, List.length_cons, bts_len ts, List.length_cons]
mutual
theorem bt_all {K : PySem.W.Frag} {H : Hp} {sg : List (Str × Nat)} : ∀ (t : Tm) {v : V}, TmV K H t v → t.ok sg → BtV K H sg t.bt v ∧ t.bt.ok sg ∧ t.bt.fine ∧ t.bt.sz = t.sz
  | .var x, v, h, ok => by
    rw [TmV] at h
    rw [Tm.ok] at ok
    rw [Tm.bt, BtV, Bt.ok, Bt.fine, Bt.sz, Tm.sz]
    exact ⟨h, ok, trivial, rfl⟩
  | .deed f ts, v, h, ok => by
    rw [TmV] at h
    rw [Tm.ok] at ok
    obtain ⟨a, b, us, q, s, s2, r⟩ := h
    obtain ⟨x, y, z, u⟩ := bts_all ts r ok.2
    rw [Tm.bt, BtV, Bt.ok, Bt.fine, Bt.sz, Tm.sz, bts_len, u]
    exact ⟨⟨a, b, us, q, s, s2, x⟩, ⟨ok.1, y⟩, z, rfl⟩
theorem bts_all {K : PySem.W.Frag} {H : Hp} {sg : List (Str × Nat)} : ∀ (ts : List Tm) {vs : List V}, TmsV K H ts vs → oks sg ts → BtsV K H sg (bts ts) vs ∧ boks sg (bts ts) ∧ bfines (bts ts) ∧ bszs (bts ts) = szs ts
  | [], vs, h, ok => by
    rw [TmsV] at h
    rw [bts, BtsV, boks, bfines, bszs, szs]
    exact ⟨h, trivial, trivial, rfl⟩
  | t :: ts, vs, h, ok => by
    rw [TmsV] at h
    rw [oks] at ok
    obtain ⟨v, us, q, a, b⟩ := h
    obtain ⟨x, y, z, u⟩ := bt_all t a ok.1
    obtain ⟨x2, y2, z2, u2⟩ := bts_all ts b ok.2
    rw [bts, BtsV, boks, bfines, bszs, szs, u, u2]
    exact ⟨⟨v, us, q, x, x2⟩, ⟨y, y2⟩, ⟨z, z2⟩, rfl⟩
end
end K80
end
section
namespace K80
open PySem PySem.Spec PyProof.Rows L2 Evl RZ Dw M20
section
variable {P : Program} {w : World} {K : PySem.W.Frag} {mg : Str → Option Value} {base : Heap} {σ : L2.St} {H H' : Hp} {va p c : Addr} {n : Nat} {sg : List (Str × Nat)}
/-! bent things as they are built -/
def TpB (K : PySem.W.Frag) (sg : List (Str × Nat)) (ts : List Bt) (v : V) (H : Hp) : Prop := ∃ a vs, v = .ref a ∧ SqT K H a vs ∧ BtsV K H sg ts vs
theorem TpB.ex {ts : List Bt} {v : V} (e : Ex H H') (h : TpB K sg ts v H) : TpB K sg ts v H' := let ⟨a, vs, q, s, r⟩ := h; ⟨a, vs, q, ex_t e s, r.ex e⟩
/-! long ones -/
/-! another one laid -/
end
end K80
end
section
namespace K80
open PySem PySem.Spec PyProof.Rows L2 Evl RZ Dw M20
theorem gd_strN {z : Str} {n : Nat} (h : ∀ c ∈ z.cps.toList, c < 0x110000) (l : z.cps.size ≤ n) (l2 : n ≤ 100) : Gd 0 n (.str z) := by
  have g := gd_str h (Nat.le_trans l l2)
  exact ⟨g.lay, g.dep, by rw [PyData.weight]; exact l, g.its, g.sho⟩
theorem gd_small {ds : List PyData} (h : ∀ d ∈ ds, Gd 3 22 d) (l : ds.length ≤ 4) : Gd 5 100 (.tuple ds) := (gd_tup h l).mono (by decide) (by decide)
theorem gd_smallL {ds : List PyData} (h : ∀ d ∈ ds, Gd 3 22 d) (l : ds.length ≤ 4) : Gd 5 100 (.list ds) := (gd_lst h l).mono (by decide) (by decide)
theorem gd_s {z : Str} (h : (∀ c ∈ z.cps.toList, c < 0x110000) ∧ z.cps.size ≤ 22) : Gd 3 22 (.str z) := (gd_strN h.1 h.2 (by decide)).mono (by decide) (Nat.le_refl _)
theorem gd_none : Gd 3 22 .none := ⟨by rw [PyData.canLay0], by rw [PyData.depth]; decide, by rw [PyData.weight]; decide, by rw [PyData.intsShort], by rw [PyData.showable]⟩
theorem gd_bool (b : Bool) : Gd 3 22 (.bool b) := ⟨by rw [PyData.canLay0], by rw [PyData.depth]; decide, by rw [PyData.weight]; decide, by rw [PyData.intsShort], by rw [PyData.showable]⟩
def leafD (x : Str) : PyData := .tuple [.str "var", .str x]
theorem gd_leaf {x : Str} (h : x ∈ vars) : Gd 1 6 (leafD x) := by
  have a := gd_strN (z := ("var" : Str)) (n := 3) (by decide) (by decide) (by decide)
  have v1 : ∀ x ∈ vars, (∀ c ∈ x.cps.toList, c < 0x110000) ∧ x.cps.size ≤ 1 := by decide +kernel
  have b := gd_strN (z := x) (n := 1) (v1 x h).1 (v1 x h).2 (by decide)
  have g := gd_tup (k := 0) (W := 3) (L := 2) (ds := [.str "var", .str x]) (fun d hd => by
    simp only [List.mem_cons, List.not_mem_nil, or_false] at hd
    rcases hd with e | e
    · rw [e]; exact a
    · rw [e]; exact b.mono (Nat.le_refl _) (by decide)) (Nat.le_refl 2)
  refine ⟨g.lay, g.dep, ?_, g.its, g.sho⟩
  have w1 := a.wgt
  have w2 := b.wgt
  rw [leafD, PyData.weight, PyData.weightAll, PyData.weightAll, PyData.weightAll]
  omega
theorem strOk_of {z : Str} {k W : Nat} (g : Gd k W (.str z)) : PyData.strOk z = true := by
  have := g.lay
  simpa [PyData.canLay0] using this
section
variable {P : Program} {w : World} {K : PySem.W.Frag} {mg : Str → Option Value} {base : Heap} {σ : L2.St} {H H' : Hp} {va p c : Addr} {n : Nat} {sg : List (Str × Nat)}
/-- something to lay -/
def ThB (K : PySem.W.Frag) (H : Hp) (sg : List (Str × Nat)) (v : V) : Prop := ∃ b : Bt, BtV K H sg b v ∧ b.ok sg ∧ b.fine ∧ b.sz ≤ 4
theorem ThB.ex {v : V} (e : Ex H H') (h : ThB K H sg v) : ThB K H' sg v := let ⟨b, x, y⟩ := h; ⟨b, x.ex e, y⟩
theorem th_odd {v : V} {d : PyData} (hq : Dq K H v d) (nf : NF K H sg v) (g : Gd 5 100 d) : ThB K H sg v := ⟨.odd d, by rw [BtV]; exact ⟨hq, nf⟩, by rw [Bt.ok]; trivial, by rw [Bt.fine]; exact g, by rw [Bt.sz]; decide⟩
/-- a leaf -/
structure Lf (K : PySem.W.Frag) (H : Hp) (lf : Addr) (x : Str) : Prop where
  at_ : H lf = some (.tup [.str "var", .str x])
  mem : x ∈ vars
theorem Lf.ex {lf : Addr} {x : Str} (e : Ex H H') (h : Lf K H lf x) : Lf K H' lf x := ⟨e _ _ h.at_, h.mem⟩
theorem Lf.dp {lf : Addr} {x : Str} (h : Lf K H lf x) : Dp K H (.ref lf) (leafD x) := .tup (st_of h.at_) (.cons (.str _) (.cons (.str _) .nil))
theorem Lf.bt {lf : Addr} {x : Str} (h : Lf K H lf x) : BtV K H sg (.var x) (.ref lf) := btv_var (st_of h.at_)
/-- a tuple of so many leaves -/
def RpT (K : PySem.W.Frag) (H : Hp) (v : V) (xs : List V) : Prop := ∃ b, v = .ref b ∧ SqT K H b xs
theorem RpT.ex {v : V} {xs : List V} (e : Ex H H') (h : RpT K H v xs) : RpT K H' v xs := let ⟨b, q, s⟩ := h; ⟨b, q, ex_t e s⟩
theorem mem3 {α : Type} {P : α → Prop} {a b c : α} (ha : P a) (hb : P b) (hc : P c) : ∀ d ∈ [a, b, c], P d := fun d hd => by
  simp only [List.mem_cons, List.not_mem_nil, or_false] at hd
  rcases hd with e | e | e <;> rw [e] <;> assumption
theorem mem2 {α : Type} {P : α → Prop} {a b : α} (ha : P a) (hb : P b) : ∀ d ∈ [a, b], P d := fun d hd => by
  simp only [List.mem_cons, List.not_mem_nil, or_false] at hd
  rcases hd with e | e <;> rw [e] <;> assumption
theorem mem1 {α : Type} {P : α → Prop} {a : α} (ha : P a) : ∀ d ∈ [a], P d := fun d hd => by
  rw [List.mem_singleton.mp hd]
  exact ha
theorem gd_deedS : Gd 3 22 (.str ("deed" : Str)) := gd_s (by decide)
theorem gd_varS : Gd 3 22 (.str ("var" : Str)) := gd_s (by decide)
end
end K80
end
section
namespace K80
open PySem PySem.Spec PyProof.Rows L2 Evl RZ Dw M20
section
variable {P : Program} {w : World} {K : PySem.W.Frag} {mg : Str → Option Value} {base : Heap} {σ : L2.St} {H H' Hb : Hp} {va p c : Addr} {n m : Nat} {sg : List (Str × Nat)}
/-- a list of n such, new since Hb -/
def ThL (K : PySem.W.Frag) (sg : List (Str × Nat)) (Hb : Hp) (n : Nat) (v : V) (H : Hp) : Prop := ∃ (l : Addr) (xs : List V) (Hm : Hp), v = .ref l ∧ H l = some (.lst xs) ∧ xs.length = n ∧ Ex Hb Hm ∧ Hm l = none ∧ Ex Hm H ∧ ∀ x ∈ xs, ThB K Hm sg x
theorem ThL.ex {v : V} (e : Ex H H') (h : ThL K sg Hb n v H) : ThL K sg Hb n v H' := let ⟨l, xs, Hm, a, b, d, f, g, i, j⟩ := h; ⟨l, xs, Hm, a, e _ _ b, d, f, g, i.trans e, j⟩
/-! the single ones -/
theorem gd_int {i : Int} (h : i.natAbs < 1000) (hs : PyData.intsShort 13 (.int i) = true) : Gd 3 22 (.int i) := by
  have l9 : i.natAbs.log2 ≤ 9 := log_low (by omega)
  refine ⟨by rw [PyData.canLay0], by rw [PyData.depth]; decide, ?_, hs, ?_⟩
  · rw [PyData.weight]
    split <;> omega
  · rw [PyData.showable]
    exact decide_eq_true (by omega)
theorem gd_tup0 : Gd 3 22 (.tuple []) := by
  have g : Gd (0 + 1) (0 * (0 + 1)) (.tuple []) := gd_tup (fun d hd => by cases hd) (Nat.le_refl 0)
  exact g.mono (by decide) (by decide)
theorem gd_7 : Gd 3 22 (.int 7) := gd_int (by decide) (by rw [PyData.intsShort]; decide)
end
end K80
end
section
namespace K80
open PySem PySem.Spec PyProof.Rows L2 Evl RZ Dw M20
section
variable {P : Program} {w : World} {K : PySem.W.Frag} {mg : Str → Option Value} {base : Heap} {σ : L2.St} {H H' Hb : Hp} {va p c : Addr} {n m : Nat} {sg : List (Str × Nat)}
theorem name_gd {z : Str} (h : Name z) : Gd 3 22 (.str z) ∧ Gd 0 5 (.str z) ∧ Gd 3 22 (.str (z ++ "a")) := by
  have l4 : z.cps.size ≤ 4 := h.l4
  have cp := name_cps h
  refine ⟨gd_s ⟨cp, by omega⟩, gd_strN cp (by omega) (by decide), gd_s ⟨fun c hc => ?_, ?_⟩⟩
  · have : (z ++ ("a" : Str)).cps.toList = z.cps.toList ++ [97] := by
      show (z.cps ++ ("a" : Str).cps).toList = _
      rw [Array.toList_append]
      rfl
    rw [this] at hc
    rcases List.mem_append.mp hc with y | y
    · exact cp c y
    · rw [List.mem_singleton.mp y]
      decide
  · show (z.cps ++ ("a" : Str).cps).size ≤ 22
    rw [Array.size_append]
    show z.cps.size + 1 ≤ 22
    omega
end
end K80
end
section
namespace K80
open PySem PySem.Spec PyProof.Rows L2 Evl RZ Dw M20
section
variable {P : Program} {w : World} {K : PySem.W.Frag} {mg : Str → Option Value} {base : Heap} {σ : L2.St} {H H' Hb : Hp} {P0 B0 T0 G0 a1 a2 a3 a4 a5 a6 : Addr} {sg : List (Str × Nat)}
end
end K80
end
section
namespace K80
open PySem PySem.Spec PyProof.Rows L2 Evl RZ Dw M20
/-! data whose lists are none of the purse's -/
mutual
inductive Dz (K : PySem.W.Frag) (p c : Addr) (H : Hp) : V → PyData → Prop where
  | non : Dz K p c H .non .none
  | bl (b : Bool) : Dz K p c H (.bl b) (.bool b)
  | int (i : Int) : Dz K p c H (.int i) (.int i)
  | str (x : Str) : Dz K p c H (.str x) (.str x)
  | lst {a : Addr} {xs : List V} {ds : List PyData} (h : H a = some (.lst xs)) (hp : a ≠ p) (hc : a ≠ c) (r : DzAll K p c H xs ds) : Dz K p c H (.ref a) (.list ds)
  | tup {a : Addr} {xs : List V} {ds : List PyData} (h : SqT K H a xs) (r : DzAll K p c H xs ds) : Dz K p c H (.ref a) (.tuple ds)
inductive DzAll (K : PySem.W.Frag) (p c : Addr) (H : Hp) : List V → List PyData → Prop where
  | nil : DzAll K p c H [] []
  | cons {v : V} {vs : List V} {d : PyData} {ds : List PyData} (a : Dz K p c H v d) (b : DzAll K p c H vs ds) : DzAll K p c H (v :: vs) (d :: ds)
end
section
variable {P : Program} {w : World} {K : PySem.W.Frag} {mg : Str → Option Value} {base : Heap} {σ : L2.St} {H H' : Hp} {p c : Addr} {n : Nat} {v : V} {d : PyData}
mutual
theorem Dz.dp : ∀ {v : V} {d : PyData}, Dz K p c H v d → Dp K H v d
  | _, _, .non => .non
  | _, _, .bl b => .bl b
  | _, _, .int i => .int i
  | _, _, .str x => .str x
  | _, _, .lst h _ _ r => .lst (sq_of h) (DzAll.dp r)
  | _, _, .tup h r => .tup h (DzAll.dp r)
theorem DzAll.dp : ∀ {vs : List V} {ds : List PyData}, DzAll K p c H vs ds → DpAll K H vs ds
  | _, _, .nil => .nil
  | _, _, .cons a b => .cons (Dz.dp a) (DzAll.dp b)
end
mutual
theorem Dz.ex (e : Ex H H') : ∀ {v : V} {d : PyData}, Dz K p c H v d → Dz K p c H' v d
  | _, _, .non => .non
  | _, _, .bl b => .bl b
  | _, _, .int i => .int i
  | _, _, .str x => .str x
  | _, _, .lst h hp hc r => .lst (e _ _ h) hp hc (DzAll.ex e r)
  | _, _, .tup h r => .tup (ex_t e h) (DzAll.ex e r)
theorem DzAll.ex (e : Ex H H') : ∀ {vs : List V} {ds : List PyData}, DzAll K p c H vs ds → DzAll K p c H' vs ds
  | _, _, .nil => .nil
  | _, _, .cons a b => .cons (Dz.ex e a) (DzAll.ex e b)
end
mutual
theorem Dz.off (pu : Pur H p c n) (o : Off H H' p c) : ∀ {v : V} {d : PyData}, Dz K p c H v d → Dz K p c H' v d
  | _, _, .non => .non
  | _, _, .bl b => .bl b
  | _, _, .int i => .int i
  | _, _, .str x => .str x
  | _, _, .lst h hp hc r => .lst (o _ _ hp hc h) hp hc (DzAll.off pu o r)
  | _, _, .tup h r => .tup (o.et pu _ _ h) (DzAll.off pu o r)
theorem DzAll.off (pu : Pur H p c n) (o : Off H H' p c) : ∀ {vs : List V} {ds : List PyData}, DzAll K p c H vs ds → DzAll K p c H' vs ds
  | _, _, .nil => .nil
  | _, _, .cons a b => .cons (Dz.off pu o a) (DzAll.off pu o b)
end
theorem DzAll.len : ∀ {vs : List V} {ds : List PyData}, DzAll K p c H vs ds → vs.length = ds.length
  | _, _, .nil => rfl
  | _, _, .cons a b => by rw [List.length_cons, List.length_cons, DzAll.len b]
theorem DzAll.get : ∀ {vs : List V} {ds : List PyData} {k : Nat} {x : V}, DzAll K p c H vs ds → vs[k]? = some x → ∃ e, ds[k]? = some e ∧ Dz K p c H x e
  | _, _, k, _, .nil, h => by
    rw [List.getElem?_nil] at h
    cases h
  | _, _, 0, x, .cons a b, h => by
    cases Option.some.inj h
    exact ⟨_, rfl, a⟩
  | _, _, k + 1, x, .cons a b, h => DzAll.get (k := k) b h
theorem DzAll.put : ∀ {vs : List V} {ds : List PyData} {k : Nat} {e : PyData}, DzAll K p c H vs ds → ds[k]? = some e → ∃ x, vs[k]? = some x ∧ Dz K p c H x e
  | _, _, k, _, .nil, h => by
    rw [List.getElem?_nil] at h
    cases h
  | _, _, 0, x, .cons a b, h => by
    cases Option.some.inj h
    exact ⟨_, rfl, a⟩
  | _, _, k + 1, x, .cons a b, h => DzAll.put (k := k) b h
theorem DzAll.app : ∀ {vs us : List V} {ds es : List PyData}, DzAll K p c H vs ds → DzAll K p c H us es → DzAll K p c H (vs ++ us) (ds ++ es)
  | _, _, _, _, .nil, h => h
  | _, _, _, _, .cons a b, h => .cons a (DzAll.app b h)
theorem DzAll.take : ∀ {vs : List V} {ds : List PyData} (k : Nat), DzAll K p c H vs ds → DzAll K p c H (vs.take k) (ds.take k)
  | _, _, k, .nil => by
    rw [List.take_nil, List.take_nil]
    exact .nil
  | _, _, 0, .cons a b => .nil
  | _, _, k + 1, .cons a b => .cons a (DzAll.take k b)
theorem DzAll.drop : ∀ {vs : List V} {ds : List PyData} (k : Nat), DzAll K p c H vs ds → DzAll K p c H (vs.drop k) (ds.drop k)
  | _, _, k, .nil => by
    rw [List.drop_nil, List.drop_nil]
    exact .nil
  | _, _, 0, .cons a b => .cons a b
  | _, _, k + 1, .cons a b => DzAll.drop k b
/-! bounded data, ints of up to forty signs -/
structure Gb (k W : Nat) (d : PyData) : Prop where
  lay : d.canLay0 = true
  dep : d.depth ≤ k
  wgt : d.weight ≤ W
  its : d.intsShort 40 = true
  sho : d.showable = true
theorem Gb.mono {k W k' W' : Nat} {d : PyData} (h : Gb k W d) (a : k ≤ k') (b : W ≤ W') : Gb k' W' d := ⟨h.lay, Nat.le_trans h.dep a, Nat.le_trans h.wgt b, h.its, h.sho⟩
mutual
theorem ints_mono : ∀ d : PyData, d.intsShort 13 = true → d.intsShort 40 = true
  | .none, _ => by rw [PyData.intsShort]
  | .bool _, _ => by rw [PyData.intsShort]
  | .str _, _ => by rw [PyData.intsShort]
  | .dict _, _ => by rw [PyData.intsShort]
  | .int i, h => by
    rw [PyData.intsShort, decide_eq_true_eq] at h ⊢
    omega
  | .list xs, h => by
    rw [PyData.intsShort] at h ⊢
    exact ints_monos xs h
  | .tuple xs, h => by
    rw [PyData.intsShort] at h ⊢
    exact ints_monos xs h
theorem ints_monos : ∀ ds : List PyData, PyData.intsShortAll 13 ds = true → PyData.intsShortAll 40 ds = true
  | [], _ => by rw [PyData.intsShortAll]
  | d :: ds, h => by
    rw [PyData.intsShortAll, Bool.and_eq_true] at h ⊢
    exact ⟨ints_mono d h.1, ints_monos ds h.2⟩
end
theorem Gd.gb {k W : Nat} {d : PyData} (h : Gd k W d) : Gb k W d := ⟨h.lay, h.dep, h.wgt, ints_mono d h.its, h.sho⟩
theorem Gb.len {k W : Nat} {d : PyData} (h : Gb k W d) (b : W ≤ 100000) : d.shown.length ≤ sizeLine := by
  have z := PyData.shown_le 40 (by decide) d (PyData.leavesShort_of_canLay0 40 d h.lay h.its)
  have y := h.wgt
  rw [sizeLine_eq]
  omega
/-! what isinstance says -/
def isTup : PyData → Bool
  | .tuple _ => true
  | _ => false
def wholeB : PyData → Bool
  | .int _ => true
  | _ => false
theorem ev_isTup {ta tb : TE} (ha : Ev ta σ H v) (hc : Ev tb σ H (.ty "tuple")) (h : Dz K p c H v d) : Ev (tCB (rIsi K) (tCons ta (tCons tb tNil))) σ H (.bl (isTup d)) := by
  cases h with
  | non => exact ev_isi (b := false) ha hc (.ty _) (fun _ _ => tyx_non) (kit_ty (by decide +kernel))
  | bl b => exact ev_isi (b := false) ha hc (.ty _) (fun _ _ => tyx_bl b) (kit_ty (by decide +kernel))
  | int i => exact ev_isi (b := false) ha hc (.ty _) (fun _ _ => tyx_int i) (kit_ty (by decide +kernel))
  | str z => exact ev_isi (b := false) ha hc (.ty _) (fun _ _ => tyx_str z) (kit_ty (by decide +kernel))
  | lst h _ _ _ => exact ev_isi (b := false) ha hc (.ty _) (fun _ e => .base (.lst (e _ _ h))) (kit_ty (by decide +kernel))
  | tup h _ => exact ev_isi (b := true) ha hc (.ty _) (fun _ e => tyx_tup (ex_t e h)) (kit_ty (by decide +kernel))
theorem ev_isIntB {ta tb tc td : TE} (ha : Ev ta σ H v) (hc : Ev tb σ H (.ty "int")) (ha2 : Ev tc σ H v) (hc2 : Ev td σ H (.ty "bool")) (h : Dz K p c H v d) : Ev (tAndV (tCB (rIsi K) (tCons ta (tCons tb tNil))) (tNotV (tCB (rIsi K) (tCons tc (tCons td tNil))))) σ H (.bl (wholeB d)) := by
  cases h with
  | non => exact ev_andV (a := false) (b := false) (ev_isi ha hc (.ty _) (fun _ _ => tyx_non) (kit_ty (by decide +kernel))) (fun z => by cases z)
  | bl b => exact ev_andV (a := true) (b := false) (ev_isi ha hc (.ty _) (fun _ _ => tyx_bl b) (kit_ty (by decide +kernel))) (fun _ => ev_notV (a := true) (ev_isi ha2 hc2 (.ty _) (fun _ _ => tyx_bl b) (kit_ty (by decide +kernel))))
  | int i => exact ev_andV (a := true) (b := true) (ev_isi ha hc (.ty _) (fun _ _ => tyx_int i) (kit_ty (by decide +kernel))) (fun _ => ev_notV (a := false) (ev_isi ha2 hc2 (.ty _) (fun _ _ => tyx_int i) (kit_ty (by decide +kernel))))
  | str z => exact ev_andV (a := false) (b := false) (ev_isi ha hc (.ty _) (fun _ _ => tyx_str z) (kit_ty (by decide +kernel))) (fun z => by cases z)
  | lst h _ _ _ => exact ev_andV (a := false) (b := false) (ev_isi ha hc (.ty _) (fun _ e => .base (.lst (e _ _ h))) (kit_ty (by decide +kernel))) (fun z => by cases z)
  | tup h _ => exact ev_andV (a := false) (b := false) (ev_isi ha hc (.ty _) (fun _ e => tyx_tup (ex_t e h)) (kit_ty (by decide +kernel))) (fun z => by cases z)
end
def inL (x : Nat) : Bool := decide (x ∈ letters.cps.toList)
def nameB : PyData → Bool
  | .str z => decide (1 ≤ z.length) && decide (z.length ≤ 4) && z.cps.toList.all inL
  | _ => false
def belowB (n : Int) : PyData → Bool
  | .int i => decide (0 ≤ i) && decide (i < n)
  | _ => false
def deedB : PyData → Bool
  | .tuple [a, b] => nameB a && belowB 3 b
  | _ => false
def nameOf : PyData → Str
  | .tuple (.str z :: _) => z
  | _ => ""
def oddK (ds : List PyData) : List Nat := (List.range ds.length).filter fun k => !deedB (ds.getD k .none)
def twiceK (ns : List Str) : List Nat := (List.range ns.length).filter fun k => decide (ns.getD k "" ∈ ns.take k)
def dK2 (w : Str) (k : Nat) : PyData := .tuple [.str w, .int ((k : Nat) : Int)]
def sigW : PyData → PyData
  | .tuple ds => if 1 ≤ ds.length ∧ ds.length ≤ 4 then (match oddK ds with
    | k :: _ => dK2 "deed" k
    | [] => match twiceK (ds.map nameOf) with
      | k :: _ => dK2 "twice" k
      | [] => .none) else .tuple [.str "signature"]
  | _ => .tuple [.str "signature"]
theorem filt_first {f : Nat → Bool} {n i : Nat} (hi : i < n) (h0 : ∀ j, j < i → f j = false) (h1 : f i = true) : ∃ r, (List.range n).filter f = i :: r := by
  obtain ⟨m, rfl⟩ : ∃ m, n = i + (m + 1) := ⟨n - i - 1, by omega⟩
  rw [List.range_add, List.filter_append]
  have e : (List.range i).filter f = [] := List.filter_eq_nil_iff.mpr (fun j hj => by rw [h0 j (List.mem_range.mp hj)]; decide)
  rw [e, List.nil_append, List.range_succ_eq_map, List.map_cons, List.filter_cons_of_pos (by rw [Nat.add_zero]; exact h1)]
  exact ⟨_, rfl⟩
theorem filt_none {f : Nat → Bool} {n : Nat} (h0 : ∀ j, j < n → f j = false) : (List.range n).filter f = [] := List.filter_eq_nil_iff.mpr (fun j hj => by rw [h0 j (List.mem_range.mp hj)]; decide)
section
variable {P : Program} {w : World} {K : PySem.W.Frag} {mg : Str → Option Value} {base : Heap} {σ : L2.St} {H H' : Hp} {p c : Addr} {n : Nat} {v : V} {d : PyData}
def sp_whole_any (K : PySem.W.Frag) : Sp := spX (fun (z : (Addr × Addr) × PyData) vs H => (fun (p c : Addr) (d : PyData) => ∃ v, vs = [v] ∧ Dz K p c H v d) z.1.1 z.1.2 z.2) (fun z v H => (fun (d : PyData) => v = .bl (wholeB d)) z.2)
theorem c_whole_any (T : Txt mg) (D : Df K mg "is_whole" s_is_whole ["thing"]) : Cl P w K mg base 1 "is_whole" (sp_whole_any K) := by
  refine cl_of (k := 0) D sc_is_whole (fun vs H Q E h => ?_) (fun f cdv A outer s H vs Q E hr h => ?_)
  · obtain ⟨d, ⟨v, rfl, _⟩, _⟩ := h
    rfl
  · obtain ⟨⟨⟨p, c⟩, d⟩, ⟨v, rfl, hv⟩, q⟩ := h
    refine ⟨_, (pss_one (ps_ret (pe_and (pe_callB call_isi (by rfl) T.z_isinstance (by decide +kernel) (pa_cons (pv 0) (pa_cons (pe_ty "int" (by rfl) T.z_int (by decide +kernel)) pa_nil))) (pe_one (pe_not (pe_callB call_isi (by rfl) T.z_isinstance (by decide +kernel) (pa_cons (pv 0) (pa_cons (pe_ty "bool" (by rfl) T.z_bool (by decide +kernel)) pa_nil)))))))), ?_⟩
    exact s_ret (ev_isIntB (K := K) (ev_var rfl) ev_c (ev_var rfl) ev_c hv) fun H1 e1 => q _ H1 e1 rfl
theorem whole_int (h : Dz K p c H v d) (w : wholeB d = true) : ∃ i, v = .int i ∧ d = .int i := by
  cases h with
  | int i => exact ⟨i, rfl, rfl⟩
  | non => cases w
  | bl b => cases w
  | str z => cases w
  | lst _ _ _ _ => cases w
  | tup _ _ => cases w
def sp_below_any (K : PySem.W.Frag) : Sp := spX (fun (z : (Addr × Addr) × PyData × Int) vs H => (fun (p c : Addr) (q : PyData × Int) => ∃ v, vs = [v, .int q.2] ∧ Dz K p c H v q.1) z.1.1 z.1.2 z.2) (fun z v H => (fun (q : PyData × Int) => v = .bl (belowB q.2 q.1)) z.2)
theorem c_below_any (T : Txt mg) (D : Df K mg "is_below" s_is_below ["thing", "size"]) (c_whole_any : Cl P w K mg base 1 "is_whole" (sp_whole_any K)) : Cl P w K mg base 2 "is_below" (sp_below_any K) := by
  refine cl_of (k := 1) D sc_is_below (fun vs H Q E h => ?_) (fun f cdv A outer s H vs Q E hr h => ?_)
  · obtain ⟨d, ⟨v, rfl, _⟩, _⟩ := h
    rfl
  · obtain ⟨⟨⟨p, c⟩, d, n⟩, ⟨v, rfl, hv⟩, q⟩ := h
    have c_is_whole := c_whole_any
    refine ⟨_, (pss_one (ps_ret (pe_and (pe_cl c_is_whole hr (by first | decide | omega) (by rfl) (pa_cons (pv 0) pa_nil)) (pe_one (pe_chain op_le op_lt pe_int (pv 0) (pv 1)))))), ?_⟩
    replace hv : Dz K p c H v d := hv
    replace q : ∀ r H', Ex H H' → r = .bl (belowB n d) → Q r H' := q
    by_cases hw : wholeB d = true
    · obtain ⟨i, rfl, rfl⟩ := whole_int hv hw
      refine s_ret (ev_andV (a := true) (b := belowB n (.int i)) (ev_callV (v := .bl true) ((p, c), PyData.int i) (ea_cons (ev_var rfl) ea_nil) (fun H1 e1 => ⟨_, rfl, .int i⟩) (fun _ _ z => z.trans rfl)) (fun _ => ev_chain ev_c (ev_var rfl) (fun _ => ev_var rfl) rv_I0 (fun _ => rv_I0))) fun H1 e1 => q _ H1 e1 rfl
    · have hw2 : wholeB d = false := by simpa using hw
      refine s_ret (ev_andV (a := false) (b := false) (ev_callV (v := .bl false) ((p, c), d) (ea_cons (ev_var rfl) ea_nil) (fun H1 e1 => ⟨_, rfl, hv.ex e1⟩) (fun _ _ z => by rw [z, hw2])) (fun z => by cases z)) fun H1 e1 => q _ H1 e1 ?_
      cases d <;> first | rfl | cases hw2
end
end K80
end
section
namespace K80
open PySem PySem.Spec PyProof.Rows L2 Evl RZ Dw M20
section
variable {P : Program} {w : World} {K : PySem.W.Frag} {mg : Str → Option Value} {base : Heap} {σ : L2.St} {H H' : Hp} {p c : Addr} {n : Nat} {v : V} {d : PyData} {P0 B0 T0 G0 S0 : Addr}
theorem tup_of (h : Dz K p c H v d) (hs : isTup d = true) : ∃ a us ds, v = .ref a ∧ d = .tuple ds ∧ SqT K H a us ∧ DzAll K p c H us ds := by
  cases h with
  | @tup a us ds hS r => exact ⟨a, us, ds, rfl, rfl, hS, r⟩
  | non => cases hs
  | bl b => cases hs
  | int i => cases hs
  | str z => cases hs
  | lst _ _ _ _ => cases hs
end
end K80
end
section
namespace K80
open PySem PySem.Spec PyProof.Rows L2 Evl RZ Dw M20
section
variable {P : Program} {w : World} {K : PySem.W.Frag} {mg : Str → Option Value} {base : Heap} {σ : L2.St} {H H' : Hp} {p c : Addr} {n : Nat} {v : V} {d : PyData} {S0 G0 a1 a2 a3 a4 a5 a6 a7 a8 : Addr}
theorem two_of {α : Type} {r : List α} (l : r.length = 2) : ∃ x y, r = [x, y] := by
  match r, l with
  | [x, y], _ => exact ⟨x, y, rfl⟩
end
end K80
end
section
namespace K80
open PySem PySem.Spec PyProof.Rows L2 Evl RZ Dw M20
section
variable {P : Program} {w : World} {K : PySem.W.Frag} {mg : Str → Option Value} {base : Heap} {σ : L2.St} {H H' : Hp} {p c : Addr} {n : Nat} {v : V} {d : PyData}
end
end K80
end
section
namespace K80
open PySem PySem.Spec PyProof.Rows L2 Evl RZ Dw M20
section
variable {P : Program} {w : World} {K : PySem.W.Frag} {mg : Str → Option Value} {base : Heap} {σ : L2.St} {H H' : Hp} {p c : Addr} {n : Nat} {v : V} {d : PyData}
end
end K80
end
section
namespace K80
open PySem PySem.Spec PyProof.Rows L2 Evl RZ Dw M20
/-! bounded rows of data -/
structure GbA (k W : Nat) (ds : List PyData) : Prop where
  lay : PyData.canLayAll0 ds = true
  dep : PyData.depthAll ds ≤ k
  wgt : PyData.weightAll ds ≤ W
  its : PyData.intsShortAll 40 ds = true
  sho : PyData.showableAll ds = true
theorem GbA.mono {k W k' W' : Nat} {d : List PyData} (h : GbA k W d) (a : k ≤ k') (b : W ≤ W') : GbA k' W' d := ⟨h.lay, Nat.le_trans h.dep a, Nat.le_trans h.wgt b, h.its, h.sho⟩
theorem gba_nil : GbA 0 0 [] := ⟨by rw [PyData.canLayAll0], by rw [PyData.depthAll]; exact Nat.le_refl _, by rw [PyData.weightAll]; exact Nat.le_refl _, by rw [PyData.intsShortAll], by rw [PyData.showableAll]⟩
theorem gba_cons {k W W' : Nat} {d : PyData} {ds : List PyData} (g : Gb k W d) (h : GbA k W' ds) : GbA k (W + 1 + W') (d :: ds) := by
  have g1 := g.dep
  have g2 := g.wgt
  have h1 := h.dep
  have h2 := h.wgt
  exact ⟨by rw [PyData.canLayAll0, g.lay, h.lay]; rfl, by rw [PyData.depthAll]; omega, by rw [PyData.weightAll]; omega, by rw [PyData.intsShortAll, g.its, h.its]; rfl, by rw [PyData.showableAll, g.sho, h.sho]; rfl⟩
theorem gba_one {k W : Nat} {d : PyData} (g : Gb k W d) : GbA k (W + 1) [d] := gba_cons g (gba_nil.mono (Nat.zero_le _) (Nat.le_refl _))
theorem gb_tup {k W : Nat} {ds : List PyData} (h : GbA k W ds) : Gb (k + 1) W (.tuple ds) := ⟨by rw [PyData.canLay0]; exact h.lay, by rw [PyData.depth]; have := h.dep; omega, by rw [PyData.weight]; exact h.wgt, by rw [PyData.intsShort]; exact h.its, by rw [PyData.showable]; exact h.sho⟩
theorem gb_lst {k W : Nat} {ds : List PyData} (h : GbA k W ds) : Gb (k + 1) W (.list ds) := ⟨by rw [PyData.canLay0]; exact h.lay, by rw [PyData.depth]; have := h.dep; omega, by rw [PyData.weight]; exact h.wgt, by rw [PyData.intsShort]; exact h.its, by rw [PyData.showable]; exact h.sho⟩
section
variable {P : Program} {w : World} {K : PySem.W.Frag} {mg : Str → Option Value} {base : Heap} {σ : L2.St} {H H' Hb : Hp} {p c : Addr} {n m k W : Nat} {v : V} {d : PyData}
/-- data of bounded size -/
def ThZ (K : PySem.W.Frag) (p c : Addr) (k W : Nat) (v : V) (H : Hp) : Prop := ∃ d, Dz K p c H v d ∧ Gb k W d
theorem ThZ.ex (e : Ex H H') (h : ThZ K p c k W v H) : ThZ K p c k W v H' := let ⟨d, x, y⟩ := h; ⟨d, x.ex e, y⟩
theorem ThZ.off (pu : Pur H p c n) (o : Off H H' p c) (h : ThZ K p c k W v H) : ThZ K p c k W v H' := let ⟨d, x, y⟩ := h; ⟨d, x.off pu o, y⟩
theorem ThZ.mono {k' W' : Nat} (h : ThZ K p c k W v H) (a : k ≤ k') (b : W ≤ W') : ThZ K p c k' W' v H := let ⟨d, x, y⟩ := h; ⟨d, x, y.mono a b⟩
/-- a tuple of so many values, bounded -/
def RwZ (K : PySem.W.Frag) (p c : Addr) (k W : Nat) (vs : List V) (H : Hp) : Prop := ∃ ds, DzAll K p c H vs ds ∧ GbA k W ds
theorem RwZ.ex {vs : List V} (e : Ex H H') (h : RwZ K p c k W vs H) : RwZ K p c k W vs H' := let ⟨ds, x, y⟩ := h; ⟨ds, x.ex e, y⟩
end
end K80
end
section
namespace K80
open PySem PySem.Spec PyProof.Rows L2 Evl RZ Dw M20
section
variable {P : Program} {w : World} {K : PySem.W.Frag} {mg : Str → Option Value} {base : Heap} {σ : L2.St} {H H' Hb : Hp} {p c : Addr} {n m k W : Nat} {v : V} {d : PyData}
/-- a list of so many such -/
def LsZ (K : PySem.W.Frag) (p c : Addr) (k W n : Nat) (v : V) (H : Hp) : Prop := ∃ (l : Addr) (vs : List V), v = .ref l ∧ H l = some (.lst vs) ∧ l ≠ p ∧ l ≠ c ∧ vs.length = n ∧ ∀ x ∈ vs, ThZ K p c k W x H
theorem LsZ.ex (e : Ex H H') (h : LsZ K p c k W n v H) : LsZ K p c k W n v H' := let ⟨l, vs, a, b, d, f, g, i⟩ := h; ⟨l, vs, a, e _ _ b, d, f, g, fun x hx => (i x hx).ex e⟩
theorem shapedB {k W : Nat} {d : PyData} (h : Gb k W d) (a : k ≤ 60) : SeqAt.shaped d = true := by
  have dp := h.dep
  show (d.canLay0 && decide (d.depth ≤ 64)) = true
  rw [h.lay, decide_eq_true (show d.depth ≤ 64 by omega)]
  rfl
end
end K80
end
section
namespace K80
open PySem PySem.Spec PyProof.Rows L2 Evl RZ Dw M20
section
variable {P : Program} {w : World} {K : PySem.W.Frag} {mg : Str → Option Value} {base : Heap} {σ : L2.St} {H H' Hb : Hp} {p c : Addr} {n m k W : Nat} {v : V} {d : PyData} {S0 G0 a1 a2 a3 a4 a5 a6 a7 a8 : Addr}
end
end K80
end
section
namespace K80
open PySem PySem.Spec PyProof.Rows L2 Evl RZ Dw M20
/-! what is wrong in a model, as data -/
def sizeB : PyData → Bool
  | .int i => decide (1 ≤ i) && decide (i ≤ 6)
  | _ => false
def cellsOf : PyData → List PyData
  | .tuple cs => cs
  | _ => []
def tableB (n pl : Nat) : PyData → Bool
  | .tuple cs => decide (cs.length = n ^ pl)
  | _ => false
def plOf (sg : List (Str × Nat)) (k : Nat) : Nat := (sg.getD k ("", 0)).2
def badK (sg : List (Str × Nat)) (n : Nat) (tds : List PyData) : List Nat := (List.range sg.length).filter fun k => !tableB n (plOf sg k) (tds.getD k .none)
def oddRow (n : Nat) (cs : List PyData) : List Nat := (List.range cs.length).filter fun j => !belowB (n : Int) (cs.getD j .none)
def oddT (n : Nat) (tds : List PyData) : List Nat := (List.range tds.length).filter fun k => !(oddRow n (cellsOf (tds.getD k .none))).isEmpty
def intD (k : Nat) : PyData := .int ((k : Nat) : Int)
/-- the first odd cell -/
def oddW (n : Nat) (tds : List PyData) : Option (Nat × Nat) := match oddT n tds with
  | k :: _ => match oddRow n (cellsOf (tds.getD k .none)) with
    | j :: _ => some (k, j)
    | [] => none
  | [] => none
def modW4 (sg : List (Str × Nat)) (n : Nat) (tds : List PyData) : PyData := match badK sg n tds with
  | k :: _ => .tuple [.str "table", intD k]
  | [] => match oddW n tds with
    | some (k, j) => .tuple [.str "cell", intD k, intD j]
    | none => .none
def modW3 (sg : List (Str × Nat)) : PyData → PyData → PyData
  | .int i, .tuple tds => if tds.length = sg.length then modW4 sg i.toNat tds else .tuple [.str "tables"]
  | _, _ => .tuple [.str "tables"]
def modW2 (sg : List (Str × Nat)) (s t : PyData) : PyData := if sizeB s = true then modW3 sg s t else .tuple [.str "size"]
def modW (sg : List (Str × Nat)) : PyData → PyData
  | .tuple [s, t] => modW2 sg s t
  | _ => .tuple [.str "model"]
theorem oddRow_none {n : Nat} {cs : List PyData} (h : ∀ j, j < cs.length → belowB (n : Int) (cs.getD j .none) = true) : oddRow n cs = [] := filt_none (fun j hj => by rw [h j hj]; rfl)
theorem oddRow_first {n i : Nat} {cs : List PyData} (hi : i < cs.length) (h0 : ∀ j, j < i → belowB (n : Int) (cs.getD j .none) = true) (h1 : belowB (n : Int) (cs.getD i .none) = false) : ∃ r, oddRow n cs = i :: r := filt_first hi (fun j hj => by rw [h0 j hj]; rfl) (by rw [h1]; rfl)
theorem oddT_none {n : Nat} {tds : List PyData} (h : ∀ k, k < tds.length → oddRow n (cellsOf (tds.getD k .none)) = []) : oddW n tds = none := by
  have e : oddT n tds = [] := filt_none (fun k hk => by rw [h k hk]; rfl)
  rw [oddW, e]
theorem oddT_first {n k j : Nat} {tds : List PyData} {r : List Nat} (hk : k < tds.length) (h0 : ∀ i, i < k → oddRow n (cellsOf (tds.getD i .none)) = []) (h1 : oddRow n (cellsOf (tds.getD k .none)) = j :: r) : oddW n tds = some (k, j) := by
  obtain ⟨r2, e⟩ : ∃ r2, oddT n tds = k :: r2 := filt_first hk (fun i hi => by rw [h0 i hi]; rfl) (by rw [h1]; rfl)
  rw [oddW, e]
  show (match oddRow n (cellsOf (tds.getD k .none)) with
    | j :: _ => some (k, j)
    | [] => none) = some (k, j)
  rw [h1]
section
variable {P : Program} {w : World} {K : PySem.W.Frag} {mg : Str → Option Value} {base : Heap} {σ : L2.St} {H H' Hb : Hp} {p c : Addr} {n m k W : Nat} {v : V} {d : PyData}
def sp_size_any (K : PySem.W.Frag) : Sp := spX (fun (z : (Addr × Addr) × PyData) vs H => ∃ v, vs = [v] ∧ Dz K z.1.1 z.1.2 H v z.2) (fun z v H => v = .bl (sizeB z.2))
theorem c_size_any (T : Txt mg) (D : Df K mg "is_size" s_is_size ["thing"]) (c_whole_any : Cl P w K mg base 1 "is_whole" (sp_whole_any K)) : Cl P w K mg base 2 "is_size" (sp_size_any K) := by
  refine cl_of (k := 1) D sc_is_size (fun vs H Q E h => ?_) (fun f cdv A outer s H vs Q E hr h => ?_)
  · obtain ⟨d, ⟨v, rfl, _⟩, _⟩ := h
    rfl
  · obtain ⟨⟨⟨p, c⟩, d⟩, ⟨v, rfl, hv⟩, q⟩ := h
    have c_is_whole := c_whole_any
    refine ⟨_, (pss_one (ps_ret (pe_and (pe_cl c_is_whole hr (by first | decide | omega) (by rfl) (pa_cons (pv 0) pa_nil)) (pe_one (pe_chain op_le op_le pe_int (pv 0) (pe_gi (by rfl) T.c_MOST_SIZE)))))), ?_⟩
    replace hv : Dz K p c H v d := hv
    replace q : ∀ r H', Ex H H' → r = .bl (sizeB d) → Q r H' := q
    by_cases hw : wholeB d = true
    · obtain ⟨i, rfl, rfl⟩ := whole_int hv hw
      refine s_ret (ev_andV (a := true) (b := sizeB (.int i)) (ev_callV (v := .bl true) ((p, c), PyData.int i) (ea_cons (ev_var rfl) ea_nil) (fun H1 e1 => ⟨_, rfl, .int i⟩) (fun _ _ z => z.trans rfl)) (fun _ => ev_chain ev_c (ev_var rfl) (fun _ => ev_c) rv_I0 (fun _ => rv_I0))) fun H1 e1 => q _ H1 e1 rfl
    · have hw2 : wholeB d = false := by simpa using hw
      refine s_ret (ev_andV (a := false) (b := false) (ev_callV (v := .bl false) ((p, c), d) (ea_cons (ev_var rfl) ea_nil) (fun H1 e1 => ⟨_, rfl, hv.ex e1⟩) (fun _ _ z => by rw [z, hw2])) (fun z => by cases z)) fun H1 e1 => q _ H1 e1 ?_
      cases d <;> first | rfl | cases hw2
/-- what first_odd_cell tells -/
def oddD (n : Nat) (tds : List PyData) : PyData := match oddW n tds with
  | some (k, j) => .tuple [intD k, intD j]
  | none => .none
theorem put_get {us : List V} {ds : List PyData} (r : DzAll K p c H us ds) {i : Nat} {x : V} (hx : us[i]? = some x) : i < ds.length ∧ ∃ x', ds[i]? = some x' ∧ ds.getD i .none = x' ∧ Dz K p c H x x' := by
  obtain ⟨x', ex', dx⟩ := r.get hx
  exact ⟨(List.getElem?_eq_some_iff.mp ex').1, x', ex', by rw [List.getD_eq_getElem?_getD, ex']; rfl, dx⟩
def sp_odd_any (K : PySem.W.Frag) : Sp := spX (fun (z : (Addr × Addr) × Nat × List PyData) vs H => (∃ a us, vs = [vi z.2.1, .ref a] ∧ SqT K H a us ∧ DzAll K z.1.1 z.1.2 H us z.2.2) ∧ ∀ t ∈ z.2.2, isTup t = true) (fun z v H => Dp K H v (oddD z.2.1 z.2.2))
theorem c_odd_any (T : Txt mg) (D : Df K mg "first_odd_cell" s_first_odd_cell ["size", "tables"]) (c_below_any : Cl P w K mg base 2 "is_below" (sp_below_any K)) : Cl P w K mg base 3 "first_odd_cell" (sp_odd_any K) := by
  refine cl_of (k := 2) D sc_first_odd_cell (fun vs H Q E h => ?_) (fun f cdv A outer s H vs Q E hr h => ?_)
  · obtain ⟨z, ⟨⟨a, us, rfl, _⟩, _⟩, _⟩ := h
    rfl
  · obtain ⟨⟨⟨p, c⟩, n, tds⟩, ⟨⟨a, us, rfl, hS, r⟩, tups⟩, q⟩ := h
    have c_is_below := c_below_any
    refine ⟨_, (pss_cons (ps_for PassesOwn.never (by rfl) (pi_enumT (by rfl) T.z_enumerate (pa_cons (pv 1) pa_nil)) (pg_tup (by rfl) (pgs_cons (pg_name (i := 2) sc_first_odd_cell.nd rfl (.inl rfl)) (pgs_cons (pg_name (i := 3) sc_first_odd_cell.nd rfl (.inl rfl)) pgs_nil)))
        (pss_one (ps_for PassesOwn.never (by rfl) (pi_enumT (by rfl) T.z_enumerate (pa_cons (pv 3) pa_nil)) (pg_tup (by rfl) (pgs_cons (pg_name (i := 4) sc_first_odd_cell.nd rfl (.inl rfl)) (pgs_cons (pg_name (i := 5) sc_first_odd_cell.nd rfl (.inl rfl)) pgs_nil)))
          (pss_one (ps_if (pt_not (pt_val (pe_cl c_is_below hr (by first | decide | omega) (by rfl) (pa_cons (pv 5) (pa_cons (pv 0) pa_nil)))))
            (pss_one (ps_ret (pe_tup (pa_cons (pv 2) (pa_cons (pv 4) pa_nil)))))
            pss_nil)))))
      (pss_one (ps_ret pe_non))), ?_⟩
    replace hS : SqT K H a us := hS
    replace r : DzAll K p c H us tds := r
    replace tups : ∀ t ∈ tds, isTup t = true := tups
    replace q : ∀ r H', Ex H H' → Dp K H' r (oddD n tds) → Q r H' := q
    have hl := r.len
    refine q_enumT (K := K) (ea_cons (ev_var rfl) ea_nil) hS (fun i σ H' => Ex H H' ∧ (∀ j, j < i → oddRow n (cellsOf (tds.getD j .none)) = []) ∧ ∃ y2 y3 y4 y5, σ = [some (vi n), some (.ref a), y2, y3, y4, y5]) (fun H2 e2 => ⟨e2, fun j hj => absurd hj (Nat.not_lt_zero _), none, none, none, none, rfl⟩) (fun i σ H' _ ⟨e, _⟩ => ex_t e hS) (fun i x σ H2 H3 hx ⟨e, good, y2, y3, y4, y5, hσ⟩ e3 => ?_) (fun σ H2 ⟨e2, good, y2, y3, y4, y5, hσ⟩ => ?_)
    · subst hσ
      obtain ⟨hi, x', ex', gd, dx⟩ := put_get r hx
      have e03 : Ex H H3 := e.trans e3
      obtain ⟨b, xs, cs, rfl, rfl, hT, rc⟩ := tup_of (dx.ex e03) (tups x' (List.mem_of_getElem? ex'))
      have hlc := rc.len
      show tFor _ _ _ _ [some (vi n), some (.ref a), some (vi i), some (.ref b), y4, y5] H3
      refine s_enumT (K := K) (ea_cons (ev_var rfl) ea_nil) hT (fun j σ H' => Ex H3 H' ∧ (∀ m, m < j → belowB (n : Int) (cs.getD m .none) = true) ∧ ∃ y4 y5, σ = [some (vi n), some (.ref a), some (vi i), some (.ref b), y4, y5]) (fun H4 e4 => ⟨e4, fun j hj => absurd hj (Nat.not_lt_zero _), _, _, rfl⟩) (fun j σ H' _ ⟨e, _⟩ => ex_t e hT) (fun j x σ H4 H5 hx4 ⟨e4, good4, z4, z5, hσ⟩ e5 => ?_) (fun σ H4 ⟨e4, good4, z4, z5, hσ⟩ => ?_)
      · subst hσ
        obtain ⟨hj, y', ey', gy, dy⟩ := put_get rc hx4
        have e35 := e4.trans e5
        show tIfS _ _ _ _ [some (vi n), some (.ref a), some (vi i), some (.ref b), some (vi j), some x] H5
        refine s_when (b := !belowB (n : Int) y') (et_not (et_val (ev_callV (v := .bl (belowB (n : Int) y')) ((p, c), y', (n : Int)) (ea_cons (ev_var rfl) (ea_cons (ev_var rfl) ea_nil)) (fun H6 e6 => ⟨_, rfl, dy.ex (e35.trans e6)⟩) (fun _ _ z => z)))) (fun hb2 H6 e6 => ?_) (fun hb2 H6 e6 => ⟨e35.trans e6, fun m hm => ?_, _, _, rfl⟩)
        · rw [Bool.not_eq_true'] at hb2
          refine s_retU (eu_tup (vs := [vi i, vi j]) (ea_cons (ev_var rfl) (ea_cons (ev_var rfl) ea_nil)) (by show 2 ≤ 100000; decide)) fun r2 H7 _ e7 hr7 => q _ H7 ((e03.trans (e35.trans e6)).trans e7) ?_
          obtain ⟨rr, hrr⟩ := oddRow_first hj good4 (by rw [gy]; exact hb2)
          have ow := oddT_first (n := n) (tds := tds) (k := i) (j := j) (r := rr) hi good (by rw [gd]; exact hrr)
          rw [oddD, ow]
          exact .tup (st_of hr7) (.cons (.int _) (.cons (.int _) .nil))
        · rw [Bool.not_eq_false'] at hb2
          by_cases z : m < j
          · exact good4 m z
          · rw [show m = j by omega, gy]
            exact hb2
      · subst hσ
        rw [hlc] at good4
        refine ⟨e03.trans e4, fun m hm => ?_, _, _, _, _, rfl⟩
        by_cases z : m < i
        · exact good m z
        · rw [show m = i by omega, gd]
          exact oddRow_none good4
    · subst hσ
      rw [hl] at good
      refine s_ret (v := .non) ev_c fun H3 e3 => q _ H3 (e2.trans e3) ?_
      rw [oddD, oddT_none good]
      exact .non
end
end K80
end
section
namespace K80
open PySem PySem.Spec PyProof.Rows L2 Evl RZ Dw M20
theorem nat_of {i : Int} (h : sizeB (.int i) = true) : ∃ m : Nat, i = (m : Int) ∧ 1 ≤ m ∧ m ≤ 6 := by
  rw [sizeB, Bool.and_eq_true, decide_eq_true_eq, decide_eq_true_eq] at h
  exact ⟨i.toNat, by omega, by omega, by omega⟩
section
variable {P : Program} {w : World} {K : PySem.W.Frag} {mg : Str → Option Value} {base : Heap} {σ : L2.St} {H H' Hb : Hp} {p c : Addr} {n m k W : Nat} {v : V} {d : PyData}
theorem ne_len {t : TE} {a : Addr} {xs : List V} {m : Nat} {u : TE} (h : Ev t σ H (.ref a)) (s : SqT K H a xs) (hu : Ev u σ H (vi m)) : EvT (tTest (tOp rNe (tCB (rLenS K) (tCons t tNil)) u)) σ H (!decide (xs.length = m)) := et_is (et_test (ev_op (ev_lenT h s) hu (rv_ne rfl))) (by
  show (!decide (V.int (xs.length : Int) = V.int (m : Int))) = _
  congr 1
  rw [decide_eq_decide]
  exact ⟨fun y => by injection y with y; omega, fun y => by rw [y]⟩)
theorem s_word {wd : Str} {D : Ends} (h : ∀ r H', Ex H H' → Dp K H' r (.tuple [.str wd]) → D.rt r H') : tRet (tTup (tCons (tC (.str wd)) tNil)) D σ H := s_retU (eu_tup (ea_cons ev_c ea_nil) (by show 1 ≤ 100000; decide)) fun r H2 _ e2 hr2 => h _ H2 e2 (.tup (st_of hr2) (.cons (.str _) .nil))
def MPre (K : PySem.W.Frag) (z : (Addr × Addr) × List (Str × Nat) × PyData) (vs : List V) (H : Hp) : Prop := (∃ u v, vs = [u, v] ∧ FSig K H u z.2.1 ∧ Dz K z.1.1 z.1.2 H v z.2.2) ∧ SigOk z.2.1
def sp_mod_any (K : PySem.W.Frag) : Sp := spX (MPre K) (fun z v H => Dp K H v (modW z.2.1 z.2.2))
theorem c_mod_any (T : Txt mg) (D : Df K mg "model_wrong" s_model_wrong ["signature", "thing"]) (c_need_signature : Cl P w K mg base 5 "need_signature" (sp_need_signature K)) (c_size_any : Cl P w K mg base 2 "is_size" (sp_size_any K)) (c_power : Cl P w K mg base 1 "power" sp_power) (c_odd_any : Cl P w K mg base 3 "first_odd_cell" (sp_odd_any K)) : Cl P w K mg base 6 "model_wrong" (sp_mod_any K) := by
  refine cl_of (k := 5) D sc_model_wrong (fun vs H Q E h => ?_) (fun f cdv A outer s H vs Q E hr h => ?_)
  · obtain ⟨z, ⟨⟨u, v, rfl, _⟩, _⟩, _⟩ := h
    rfl
  · obtain ⟨⟨⟨p, c⟩, sg, d⟩, ⟨⟨u, v, rfl, hF, hv⟩, sok⟩, q⟩ := h
    have c_is_size := c_size_any
    have c_first_odd_cell := c_odd_any
    refine ⟨_, (pss_cons (ps_expr (pe_cl c_need_signature hr (by first | decide | omega) (by rfl) (pa_cons (pv 0) pa_nil)))
      (pss_cons (ps_if (PW.pt (pw_or (pt_not (pt_val (pe_callB call_isi (by rfl) T.z_isinstance (by decide +kernel) (pa_cons (pv 1) (pa_cons (pe_ty "tuple" (by rfl) T.z_tuple (by decide +kernel)) pa_nil))))) (pw_or1 (pt_cmpR op_ne (pe_callB call_len_seq (by rfl) T.z_len PySem.boot_len (pa_cons (pv 1) pa_nil)) pe_int (nomark _)))))
        (pss_one (ps_ret (pe_tup (pa_cons pe_str pa_nil))))
        pss_nil)
      (pss_cons (ps_asg (pv 1) (pg_tup (by rfl) (pgs_cons (pg_name (i := 2) sc_model_wrong.nd rfl (.inl rfl)) (pgs_cons (pg_name (i := 3) sc_model_wrong.nd rfl (.inl rfl)) pgs_nil))))
      (pss_cons (ps_if (pt_not (pt_val (pe_cl c_is_size hr (by first | decide | omega) (by rfl) (pa_cons (pv 2) pa_nil))))
        (pss_one (ps_ret (pe_tup (pa_cons pe_str pa_nil))))
        pss_nil)
      (pss_cons (ps_if (PW.pt (pw_or (pt_not (pt_val (pe_callB call_isi (by rfl) T.z_isinstance (by decide +kernel) (pa_cons (pv 3) (pa_cons (pe_ty "tuple" (by rfl) T.z_tuple (by decide +kernel)) pa_nil))))) (pw_or1 (pt_cmpR op_ne (pe_callB call_len_seq (by rfl) T.z_len PySem.boot_len (pa_cons (pv 3) pa_nil)) (pe_callB call_len_seq (by rfl) T.z_len PySem.boot_len (pa_cons (pv 0) pa_nil)) (nomark _)))))
        (pss_one (ps_ret (pe_tup (pa_cons pe_str pa_nil))))
        pss_nil)
      (pss_cons (ps_for PassesOwn.never (by rfl) (pi_enumT (by rfl) T.z_enumerate (pa_cons (pv 0) pa_nil)) (pg_tup (by rfl) (pgs_cons (pg_name (i := 4) sc_model_wrong.nd rfl (.inl rfl)) (pgs_cons (pg_name (i := 5) sc_model_wrong.nd rfl (.inl rfl)) pgs_nil)))
        (pss_one (ps_if (PW.pt (pw_or (pt_not (pt_val (pe_callB call_isi (by rfl) T.z_isinstance (by decide +kernel) (pa_cons (pe_ix ix_tup (pv 3) (pv 4) (fun _ _ => rfl)) (pa_cons (pe_ty "tuple" (by rfl) T.z_tuple (by decide +kernel)) pa_nil))))) (pw_or1 (pt_cmpR op_ne (pe_callB call_len_seq (by rfl) T.z_len PySem.boot_len (pa_cons (pe_ix ix_tup (pv 3) (pv 4) (fun _ _ => rfl)) pa_nil)) (pe_cl c_power hr (by first | decide | omega) (by rfl) (pa_cons (pv 2) (pa_cons (pe_ix ix_tup (pv 5) pe_int (fun _ _ => rfl)) pa_nil))) (nomark _)))))
          (pss_one (ps_ret (pe_tup (pa_cons pe_str (pa_cons (pv 4) pa_nil)))))
          pss_nil)))
      (pss_cons (ps_set (i := 6) sc_model_wrong.nd rfl (.inl rfl) (pe_cl c_first_odd_cell hr (by first | decide | omega) (by rfl) (pa_cons (pv 2) (pa_cons (pv 3) pa_nil))))
      (pss_one (ps_ret (pe_ifExp (pt_cmpR op_isN (pv 6) pe_non (nomark _)) pe_non (pe_tup (pa_cons pe_str (pa_cons (pe_ix ix_tup (pv 6) pe_int (fun _ _ => rfl)) (pa_cons (pe_ix ix_tup (pv 6) pe_int (fun _ _ => rfl)) pa_nil)))))))))))))), ?_⟩
    replace hF : FSig K H u sg := hF
    replace hv : Dz K p c H v d := hv
    replace sok : SigOk sg := sok
    replace q : ∀ r H', Ex H H' → Dp K H' r (modW sg d) → Q r H' := q
    refine q_drop (ev_callV (v := .non) sg (ea_cons (ev_var rfl) ea_nil) (fun H1 e1 => ⟨⟨_, rfl, (hF.ex e1).sig⟩, sok⟩) (fun _ _ p => p)) fun H1 e1 => ?_
    by_cases hs2 : isTup d = false
    · exact q_when (b := true) (et_is (et_or (a := true) (b := false) (et_is (et_not (et_val (ev_isTup (K := K) (ev_var rfl) ev_c (hv.ex e1)))) (by rw [hs2]; rfl)) (fun z => by cases z)) rfl) (fun _ H2 e2 => s_word (K := K) fun r H3 e3 hr => q r H3 ((e1.trans e2).trans e3) (by
        have : modW sg d = .tuple [.str "model"] := by cases d <;> first | rfl | cases hs2
        rw [this]
        exact hr)) (fun hb => by cases hb)
    obtain ⟨b, xs, ds, rfl, rfl, hB, r⟩ := tup_of hv (by simpa using hs2)
    have lx := r.len
    refine q_when (b := !decide (xs.length = 2)) (et_is (et_or (a := false) (b := !decide (xs.length = 2)) (et_is (et_not (et_val (ev_isTup (K := K) (ev_var rfl) ev_c (hv.ex e1)))) rfl) (fun _ => ne_len (K := K) (m := 2) (ev_var rfl) (ex_t e1 hB) ev_c)) (by rw [Bool.false_or])) (fun hb H2 e2 => ?_) (fun hb H2 e2 => ?_)
    · have l2 : xs.length ≠ 2 := by simpa using hb
      refine s_word (K := K) fun r0 H3 e3 hr => q r0 H3 ((e1.trans e2).trans e3) ?_
      have : modW sg (.tuple ds) = .tuple [.str "model"] := by
        match ds, lx with
        | [], _ => rfl
        | [_], _ => rfl
        | [_, _], lx => exact absurd lx l2
        | _ :: _ :: _ :: _, _ => rfl
      rw [this]
      exact hr
    have l2 : xs.length = 2 := by simpa using hb
    obtain ⟨x1, x2, rfl⟩ := two_of l2
    obtain ⟨d1, d2, rfl⟩ := two_of (show ds.length = 2 by rw [← lx]; rfl)
    have e02 := e1.trans e2
    have y1 : Dz K p c H x1 d1 := by
      cases r with
      | cons x y => exact x
    have y2 : Dz K p c H x2 d2 := by
      cases r with
      | cons x y =>
        cases y with
        | cons x y => exact x
    refine do_setG (do_ev (ev_var rfl) fun H3 e3 => ⟨b, _, rfl, ex_t (e02.trans e3) hB, rfl, _, _, rfl, _, _, rfl, rfl, ?_⟩)
    have e03 := e02.trans e3
    show tSeq _ _ _ [some u, some (.ref b), some x1, some x2, none, none, none] H3
    refine q_when (b := !sizeB d1) (et_not (et_val (ev_callV (v := .bl (sizeB d1)) ((p, c), d1) (ea_cons (ev_var rfl) ea_nil) (fun H4 e4 => ⟨_, rfl, y1.ex (e03.trans e4)⟩) (fun _ _ z => z)))) (fun hbs H4 e4 => ?_) (fun hbs H4 e4 => ?_)
    · rw [Bool.not_eq_true'] at hbs
      refine s_word (K := K) fun r0 H5 e5 hr => q r0 H5 ((e03.trans e4).trans e5) ?_
      show Dp K H5 r0 (modW2 sg d1 d2)
      rw [modW2, if_neg (by rw [hbs]; decide)]
      exact hr
    rw [Bool.not_eq_false'] at hbs
    have e04 := e03.trans e4
    obtain ⟨i, rfl, rfl⟩ := whole_int y1 (by cases d1 <;> first | rfl | cases hbs)
    obtain ⟨m, rfl, m1, m6⟩ := nat_of hbs
    obtain ⟨sa, so1, ps, rfl, hsa, sod, prs⟩ := id hF
    have sqS : SqT K H sa (ps.map V.ref) := .inl (.inr ⟨so1, hsa⟩)
    have lps := paired_len prs
    show tSeq _ _ _ [some (.ref sa), some (.ref b), some (vi m), some x2, none, none, none] H4
    by_cases ht2 : isTup d2 = false
    · refine q_when (b := true) (et_is (et_or (a := true) (b := false) (et_is (et_not (et_val (ev_isTup (K := K) (ev_var rfl) ev_c (y2.ex e04)))) (by rw [ht2]; rfl)) (fun z => by cases z)) rfl) (fun _ H5 e5 => s_word (K := K) fun r0 H6 e6 hr => q r0 H6 ((e04.trans e5).trans e6) ?_) (fun hb => by cases hb)
      show Dp K H6 r0 (modW2 sg (.int (m : Int)) d2)
      rw [modW2, if_pos hbs]
      cases d2 <;> first | exact hr | cases ht2
    obtain ⟨ta, us, tds, rfl, rfl, hT, rT⟩ := tup_of y2 (by simpa using ht2)
    have lT := rT.len
    refine q_when (b := !decide (us.length = (ps.map V.ref).length)) (et_is (et_or (a := false) (b := !decide (us.length = (ps.map V.ref).length)) (et_is (et_not (et_val (ev_isTup (K := K) (ev_var rfl) ev_c (y2.ex e04)))) rfl) (fun _ => ne_len (K := K) (ev_var rfl) (ex_t e04 hT) (ev_lenT (ev_var rfl) (ex_t e04 sqS)))) (by rw [Bool.false_or])) (fun hb3 H5 e5 => ?_) (fun hb3 H5 e5 => ?_)
    · have l3 : ¬ tds.length = sg.length := by
        rw [Bool.not_eq_true', decide_eq_false_iff_not, List.length_map] at hb3
        omega
      refine s_word (K := K) fun r0 H6 e6 hr => q r0 H6 ((e04.trans e5).trans e6) ?_
      show Dp K H6 r0 (modW2 sg (.int (m : Int)) (.tuple tds))
      rw [modW2, if_pos hbs, modW3, if_neg l3]
      exact hr
    have l3 : tds.length = sg.length := by
      rw [Bool.not_eq_false', decide_eq_true_eq, List.length_map] at hb3
      omega
    have e05 := e04.trans e5
    have mw : modW sg (.tuple [.int (m : Int), .tuple tds]) = modW4 sg m tds := by
      show modW2 sg (.int (m : Int)) (.tuple tds) = _
      rw [modW2, if_pos hbs, modW3, if_pos l3]
      rfl
    refine q_enumT (K := K) (ea_cons (ev_var rfl) ea_nil) (ex_t e05 sqS) (fun i σ H' => Ex H H' ∧ (∀ j, j < i → tableB m (plOf sg j) (tds.getD j .none) = true) ∧ ∃ y4 y5, σ = [some (.ref sa), some (.ref b), some (vi m), some (.ref ta), y4, y5, none]) (fun H6 e6 => ⟨e05.trans e6, fun j hj => absurd hj (Nat.not_lt_zero _), none, none, rfl⟩) (fun i σ H' _ ⟨e, _⟩ => ex_t e sqS) (fun i x σ H6 H7 hx ⟨e, good, y4, y5, hσ⟩ e7 => ?_) (fun σ H6 ⟨e6, good, y4, y5, hσ⟩ => ?_)
    · subst hσ
      have ip : i < ps.length := by
        have := (List.getElem?_eq_some_iff.mp hx).1
        rw [List.length_map] at this
        exact this
      rw [List.getElem?_map, List.getElem?_eq_getElem ip] at hx
      cases Option.some.inj hx
      obtain ⟨dd, ed, hdd⟩ := paired_at prs (List.getElem?_eq_getElem ip)
      have memd : dd ∈ sg := List.mem_iff_getElem?.mpr ⟨i, ed⟩
      have pl2 : dd.2 ≤ 2 := sok.pl _ memd
      have gpl : plOf sg i = dd.2 := by
        rw [plOf, List.getD_eq_getElem?_getD, ed]
        rfl
      have e07 := e.trans e7
      have iu : i < us.length := by omega
      obtain ⟨hi, t', et', gd, dt⟩ := put_get rT (List.getElem?_eq_getElem iu)
      have tk : ∀ H8, Ex H7 H8 → Ev (tOp (rIxT K) (tVar 3) (tVar 4)) [some (.ref sa), some (.ref b), some (vi m), some (.ref ta), some (vi i), some (.ref ps[i]), none] H8 us[i] := fun H8 e8 => ev_op (ev_var rfl) (ev_var rfl) (rv_ixT (K := K) (ex_t (e07.trans e8) hT) (atI_nat (List.getElem?_eq_getElem iu)))
      show tIfS _ _ _ _ [some (.ref sa), some (.ref b), some (vi m), some (.ref ta), some (vi i), some (.ref ps[i]), none] H7
      have bad : ∀ {H8 : Hp}, Ex H7 H8 → tableB m (plOf sg i) (tds.getD i .none) = false → tRet (tTup (tCons (tC (.str "table")) (tCons (tVar 4) tNil))) { nx := fun _ H' => Q .non H', rt := Q } [some (.ref sa), some (.ref b), some (vi m), some (.ref ta), some (vi i), some (.ref ps[i]), none] H8 := fun {H8} e8 hbad => by
        refine s_retU (eu_tup (vs := [.str "table", vi i]) (ea_cons ev_c (ea_cons (ev_var rfl) ea_nil)) (by show 2 ≤ 100000; decide)) fun r2 H9 _ e9 hr9 => q _ H9 ((e07.trans e8).trans e9) ?_
        obtain ⟨rr, hrr⟩ : ∃ rr, badK sg m tds = i :: rr := filt_first (by omega) (fun j hj => by rw [good j hj]; rfl) (by rw [hbad]; rfl)
        rw [mw, modW4, hrr]
        exact .tup (st_of hr9) (.cons (.str _) (.cons (.int _) .nil))
      by_cases htt : isTup t' = false
      · exact s_when (b := true) (et_is (et_or (a := true) (b := false) (et_is (et_not (et_val (ev_isTup (K := K) (tk H7 (Ex.refl _)) ev_c (dt.ex e07)))) (by rw [htt]; rfl)) (fun z => by cases z)) rfl) (fun _ H8 e8 => bad e8 (by rw [gd]; cases t' <;> first | rfl | cases htt)) (fun hb => by cases hb)
      · obtain ⟨ca, cvs, cs, ecv, rfl, hC, rC⟩ := tup_of dt (by simpa using htt)
        have lc := rC.len
        have tk2 := tk H7 (Ex.refl _)
        rw [ecv] at tk2
        refine s_when (b := !decide (cvs.length = m ^ dd.2)) (et_is (et_or (a := false) (b := !decide (cvs.length = m ^ dd.2)) (et_is (et_not (et_val (ev_isTup (K := K) (tk H7 (Ex.refl _)) ev_c (dt.ex e07)))) rfl) (fun _ => ne_len (K := K) tk2 (ex_t e07 hC) (ev_callV (v := vi (m ^ dd.2)) (m, dd.2) (ea_cons (ev_var rfl) (ea_cons (ev_op (ev_var rfl) ev_c (rv_ixT (K := K) (ex_t e07 hdd) (atI_vi (k := 1) rfl))) ea_nil)) (fun _ _ => ⟨rfl, m6, Nat.le_trans pl2 (by decide)⟩) (fun _ _ p => p)))) (by rw [Bool.false_or])) (fun hb5 H8 e8 => bad e8 ?_) (fun hb5 H8 e8 => ⟨e07.trans e8, fun j hj => ?_, _, _, rfl⟩)
        · rw [Bool.not_eq_true', decide_eq_false_iff_not] at hb5
          rw [gd, gpl]
          show decide (cs.length = m ^ dd.2) = false
          rw [← lc]
          exact decide_eq_false hb5
        · rw [Bool.not_eq_false', decide_eq_true_eq] at hb5
          by_cases z : j < i
          · exact good j z
          · rw [show j = i by omega, gd, gpl]
            show decide (cs.length = m ^ dd.2) = true
            rw [← lc]
            exact decide_eq_true hb5
    · subst hσ
      rw [List.length_map] at good
      have nb : badK sg m tds = [] := filt_none (fun j hj => by rw [good j (by omega)]; rfl)
      have tups : ∀ t ∈ tds, isTup t = true := fun t ht => by
        obtain ⟨j, hj, e⟩ := List.mem_iff_getElem.mp ht
        have g := good j (by omega)
        have gj : tds.getD j .none = t := by
          rw [List.getD_eq_getElem?_getD, List.getElem?_eq_getElem hj, e]
          rfl
        rw [gj] at g
        cases t <;> first | rfl | cases g
      refine q_asgP (ep_call ((p, c), m, tds) (ea_cons (ev_var rfl) (ea_cons (ev_var rfl) ea_nil)) (fun H7 e7 => ⟨⟨ta, us, rfl, ex_t (e6.trans e7) hT, rT.ex (e6.trans e7)⟩, tups⟩)) fun ov H7 e7 hov => ?_
      replace hov : Dp K H7 ov (oddD m tds) := hov
      show tRet _ _ [some (.ref sa), some (.ref b), some (vi m), some (.ref ta), y4, y5, some ov] H7
      rw [mw, modW4, nb] at q
      cases ho : oddW m tds with
      | none =>
        rw [oddD, ho] at hov
        cases hov
        rw [ho] at q
        refine s_ret (ev_if (b := true) ?_ (fun _ => ev_c) (fun hb => by cases hb)) fun H8 e8 => q _ H8 ((e6.trans e7).trans e8) .non
        exact fun H7 e7 Q q => ⟨_, rfl, rfl, _, rfl, q H7 (Ex.refl H7)⟩
      | some kj =>
        obtain ⟨k0, j0⟩ := kj
        rw [oddD, ho] at hov
        rw [ho] at q
        cases hov with
        | tup sO rO =>
          cases rO with
          | cons a1 b1 =>
            cases a1
            cases b1 with
            | cons a2 b2 =>
              cases a2
              cases b2
              refine do_ret (do_if (b := false) (fun H8 e8 Q8 q8 => ⟨_, rfl, rfl, _, rfl, q8 H8 (Ex.refl H8)⟩) (fun hb => by cases hb) (fun _ H8 e8 => ?_))
              refine eu_tup (vs := [.str "cell", vi k0, vi j0]) (ea_cons ev_c (ea_cons (ev_op (ev_var rfl) ev_c (rv_ixT (K := K) (ex_t e8 sO) (atI_vi (k := 0) rfl))) (ea_cons (ev_op (ev_var rfl) ev_c (rv_ixT (K := K) (ex_t e8 sO) (atI_vi (k := 1) rfl))) ea_nil))) (by show 3 ≤ 100000; decide) H8 (Ex.refl _) _ fun r9 H9 _ e9 hr9 => q _ H9 ((e6.trans e7).trans (e8.trans e9)) (.tup (st_of hr9) (.cons (.str _) (.cons (.int _) (.cons (.int _) .nil))))
end
end K80
end
section
namespace K80
open PySem PySem.Spec PyProof.Rows L2 Evl RZ Dw M20
open C8 (fnScope_by)
section
variable {P : Program} {w : World} {K : PySem.W.Frag} {mg : Str → Option Value} {base : Heap} {σ : L2.St} {H H' : Hp} {p c : Addr} {n : Nat} {v : V} {d : PyData} {S0 G0 a1 a2 a3 a4 a5 a6 a7 a8 a9 : Addr}
/-- what is no model, ahead of anything -/
def MBad (K : PySem.W.Frag) (n : Nat) (z : (Addr × Addr) × List (Str × Nat) × PyData) (vs : List V) (H : Hp) : Prop := (∃ u v r, vs = u :: v :: r ∧ r.length = n ∧ FSig K H u z.2.1 ∧ Dz K z.1.1 z.1.2 H v z.2.2) ∧ SigOk z.2.1 ∧ modW z.2.1 z.2.2 ≠ .none
theorem mod_ref {v : V} {sg : List (Str × Nat)} {d : PyData} (h : Dp K H v (modW sg d)) (ne : modW sg d ≠ .none) : ∃ a, v = .ref a := by
  have e4 : ∀ n tds, modW4 sg n tds = .none ∨ ∃ ds, modW4 sg n tds = .tuple ds := fun n tds => by
    unfold modW4
    split
    · exact .inr ⟨_, rfl⟩
    · split
      · exact .inr ⟨_, rfl⟩
      · exact .inl rfl
  have e3 : ∀ s t, modW3 sg s t = .none ∨ ∃ ds, modW3 sg s t = .tuple ds := fun s t => by
    unfold modW3
    split
    · split
      · exact e4 _ _
      · exact .inr ⟨_, rfl⟩
    · exact .inr ⟨_, rfl⟩
  have e : modW sg d = .none ∨ ∃ ds, modW sg d = .tuple ds := by
    unfold modW
    split
    · unfold modW2
      split
      · exact e3 _ _
      · exact .inr ⟨_, rfl⟩
    · exact .inr ⟨_, rfl⟩
  rcases e with e | ⟨ds, e⟩
  · exact absurd e ne
  · rw [e] at h
    cases h with
    | tup s _ => exact ⟨_, rfl⟩
theorem c_need_modelM (T : Txt mg) (D : Df K mg "need_model" s_need_model ["signature", "model"]) (er : ExcT K mg "NoModel" S0) (c_mod_any : Cl P w K mg base 6 "model_wrong" (sp_mod_any K)) : ClX P w K mg base 7 "need_model" (spE S0 (MBad K 0)) := by
  refine clx_of (k := 6) D sc_need_model (fun vs H Q E h => ?_) (fun f cdv A outer s H vs Q E hr h => ?_)
  · obtain ⟨d, ⟨⟨u, v, r, rfl, l, _⟩, _⟩, _⟩ := h
    rw [List.eq_nil_of_length_eq_zero l]
    rfl
  · obtain ⟨⟨⟨p, c⟩, sg, d⟩, ⟨⟨u, v, r, rfl, l, hF, hv⟩, so, bad⟩, q⟩ := h
    rw [List.eq_nil_of_length_eq_zero l]
    have c_model_wrong := c_mod_any
    refine ⟨_, (pss_one (ps_if (pt_cmpR op_notN (pe_cl c_model_wrong hr (by first | decide | omega) (by rfl) (pa_cons (pv 0) (pa_cons (pv 1) pa_nil))) pe_non (nomark _))
        (pss_one (ps_raise rfl (takes_of rfl rfl rfl rfl) (pmk_own PySem.F.excBase_ValueError er.q er.g er.k (raises_own er.c.hs er.t) (by rfl))))
        pss_nil)), ?_⟩
    exact s_when (b := true) (et_isNP ((ep_call ((p, c), sg, d) (ea_cons (ev_var rfl) (ea_cons (ev_var rfl) ea_nil)) (fun H1 e1 => ⟨⟨_, _, rfl, hF.ex e1, hv.ex e1⟩, so⟩)).imp fun r H1 _ hr1 => mod_ref hr1 bad)) (fun _ H1 e1 => q H1 e1) (fun hb => by cases hb)
end
end K80
end
section
namespace K80
open PySem PySem.Spec PyProof.Rows L2 Evl RZ Dw M20
section
variable {P : Program} {w : World} {K : PySem.W.Frag} {mg : Str → Option Value} {base : Heap} {σ : L2.St} {H H' : Hp} {p c : Addr} {n : Nat} {v : V} {d : PyData} {S0 C0 : Addr}
end
end K80
end
section
namespace K80
open PySem PySem.Spec PyProof.Rows L2 Evl RZ Dw M20
mutual
theorem bt_fits : ∀ (t : Tm) (p : List Nat), ∀ e ∈ t.bt.met p, e.2.fits = true
  | .var x, p, e, h => by
    rw [Tm.bt, Bt.met, List.mem_singleton] at h
    rw [h]
    rfl
  | .deed f ts, p, e, h => by
    rw [Tm.bt, Bt.met, List.mem_cons] at h
    rcases h with h | h
    · rw [h]
      rfl
    · exact bts_fits ts p 0 e h
theorem bts_fits : ∀ (ts : List Tm) (p : List Nat) (k : Nat), ∀ e ∈ mets (bts ts) p k, e.2.fits = true
  | [], p, k, e, h => by
    rw [bts, mets] at h
    cases h
  | t :: ts, p, k, e, h => by
    rw [bts, mets, List.mem_append] at h
    rcases h with h | h
    · exact bt_fits t _ e h
    · exact bts_fits ts p (k + 1) e h
end
theorem bt_right {t : Tm} (h : t.bt.sz ≤ 60) : wrongL (t.bt.met []) = .none := by
  have f : (t.bt.met []).find? (fun e => !e.2.fits) = none := List.find?_eq_none.mpr (fun x hx => by rw [bt_fits t [] x hx]; decide)
  rw [wrongL, f]
  show (if 60 < (t.bt.met []).length then PyData.tuple [.str "parts"] else .none) = .none
  rw [if_neg (by rw [met_len]; omega)]
def oddTW : PyData := .tuple [.str "term", .tuple []]
theorem odd_w (d : PyData) : wrongL ((Bt.odd d).met []) = oddTW := by
  rw [Bt.met, show [(([] : List Nat), Bt.odd d)] = [] ++ ([], Bt.odd d) :: [] from rfl, wrongL_odd (fun x hx => by cases hx) rfl]
  rfl
/-! sides: a term, or what is none at its own place -/
inductive Sd where
  | tm (t : Tm)
  | odd (d : PyData)
def Sd.bt : Sd → Bt
  | .tm t => t.bt
  | .odd d => .odd d
def Sd.data : Sd → PyData
  | .tm t => t.data
  | .odd d => d
def Sd.ok (sg : List (Str × Nat)) : Sd → Prop
  | .tm t => t.ok sg ∧ t.sz ≤ 13
  | .odd _ => True
def Sd.w : Sd → PyData
  | .tm _ => .none
  | .odd _ => oddTW
inductive Eb where
  | two (x y : Sd)
  | no (d : PyData)
def Eb.ok (sg : List (Str × Nat)) : Eb → Prop
  | .two x y => x.ok sg ∧ y.ok sg
  | .no _ => True
def Eb.data : Eb → PyData
  | .two x y => .tuple [x.data, y.data]
  | .no d => d
def lettersN (a b : Tm) : Nat := (inner (Eqn.tm ⟨a, b⟩)).length
def sideW (a b : Tm) : PyData := if 12 < a.sz then .tuple [.str "side", .int 0] else if 12 < b.sz then .tuple [.str "side", .int 1] else if 4 < lettersN a b then .tuple [.str "letters"] else .none
def Eb.w : Eb → PyData
  | .two (.odd _) _ => .tuple [.str "left", oddTW]
  | .two (.tm _) (.odd _) => .tuple [.str "right", oddTW]
  | .two (.tm a) (.tm b) => sideW a b
  | .no _ => .tuple [.str "equation"]
section
variable {P : Program} {w : World} {K : PySem.W.Frag} {mg : Str → Option Value} {base : Heap} {σ : L2.St} {H H' : Hp} {p c : Addr} {n : Nat} {v : V} {d : PyData} {sg : List (Str × Nat)}
def SdV (K : PySem.W.Frag) (H : Hp) (sg : List (Str × Nat)) : Sd → V → Prop
  | .tm t, v => TmV K H t v
  | .odd d, v => BtV K H sg (.odd d) v
theorem TmV.ex {t : Tm} (e : Ex H H') (h : TmV K H t v) : TmV K H' t v := h.et (Dw.Ex.et e)
theorem SdV.ex (e : Ex H H') : ∀ {s : Sd} {v : V}, SdV K H sg s v → SdV K H' sg s v
  | .tm _, _, h => TmV.ex e h
  | .odd _, _, h => BtV.ex e h
theorem SdV.bt : ∀ {s : Sd} {v : V}, SdV K H sg s v → s.ok sg → BtV K H sg s.bt v ∧ s.bt.ok sg ∧ s.bt.sz ≤ 100 ∧ wrongL (s.bt.met []) = s.w
  | .tm t, v, h, ok => by
    obtain ⟨a, b, _, z⟩ := bt_all t h ok.1
    have l : t.sz ≤ 13 := ok.2
    exact ⟨a, b, by show t.bt.sz ≤ 100; omega, bt_right (by omega)⟩
  | .odd d, v, h, _ => ⟨h, by show Bt.ok sg (.odd d); rw [Bt.ok]; trivial, by show (Bt.odd d).sz ≤ 100; rw [Bt.sz]; decide, odd_w d⟩
theorem SdV.dp : ∀ {s : Sd} {v : V}, SdV K H sg s v → Dp K H v s.data
  | .tm _, _, h => TmV.dp h
  | .odd d, v, h => by
    have h2 : BtV K H sg (.odd d) v := h
    rw [BtV] at h2
    exact h2.1.dp
/-! equations, or what is none -/
inductive NoPair (K : PySem.W.Frag) (H : Hp) : V → Prop where
  | non : NoPair K H .non
  | str (z : Str) : NoPair K H (.str z)
  | int (i : Int) : NoPair K H (.int i)
  | lst {a : Addr} {xs : List V} (h : H a = some (.lst xs)) : NoPair K H (.ref a)
  | len {a : Addr} {xs : List V} (h : SqT K H a xs) (l : xs.length ≠ 2) : NoPair K H (.ref a)
theorem NoPair.ex (e : Ex H H') (h : NoPair K H v) : NoPair K H' v := by
  cases h with
  | non => exact .non
  | str z => exact .str z
  | int i => exact .int i
  | lst h => exact .lst (e _ _ h)
  | len h l => exact .len (ex_t e h) l
def EbV (K : PySem.W.Frag) (H : Hp) (sg : List (Str × Nat)) : Eb → V → Prop
  | .two x y, v => ∃ a u w, v = .ref a ∧ SqT K H a [u, w] ∧ SdV K H sg x u ∧ SdV K H sg y w
  | .no d, v => NoPair K H v ∧ Dp K H v d
theorem EbV.ex (e : Ex H H') : ∀ {b : Eb} {v : V}, EbV K H sg b v → EbV K H' sg b v
  | .two _ _, _, ⟨a, u, w, q, s, x, y⟩ => ⟨a, u, w, q, ex_t e s, x.ex e, y.ex e⟩
  | .no _, _, ⟨a, b⟩ => ⟨a.ex e, dp_ex e b⟩
theorem EbV.dp : ∀ {b : Eb} {v : V}, EbV K H sg b v → Dp K H v b.data
  | .two _ _, _, ⟨a, u, w, q, s, x, y⟩ => by
    subst q
    exact .tup s (.cons x.dp (.cons y.dp .nil))
  | .no _, _, ⟨_, b⟩ => b
end
end K80
end
section
namespace K80
open PySem PySem.Spec PyProof.Rows L2 Evl RZ Dw M20
section
variable {P : Program} {w : World} {K : PySem.W.Frag} {mg : Str → Option Value} {base : Heap} {σ : L2.St} {H H' : Hp} {sg : List (Str × Nat)} {v : V} {p c : Addr} {t n m k W : Nat} {E1 N1 T1 : Addr}
def EbPre (K : PySem.W.Frag) (z : List (Str × Nat) × Eb) (vs : List V) (H : Hp) : Prop := (∃ u v, vs = [u, v] ∧ FSig K H u z.1 ∧ EbV K H z.1 z.2 v) ∧ SigOk z.1 ∧ z.2.ok z.1 ∧ z.2.w ≠ .none
theorem EbPre.ex {z : List (Str × Nat) × Eb} {vs : List V} (e : Ex H H') (h : EbPre K z vs H) : EbPre K z vs H' := let ⟨⟨u, v, q, a, b⟩, r⟩ := h; ⟨⟨u, v, q, a.ex e, b.ex e⟩, r⟩
/-- a good model, and what is no equation -/
def EqPre (K : PySem.W.Frag) (z : (List (Str × Nat) × Eb) × Nat × List (List Nat)) (vs : List V) (H : Hp) : Prop := (∃ u m v, vs = [u, m, v] ∧ Mdl K H m z.2.1 z.2.2 ∧ EbPre K z.1 [u, v] H) ∧ MdlOk z.1.1 z.2.1 z.2.2
theorem EqPre.ex {z : (List (Str × Nat) × Eb) × Nat × List (List Nat)} {vs : List V} (e : Ex H H') (h : EqPre K z vs H) : EqPre K z vs H' := let ⟨⟨u, m, v, q, a, b⟩, r⟩ := h; ⟨⟨u, m, v, q, a.ex e, b.ex e⟩, r⟩
theorem w_ref {wv : V} {x : PyData} (h : Dp K H wv x) (ne : x ≠ .none) (t : x = .none ∨ ∃ ds, x = .tuple ds) : ∃ r, wv = .ref r := by
  rcases t with t | ⟨ds, rfl⟩
  · exact absurd t ne
  · cases h with
    | tup _ _ => exact ⟨_, rfl⟩
theorem wrongL_tup (a : List (List Nat × Bt)) : wrongL a = .none ∨ ∃ ds, wrongL a = .tuple ds := by
  unfold wrongL
  repeat' split
  all_goals first | exact .inl rfl | exact .inr ⟨_, rfl⟩
/-- what is no term -/
def TmPre (K : PySem.W.Frag) (z : List (Str × Nat) × Bt) (vs : List V) (H : Hp) : Prop := BPre K z vs H ∧ wrongL (z.2.met []) ≠ .none
theorem TmPre.ex {z : List (Str × Nat) × Bt} {vs : List V} (e : Ex H H') (h : TmPre K z vs H) : TmPre K z vs H' := let ⟨⟨⟨u, v, q, a, b⟩, r⟩, s⟩ := h; ⟨⟨⟨u, v, q, a.ex e, b.ex e⟩, r⟩, s⟩
theorem c_need_termB (T : Txt mg) (D : Df K mg "need_term" s_need_term ["signature", "term"]) (et : ExcT K mg "NoTerm" T1) (c_term_any : Cl P w K mg base 6 "term_wrong" (sp_term_any K)) : ClX P w K mg base 7 "need_term" (spE T1 (TmPre K)) := by
  refine clx_of (k := 6) D sc_need_term (fun vs H Q E h => ?_) (fun f cdv A outer s H vs Q E hr h => ?_)
  · obtain ⟨_, ⟨⟨⟨u, v, rfl, _⟩, _⟩, _⟩, _⟩ := h
    rfl
  · obtain ⟨z, ⟨⟨⟨u, v, rfl, hF, hb⟩, r⟩, bad⟩, q⟩ := h
    have c_term_wrong := c_term_any
    refine ⟨_, (pss_one (ps_if (pt_cmpR op_notN (pe_cl c_term_wrong hr (by first | decide | omega) (by rfl) (pa_cons (pv 0) (pa_cons (pv 1) pa_nil))) pe_non (nomark _))
        (pss_one (ps_raise rfl (takes_of rfl rfl rfl rfl) (pmk_own PySem.F.excBase_ValueError et.q et.g et.k (raises_own et.c.hs et.t) (by rfl))))
        pss_nil)), ?_⟩
    exact s_when (b := true) (et_isNP ((ep_call z (ea_cons (ev_var rfl) (ea_cons (ev_var rfl) ea_nil)) (fun H1 e1 => ⟨⟨_, _, rfl, hF.ex e1, hb.ex e1⟩, r⟩)).imp fun r H1 _ y => w_ref (show Dp K H1 r (wrongL (z.2.met [])) from y) bad (wrongL_tup _))) (fun _ H1 e1 => q H1 e1) (fun hb => by cases hb)
/-- a good model, and what is no term -/
def TqPre (K : PySem.W.Frag) (z : (List (Str × Nat) × Bt) × Nat × List (List Nat)) (vs : List V) (H : Hp) : Prop := (∃ u m v x, vs = [u, m, v, x] ∧ Mdl K H m z.2.1 z.2.2 ∧ TmPre K z.1 [u, v] H) ∧ MdlOk z.1.1 z.2.1 z.2.2
theorem TqPre.ex {z : (List (Str × Nat) × Bt) × Nat × List (List Nat)} {vs : List V} (e : Ex H H') (h : TqPre K z vs H) : TqPre K z vs H' := let ⟨⟨u, m, v, x, q, a, b⟩, r⟩ := h; ⟨⟨u, m, v, x, q, a.ex e, b.ex e⟩, r⟩
end
end K80
end
section
namespace K80
open PySem PySem.Spec PyProof.Rows L2 Evl RZ Dw M20
mutual
theorem noL_tm : ∀ t : Tm, noL t.data = true
  | .var x => by
    rw [Tm.data]
    rfl
  | .deed f ts => by
    rw [Tm.data]
    show noLs [.str "deed", .str f, .tuple (datas ts)] = true
    show (true && (true && (noLs (datas ts) && true))) = true
    rw [noLs_tm ts]
    rfl
theorem noLs_tm : ∀ ts : List Tm, noLs (datas ts) = true
  | [] => by
    rw [datas]
    rfl
  | t :: ts => by
    rw [datas]
    show (noL t.data && noLs (datas ts)) = true
    rw [noL_tm t, noLs_tm ts]
    rfl
end
theorem gb_dig {i : Nat} (h : i ≤ 7) : Gb 0 10 (.int (i : Int)) := by
  have : i = 0 ∨ i = 1 ∨ i = 2 ∨ i = 3 ∨ i = 4 ∨ i = 5 ∨ i = 6 ∨ i = 7 := by omega
  rcases this with rfl | rfl | rfl | rfl | rfl | rfl | rfl | rfl <;> exact ⟨by rw [PyData.canLay0], by rw [PyData.depth]; decide, by rw [PyData.weight]; decide, by rw [PyData.intsShort]; decide, by rw [PyData.showable]; decide⟩
theorem gba_all {k W : Nat} : ∀ {ds : List PyData}, (∀ d ∈ ds, Gb k W d) → GbA k (ds.length * (W + 1)) ds
  | [], _ => gba_nil.mono (Nat.zero_le _) (Nat.zero_le _)
  | d :: ds, h => (gba_cons (h d (List.mem_cons_self ..)) (gba_all fun e he => h e (List.mem_cons_of_mem _ he))).mono (Nat.le_refl _) (by rw [List.length_cons, Nat.succ_mul]; omega)
def tabD (t : List Nat) : PyData := .tuple (t.map intD)
section
variable {P : Program} {w : World} {K : PySem.W.Frag} {mg : Str → Option Value} {base : Heap} {σ : L2.St} {H H' Hb : Hp} {C : Nat → Addr} {G0 : Addr} {sg : List (Str × Nat)} {v : V} {p c : Addr} {t n m k W : Nat} {R : V → Hp → Prop} {te : TE} {ta : TA}
theorem rv_neX {x y : V} (h : scal x y = true) (e : x = y) : RV rNe x y H (.bl false) := by
  subst e
  have z := rv_ne (H := H) h
  rw [show (!decide (x = x)) = false by simp] at z
  exact z
def EvAs (R : V → Hp → Prop) (n : Nat) (ta : TA) (σ : L2.St) (H : Hp) : Prop := ∀ H1, Ex H H1 → ∀ Q : List V → Hp → Prop, (∀ vs H2, Ex H1 H2 → vs.length = n → (∀ x ∈ vs, R x H2) → Q vs H2) → ta σ H1 Q
theorem eas_nil : EvAs R 0 tNil σ H := fun H1 _ Q q => q [] H1 (Ex.refl _) rfl (fun x hx => by cases hx)
theorem eas_cons (st : ∀ v H H', Ex H H' → R v H → R v H') (h : EvP te σ H R) (hr : EvAs R n ta σ H) : EvAs R (n + 1) (tCons te ta) σ H := fun H1 e Q q => do_cons (h H1 e _ fun v H2 e2 hv => hr H2 (e.trans e2) _ fun vs H3 e3 ln hvs => q _ H3 (e2.trans e3) (by rw [List.length_cons, ln]) (fun x hx => by
  rcases List.mem_cons.mp hx with z | z
  · rw [z]
    exact st _ _ _ e3 hv
  · exact hvs x z))
def LsR (R : V → Hp → Prop) (p c : Addr) (n : Nat) (v : V) (H : Hp) : Prop := ∃ (l : Addr) (xs : List V), v = .ref l ∧ H l = some (.lst xs) ∧ l ≠ p ∧ l ≠ c ∧ xs.length = n ∧ ∀ x ∈ xs, R x H
theorem LsR.ex (st : ∀ v H H', Ex H H' → R v H → R v H') (e : Ex H H') (h : LsR R p c n v H) : LsR R p c n v H' := let ⟨l, xs, q, hx, a, b, ln, all⟩ := h; ⟨l, xs, q, e _ _ hx, a, b, ln, fun x hx => st _ _ _ e (all x hx)⟩
theorem ep_lstR (st : ∀ v H H', Ex H H' → R v H → R v H') (h : EvAs R n ta σ H) (l : n ≤ 1000) (pu : Pur H p c m) : EvP (tLst ta) σ H (LsR R p c n) := fun H1 e Q q => do_lst (h H1 e _ fun vs H2 e2 ln hv => ⟨sz_of (by omega), fun a na => by
  obtain ⟨ap, ac⟩ := (pu.ex (e.trans e2)).fresh na
  exact q _ _ (e2.trans (Ex.new na)) ⟨a, vs, rfl, upd_same, ap, ac, ln, fun x hx => st _ _ _ (Ex.new na) (hv x hx)⟩⟩)
/-- the one list behind the other -/
theorem ep_catR {t1 t2 : TE} {n1 n2 : Nat} (st : ∀ v H H', Ex H H' → R v H → R v H') (h1 : EvP t1 σ H (LsR R p c n1)) (h2 : EvP t2 σ H (LsR R p c n2)) (l : n1 + n2 ≤ 1000) (pu : Pur H p c m) : EvP (tOp rCat t1 t2) σ H (LsR R p c (n1 + n2)) := fun H1 e Q q => do_op (h1 H1 e _ fun v H2 e2 hv => h2 H2 (e.trans e2) _ fun u H3 e3 hu => by
  obtain ⟨l1, xs, rfl, hx, _, _, ln, all⟩ := LsR.ex st e3 hv
  obtain ⟨l2, ys, rfl, hy, _, _, ln2, all2⟩ := hu
  refine ⟨l1, l2, xs, ys, rfl, rfl, hx, hy, sz_of (by omega), fun r nr => ?_⟩
  obtain ⟨ap, ac⟩ := (pu.ex ((e.trans e2).trans e3)).fresh nr
  refine q _ _ ((e2.trans e3).trans (Ex.new nr)) ⟨r, xs ++ ys, rfl, upd_same, ap, ac, by rw [List.length_append, ln, ln2], fun x hx => ?_⟩
  rcases List.mem_append.mp hx with z | z
  · exact st _ _ _ (Ex.new nr) (all x z)
  · exact st _ _ _ (Ex.new nr) (all2 x z))
mutual
theorem bt_data : ∀ t : Tm, t.bt.data = t.data
  | .var x => by rw [Tm.bt, Bt.data, Tm.data]
  | .deed f ts => by rw [Tm.bt, Bt.data, Tm.data, bts_data ts]
theorem bts_data : ∀ ts : List Tm, bdatas (bts ts) = datas ts
  | [] => by rw [bts, bdatas, datas]
  | t :: ts => by rw [bts, bdatas, datas, bt_data t, bts_data ts]
end
def GoneR (K : PySem.W.Frag) (p c : Addr) (v : V) (H : Hp) : Prop := ∃ d, Dz K p c H v d ∧ Gb 6 6000 d ∧ sigW d ≠ .none
theorem GoneR.st : ∀ v H H', Ex H H' → GoneR K p c v H → GoneR K p c v H' := fun _ _ _ e ⟨d, a, r⟩ => ⟨d, a.ex e, r⟩
theorem GoneR.off (pu : Pur H p c m) (o : Off H H' p c) (h : GoneR K p c v H) : GoneR K p c v H' := let ⟨d, z, r⟩ := h; ⟨d, z.off pu o, r⟩
/-! new lists of new lists -/
end
end K80
end
section
namespace K80
open PySem PySem.Spec PyProof.Rows L2 Evl RZ Dw M20
theorem nozz {sg : List (Str × Nat)} (so : SigOk sg) (k : Nat) : (("zz" : Str), k) ∉ sg := fun h => by
  have nm : Name "zz" := so.nm _ h
  have := nm.abc 122 (by decide +kernel)
  exact absurd this (by decide +kernel)
theorem mod_size {sg : List (Str × Nat)} {k : Int} {x : PyData} (h : sizeB (.int k) = false) : modW sg (.tuple [.int k, x]) ≠ .none := by
  rw [modW, modW2, if_neg (by rw [h]; decide)]
  exact fun z => by cases z
section
variable {P : Program} {w : World} {K : PySem.W.Frag} {mg : Str → Option Value} {base : Heap} {σ : L2.St} {H H' Hb : Hp} {C : Nat → Addr} {G0 : Addr} {sg : List (Str × Nat)} {v : V} {p c : Addr} {t n m k W : Nat} {R : V → Hp → Prop} {te : TE} {ta : TA}
/-! what is no model -/
def MbR (K : PySem.W.Frag) (p c : Addr) (sg : List (Str × Nat)) (v : V) (H : Hp) : Prop := ∃ d, Dz K p c H v d ∧ Gb 9 14000 d ∧ modW sg d ≠ .none
theorem MbR.st : ∀ v H H', Ex H H' → MbR K p c sg v H → MbR K p c sg v H' := fun _ _ _ e ⟨d, a, r⟩ => ⟨d, a.ex e, r⟩
theorem MbR.off (pu : Pur H p c m) (o : Off H H' p c) (h : MbR K p c sg v H) : MbR K p c sg v H' := let ⟨d, z, r⟩ := h; ⟨d, z.off pu o, r⟩
/-! what is no term and no equation -/
def EbX (K : PySem.W.Frag) (sg : List (Str × Nat)) (v : V) (H : Hp) : Prop := ∃ e : Eb, e.ok sg ∧ e.w ≠ .none ∧ EbV K H sg e v
theorem EbX.st : ∀ v H H', Ex H H' → EbX K sg v H → EbX K sg v H' := fun _ _ _ e ⟨b, x, y, z⟩ => ⟨b, x, y, z.ex e⟩
def NoR (K : PySem.W.Frag) (p c : Addr) (sg : List (Str × Nat)) (v : V) (H : Hp) : Prop := ∃ d, Gb 33 3000 d ∧ ∀ H', Off H H' p c → (Dq K H' v d ∧ NF K H' sg v) ∧ EbX K sg v H'
theorem NoR.off (o : Off H H' p c) (h : NoR K p c sg v H) : NoR K p c sg v H' := let ⟨d, g, r⟩ := h; ⟨d, g, fun H2 o2 => r H2 (o.trans o2)⟩
theorem NoR.st : ∀ v H H', Ex H H' → NoR K p c sg v H → NoR K p c sg v H' := fun _ _ _ e h => h.off (Off.of_ex e)
/-! equations that are none -/
/-! kinds that are none -/
end
end K80
end
section
namespace K80
open PySem PySem.Spec PyProof.Rows L2 Evl RZ Dw M20
section
variable {P : Program} {w : World} {K : PySem.W.Frag} {mg : Str → Option Value} {base : Heap} {σ : L2.St} {H H' : Hp} {p c : Addr} {n m k t : Nat} {v : V} {te : TE}
theorem ev_intB {te : TE} {b : Bool} (h : Ev te σ H (.bl b)) : Ev (tCB (fun xs H Q => (∃ i, xs = [.int i] ∧ Q (.int i) H) ∨ ∃ k, xs = [.bl k] ∧ Q (.int (if k then 1 else 0)) H) (tCons te tNil)) σ H (.int (if b then 1 else 0)) := ev_cb (ea_cons h ea_nil) (fun H3 e3 Q q => .inr ⟨b, rfl, q H3 (Ex.refl _)⟩)
def sp_mixed : Sp := spX (fun (z : Int × Nat) vs H => vs = [.int z.1, vi z.2] ∧ 0 ≤ z.1 ∧ z.1 < 2147483629 ∧ z.2 ≤ 200000) (fun _ v _ => ∃ x : Int, v = .int x)
theorem c_mixed (T : Txt mg) (D : Df K mg "_law_mixed" s__law_mixed ["_law_cell", "_law_k"]) : Cl P w K mg base 1 "_law_mixed" sp_mixed := by
  refine cl_of (k := 0) D sc__law_mixed (fun vs H Q E h => ?_) (fun f cdv A outer s H vs Q E hr h => ?_)
  · obtain ⟨z, ⟨rfl, _⟩, _⟩ := h
    rfl
  · obtain ⟨⟨x, k⟩, ⟨rfl, x0, x1, k1⟩, q⟩ := h
    refine ⟨_, (pss_cons (ps_set (i := 2) sc__law_mixed.nd rfl (.inl rfl) (pe_op op_mod (pe_op op_add (pe_op op_add (pe_op op_mul (pv 0) pe_int) (pe_op op_mul (pv 1) pe_int)) pe_int) pe_int))
      (pss_cons (ps_set (i := 2) sc__law_mixed.nd rfl (.inl rfl) (pe_op op_mod (pe_op op_mul (pv 2) (pv 2)) pe_int))
      (pss_one (ps_ret (pe_op op_fdiv (pe_op op_mod (pe_op op_mul (pv 2) (pv 2)) pe_int) pe_int))))), ?_⟩
    replace x0 : 0 ≤ x := x0
    replace x1 : x < 2147483629 := x1
    replace k1 : k ≤ 200000 := k1
    have small : ∀ x m : Int, 0 < m → m < 2 ^ 40 → CMul (x % m) (x % m) := fun x m h1 h2 => .inl ⟨by have := Int.emod_nonneg x (show m ≠ 0 by omega); omega, by have := Int.emod_lt_of_pos x h1; omega⟩
    refine q_asg (ev_op (ev_op (ev_op (ev_op (ev_var rfl) ev_c (rv_I (.inr ⟨by decide, by decide⟩))) (ev_op (ev_var rfl) ev_c (rv_I (.inr ⟨by decide, by decide⟩))) rv_I0) ev_c rv_I0) ev_c (rv_I (by decide))) fun H1 e1 => ?_
    refine q_asg (ev_op (ev_op (ev_var rfl) (ev_var rfl) (rv_I (small _ _ (by decide) (by decide)))) ev_c (rv_I (by decide))) fun H2 e2 => ?_
    exact s_ret (ev_op (ev_op (ev_op (ev_var rfl) (ev_var rfl) (rv_I (small _ _ (by decide) (by decide)))) ev_c (rv_I (by decide))) ev_c (rv_I ⟨by decide, by decide⟩)) fun H3 e3 => q _ H3 ((e1.trans e2).trans e3) ⟨_, rfl⟩
def sp_pile (K : PySem.W.Frag) : Sp := fun vs H Q _ => ∃ (a : Addr) (ns : List Int) (k : Nat), vs = [.ref a, vi k] ∧ SqL K H a (ns.map V.int) ∧ ns.length ≤ 63 ∧ k < 20 ∧ ∀ p H', Ex H H' → H p = none → Pur H' p p 0 → Q (.ref p) H'
theorem c_pile (T : Txt mg) (D : Df K mg "_law_pile" s__law_pile ["_law_script", "_law_k"]) : Cl P w K mg base 1 "_law_pile" (sp_pile K) := by
  refine cl_of (k := 0) D sc__law_pile (fun vs H Q E h => ?_) (fun f cdv A outer s H vs Q E hr h => ?_)
  · obtain ⟨a, ns, k, rfl, _⟩ := h
    rfl
  · obtain ⟨a, ns, k, rfl, hS, len, k20, q⟩ := h
    refine ⟨_, (pss_cons (ps_set (i := 2) sc__law_pile.nd rfl (.inl rfl) pe_int)
      (pss_cut (ps_if (pt_cmpR op_lt (pv 1) (pe_callB call_len_seq (by rfl) T.z_len PySem.boot_len (pa_cons (pv 0) pa_nil)) (nomark _))
        (pss_one (ps_set (i := 2) sc__law_pile.nd rfl (.inl rfl) (pe_ix ix_list (pv 0) (pv 1) (fun _ _ => rfl))))
        pss_nil)
      (pss_cons (ps_set (i := 3) sc__law_pile.nd rfl (.inl rfl) (pe_op op_mod (pv 2) (pe_op op_mulW (pe_op op_mulW (pe_op op_pow pe_int pe_int) (pe_op op_pow pe_int pe_int)) (pe_op op_pow pe_int pe_int))))
      (pss_one (ps_ret (pe_lst (pa_cons (pe_op op_mul (pv 3) (pe_callTy call_int1 (by rfl) T.z_int (by decide +kernel) (pa_cons (pe_cmpR op_ge (pe_callB call_abs (by rfl) T.z_abs (by decide +kernel) (pa_cons (pv 2) pa_nil)) (pe_op op_pow pe_int pe_int) (nomark _)) pa_nil))) (pa_cons (pe_op op_mod (pv 2) pe_int) (pa_cons (pe_op op_mul pe_int (pv 1)) pa_nil))))))))), ?_⟩
    refine q_asg ev_c fun H1 e1 => ?_
    refine q_cut (M := fun σ' H' => Ex H H' ∧ ∃ x : Int, σ' = [some (.ref a), some (vi k), some (.int x), none]) ?_ (fun σ' H2 hM => ?_)
    · refine s_when (b := decide ((k : Int) < ((ns.map V.int).length : Int))) (et_test (ev_op (ev_var rfl) (ev_len (K := K) (ev_var rfl) (ex_l e1 hS)) rv_I0)) (fun hb H2 e2 => ?_) (fun hb H2 e2 => ⟨e1.trans e2, 0, rfl⟩)
      have kl : k < ns.length := by
        have := of_decide_eq_true hb
        rw [List.length_map] at this
        omega
      exact s_asg (ev_op (ev_var rfl) (ev_var rfl) (rv_ixL (ex_l (e1.trans e2) hS) (atI_vi (by rw [List.getElem?_map, List.getElem?_eq_getElem kl]; rfl)))) fun H3 e3 => ⟨(e1.trans e2).trans e3, ns[k], rfl⟩
    obtain ⟨e2, x, hσ⟩ := hM
    subst hσ
    have bb : ∀ i : Int, i.natAbs < 2 ^ 400 → CMulW i ((10 : Int) ^ (60 : Int).toNat) := fun i hi => wide_mul (a := 400) (b := 200) hi (by decide +kernel) (by decide) (by decide) (by decide)
    refine q_asg (ev_op (ev_var rfl) (ev_op (ev_op (ev_op ev_c ev_c (rv_I ⟨by decide, by decide, by decide⟩)) (ev_op ev_c ev_c (rv_I ⟨by decide, by decide, by decide⟩)) (rv_I (bb _ (by decide +kernel)))) (ev_op ev_c ev_c (rv_I ⟨by decide, by decide, by decide⟩)) (rv_I (bb _ (by decide +kernel)))) (rv_I (by decide +kernel))) fun H3 e3 => ?_
    have e10 : ((10 : Int) ^ (60 : Int).toNat * 10 ^ (60 : Int).toNat * 10 ^ (60 : Int).toNat) = 10 ^ 180 := by decide +kernel
    rw [e10]
    have d0 : 0 ≤ x % (10 : Int) ^ 180 := Int.emod_nonneg _ (by decide +kernel)
    have d1 : x % (10 : Int) ^ 180 < 10 ^ 180 := Int.emod_lt_of_pos _ (by decide +kernel)
    generalize x % (10 : Int) ^ 180 = dd at d0 d1
    show tRet _ _ [some (.ref a), some (vi k), some (.int x), some (.int dd)] H3
    have m0 : 0 ≤ x % (2147483629 : Int) := Int.emod_nonneg _ (by decide)
    have m1 : x % (2147483629 : Int) < 2147483629 := Int.emod_lt_of_pos _ (by decide)
    have last : Ev (tOp (rI CMul fun i j => .int (i * j)) (tC (.int 131)) (tVar 1)) [some (.ref a), some (vi k), some (.int x), some (.int dd)] H3 (vi (131 * k)) := ev_is (ev_op ev_c (ev_var rfl) (rv_I (.inl ⟨by decide, by decide⟩))) (by show V.int (131 * (k : Int)) = V.int ((131 * k : Nat) : Int); rw [Int.natCast_mul]; rfl)
    have mid : Ev (tOp (rI (fun _ j => 0 < j) fun i j => .int (i % j)) (tVar 2) (tC (.int 2147483629))) [some (.ref a), some (vi k), some (.int x), some (.int dd)] H3 (.int (x % 2147483629)) := ev_op (ev_var rfl) ev_c (rv_I (by decide))
    have cmB : ∀ b : Bool, CMul dd (if b = true then 1 else 0) := fun b => .inr (by cases b <;> exact ⟨by decide, by decide⟩)
    have mulB : ∀ b : Bool, 0 ≤ dd * (if b = true then 1 else 0) ∧ dd * (if b = true then 1 else 0) < 10 ^ 180 := fun b => by
      cases b with
      | true =>
        rw [if_pos rfl, Int.mul_one]
        exact ⟨d0, d1⟩
      | false =>
        rw [if_neg (by decide), Int.mul_zero]
        exact ⟨by decide, by decide +kernel⟩
    refine s_retL (el_lst (ea_cons (ev_op (ev_var rfl) (ev_intB (ev_op (ev_cb (z := .int (if x < 0 then -x else x)) (ea_cons (ev_var rfl) ea_nil) (fun H4 e4 Q q => ⟨x, rfl, q H4 (Ex.refl _)⟩)) (ev_op ev_c ev_c (rv_I ⟨by decide, by decide, by decide⟩)) rv_I0)) (rv_I (cmB _))) (ea_cons mid (ea_cons last ea_nil))) (by show 3 ≤ 100000; decide)) fun p H4 np e4 hp => q p H4 (e2.trans (e3.trans e4)) (fresh_back (e2.trans e3) np) ⟨rfl, _, _, 131 * k, hp, (mulB _).1, (mulB _).2, m0, m1, by omega⟩
/-- a number below n out of the pile -/
def sp_take : Sp := fun vs H Q _ => ∃ (p c : Addr) (t n : Nat), vs = [.ref p, vi n] ∧ Pur H p c t ∧ t ≤ 90000 ∧ 1 ≤ n ∧ n ≤ 1000 ∧ ∀ k H', k < n → Off H H' p c → Pur H' p c (t + 1) → Q (vi k) H'
theorem c_take (T : Txt mg) (D : Df K mg "_law_take" s__law_take ["_law_pile_here", "_law_many"]) (c_mixed : Cl P w K mg base 1 "_law_mixed" sp_mixed) : Cl P w K mg base 2 "_law_take" sp_take := by
  refine cl_of (k := 1) D sc__law_take (fun vs H Q E h => ?_) (fun f cdv A outer s H vs Q E hr h => ?_)
  · obtain ⟨p, c, t, n, rfl, _⟩ := h
    rfl
  · obtain ⟨p, c, t, n, rfl, pu, t9, n1, n2, q⟩ := h
    refine ⟨_, (pss_cons (ps_if (pt_cmpR op_eq (pe_ix ix_list (pv 0) pe_int (fun _ _ => rfl)) pe_int (nomark _))
        (pss_cons (ps_asg (pe_op op_add (pe_ix ix_list (pv 0) pe_int (fun _ _ => rfl)) pe_int) (pg_sub (pv 0) pe_int set_list))
        (pss_one (ps_ret (pe_op op_mod (pe_cl c_mixed hr (by first | decide | omega) (by rfl) (pa_cons (pe_ix ix_list (pv 0) pe_int (fun _ _ => rfl)) (pa_cons (pe_ix ix_list (pv 0) pe_int (fun _ _ => rfl)) pa_nil))) (pv 1)))))
        pss_nil)
      (pss_cons (ps_set (i := 2) sc__law_take.nd rfl (.inl rfl) (pe_op op_mod (pe_ix ix_list (pv 0) pe_int (fun _ _ => rfl)) (pv 1)))
      (pss_cons (ps_asg (pe_op op_fdiv (pe_ix ix_list (pv 0) pe_int (fun _ _ => rfl)) (pv 1)) (pg_sub (pv 0) pe_int set_list))
      (pss_one (ps_ret (pv 2)))))), ?_⟩
    obtain ⟨rfl, d, m, k, hp, d0, d1, m0, m1, kt⟩ := pu
    refine q_when (b := decide (d = 0)) (et_is (et_test (ev_op (ev_op (ev_var rfl) ev_c (rv_ixL (sq_of hp) (atI_vi (k := 0) rfl))) ev_c (rv_eq rfl))) (by
      show decide (V.int d = V.int 0) = decide (d = 0)
      exact decide_eq_decide.mpr ⟨fun z => by injection z, fun z => by rw [z]⟩)) (fun hb H1 e1 => ?_) (fun hb H1 e1 => ?_)
    · have hp1 := e1 _ _ hp
      refine q_setL (j := 2) hp1 (ev_op (ev_op (ev_var rfl) ev_c (rv_ixL (sq_of hp1) (atI_vi (k := 2) rfl))) ev_c rv_I0) (ev_var rfl) ev_c (by show 2 < 3; decide) fun H2 e2 => ?_
      have h2 : (upd H2 c (.lst (List.set [.int d, .int m, vi k] 2 (.int ((k : Int) + 1))))) c = some (.lst [.int d, .int m, vi (k + 1)]) := by
        rw [upd_same]
        show some (HO.lst [.int d, .int m, .int ((k : Int) + 1)]) = some (.lst [.int d, .int m, .int ((k + 1 : Nat) : Int)])
        rw [Int.natCast_add]
        rfl
      have off2 : Off H (upd H2 c (.lst (List.set [.int d, .int m, vi k] 2 (.int ((k : Int) + 1))))) c c := fun b o b1 b2 hb => by rw [upd_ne b1]; exact (e1.trans e2) _ _ hb
      generalize upd H2 c (.lst (List.set [.int d, .int m, vi k] 2 (.int ((k : Int) + 1)))) = H3 at h2 off2
      refine do_ret (do_op (ep_call (m, k + 1) (ea_cons (ev_op (ev_var rfl) ev_c (rv_ixL (sq_of h2) (atI_vi (k := 1) rfl))) (ea_cons (ev_op (ev_var rfl) ev_c (rv_ixL (sq_of h2) (atI_vi (k := 2) rfl))) ea_nil)) (fun H4 e4 => ⟨rfl, m0, m1, by show k + 1 ≤ 200000; omega⟩) H3 (Ex.refl _) _ fun v H4 e4 hv => ?_))
      obtain ⟨x, rfl⟩ := hv
      refine do_ev (ev_var rfl) fun H5 e5 => ?_
      obtain ⟨j, hj, ej⟩ := vi_mod (x := x) n1
      refine ⟨x, (n : Int), rfl, rfl, by show (0 : Int) < (n : Int); omega, ?_⟩
      show Q (V.int (x % (n : Int))) H5
      rw [ej]
      have e35 := e4.trans e5
      exact q j H5 hj (off2.trans (.of_ex e35)) ⟨rfl, d, m, k + 1, e35 _ _ h2, d0, d1, m0, m1, by omega⟩
    · have hp1 := e1 _ _ hp
      obtain ⟨j, hj, ej⟩ := vi_mod (x := d) n1
      refine q_asg (v := vi j) (ev_is (ev_op (ev_op (ev_var rfl) ev_c (rv_ixL (sq_of hp1) (atI_vi (k := 0) rfl))) (ev_var rfl) (rv_I (by show (0 : Int) < (n : Int); omega))) ej) fun H2 e2 => ?_
      have hp2 := e2 _ _ hp1
      refine q_setL (j := 0) hp2 (ev_op (ev_op (ev_var rfl) ev_c (rv_ixL (sq_of hp2) (atI_vi (k := 0) rfl))) (ev_var rfl) (rv_I ⟨by omega, by omega⟩)) (ev_var rfl) ev_c (by show 0 < 3; decide) fun H3 e3 => ?_
      refine s_ret (ev_var rfl) fun H4 e4 => q j H4 hj (fun b o b1 b2 hb => e4 _ _ (by rw [upd_ne b1]; exact ((e1.trans e2).trans e3) _ _ hb)) ⟨rfl, d / n, m, k, e4 _ _ upd_same, Int.ediv_nonneg d0 (by omega), ?_, m0, m1, by omega⟩
      exact Int.lt_of_le_of_lt (Int.ediv_le_self _ d0) d1
/-- take(pile, e), e worth n -/
theorem do_take {ta tb : TE} {E : XK} {Q : VK} (hp : Ev ta σ H (.ref p)) (hn : Ev tb σ H (vi n)) (pu : Pur H p c t) (t1 : t ≤ 90000) (n1 : 1 ≤ n) (n2 : n ≤ 1000) (q : ∀ k H', k < n → Off H H' p c → Pur H' p c (t + 1) → Q (vi k) H') :
    tCall sp_take [] E (tCons ta (tCons tb tNil)) σ H Q :=
  ea_cons hp (ea_cons hn ea_nil) H (Ex.refl H) _ fun H1 e1 => ⟨p, c, t, n, rfl, pu.ex e1, t1, n1, n2, fun k H' hk o p' => q k H' hk ((Off.of_ex e1).trans o) p'⟩
end
end K80
end
section
namespace K80
open PySem PySem.Spec PyProof.Rows L2 Evl RZ Dw M20
theorem perm_eraseV {α : Type} : ∀ {xs : List α} {k : Nat} {x : α}, xs[k]? = some x → (x :: xs.eraseIdx k).Perm xs
  | [], k, x, h => by simp at h
  | y :: r, 0, x, h => by
    cases Option.some.inj h
    exact List.Perm.refl _
  | y :: r, k + 1, x, h => by
    have z := perm_eraseV (xs := r) (k := k) (x := x) h
    rw [List.eraseIdx_cons_succ]
    exact (List.Perm.swap y x _).trans (z.cons y)
theorem paired_erase {α β : Type} {R : α → β → Prop} : ∀ {xs : List α} {ys : List β} (k : Nat), Paired R xs ys → Paired R (xs.eraseIdx k) (ys.eraseIdx k)
  | _, _, _, .nil => .nil
  | _, _, 0, .cons a b => b
  | _, _, k + 1, .cons a b => .cons a (paired_erase k b)
/-- letters a to t -/
abbrev abct : Str := "abcdefghijklmnopqrst"
theorem abct_l : abct.length = 20 := by decide +kernel
theorem abct_abc : ∀ c ∈ abct.cps.toList, c ∈ letters.cps.toList := by decide +kernel
theorem name_one {c : Nat} (h : c ∈ abct.cps.toList) : Name ⟨#[c]⟩ := ⟨by show 1 ≤ 1; decide, by show 1 ≤ 4; decide, fun x hx => by
  have : x = c := by simpa using hx
  rw [this]
  exact abct_abc c h⟩
theorem name_more {z : Str} {c : Nat} (nz : Name z) (l : z.length ≤ 3) (h : c ∈ abct.cps.toList) : Name (z ++ (⟨#[c]⟩ : Str)) := ⟨by rw [len_app]; have := nz.l1; omega, by rw [len_app]; show z.length + 1 ≤ 4; omega, fun x hx => by
  have e : (z ++ (⟨#[c]⟩ : Str)).cps.toList = z.cps.toList ++ [c] := by
    show (z.cps ++ #[c]).toList = _
    rw [Array.toList_append]
  rw [e, List.mem_append] at hx
  rcases hx with hx | hx
  · exact nz.abc x hx
  · rw [List.mem_singleton.mp hx]
    exact abct_abc c h⟩
def dpr (p : Str × Nat) : PyData := .tuple [.str p.1, .int ((p.2 : Nat) : Int)]
theorem map_eraseV {α β : Type} (f : α → β) : ∀ (xs : List α) (k : Nat), (xs.map f).eraseIdx k = (xs.eraseIdx k).map f
  | [], _ => rfl
  | _ :: _, 0 => rfl
  | x :: r, k + 1 => by
    rw [List.map_cons, List.eraseIdx_cons_succ, List.eraseIdx_cons_succ, map_eraseV f r k, List.map_cons]
section
variable {P : Program} {w : World} {K : PySem.W.Frag} {mg : Str → Option Value} {base : Heap} {σ : L2.St} {H H' : Hp} {p c : Addr} {n m k t : Nat} {v : V} {te : TE}
theorem sq_updL {r b : Addr} {x0 x1 ts : List V} (hr : H r = some (.lst x0)) (h : SqT K H b ts) : SqT K (upd H r (.lst x1)) b ts := h.imp (fun z => z.imp (fun z => by
  have ne : b ≠ r := fun e => by
    rw [e, hr] at z
    cases z
  rw [upd_ne ne]
  exact z) (fun ⟨o, z⟩ => ⟨o, by
  have ne : b ≠ r := fun e => by
    rw [e, hr] at z
    cases z
  rw [upd_ne ne]
  exact z⟩)) id
theorem el_listL {xs : List V} {a : Addr} (h : Ev te σ H (.ref a)) (hp : SqL K H a xs) : EvL (tCB (fun xs H Q => ∃ p ys, xs = [.ref p] ∧ (SqL K H p ys ∨ SqT K H p ys) ∧ ∀ l, H l = none → Q (.ref l) (upd H l (.lst ys))) (tCons te tNil)) σ H xs := fun H1 e Q q =>
  h H1 e _ fun H2 e2 => ⟨a, xs, rfl, .inl (ex_l (e.trans e2) hp), fun l nl => q l _ (fresh_back e2 nl) (e2.trans (Ex.new nl)) upd_same⟩
/-- l.pop(e) -/
theorem do_popAt {ta te : TE} {l : Addr} {Q : VK} (hl : ∃ xs, H l = some (.lst xs)) (ha : Ev ta σ H (.ref l)) (h : ∀ H1, Ex H H1 → te σ H1 fun v H2 => rPopAt (.ref l) [v] H2 Q) : tBM K "list" rPopAt ta (tCons te tNil) σ H Q :=
  ha H (Ex.refl H) _ fun H1 e1 => by
    obtain ⟨xs, hx⟩ := hl
    exact ⟨Or.inl ⟨rfl, xs, sq_of (e1 l _ hx)⟩, h H1 e1⟩
theorem six_of {i n : Nat} (h : i < n) : seqIndex? (i : Int) n = some i := by
  unfold seqIndex?
  simp [show ¬ ((i : Int) < 0) by omega, h]
/-- pairs and what they are -/
def DPs (K : PySem.W.Frag) (H : Hp) (ps : List Addr) (sg : List (Str × Nat)) : Prop := Paired (fun a d => SqT K H a [.str d.1, vi d.2]) ps sg
theorem dps_dp {ps : List Addr} {sg : List (Str × Nat)} (h : DPs K H ps sg) : DpAll K H (ps.map V.ref) (sg.map dpr) := by
  induction h with
  | nil => exact .nil
  | cons a b ih => exact .cons (.tup a (.cons (.str _) (.cons (.int _) .nil))) ih
theorem dps_et {ps : List Addr} {sg : List (Str × Nat)} (e : ET K H H') (h : DPs K H ps sg) : DPs K H' ps sg := paired_imp (fun _ _ z => e _ _ z) h
theorem dps_snoc {ps : List Addr} {sg : List (Str × Nat)} {r : Addr} {d : Str × Nat} (h : DPs K H ps sg) (s : SqT K H r [.str d.1, vi d.2]) : DPs K H (ps ++ [r]) (sg ++ [d]) := by
  induction h with
  | nil => exact .cons s .nil
  | cons a b ih => exact .cons a ih
theorem gd_pairs {sg : List (Str × Nat)} (h : ∀ d ∈ sg, Name d.1 ∧ d.2 ≤ 2) (l : sg.length ≤ 10) : Gb 2 400 (.list (sg.map dpr)) := by
  refine (gb_lst (gba_all (k := 1) (W := 28) fun d hd => ?_)).mono (Nat.le_refl _) (by rw [List.length_map]; omega)
  obtain ⟨x, hx, rfl⟩ := List.mem_map.mp hd
  obtain ⟨nm, p2⟩ := h x hx
  exact (gb_tup (gba_cons (K80.Gd.gb (gd_strB (name_cps nm) nm.l4)) (gba_one ((gb_dig (show x.2 ≤ 7 by omega)).mono (Nat.le_refl _) (show 10 ≤ 20 by decide))))).mono (Nat.le_refl _) (by decide)
def sp_order (K : PySem.W.Frag) : Sp := fun vs H Q _ => ∃ (p c : Addr) (t : Nat) (l : Addr) (ps : List Addr) (sg : List (Str × Nat)), vs = [.ref p, .ref l] ∧ Pur H p c t ∧ t ≤ 80000 ∧ H l = some (.lst (ps.map V.ref)) ∧ l ≠ p ∧ l ≠ c ∧ DPs K H ps sg ∧ (∀ d ∈ sg, Name d.1 ∧ d.2 ≤ 2) ∧ sg.length ≤ 4 ∧
  ∀ l' qs sg' t' H', H l' = none → Off H H' p c → Pur H' p c t' → t' ≤ t + 4 → H' l' = some (.lst (qs.map V.ref)) → DPs K H' qs sg' → sg'.Perm sg → Q (.ref l') H'
theorem c_order (T : Txt mg) (D : Df K mg "_law_order" s__law_order ["_law_pile_here", "_law_some"]) (c_take : Cl P w K mg base 2 "_law_take" sp_take) : Cl P w K mg base 3 "_law_order" (sp_order K) := by
  refine cl_of (k := 2) D sc__law_order (fun vs H Q E h => ?_) (fun f cdv A outer s H vs Q E hr h => ?_)
  · obtain ⟨p, c, t, l, ps, sg, rfl, _⟩ := h
    rfl
  · obtain ⟨p, c, t, l, ps, sg, rfl, pu, t8, hl, lp, lc, dp, nm, l4, q⟩ := h
    refine ⟨_, (pss_cons (ps_set (i := 2) sc__law_order.nd rfl (.inl rfl) (pe_callTy call_list_of (by rfl) T.z_list (by decide +kernel) (pa_cons (pv 1) pa_nil)))
      (pss_cons (ps_set (i := 3) sc__law_order.nd rfl (.inl rfl) (pe_lst pa_nil))
      (pss_cons (ps_while PassesOwn.never (pt_cmpR (op_neD hr.units) (pv 2) (pe_lst pa_nil) (nomark _))
        (pss_one (ps_expr (pe_bm PySem.F.plainAttrs_list PySem.F.slot_list_append PySem.F.type_list_append mt_append (pv 3) (pa_cons (pe_bm PySem.F.plainAttrs_list PySem.F.slot_list_pop PySem.F.type_list_pop mt_popAt (pv 2) (pa_cons (pe_cl c_take hr (by first | decide | omega) (by rfl) (pa_cons (pv 0) (pa_cons (pe_callB call_len_seq (by rfl) T.z_len PySem.boot_len (pa_cons (pv 2) pa_nil)) pa_nil))) pa_nil)) pa_nil)))))
      (pss_one (ps_ret (pv 3)))))), ?_⟩
    refine q_asgL (xs := ps.map V.ref) (el_listL (K := K) (ev_var rfl) (sq_of hl)) fun a H1 na e1 ha => ?_
    refine q_asgL (el_lst ea_nil (Nat.zero_le _)) fun b H2 nb e2 hb => ?_
    show tSeq _ _ _ [some (.ref p), some (.ref l), some (.ref a), some (.ref b)] H2
    have e02 := e1.trans e2
    have ab : a ≠ b := fun z => by
      rw [← z, ha] at nb
      cases nb
    obtain ⟨ap, ac⟩ := pu.fresh na
    have nbH : H b = none := fresh_back e1 nb
    obtain ⟨bp, bc⟩ := pu.fresh nbH
    refine q_while (fun m σ' H' => σ' = [some (.ref p), some (.ref l), some (.ref a), some (.ref b)] ∧ Off H H' p c ∧ Pur H' p c (t + 4 - m) ∧ ∃ (xs ys : List Addr) (sx sy : List (Str × Nat)), H' a = some (.lst (xs.map V.ref)) ∧ H' b = some (.lst (ys.map V.ref)) ∧ DPs K H' xs sx ∧ DPs K H' ys sy ∧ (sx ++ sy).Perm sg ∧ sx.length = m) sg.length ⟨rfl, .of_ex e02, (by
      obtain ⟨r, d, mm, k, z⟩ := pu.ex e02
      exact ⟨r, d, mm, k, z.1, z.2.1, z.2.2.1, z.2.2.2.1, z.2.2.2.2.1, by omega⟩), ps, [], sg, [], e2 _ _ ha, hb, dps_et (Dw.Ex.et e02) dp, .nil, by rw [List.append_nil], rfl⟩ (fun m σ' H' hW => ?_)
    obtain ⟨hσ, o, pu', xs, ys, sx, sy, hxa, hyb, dx, dy, pm, lm⟩ := hW
    subst hσ
    have lxs : xs.length = sx.length := paired_len dx
    have lall : sx.length + sy.length = sg.length := by rw [← List.length_append]; exact pm.length_eq
    have lys : ys.length = sy.length := paired_len dy
    have nx : ∀ d ∈ sx, Name d.1 ∧ d.2 ≤ 2 := fun d hd => nm d (pm.mem_iff.mp (List.mem_append_left _ hd))
    refine ⟨!(sx.map dpr).isEmpty, et_test (ev_opL (ev_var rfl) (el_lst ea_nil (by show 0 ≤ 100000; decide)) (fun r0 H3 hr0 e3 => fun H4 e4 Q4 q4 => ⟨.list (sx.map dpr), .list [], .lst (sq_of ((e3.trans e4) _ _ hxa)) (dps_dp (dps_et (Dw.Ex.et (e3.trans e4)) dx)), .lst (sq_of (e4 _ _ hr0)) .nil, shapedB (gd_pairs nx (by omega)) (by decide), by decide +kernel, by
      have z := q4 H4 (Ex.refl _)
      cases sx with
      | nil => exact z
      | cons a b => exact z⟩)), fun hb3 H3 e3 => ?_, fun hb3 H3 e3 => ?_⟩
    · refine ⟨fun σ2 H2 => ∃ m', m' < m ∧ (σ2 = [some (.ref p), some (.ref l), some (.ref a), some (.ref b)] ∧ Off H H2 p c ∧ Pur H2 p c (t + 4 - m') ∧ ∃ (xs ys : List Addr) (sx sy : List (Str × Nat)), H2 a = some (.lst (xs.map V.ref)) ∧ H2 b = some (.lst (ys.map V.ref)) ∧ DPs K H2 xs sx ∧ DPs K H2 ys sy ∧ (sx ++ sy).Perm sg ∧ sx.length = m'), fun _ _ z => z, ?_⟩
      have m1 : 1 ≤ m := by
        cases sx with
        | nil => cases hb3
        | cons x r => rw [← lm, List.length_cons]; omega
      refine do_app (e3 _ _ hyb) (ev_var rfl) fun H4 e4 => do_popAt ⟨_, (e3.trans e4) _ _ hxa⟩ (ev_var rfl) fun H5 e5 => ?_
      have e35 := e3.trans (e4.trans e5)
      refine do_take (n := m) (ev_var rfl) (ev_is (ev_len (K := K) (ev_var rfl) (sq_of (e35 _ _ hxa))) (by rw [List.length_map, lxs, lm])) (pu'.ex e35) (by omega) m1 (by omega) fun k H6 hk o6 pu6 => ?_
      have o36 : Off H' H6 p c := (Off.of_ex e35).trans o6
      have h6a := o36 _ _ ap ac hxa
      have h6b := o36 _ _ bp bc hyb
      have hk' : k < xs.length := by omega
      refine ⟨a, xs.map V.ref, (k : Int), k, .ref xs[k], rfl, rfl, h6a, by omega, by omega, six_of (by rw [List.length_map]; exact hk'), by rw [List.getElem?_map, List.getElem?_eq_getElem hk']; rfl, ?_⟩
      refine ⟨b, ys.map V.ref, _, rfl, rfl, by rw [upd_ne (Ne.symm ab)]; exact h6b, sz_lt (by rw [List.length_map]; omega), ?_⟩
      obtain ⟨d, hd, hs⟩ := paired_at dx (List.getElem?_eq_getElem hk')
      have u1 : ∀ a' ts, SqT K H6 a' ts → SqT K (upd (upd H6 a (.lst ((xs.map V.ref).eraseIdx k))) b (.lst (ys.map V.ref ++ [.ref xs[k]]))) a' ts := fun a' ts z => sq_updL (x0 := ys.map V.ref) (by rw [upd_ne (Ne.symm ab)]; exact h6b) (sq_updL h6a z)
      have et : ET K H' (upd (upd H6 a (.lst ((xs.map V.ref).eraseIdx k))) b (.lst (ys.map V.ref ++ [.ref xs[k]]))) := fun a' ts z => u1 _ _ (o36.et pu' _ _ z)
      refine ⟨m - 1, by omega, rfl, fun b' o' h1 h2 hh => ?_, ?_, xs.eraseIdx k, ys ++ [xs[k]], sx.eraseIdx k, sy ++ [d], ?_, ?_, paired_erase k (dps_et et dx), ?_, ?_, ?_⟩
      · have z := (o.trans o36) b' o' h1 h2 hh
        rw [upd_ne (ne_of_none hh nbH), upd_ne (ne_of_none hh na)]
        exact z
      · have z := (pu6.upd ap ac (o := .lst ((xs.map V.ref).eraseIdx k))).upd bp bc (o := .lst (ys.map V.ref ++ [.ref xs[k]]))
        obtain ⟨r, d0, mm, k0, z⟩ := z
        exact ⟨r, d0, mm, k0, z.1, z.2.1, z.2.2.1, z.2.2.2.1, z.2.2.2.2.1, by omega⟩
      · rw [upd_ne ab, upd_same, map_eraseV]
      · rw [upd_same, List.map_append]
        rfl
      · exact dps_snoc (dps_et et dy) (et _ _ hs)
      · have pe := perm_eraseV hd
        have : ((sx.eraseIdx k) ++ (sy ++ [d])).Perm (sx ++ sy) := by
          refine (List.Perm.append_left _ (List.perm_append_comm)).trans ?_
          refine List.Perm.trans ?_ (List.Perm.append_right sy pe)
          show (sx.eraseIdx k ++ (d :: sy)).Perm (d :: (sx.eraseIdx k ++ sy))
          exact List.perm_middle
        exact this.trans pm
      · rw [List.length_eraseIdx]
        split <;> omega
    · have s0 : sx = [] := by
        cases sx with
        | nil => rfl
        | cons x r => cases hb3
      subst s0
      rw [List.nil_append] at pm
      refine s_ret (ev_var rfl) fun H4 e4 => q b ys sy _ H4 nbH (o.trans (.of_ex (e3.trans e4))) (pu'.ex (e3.trans e4)) (by omega) ((e3.trans e4) _ _ hyb) (dps_et (Dw.Ex.et (e3.trans e4)) dy) pm
theorem do_testT {Q : Bool → Hp → Prop} (h : te σ H fun x H1 => ∃ b, x = .bl b ∧ Q b H1) : tTest te σ H Q := h
theorem s_forRX {D : Ends} {tu : TS} {ta : TA} {j : Nat} (C : Nat → Hp → Prop) (h : ∀ Q : List V → Hp → Prop, (∀ n H1, C n H1 → Q [vi n] H1) → ta σ H Q) (hn : ∀ n H1, C n H1 → n ≤ 100000) (Pv : Nat → Nat → L2.St → Hp → Prop) (h0 : ∀ n H1, C n H1 → Pv n 0 σ H1)
    (hs : ∀ n i σ' H', i < n → Pv n i σ' H' → tu { D with nx := Pv n (i + 1), ct := Pv n (i + 1), bk := D.nx } (σ'.set j (some (vi i))) H') (hd : ∀ n σ' H', Pv n n σ' H' → D.nx σ' H') : tFor (iRng1 ta) (gName j) tu D σ H :=
  h _ fun n H1 c => ⟨(n : Int), rfl, by have := hn n H1 c; omega, by have := hn n H1 c; omega, for_range (D := D) (lo := 0) (n := ((n : Nat) : Int).toNat) (Pv n) (h0 n H1 c) (fun i σ' H' hi p => by
    have e0 : (0 : Int) + (i : Int) = (i : Int) := Int.zero_add _
    show tu { D with nx := Pv n (i + 1), ct := Pv n (i + 1), bk := D.nx } (σ'.set j (some (.int ((0 : Int) + (i : Int))))) H'
    rw [e0]
    exact hs n i σ' H' (by rw [Int.toNat_natCast] at hi; exact hi) p) (fun σ' H' p => hd n σ' H' (by rw [Int.toNat_natCast] at p; exact p))⟩
/-- a sign of a text, by a draw -/
theorem do_sign {ta tp : TE} {E : XK} {Q : VK} (h : Ev ta σ H (.str abct)) (hp : ∀ H1, Ex H H1 → Ev tp σ H1 (.ref p)) (pu : Pur H p c t) (t9 : t ≤ 90000) (q : ∀ d H', d ∈ abct.cps.toList → Off H H' p c → Pur H' p c (t + 1) → Q (.str ⟨#[d]⟩) H') : tOp rIxS ta (tCall sp_take [] E (tCons tp (tCons (tC (vi 20)) tNil))) σ H Q := do_op (do_ev h fun H1 e1 => do_take (n := 20) (hp H1 e1) ev_c (pu.ex e1) t9 (by decide) (by decide) fun k H2 hk o2 pu2 => by
  have lk : k < abct.cps.toList.length := by
    have : abct.cps.toList.length = 20 := abct_l
    omega
  exact ⟨abct, (k : Int), abct.cps.toList[k], rfl, rfl, sz_of (by rw [abct_l]; decide), atI_nat (List.getElem?_eq_getElem lk), q _ H2 (List.getElem_mem lk) ((Off.of_ex e1).trans o2) pu2⟩)
def sp_word : Sp := fun vs H Q _ => ∃ (p c : Addr) (t : Nat), vs = [.ref p] ∧ Pur H p c t ∧ t ≤ 80000 ∧ ∀ z t' H', Off H H' p c → Pur H' p c t' → t' ≤ t + 6 → Name z → Q (.str z) H'
theorem c_word (T : Txt mg) (D : Df K mg "_law_word" s__law_word ["_law_pile_here"]) (c_take : Cl P w K mg base 2 "_law_take" sp_take) : Cl P w K mg base 3 "_law_word" sp_word := by
  refine cl_of (k := 2) D sc__law_word (fun vs H Q E h => ?_) (fun f cdv A outer s H vs Q E hr h => ?_)
  · obtain ⟨p, c, t, rfl, _⟩ := h
    rfl
  · obtain ⟨p, c, t, rfl, pu, t8, q⟩ := h
    refine ⟨_, (pss_cons (ps_set (i := 1) sc__law_word.nd rfl (.inl rfl) pe_str)
      (pss_cons (ps_set (i := 2) sc__law_word.nd rfl (.inl rfl) (pe_ix ix_str (pv 1) (pe_cl c_take hr (by first | decide | omega) (by rfl) (pa_cons (pv 0) (pa_cons pe_int pa_nil))) (fun _ _ => rfl)))
      (pss_cons (ps_if (pt_cmpR op_eq (pe_cl c_take hr (by first | decide | omega) (by rfl) (pa_cons (pv 0) (pa_cons pe_int pa_nil))) pe_int (nomark _))
        (pss_one (ps_for PassesOwn.never (by rfl) (pi_range1 (by rfl) T.z_range (pa_cons (pe_op op_add pe_int (pe_cl c_take hr (by first | decide | omega) (by rfl) (pa_cons (pv 0) (pa_cons pe_int pa_nil)))) pa_nil)) (pg_name (i := 3) sc__law_word.nd rfl (.inl rfl))
          (pss_one (ps_set (i := 2) sc__law_word.nd rfl (.inl rfl) (pe_op op_add_str (pv 2) (pe_ix ix_str (pv 1) (pe_cl c_take hr (by first | decide | omega) (by rfl) (pa_cons (pv 0) (pa_cons pe_int pa_nil))) (fun _ _ => rfl)))))))
        pss_nil)
      (pss_one (ps_ret (pv 2)))))), ?_⟩
    refine q_asg ev_c fun H1 e1 => ?_
    refine do_set (do_sign (ev_var rfl) (fun _ _ => ev_var rfl) (pu.ex e1) (by omega) fun d0 H2 hd0 o2 pu2 => ?_)
    have o02 : Off H H2 p c := (Off.of_ex e1).trans o2
    show tSeq _ _ _ [some (.ref p), some (.str abct), some (.str ⟨#[d0]⟩), none] H2
    refine q_whenE (do_testT (do_op (do_take (n := 3) (ev_var rfl) ev_c pu2 (by omega) (by decide) (by decide) fun k H3 hk o3 pu3 => do_ev ev_c fun H4 e4 => ⟨rfl, _, rfl, ?_⟩)))
    have o04 := (o02.trans o3).trans (.of_ex e4)
    have pu4 := pu3.ex e4
    cases hb : decide (V.int (k : Int) = V.int 0) with
    | false =>
      refine iteF ?_
      exact s_ret (ev_var rfl) fun H5 e5 => q _ _ H5 (o04.trans (.of_ex e5)) (pu4.ex e5) (by omega) (name_one hd0)
    | true =>
      refine iteT ?_
      refine s_forRX (fun n H5 => 1 ≤ n ∧ n ≤ 3 ∧ Off H H5 p c ∧ Pur H5 p c (t + 3)) (fun Q' q' => do_cons (do_op (do_ev ev_c fun H5 e5 => do_take (n := 3) (ev_var rfl) ev_c (pu4.ex e5) (by omega) (by decide) (by decide) fun j H6 hj o6 pu6 => ⟨1, (j : Int), rfl, rfl, do_nil ?_⟩))) (fun n H5 h => by omega)
        (fun n i σ' H5 => n ≤ 3 ∧ Off H H5 p c ∧ (∃ t', Pur H5 p c t' ∧ t' ≤ t + 3 + i) ∧ ∃ z y3, Name z ∧ z.length ≤ i + 1 ∧ σ' = [some (.ref p), some (.str abct), some (.str z), y3]) (fun n H5 h => ⟨h.2.1, h.2.2.1, ⟨_, h.2.2.2, Nat.le_refl _⟩, _, none, name_one hd0, by show 1 ≤ 1; decide, rfl⟩) (fun n i σ' H5 hi hP => ?_) (fun n σ' H5 hP => ?_)
      · have e : V.int (1 + (j : Int)) = vi (j + 1) := by
          show V.int (1 + (j : Int)) = V.int ((j + 1 : Nat) : Int)
          rw [Int.natCast_add, Int.add_comm]
          rfl
        show Q' [V.int (1 + (j : Int))] H6
        rw [e]
        exact q' (j + 1) H6 ⟨by omega, by omega, (o04.trans (.of_ex e5)).trans o6, pu6⟩
      · obtain ⟨n3, o5, ⟨t5, pu5, l5⟩, z, y3, nz, lz, hσ⟩ := hP
        subst hσ
        show tAsg _ _ _ [some (.ref p), some (.str abct), some (.str z), some (vi i)] H5
        refine do_asg (do_op (do_ev (ev_var rfl) fun H6 e6 => do_sign (ev_var rfl) (fun _ _ => ev_var rfl) (pu5.ex e6) (by omega) fun d1 H7 hd1 o7 pu7 => ⟨z, _, rfl, rfl, sz_of (by show z.length + 1 ≤ 100000; omega), ?_⟩))
        exact ⟨n3, (o5.trans (.of_ex e6)).trans o7, ⟨_, pu7, by omega⟩, _, _, name_more nz (by omega) hd1, by rw [len_app]; show z.length + 1 ≤ i + 1 + 1; omega, rfl⟩
      · obtain ⟨n3, o5, ⟨t5, pu5, l5⟩, z, y3, nz, lz, hσ⟩ := hP
        subst hσ
        exact s_ret (ev_var rfl) fun H6 e6 => q z _ H6 (o5.trans (.of_ex e6)) (pu5.ex e6) (by omega) nz
end
end K80
end
section
namespace K80
open PySem PySem.Spec PyProof.Rows L2 Evl RZ Dw M20
def fiveL : List Str := ["a", "b", "c", "d", "e"]
theorem five_ok : ∀ z ∈ fiveL, (1 ≤ z.length ∧ z.length ≤ 4) ∧ ∀ c ∈ z.cps.toList, c ∈ letters.cps.toList := by decide +kernel
section
variable {P : Program} {w : World} {K : PySem.W.Frag} {mg : Str → Option Value} {base : Heap} {σ : L2.St} {H H' : Hp} {p c : Addr} {n m k t : Nat} {v : V} {te : TE}
theorem ep_L {xs : List V} (h : EvL te σ H xs) : EvP te σ H (fun v H' => ∃ l, v = .ref l ∧ H l = none ∧ H' l = some (.lst xs)) := fun H1 e Q q => h H1 e _ fun l H2 nl e2 hl => q _ H2 e2 ⟨l, rfl, fresh_back e nl, hl⟩
def sp_sign (K : PySem.W.Frag) : Sp := fun vs H Q _ => ∃ (p c : Addr) (t : Nat), vs = [.ref p] ∧ Pur H p c t ∧ t ≤ 70000 ∧ ∀ v sg t' H', Off H H' p c → Pur H' p c t' → t' ≤ t + 60 → FSig K H' v sg → SigOk sg → 2 ≤ sg.length → (∃ z, (z, 0) ∈ sg) → Q v H'
theorem c_signature (T : Txt mg) (D : Df K mg "_law_signature" s__law_signature ["_law_pile_here"]) (c_take : Cl P w K mg base 2 "_law_take" sp_take) (c_word : Cl P w K mg base 3 "_law_word" sp_word) (c_order : Cl P w K mg base 3 "_law_order" (sp_order K)) : Cl P w K mg base 4 "_law_signature" (sp_sign K) := by
  refine cl_of (k := 3) D sc__law_signature (fun vs H Q E h => ?_) (fun f cdv A outer s H vs Q E hr h => ?_)
  · obtain ⟨p, c, t, rfl, _⟩ := h
    rfl
  · obtain ⟨p, c, t, rfl, pu, t7, q⟩ := h
    refine ⟨_, (pss_cons (ps_set (i := 1) sc__law_signature.nd rfl (.inr rfl) (pe_lst pa_nil))
      (pss_cons (ps_for PassesOwn.never (by rfl) (pi_range1 (by rfl) T.z_range (pa_cons (pe_op op_add pe_int (pe_cl c_take hr (by first | decide | omega) (by rfl) (pa_cons (pv 0) (pa_cons pe_int pa_nil)))) pa_nil)) (pg_name (i := 2) sc__law_signature.nd rfl (.inl rfl))
        (pss_cons (ps_set (i := 3) sc__law_signature.nd rfl (.inl rfl) (pe_cl c_word hr (by first | decide | omega) (by rfl) (pa_cons (pv 0) pa_nil)))
        (pss_cons (ps_if (pt_cmpR op_in_seq (pv 3) (pv 1) (by rfl))
          (pss_one (ps_set (i := 3) sc__law_signature.nd rfl (.inl rfl) (pe_ix ix_list (pe_lc (own := [("_law_one", 5)]) (g := (gName 5)) (by rfl) sc__law_signature.nd (pi_list (pe_lst (pa_cons pe_str (pa_cons pe_str (pa_cons pe_str (pa_cons pe_str (pa_cons pe_str pa_nil))))))) (blkOk_by (own := [("_law_one", 5)]) (N := ["_law_pile_here", "_law_names", "_law_k", "_law_word_here", "_law_found", "_law_one"]) (sc := defScope s__law_signature) (by decide +kernel)) (fun _ _ _ _ _ => (pg_name (i := 5) sc__law_signature.nd rfl (.inl rfl))) (fun _ _ _ _ _ => (pts_one (pt_cmpR (op_notIn_seqK K) (pv 5) (pv 1) (by rfl)))) (fun _ _ _ _ _ => (pv 5))) pe_int (fun _ _ => rfl))))
          pss_nil)
        (pss_one (ps_expr (pe_bm PySem.F.plainAttrs_list PySem.F.slot_list_append PySem.F.type_list_append mt_append (pv 1) (pa_cons (pv 3) pa_nil)))))))
      (pss_cons (ps_set (i := 4) sc__law_signature.nd rfl (.inl rfl) (pe_lst (pa_cons (pe_tup (pa_cons (pe_ix ix_list (pv 1) pe_int (fun _ _ => rfl)) (pa_cons pe_int pa_nil))) pa_nil)))
      (pss_cons (ps_for PassesOwn.never (by rfl) (pi_list (pe_slice sl_list (pv 1) (po_some pe_int) po_none)) (pg_name (i := 3) sc__law_signature.nd rfl (.inl rfl))
        (pss_one (ps_expr (pe_bm PySem.F.plainAttrs_list PySem.F.slot_list_append PySem.F.type_list_append mt_append (pv 4) (pa_cons (pe_tup (pa_cons (pv 3) (pa_cons (pe_ix ix_list (pe_lst (pa_cons pe_int (pa_cons pe_int (pa_cons pe_int (pa_cons pe_int (pa_cons pe_int (pa_cons pe_int pa_nil))))))) (pe_cl c_take hr (by first | decide | omega) (by rfl) (pa_cons (pv 0) (pa_cons pe_int pa_nil))) (fun _ _ => rfl)) pa_nil))) pa_nil)))))
      (pss_one (ps_ret (pe_callTy call_tupF (by rfl) T.z_tuple (by decide +kernel) (pa_cons (pe_cl c_order hr (by first | decide | omega) (by rfl) (pa_cons (pv 0) (pa_cons (pv 4) pa_nil))) pa_nil)))))))), ?_⟩
    refine q_asgL (el_lst ea_nil (Nat.zero_le _)) fun l H1 nl e1 hl => ?_
    obtain ⟨lp, lc⟩ := pu.fresh nl
    show tSeq _ _ _ [some (.ref p), some (.ref l), none, none, none, none] H1
    refine q_forRX (fun n H2 => 2 ≤ n ∧ n ≤ 4 ∧ Off H1 H2 p c ∧ Pur H2 p c (t + 1)) (fun Q' q' => do_cons (do_op (do_ev ev_c fun H2 e2 => do_take (n := 3) (ev_var rfl) ev_c (pu.ex (e1.trans e2)) (by omega) (by decide) (by decide) fun j H3 hj o3 pu3 => ⟨2, (j : Int), rfl, rfl, do_nil ?_⟩))) (fun n H2 h => by omega)
      (fun n i σ' H' => (2 ≤ n ∧ n ≤ 4) ∧ Off H H' p c ∧ (∃ t', Pur H' p c t' ∧ t' ≤ t + 1 + 6 * i) ∧ (∃ zs : List Str, H' l = some (.lst (zs.map V.str)) ∧ (∀ z ∈ zs, Name z) ∧ zs.Nodup ∧ zs.length = i) ∧ ∃ y2 y3, σ' = [some (.ref p), some (.ref l), y2, y3, none, none])
      (fun n H2 h => ⟨⟨h.1, h.2.1⟩, (Off.of_ex e1).trans h.2.2.1, ⟨_, h.2.2.2, by omega⟩, ⟨[], h.2.2.1 _ _ lp lc hl, fun _ z => (nomatch z), List.nodup_nil, rfl⟩, none, none, rfl⟩) (fun n i σ' H2 hi hP => ?_) (fun n σ' H2 hP => ?_)
    · have e : V.int (2 + (j : Int)) = vi (j + 2) := by
        show V.int (2 + (j : Int)) = V.int ((j + 2 : Nat) : Int)
        rw [Int.natCast_add, Int.add_comm]
        rfl
      show Q' [V.int (2 + (j : Int))] H3
      rw [e]
      exact q' (j + 2) H3 ⟨by omega, by omega, (Off.of_ex e2).trans o3, pu3⟩
    · obtain ⟨⟨n2, n4⟩, o2, ⟨t2, pu2, lt2⟩, ⟨zs, hzs, nz, nd, lz⟩, y2, y3, hσ⟩ := hP
      subst hσ
      refine do_set (ea_cons (ev_var rfl) ea_nil H2 (Ex.refl _) _ fun H3 e3 => ⟨p, c, t2, rfl, pu2.ex e3, by omega, fun z t4 H4 o4 pu4 l4 nmz => ?_⟩)
      have o24 : Off H2 H4 p c := (Off.of_ex e3).trans o4
      have hz4 := o24 _ _ lp lc hzs
      show tSeq _ _ _ [some (.ref p), some (.ref l), some (vi i), some (.str z), none, none] H4
      have fin : ∀ (z : Str) (H5 : Hp) {D : Ends}, Ex H4 H5 → Name z → z ∉ zs → (∀ σ' H', ((2 ≤ n ∧ n ≤ 4) ∧ Off H H' p c ∧ (∃ t', Pur H' p c t' ∧ t' ≤ t + 1 + 6 * (i + 1)) ∧ (∃ zs : List Str, H' l = some (.lst (zs.map V.str)) ∧ (∀ z ∈ zs, Name z) ∧ zs.Nodup ∧ zs.length = i + 1) ∧ ∃ y2 y3, σ' = [some (.ref p), some (.ref l), y2, y3, none, none]) → D.nx σ' H') → tDrop (tBM K "list" rAppend (tVar 1) (tCons (tVar 3) tNil)) D [some (.ref p), some (.ref l), some (vi i), some (.str z), none, none] H5 := fun z H5 D e5 nm nin hD => by
        refine s_app (e5 _ _ hz4) (ev_var rfl) (ev_var rfl) (by rw [List.length_map]; omega) fun H6 e6 => hD _ _ ?_
        have e46 := e5.trans e6
        refine ⟨⟨n2, n4⟩, fun b o b1 b2 hb => ?_, ⟨t4, ?_, by omega⟩, ⟨zs ++ [z], by rw [upd_same, List.map_append]; rfl, fun y hy => ?_, ?_, by rw [List.length_append, lz]; rfl⟩, _, _, rfl⟩
        · rw [upd_ne (ne_of_none hb nl)]
          exact ((o2.trans o24).trans (.of_ex e46)) b o b1 b2 hb
        · exact (pu4.ex e46).upd lp lc
        · rcases List.mem_append.mp hy with h | h
          · exact nz y h
          · rw [List.mem_singleton.mp h]
            exact nm
        · refine List.nodup_append.mpr ⟨nd, by simp, fun a ha b hb z2 => ?_⟩
          rw [List.mem_singleton.mp hb] at z2
          exact nin (z2 ▸ ha)
      refine q_when (b := decide (z ∈ zs)) (et_is (et_test (ev_op (ev_var rfl) (ev_var rfl) (rv_isL (K := K) (sq_of hz4) rfl (flat_strs zs)))) (by rw [inV_str])) (fun hb H5 e5 => ?_) (fun hb H5 e5 => fin z H5 e5 nmz (of_decide_eq_false hb) fun σ' H' h => h)
      have h5 := e5 _ _ hz4
      have fl := el_lcNL (K := K) (σ := [some (.ref p), some (.ref l), some (vi i), some (.str z), none, none]) (H := H5) (t := tTest (tOp (rIn K true) (tVar 5) (tVar 1))) (te := tVar 5) (j := 5) (vs := [5]) (fun i => decide (fiveL.getD i "" ∉ zs)) (fun i => .str (fiveL.getD i "")) (el_lst (vs := fiveL.map V.str) (ea_cons ev_c (ea_cons ev_c (ea_cons ev_c (ea_cons ev_c (ea_cons ev_c ea_nil))))) (by show 5 ≤ 100000; decide)) (by show 5 ≤ 40000; decide) (fun _ => rfl) (fun i x H6 e6 hx => ?_) (fun i x H6 e6 hx _ => ?_)
      · have e : (fiveL.map V.str).length = fiveL.length := List.length_map ..
        rw [e, given_filter fiveL (fun x => decide (x ∉ zs))] at fl
        obtain ⟨z9, r9, hz9⟩ : ∃ z9 r9, fiveL.filter (fun x => decide (x ∉ zs)) = z9 :: r9 := by
          cases hh : fiveL.filter (fun x => decide (x ∉ zs)) with
          | cons a b => exact ⟨a, b, rfl⟩
          | nil =>
            have sub : ∀ x ∈ fiveL, x ∈ zs := fun x hx => by
              have := List.filter_eq_nil_iff.mp hh x hx
              simpa using this
            have := nd_len (xs := fiveL) (ys := zs) (by decide +kernel) sub
            have f5 : fiveL.length = 5 := rfl
            omega
        rw [hz9] at fl
        have m9 : z9 ∈ fiveL.filter (fun x => decide (x ∉ zs)) := by rw [hz9]; exact List.mem_cons_self ..
        obtain ⟨m91, m92⟩ := List.mem_filter.mp m9
        refine do_asg (do_op (do_evL fl fun d H6 nd6 e6 hd => do_ev ev_c fun H7 e7 => ⟨d, _, 0, .str z9, rfl, rfl, sq_of (e7 _ _ hd), atI_vi (k := 0) rfl, ?_⟩))
        exact fin z9 H7 ((e5.trans e6).trans e7) ⟨(five_ok z9 m91).1.1, (five_ok z9 m91).1.2, (five_ok z9 m91).2⟩ (of_decide_eq_true m92) fun σ' H' h => h
      · have hi5 : i < fiveL.length := by
          have := (List.getElem?_eq_some_iff.mp hx).1
          rw [List.length_map] at this
          exact this
        rw [List.getElem?_map, List.getElem?_eq_getElem hi5] at hx
        cases Option.some.inj hx
        have g : fiveL.getD i "" = fiveL[i] := by rw [List.getD_eq_getElem?_getD, List.getElem?_eq_getElem hi5]; rfl
        rw [g]
        exact et_is (et_test (ev_op (ev_var rfl) (ev_var rfl) (rv_niL (K := K) (sq_of (e6 _ _ h5)) rfl (flat_strs zs)))) (by rw [inV_str]; simp)
      · have hi5 : i < fiveL.length := by
          have := (List.getElem?_eq_some_iff.mp hx).1
          rw [List.length_map] at this
          exact this
        rw [List.getElem?_map, List.getElem?_eq_getElem hi5] at hx
        cases Option.some.inj hx
        have g : fiveL.getD i "" = fiveL[i] := by rw [List.getD_eq_getElem?_getD, List.getElem?_eq_getElem hi5]; rfl
        rw [g]
        exact ev_var rfl
    · obtain ⟨⟨n2, n4⟩, o2, ⟨t2, pu2, lt2⟩, ⟨zs, hzs, nz, nd, lz⟩, y2, y3, hσ⟩ := hP
      subst hσ
      cases zs with
      | nil =>
        rw [List.length_nil] at lz
        omega
      | cons z0 zr =>
        rw [List.length_cons] at lz
        show tSeq _ _ _ [some (.ref p), some (.ref l), y2, y3, none, none] H2
        refine do_set (do_lst (do_cons (do_tup (do_cons (do_op (do_ev (ev_var rfl) fun I1 f1 => do_ev ev_c fun I2 f2 => ⟨l, _, 0, .str z0, rfl, rfl, sq_of ((f1.trans f2) _ _ hzs), atI_vi (k := 0) rfl, do_cons (do_ev ev_c fun I3 f3 => do_nil ⟨by show 2 ≤ sizeLine; decide, fun a0 na0 => do_nil ⟨by show 1 ≤ sizeLine; decide, fun b nb => ?_⟩⟩)⟩))))))
        have x1 : Ex H2 I3 := (f1.trans f2).trans f3
        have xa := Ex.new (o := .tup [.str z0, vi 0]) na0
        have nbH2 : H2 b = none := fresh_back (x1.trans xa) nb
        have nb0 : H b = none := by
          obtain ⟨bp, bc⟩ := pu2.fresh nbH2
          exact o2.back bp bc nbH2
        obtain ⟨bp, bc⟩ := pu.fresh nb0
        have xb := Ex.new (o := .lst [.ref a0]) nb
        have ha0 : SqT K (upd (upd I3 a0 (.tup [.str z0, .int 0])) b (.lst [.ref a0])) a0 [.str z0, vi 0] := ex_t xb (st_of upd_same)
        have hb0 : (upd (upd I3 a0 (.tup [.str z0, .int 0])) b (.lst [.ref a0])) b = some (.lst [.ref a0]) := upd_same
        have x3 : Ex H2 (upd (upd I3 a0 (.tup [.str z0, .int 0])) b (.lst [.ref a0])) := x1.trans (xa.trans xb)
        generalize upd (upd I3 a0 (.tup [.str z0, .int 0])) b (.lst [.ref a0]) = H3 at *
        have o3 := o2.trans (.of_ex x3)
        have pu3 := pu2.ex x3
        have hzs3 := x3 _ _ hzs
        show tSeq _ _ _ [some (.ref p), some (.ref l), y2, y3, some (.ref b), none] H3
        have cutL : cutV ((z0 :: zr).map V.str) (some (1 : Int)) none = zr.map V.str := by
          rw [show (1 : Int) = ((1 : Nat) : Int) from rfl, cut_from (by rw [List.length_map, List.length_cons]; omega)]
          rfl
        have sl := el_sl (K := K) (σ := [some (.ref p), some (.ref l), y2, y3, some (.ref b), none]) (H := H3) (te := tVar 1) (ev_var rfl) (eo_some (i := 1) (te := tC (.int 1)) ev_c) eo_none (sq_of hzs3)
        rw [cutL] at sl
        refine q_forP (ep_L sl) fun lv H4 e4 hl4 => ?_
        obtain ⟨sl4, rfl, nsl, hsl⟩ := hl4
        have nsl0 : H sl4 = none := by
          obtain ⟨bp, bc⟩ := pu3.fresh nsl
          exact o3.back bp bc nsl
        obtain ⟨sp4, sc4⟩ := pu.fresh nsl0
        have nslb : sl4 ≠ b := fun z => by
          rw [z, hb0] at nsl
          cases nsl
        refine ⟨sl4, _, rfl, sq_of hsl, fun i σ' H' => Off H H' p c ∧ H' sl4 = some (.lst (zr.map V.str)) ∧ (∃ t', Pur H' p c t' ∧ t' ≤ t + 30 + i) ∧ (∃ ps sg, H' b = some (.lst (ps.map V.ref)) ∧ DPs K H' ps sg ∧ sg.map (·.1) = z0 :: zr.take i ∧ (∀ d ∈ sg, d.2 ≤ 2) ∧ (z0, 0) ∈ sg) ∧ ∃ y3, σ' = [some (.ref p), some (.ref l), y2, y3, some (.ref b), none], ⟨o3.trans (.of_ex e4), hsl, ⟨_, pu3.ex e4, by omega⟩, ⟨[a0], [(z0, 0)], e4 _ _ hb0, .cons (ex_t e4 ha0) .nil, by rw [List.take_zero]; rfl, fun d hd => by rw [List.mem_singleton.mp hd]; exact Nat.zero_le _, List.mem_singleton.mpr rfl⟩, _, rfl⟩, fun i σ' H' _ h => sq_of h.2.1, fun i x σ' H5 hx hP => ?_, fun σ' H5 hP => ?_⟩
        · obtain ⟨o5, hs5, ⟨t5, pu5, l5⟩, ⟨ps, sg, hps, dp, mp, p2, has⟩, y3, hσ⟩ := hP
          subst hσ
          have hi : i < zr.length := by
            have := (List.getElem?_eq_some_iff.mp hx).1
            rw [List.length_map] at this
            exact this
          rw [List.getElem?_map, List.getElem?_eq_getElem hi] at hx
          cases Option.some.inj hx
          have lsg : sg.length = i + 1 := by
            have := congrArg List.length mp
            rw [List.length_map, List.length_cons, List.length_take] at this
            omega
          have lps : ps.length = sg.length := paired_len dp
          show tDrop _ _ [some (.ref p), some (.ref l), y2, some (.str zr[i]), some (.ref b), none] H5
          refine do_app hps (ev_var rfl) fun H6 e6 => do_tup (do_cons (do_ev (ev_var rfl) fun H7 e7 => do_cons (do_op (do_evL (el_lst (vs := [vi 0, vi 1, vi 2, vi 2, vi 1, vi 2]) (ea_cons ev_c (ea_cons ev_c (ea_cons ev_c (ea_cons ev_c (ea_cons ev_c (ea_cons ev_c ea_nil)))))) (by show 6 ≤ 100000; decide)) fun d H8 nd8 e8 hd => do_take (n := 6) (ev_var rfl) ev_c (pu5.ex ((e6.trans e7).trans e8)) (by omega) (by decide) (by decide) fun k H9 hk o9 pu9 => ?_))))
          obtain ⟨dp8, dc8⟩ := (pu5.ex (e6.trans e7)).fresh nd8
          have six6 : ∃ m, [vi 0, vi 1, vi 2, vi 2, vi 1, vi 2][k]? = some (vi m) ∧ m ≤ 2 := by
            have : k = 0 ∨ k = 1 ∨ k = 2 ∨ k = 3 ∨ k = 4 ∨ k = 5 := by omega
            rcases this with rfl | rfl | rfl | rfl | rfl | rfl
            · exact ⟨0, rfl, by decide⟩
            · exact ⟨1, rfl, by decide⟩
            · exact ⟨2, rfl, by decide⟩
            · exact ⟨2, rfl, by decide⟩
            · exact ⟨1, rfl, by decide⟩
            · exact ⟨2, rfl, by decide⟩
          obtain ⟨m, hm, m2⟩ := six6
          refine ⟨d, _, (k : Int), vi m, rfl, rfl, sq_of (o9 _ _ dp8 dc8 hd), atI_nat hm, do_nil ⟨by show 2 ≤ sizeLine; decide, fun r nr => ?_⟩⟩
          have o59 : Off H5 H9 p c := (Off.of_ex ((e6.trans e7).trans e8)).trans o9
          have h9b := o59 _ _ bp bc hps
          have h9s := o59 _ _ sp4 sc4 hs5
          have er := Ex.new (o := .tup [.str zr[i], vi m]) nr
          have et9 := o59.et pu5 (K := K)
          have hrb : r ≠ b := fun z => by
            rw [z, h9b] at nr
            cases nr
          have u1 : ∀ a' tt, SqT K H9 a' tt → SqT K (upd (upd H9 r (.tup [.str zr[i], vi m])) b (.lst (ps.map V.ref ++ [.ref r]))) a' tt := fun a' tt z => sq_updL (x0 := ps.map V.ref) (er _ _ h9b) (ex_t er z)
          refine ⟨b, _, _, rfl, rfl, er _ _ h9b, sz_lt (by rw [List.length_map]; omega), fun b' o' h1 h2 hh => ?_, ?_, ⟨t5 + 1, ?_, by omega⟩, ⟨ps ++ [r], sg ++ [(zr[i], m)], by rw [upd_same, List.map_append]; rfl, dps_snoc (dps_et (fun a' tt z => u1 _ _ (et9 _ _ z)) dp) (sq_updL (x0 := ps.map V.ref) (er _ _ h9b) (st_of upd_same)), ?_, fun d hd => ?_, List.mem_append_left _ has⟩, _, rfl⟩
          · rw [upd_ne (ne_of_none hh nb0)]
            exact ((o5.trans o59).trans (.of_ex er)) b' o' h1 h2 hh
          · rw [upd_ne nslb]
            exact er _ _ h9s
          · exact (pu9.ex er).upd bp bc
          · rw [List.map_append, mp, List.take_add_one, List.getElem?_eq_getElem hi]
            rfl
          · rcases List.mem_append.mp hd with h | h
            · exact p2 d h
            · rw [List.mem_singleton.mp h]
              exact m2
        · obtain ⟨o5, hs5, ⟨t5, pu5, l5⟩, ⟨ps, sg, hps, dp, mp, p2, has⟩, y3, hσ⟩ := hP
          subst hσ
          rw [List.length_map, List.take_length] at mp
          rw [List.length_map] at l5
          have lsg : sg.length = zr.length + 1 := by
            have := congrArg List.length mp
            rw [List.length_map, List.length_cons] at this
            exact this
          have nmd : ∀ d ∈ sg, Name d.1 ∧ d.2 ≤ 2 := fun d hd => ⟨nz d.1 (by rw [← mp]; exact List.mem_map_of_mem hd), p2 d hd⟩
          refine do_ret (do_cb (do_cons (do_cons (do_ev (ev_var rfl) fun I1 f1 => do_cons (do_ev (ev_var rfl) fun I2 f2 => do_nil ⟨p, c, t5, b, ps, sg, rfl, pu5.ex (f1.trans f2), by omega, (f1.trans f2) _ _ hps, bp, bc, dps_et (Dw.Ex.et (f1.trans f2)) dp, nmd, by omega, fun l9 qs sg9 t9 H9 nl9 o9 pu9 lt9 hq9 dp9 pm => do_nil ⟨l9, _, rfl, sq_of hq9, fun r ob nr od => ?_⟩⟩)))))
          have er := Ex.new (o := .frz ob (.tup (qs.map V.ref))) nr
          have pl := pm.length_eq
          refine q _ sg9 t9 _ ((o5.trans (.of_ex (f1.trans f2))).trans (o9.trans (.of_ex er))) (pu9.ex er) (by omega) ⟨r, ob, qs, rfl, upd_same, od, paired_imp (fun _ _ z => ex_t er z) dp9⟩ ⟨by omega, by omega, fun d hd => (nmd d (pm.mem_iff.mp hd)).1, fun d hd => (nmd d (pm.mem_iff.mp hd)).2, ?_⟩ (by omega) ⟨z0, pm.mem_iff.mpr has⟩
          have : (sg9.map (·.1)).Perm (sg.map (·.1)) := pm.map _
          rw [mp] at this
          exact this.nodup_iff.mpr nd
end
end K80
end
section
namespace K80
open PySem PySem.Spec PyProof.Rows L2 Evl RZ Dw M20
/-- the signs of a text -/
def lts (z : Str) : List Str := z.cps.toList.map one
theorem lts_at {z : Str} {i c : Nat} (h : z.cps[i]? = some c) : (one c) ∈ lts z := List.mem_map.mpr ⟨c, by
  obtain ⟨hi, e⟩ := Array.getElem?_eq_some_iff.mp h
  rw [← e]
  exact Array.getElem_mem_toList hi, rfl⟩
section
variable {P : Program} {w : World} {K : PySem.W.Frag} {mg : Str → Option Value} {base : Heap} {σ : L2.St} {H H' : Hp} {p c : Addr} {n m k t : Nat} {v : V} {te : TE}
theorem do_leafT {t1 t2 : TT} {ta tb tc : TE} {d : Nat} {b2 : Bool} {E : XK} {R : Bool → Hp → Prop} (h1 : EvT t1 σ H (decide (d = 0))) (h2 : EvT t2 σ H b2) (ha : ∀ H1, Ex H H1 → Ev ta σ H1 (.ref p)) (hb : ∀ H1, Ex H H1 → Ev tb σ H1 (vi 4)) (hc : ∀ H1, Ev tc σ H1 (.int 0)) (pu : Pur H p c t) (lt : t ≤ 90000)
    (h : ∀ b H2 t2, Off H H2 p c → Pur H2 p c t2 → t2 ≤ t + 1 → (d = 0 → t2 = t) → (b = false → 1 ≤ d ∧ b2 = false) → R b H2) : tOr t1 (tOr t2 (tTest (tOp rEq (tCall sp_take [] E (tCons ta (tCons tb tNil))) tc))) σ H R :=
  h1 H (Ex.refl _) _ fun H1 e1 => by
    by_cases z : d = 0
    · rw [decide_eq_true z]
      exact iteT (h true H1 t (.of_ex e1) (pu.ex e1) (by omega) (fun _ => rfl) (fun b => by cases b))
    · rw [decide_eq_false z]
      refine iteF (h2 H1 e1 _ fun H2 e2 => ?_)
      cases b2 with
      | true => exact iteT (h true H2 t (.of_ex (e1.trans e2)) (pu.ex (e1.trans e2)) (by omega) (fun _ => rfl) (fun b => by cases b))
      | false =>
        refine iteF (do_test (do_op (do_take (ha H2 (e1.trans e2)) (hb H2 (e1.trans e2)) (pu.ex (e1.trans e2)) (by omega) (by decide) (by decide) fun k H3 hk o3 pu3 => do_ev (hc H3) fun H4 e4 => rv_eq rfl H4 (Ex.refl _) _ fun H5 e5 => ⟨_, rfl, ?_⟩)))
        exact h _ H5 (t + 1) (((Off.of_ex (e1.trans e2)).trans o3).trans (.of_ex (e4.trans e5))) (pu3.ex (e4.trans e5)) (by omega) (fun e => by omega) (fun _ => ⟨by omega, rfl⟩)
/-- bare terms in a list -/
structure Bare (K : PySem.W.Frag) (H : Hp) (sg : List (Str × Nat)) (ls : List Str) (ts : List Tm) (us : List V) : Prop where
  tms : TmsV K H ts us
  ok : ∀ t ∈ ts, t.ok sg ∧ t.sz = 1 ∧ t.hgt ≤ 1 ∧ ∀ x ∈ t.ls, x ∈ ls
theorem Bare.et {sg : List (Str × Nat)} {ls : List Str} {ts : List Tm} {us : List V} (e : ET K H H') (h : Bare K H sg ls ts us) : Bare K H' sg ls ts us := ⟨h.tms.et e, h.ok⟩
theorem Bare.nil {sg : List (Str × Nat)} {ls : List Str} : Bare K H sg ls [] [] := ⟨by rw [TmsV], fun _ z => (nomatch z)⟩
theorem Bare.snoc {sg : List (Str × Nat)} {ls : List Str} {ts : List Tm} {us : List V} {t : Tm} {v : V} (h : Bare K H sg ls ts us) (tv : TmV K H t v) (ok : t.ok sg ∧ t.sz = 1 ∧ t.hgt ≤ 1 ∧ ∀ x ∈ t.ls, x ∈ ls) : Bare K H sg ls (ts ++ [t]) (us ++ [v]) := ⟨h.tms.snoc tv, fun t ht => by
  rcases List.mem_append.mp ht with z | z
  · exact h.ok t z
  · rw [List.mem_singleton.mp z]
    exact ok⟩
theorem Bare.app {sg : List (Str × Nat)} {ls : List Str} {ts ts2 : List Tm} {us us2 : List V} (h : Bare K H sg ls ts us) (h2 : Bare K H sg ls ts2 us2) : Bare K H sg ls (ts ++ ts2) (us ++ us2) := ⟨h.tms.app h2.tms, fun t ht => (List.mem_append.mp ht).elim (h.ok t) (h2.ok t)⟩
theorem bare_deed {sg : List (Str × Nat)} {ls : List Str} {z : Str} (h : (z, 0) ∈ sg) : (Tm.deed z []).ok sg ∧ (Tm.deed z []).sz = 1 ∧ (Tm.deed z []).hgt ≤ 1 ∧ ∀ x ∈ (Tm.deed z []).ls, x ∈ ls := by
  refine ⟨?_, ?_, ?_, ?_⟩
  · rw [Tm.ok, oks]
    exact ⟨h, trivial⟩
  · rw [Tm.sz, szs]
  · rw [Tm.hgt, hgts]
    exact Nat.le_refl _
  · intro x hx
    rw [Tm.ls, lss] at hx
    cases hx
def sp_lterm (K : PySem.W.Frag) (n : Nat) : Sp := fun vs H Q _ => ∃ (p c : Addr) (t d : Nat) (sv : V) (sg : List (Str × Nat)) (z : Str), vs = [.ref p, sv, .str z, vi d] ∧ d < n ∧ Pur H p c t ∧ t + 4 * 2 ^ d ≤ 80000 ∧ FSig K H sv sg ∧ SigOk sg ∧ (∃ y, (y, 0) ∈ sg) ∧ z.length ≤ 6 ∧ (∀ x ∈ lts z, x ∈ vars) ∧
  ∀ v tm t' H', Off H H' p c → Pur H' p c t' → t' + 2 ≤ t + 4 * 2 ^ d → TmV K H' tm v → tm.ok sg → tm.sz + 1 ≤ 2 ^ (d + 1) → tm.hgt ≤ d + 1 → (∀ x ∈ tm.ls, x ∈ lts z) → Q v H'
theorem c_lterm (T : Txt mg) (D : Df K mg "_law_term" s__law_term ["_law_pile_here", "_law_sig", "_law_letters_here", "_law_depth"]) (c_take : Cl P w K mg base 2 "_law_take" sp_take) : ∀ n : Nat, Cl P w K mg base (n + 3) "_law_term" (sp_lterm K n)
  | 0 => cl_of (k := 2) D sc__law_term (fun vs H Q E h => by
      obtain ⟨p, c, t, d, sv, sg, z, rfl, _⟩ := h
      rfl) (fun f cdv A outer s H vs Q E hr h => by
      obtain ⟨p, c, t, d, sv, sg, z, _, bad, _⟩ := h
      exact absurd bad (Nat.not_lt_zero _))
  | n + 1 => by
    have c_term := c_lterm T D c_take n
    refine cl_of (k := n + 3) D sc__law_term (fun vs H Q E h => ?_) (fun f cdv A outer s H vs Q E hr h => ?_)
    · obtain ⟨p, c, t, d, sv, sg, z, rfl, _⟩ := h
      rfl
    · obtain ⟨p, c, t, d, sv, sg, z, rfl, dn, pu, big, hG, so, bare, z6, sub, q⟩ := h
      refine ⟨_, (pss_cons (ps_set (i := 4) sc__law_term.nd rfl (.inl rfl) (pe_op op_cat (pe_lc (own := [("_law_x", 8)]) (g := (gName 8)) (by rfl) sc__law_term.nd (pi_str (pv 2)) (blkOk_by (own := [("_law_x", 8)]) (N := ["_law_pile_here", "_law_sig", "_law_letters_here", "_law_depth", "_law_ends", "_law_deeds", "_law_name", "_law_places", "_law_x", "_law_deed", "_law_k"]) (sc := defScope s__law_term) (by decide +kernel)) (fun _ _ _ _ _ => (pg_name (i := 8) sc__law_term.nd rfl (.inl rfl))) (fun _ _ _ _ _ => pts_nil) (fun _ _ _ _ _ => (pe_tup (pa_cons pe_str (pa_cons (pv 8) pa_nil))))) (pe_lc (own := [("_law_name", 6), ("_law_places", 7)]) (g := (gTup _ 2 (gCons (gName 6) (gCons (gName 7) gNil)))) (by rfl) sc__law_term.nd (pi_tup (pv 1)) (blkOk_by (own := [("_law_name", 6), ("_law_places", 7)]) (N := ["_law_pile_here", "_law_sig", "_law_letters_here", "_law_depth", "_law_ends", "_law_deeds", "_law_name", "_law_places", "_law_x", "_law_deed", "_law_k"]) (sc := defScope s__law_term) (by decide +kernel)) (fun _ _ _ _ _ => (pg_tup (by rfl) (pgs_cons (pg_name (i := 6) sc__law_term.nd rfl (.inl rfl)) (pgs_cons (pg_name (i := 7) sc__law_term.nd rfl (.inl rfl)) pgs_nil)))) (fun _ _ _ _ _ => (pts_one (pt_cmpR op_eq (pv 7) pe_int (nomark _)))) (fun _ _ _ _ _ => (pe_tup (pa_cons pe_str (pa_cons (pv 6) (pa_cons (pe_tup pa_nil) pa_nil))))))))
      (pss_cons (ps_setLc (i := 5) (own := [("_law_deed", 9)]) (g := (gName 9)) (by rfl) sc__law_term.nd rfl rfl (sw_true rfl rfl rfl (by decide +kernel)) (pi_tup (pv 1)) (blkOk_by (own := [("_law_deed", 9)]) (N := ["_law_pile_here", "_law_sig", "_law_letters_here", "_law_depth", "_law_ends", "_law_deeds", "_law_name", "_law_places", "_law_x", "_law_deed", "_law_k"]) (sc := defScope s__law_term) (by decide +kernel)) (fun _ _ _ _ _ => (pg_name (i := 9) sc__law_term.nd rfl (.inl rfl))) (fun _ _ _ _ _ => (pts_one (pt_cmpR op_gt (pe_ix (ix_tupK K) (pv 9) pe_int (fun _ _ => rfl)) pe_int (nomark _)))) (fun _ _ _ _ _ => (pv 9)))
      (pss_cons (ps_if (PW.pt (pw_or (pt_cmpR op_eq (pv 3) pe_int (nomark _)) (pw_or (pt_cmpR (op_eqD hr.units) (pv 5) (pe_lst pa_nil) (nomark _)) (pw_or1 (pt_cmpR op_eq (pe_cl c_take hr (by first | decide | omega) (by rfl) (pa_cons (pv 0) (pa_cons pe_int pa_nil))) pe_int (nomark _))))))
        (pss_one (ps_ret (pe_ix ix_list (pv 4) (pe_cl c_take hr (by first | decide | omega) (by rfl) (pa_cons (pv 0) (pa_cons (pe_callB call_len_seq (by rfl) T.z_len PySem.boot_len (pa_cons (pv 4) pa_nil)) pa_nil))) (fun _ _ => rfl))))
        pss_nil)
      (pss_cons (ps_asg (pe_ix ix_list (pv 5) (pe_cl c_take hr (by first | decide | omega) (by rfl) (pa_cons (pv 0) (pa_cons (pe_callB call_len_seq (by rfl) T.z_len PySem.boot_len (pa_cons (pv 5) pa_nil)) pa_nil))) (fun _ _ => rfl)) (pg_tup (by rfl) (pgs_cons (pg_name (i := 6) sc__law_term.nd rfl (.inl rfl)) (pgs_cons (pg_name (i := 7) sc__law_term.nd rfl (.inl rfl)) pgs_nil))))
      (pss_one (ps_ret (pe_tup (pa_cons pe_str (pa_cons (pv 6) (pa_cons (pe_callTy call_tuple_of (by rfl) T.z_tuple (by decide +kernel) (pa_cons (pe_lc (own := [("_law_k", 10)]) (g := (gName 10)) (by rfl) sc__law_term.nd (pi_range1 (by rfl) T.z_range (pa_cons (pv 7) pa_nil)) (blkOk_by (own := [("_law_k", 10)]) (N := ["_law_pile_here", "_law_sig", "_law_letters_here", "_law_depth", "_law_ends", "_law_deeds", "_law_name", "_law_places", "_law_x", "_law_deed", "_law_k"]) (sc := defScope s__law_term) (by decide +kernel)) (fun _ _ _ _ _ => (pg_name (i := 10) sc__law_term.nd rfl (.inl rfl))) (fun _ _ _ _ _ => pts_nil) (fun _ _ _ _ _ => (pe_cl c_term hr (by first | decide | omega) (by rfl) (pa_cons (pv 0) (pa_cons (pv 1) (pa_cons (pv 2) (pa_cons (pe_op op_sub (pv 3) pe_int) pa_nil))))))) pa_nil)) pa_nil)))))))))), ?_⟩
      have pow1 : 1 ≤ 2 ^ d := Nat.pow_pos (by decide)
      obtain ⟨sa, so1, ps, rfl, hsa, sod, prs⟩ := id hG
      have sqS : SqT K H sa (ps.map V.ref) := .inl (.inr ⟨so1, hsa⟩)
      have lps := paired_len prs
      have sl1 := so.l1
      have sl4 := so.l4
      -- the variables
      refine do_set (do_op ?_)
      refine do_lcIt (walk_str (z := z)) (fun R r => w_str (ev_var rfl) H (Ex.refl _) R r) (fun D2 j H' => H D2 = none ∧ Ex H H' ∧ ∃ (ts2 : List Tm) (us2 : List V), H' D2 = some (.lst us2) ∧ Bare K H' sg (lts z) ts2 us2 ∧ ts2.length = j)
        (fun D2 H5 e5 nD2 => ⟨fresh_back e5 nD2, e5.trans (Ex.new nD2), [], [], upd_same, .nil, rfl⟩) (fun _ _ _ _ _ => trivial) (fun D2 j x H5 H6 hj hP y => ?_) (fun D2 H5 hP => ?_)
      · obtain ⟨nD2, e5, ts2, us2, hus2, br2, lts2⟩ := hP
        obtain ⟨rfl, ch, hch, rfl⟩ := y
        have ltu2 := br2.tms.len
        have mem := lts_at hch
        have zz : z.cps.size ≤ 6 := z6
        refine ⟨rfl, iteT (do_tup (do_cons (do_ev ev_c fun H7 e7 => do_cons (do_ev (ev_var rfl) fun H8 e8 => do_nil ⟨by show 2 ≤ sizeLine; decide, fun r2 n2 => ?_⟩))))⟩
        have x9 : Ex H6 (upd H8 r2 (.tup [.str "var", .str (one ch)])) := (e7.trans e8).trans (Ex.new n2)
        have h2 : (upd H8 r2 (.tup [.str "var", .str (one ch)])) r2 = some (.tup [.str "var", .str (one ch)]) := upd_same
        generalize upd H8 r2 (.tup [.str "var", .str (one ch)]) = H9 at *
        have et9 : ET K H9 (upd H9 D2 (.lst (us2 ++ [.ref r2]))) := ET.refl.upd (x9 _ _ hus2)
        exact ⟨us2, x9 _ _ hus2, sz_lt (by omega), nD2, (e5.trans x9).mut nD2, ts2 ++ [.var (one ch)], us2 ++ [.ref r2], upd_same, (br2.et (ET.trans (Dw.Ex.et x9) et9)).snoc (tmv_var (et9 _ _ (st_of h2))) ⟨by rw [Tm.ok]; exact sub _ mem, by rw [Tm.sz], by rw [Tm.hgt]; exact Nat.zero_le _, fun x hx => by rw [Tm.ls, List.mem_singleton] at hx; rw [hx]; exact mem⟩, by rw [List.length_append, lts2]; rfl⟩
      obtain ⟨nD2, e5, ts2, us2, hus2, br2, lts2⟩ := hP
      -- the deeds of no places
      refine do_lcG walk_tup (fun R r => w_tup (K := K) (xs := ps.map V.ref) (ev_var rfl) (ex_t e5 sqS) H5 (Ex.refl _) R r) (fun D j H' => H5 D = none ∧ Ex H5 H' ∧ ∃ (ts : List Tm) (us : List V), H' D = some (.lst us) ∧ Bare K H' sg (lts z) ts us ∧ ts.length ≤ j ∧ ∀ i y, i < j → sg[i]? = some (y, 0) → 1 ≤ ts.length)
        (fun D H3 e3 nD => ⟨fresh_back e3 nD, e3.trans (Ex.new nD), [], [], upd_same, .nil, Nat.le_refl _, fun i y hi _ => absurd hi (Nat.not_lt_zero _)⟩) (fun D j H3 _ h => ex_t (e5.trans h.2.1) sqS) (fun D j x H3 H4 hj hP y => ?_) (fun D H3 hP => ?_)
      · obtain ⟨nD, e3, ts, us, hus, br, lts1, hsm⟩ := hP
        obtain ⟨rfl, hx⟩ := y
        rw [List.length_map] at hj
        obtain ⟨r, er, hr'⟩ : ∃ r, ps[j]? = some r ∧ x = .ref r := by
          rw [List.getElem?_map, List.getElem?_eq_getElem hj] at hx
          exact ⟨_, List.getElem?_eq_getElem hj, (Option.some.inj hx).symm⟩
        subst hr'
        obtain ⟨dd, ed, hdd⟩ := paired_at prs er
        have ltu := br.tms.len
        refine ⟨r, _, rfl, ex_t (e5.trans e3) hdd, rfl, _, _, rfl, _, _, rfl, rfl, rfl, ?_⟩
        refine et_test (ev_op (ev_var rfl) ev_c (rv_eq rfl)) _ (Ex.refl _) _ fun H6 e6 => ?_
        by_cases p0 : dd.2 = 0
        · rw [show decide (vi dd.2 = V.int 0) = true from decide_eq_true (by rw [p0]; rfl)]
          refine iteT (do_tup (do_cons (do_ev ev_c fun H7 e7 => do_cons (do_ev (ev_var rfl) fun H8 e8 => do_cons (do_tup (do_nil ⟨Nat.zero_le _, fun r1 n1 => do_nil ⟨by show 3 ≤ sizeLine; decide, fun r2 n2 => ?_⟩⟩))))))
          have e68 := (e6.trans e7).trans e8
          have x9 : Ex H4 (upd (upd H8 r1 (.tup [])) r2 (.tup [.str "deed", .str dd.1, .ref r1])) := (e68.trans (Ex.new n1)).trans (Ex.new n2)
          have h2 : (upd (upd H8 r1 (.tup [])) r2 (.tup [.str "deed", .str dd.1, .ref r1])) r2 = some (.tup [.str "deed", .str dd.1, .ref r1]) := upd_same
          have h1 : (upd (upd H8 r1 (.tup [])) r2 (.tup [.str "deed", .str dd.1, .ref r1])) r1 = some (.tup []) := Ex.new n2 _ _ upd_same
          generalize upd (upd H8 r1 (.tup [])) r2 (.tup [.str "deed", .str dd.1, .ref r1]) = H9 at *
          have et9 : ET K H9 (upd H9 D (.lst (us ++ [.ref r2]))) := ET.refl.upd (x9 _ _ hus)
          have dm : (dd.1, 0) ∈ sg := by
            rw [show (dd.1, 0) = dd by rw [← p0]]
            exact List.mem_of_getElem? ed
          refine ⟨us, x9 _ _ hus, sz_lt (by omega), nD, (e3.trans x9).mut nD, ts ++ [.deed dd.1 []], us ++ [.ref r2], upd_same, (br.et (ET.trans (Dw.Ex.et x9) et9)).snoc (tmv_deed (et9 _ _ (st_of h2)) (et9 _ _ (st_of h1)) (by rw [TmsV])) (bare_deed dm), by rw [List.length_append]; show ts.length + 1 ≤ j + 1; omega, fun i y hi _ => by rw [List.length_append]; show 1 ≤ ts.length + 1; omega⟩
        · rw [show decide (vi dd.2 = V.int 0) = false from decide_eq_false (fun z => p0 (by have := V.int.inj z; omega))]
          refine iteF ⟨nD, e3.trans e6, ts, us, e6 _ _ hus, br.et (Dw.Ex.et e6), by omega, fun i y hi hy => ?_⟩
          by_cases ij : i < j
          · exact hsm i y ij hy
          · have : i = j := by omega
            rw [this, ed] at hy
            exact absurd (congrArg (·.2) (Option.some.inj hy)) p0
      obtain ⟨nD, e3, ts, us, hus, br, lts1, hsm⟩ := hP
      rw [List.length_map] at lts1 hsm
      have some1 : 1 ≤ ts.length := by
        obtain ⟨y, hy⟩ := bare
        obtain ⟨i, hi, e⟩ := List.mem_iff_getElem.mp hy
        exact hsm i y (by omega) (by rw [List.getElem?_eq_getElem hi, e])
      have ltu := br.tms.len
      have ltu2 := br2.tms.len
      refine ⟨D2, D, us2, us, rfl, rfl, e3 _ _ hus2, hus, sz_of (by have : z.cps.size ≤ 6 := z6; omega), fun el nel => ?_⟩
      have xn := Ex.new (o := .lst (us2 ++ us)) nel
      have x03 : Ex H (upd H3 el (.lst (us2 ++ us))) := (e5.trans e3).trans xn
      have hel : (upd H3 el (.lst (us2 ++ us))) el = some (.lst (us2 ++ us)) := upd_same
      have brA : Bare K (upd H3 el (.lst (us2 ++ us))) sg (lts z) (ts2 ++ ts) (us2 ++ us) := (br2.et (Dw.Ex.et (e3.trans xn))).app (br.et (Dw.Ex.et xn))
      have nelH : H el = none := fresh_back (e5.trans e3) nel
      obtain ⟨elp, elc⟩ := pu.fresh nelH
      generalize upd H3 el (.lst (us2 ++ us)) = H6 at *
      have leA : (us2 ++ us).length ≤ 11 := by
        rw [List.length_append]
        have : z.cps.size ≤ 6 := z6
        omega
      have leB : 1 ≤ (us2 ++ us).length := by
        rw [List.length_append]
        omega
      show tSeq _ _ _ [some (.ref p), some (.ref sa), some (.str z), some (vi d), some (.ref el), none, none, none, none, none, none] H6
      -- the deeds of places
      refine do_set (do_lcG walk_tup (fun R r => w_tup (K := K) (xs := ps.map V.ref) (ev_var rfl) (ex_t x03 sqS) H6 (Ex.refl _) R r) (fun D j H' => H6 D = none ∧ Ex H6 H' ∧ ∃ (qs : List Addr) (sd : List (Str × Nat)), H' D = some (.lst (qs.map V.ref)) ∧ DPs K H' qs sd ∧ (∀ x ∈ sd, x ∈ sg ∧ 0 < x.2) ∧ sd.length ≤ j)
        (fun D H7 e7 nD => ⟨fresh_back e7 nD, e7.trans (Ex.new nD), [], [], upd_same, .nil, fun _ z => (nomatch z), Nat.le_refl _⟩) (fun D j H7 _ h => ex_t (x03.trans h.2.1) sqS) (fun D j x H7 H8 hj hP y => ?_) (fun D H7 hP => ?_))
      · obtain ⟨nD, e7, qs, sd, hqs, dq, msd, lsd⟩ := hP
        obtain ⟨rfl, hx⟩ := y
        rw [List.length_map] at hj
        obtain ⟨r, er, hr'⟩ : ∃ r, ps[j]? = some r ∧ x = .ref r := by
          rw [List.getElem?_map, List.getElem?_eq_getElem hj] at hx
          exact ⟨_, List.getElem?_eq_getElem hj, (Option.some.inj hx).symm⟩
        subst hr'
        obtain ⟨dd, ed, hdd⟩ := paired_at prs er
        have lq : qs.length = sd.length := paired_len dq
        refine ⟨rfl, ?_⟩
        refine et_test (ev_op (ev_op (ev_var rfl) ev_c (rv_ixT (K := K) (ex_t (x03.trans e7) hdd) (atI_vi (k := 1) rfl))) ev_c rv_I0) _ (Ex.refl _) _ fun H9 e9 => ?_
        by_cases p0 : 0 < dd.2
        · rw [show decide (((dd.2 : Nat) : Int) > 0) = true from decide_eq_true (by omega)]
          refine iteT (do_ev (ev_var rfl) fun H10 e10 => ?_)
          have x10 := e9.trans e10
          have et9 : ET K H10 (upd H10 D (.lst (qs.map V.ref ++ [.ref r]))) := ET.refl.upd (x10 _ _ hqs)
          refine ⟨_, x10 _ _ hqs, sz_lt (by rw [List.length_map]; omega), nD, (e7.trans x10).mut nD, qs ++ [r], sd ++ [dd], by rw [upd_same, List.map_append]; rfl, dps_snoc (dps_et (ET.trans (Dw.Ex.et x10) et9) dq) (et9 _ _ (ex_t (x03.trans (e7.trans x10)) hdd)), fun x hx => ?_, by rw [List.length_append]; show sd.length + 1 ≤ j + 1; omega⟩
          rcases List.mem_append.mp hx with h | h
          · exact msd x h
          · rw [List.mem_singleton.mp h]
            exact ⟨List.mem_of_getElem? ed, p0⟩
        · rw [show decide (((dd.2 : Nat) : Int) > 0) = false from decide_eq_false (by omega)]
          exact iteF ⟨nD, e7.trans e9, qs, sd, e9 _ _ hqs, dps_et (Dw.Ex.et e9) dq, msd, by omega⟩
      obtain ⟨nD, e7, qs, sd, hqs, dq, msd, lsd⟩ := hP
      rw [List.length_map] at lsd
      have lq : qs.length = sd.length := paired_len dq
      have x07 := x03.trans e7
      have nDH : H D = none := fresh_back x03 nD
      obtain ⟨Dp, Dc⟩ := pu.fresh nDH
      have hel7 := e7 _ _ hel
      have brA7 := brA.et (Dw.Ex.et e7)
      have nmd : ∀ x ∈ sd, Name x.1 ∧ x.2 ≤ 2 := fun x hx => ⟨so.nm x (msd x hx).1, so.pl x (msd x hx).1⟩
      show tSeq _ _ _ [some (.ref p), some (.ref sa), some (.str z), some (vi d), some (.ref el), some (.ref D), none, none, none, none, none] H7
      refine do_when (do_leafT (d := d) (b2 := (sd.map dpr).isEmpty) (et_is (et_test (ev_op (ev_var rfl) ev_c (rv_eq rfl))) (by
          show decide (V.int (d : Int) = V.int 0) = decide (d = 0)
          exact decide_eq_decide.mpr ⟨fun z => by
            injection z with z
            omega, fun z => by rw [z]; rfl⟩)) (et_test (ev_opL (ev_var rfl) (el_lst ea_nil (by show 0 ≤ 100000; decide)) (fun r0 H8 hr0 e8 => fun H9 e9 Q4 q4 => ⟨.list (sd.map dpr), .list [], .lst (sq_of ((e8.trans e9) _ _ hqs)) (dps_dp (dps_et (Dw.Ex.et (e8.trans e9)) dq)), .lst (sq_of (e9 _ _ hr0)) .nil, shapedB (gd_pairs nmd (by omega)) (by decide), by decide +kernel, by
            have z := q4 H9 (Ex.refl _)
            cases sd with
            | nil => exact z
            | cons a b => exact z⟩))) (fun H1 _ => ev_var rfl) (fun H1 _ => ev_c) (fun H1 => ev_c) (pu.ex x07) (by omega) fun b H8 t2 o8 pu8 lt8 d0 bd => ?_)
      have o08 : Off H H8 p c := (Off.of_ex x07).trans o8
      have hel8 := o8 _ _ elp elc hel7
      have brA8 := brA7.et (o8.et (pu.ex x07))
      have p2 : 2 ≤ 2 ^ (d + 1) := by rw [Nat.pow_succ]; omega
      cases b with
      | true =>
        refine iteT (do_ret (do_op (do_ev (ev_var rfl) fun H9 e9 => do_take (n := (us2 ++ us).length) (ev_var rfl) (ev_len (K := K) (ev_var rfl) (sq_of (e9 _ _ hel8))) (pu8.ex e9) (by omega) leB (by omega) fun k H10 hk o10 pu10 => ?_)))
        have o910 : Off H8 H10 p c := (Off.of_ex e9).trans o10
        have hk' : (us2 ++ us)[k]? = some (us2 ++ us)[k] := List.getElem?_eq_getElem hk
        obtain ⟨tm, htm, tv⟩ := brA8.tms.get hk'
        have okm := brA8.ok tm (List.mem_of_getElem? htm)
        refine ⟨el, us2 ++ us, (k : Int), _, rfl, rfl, sq_of (o910 _ _ elp elc hel8), atI_nat hk', ?_⟩
        refine q _ tm (t2 + 1) H10 (o08.trans o910) pu10 ?_ (tv.et (o910.et pu8)) okm.1 (by rw [okm.2.1]; exact p2) (Nat.le_trans okm.2.2.1 (by omega)) okm.2.2.2
        by_cases z : d = 0
        · subst z
          rw [d0 rfl]
          show t + 1 + 2 ≤ t + 4 * 1
          omega
        · have : 2 ≤ 2 ^ d := by
            have : 2 ^ 1 ≤ 2 ^ d := Nat.pow_le_pow_right (by decide) (by omega)
            exact this
          omega
      | false =>
        refine iteF ?_
        obtain ⟨d1, b2⟩ := bd rfl
        have sd1 : 1 ≤ sd.length := by
          cases sd with
          | nil => cases b2
          | cons x r => rw [List.length_cons]; omega
        obtain ⟨d', rfl⟩ : ∃ d', d = d' + 1 := ⟨d - 1, by omega⟩
        have pd : 2 ^ (d' + 1) = 2 * 2 ^ d' := by rw [Nat.pow_succ, Nat.mul_comm]
        have pd2 : 2 ^ (d' + 1 + 1) = 2 * 2 ^ (d' + 1) := by rw [Nat.pow_succ, Nat.mul_comm]
        have q1 : 1 ≤ 2 ^ d' := Nat.pow_pos (by decide)
        have hqs8 := o8 _ _ Dp Dc hqs
        have dq8 := dps_et (o8.et (pu.ex x07)) dq
        refine do_setG (do_op (do_ev (ev_var rfl) fun H9 e9 => do_take (n := qs.length) (ev_var rfl) (ev_is (ev_len (K := K) (ev_var rfl) (sq_of (e9 _ _ hqs8))) (by rw [List.length_map])) (pu8.ex e9) (by omega) (by omega) (by omega) fun k H10 hk o10 pu10 => ?_))
        have o810 : Off H8 H10 p c := (Off.of_ex e9).trans o10
        obtain ⟨dd, ed, hdd⟩ := paired_at dq8 (List.getElem?_eq_getElem hk)
        have memd : dd ∈ sg := (msd dd (List.mem_of_getElem? ed)).1
        have pl2 : dd.2 ≤ 2 := so.pl _ memd
        refine ⟨D, qs.map V.ref, (k : Int), .ref qs[k], rfl, rfl, sq_of (o810 _ _ Dp Dc hqs8), atI_nat (by rw [List.getElem?_map, List.getElem?_eq_getElem hk]; rfl), ?_⟩
        refine ⟨qs[k], _, rfl, o810.et pu8 _ _ hdd, rfl, _, _, rfl, _, _, rfl, rfl, ?_⟩
        show tRet _ _ [some (.ref p), some (.ref sa), some (.str z), some (vi (d' + 1)), some (.ref el), some (.ref D), some (.str dd.1), some (vi dd.2), none, none, none] H10
        refine do_ret (do_tup (do_cons (do_ev ev_c fun H11 e11 => do_cons (do_ev (ev_var rfl) fun H12 e12 => do_cons (do_cb (do_cons ?_))))))
        have e1012 := e11.trans e12
        have pu12 := pu10.ex e1012
        have o012 : Off H H12 p c := (o08.trans o810).trans (.of_ex e1012)
        have hG12 : FSig K H12 (.ref sa) sg := hG.off pu o012
        refine do_lcIt walk_range (fun R r => w_rng (n := dd.2) (ea_cons (ev_var rfl) ea_nil) (by omega) H12 (Ex.refl _) R r) (fun D j H' => H12 D = none ∧ Off H12 H' p c ∧ (∃ t', Pur H' p c t' ∧ t' + 2 * j ≤ t2 + 1 + j * (4 * 2 ^ d')) ∧ ∃ (ts : List Tm) (us : List V), H' D = some (.lst us) ∧ TmsV K H' ts us ∧ ts.length = j ∧ (∀ t ∈ ts, t.ok sg ∧ t.hgt ≤ d' + 1 ∧ t.sz + 1 ≤ 2 ^ (d' + 1) ∧ ∀ x ∈ t.ls, x ∈ lts z) ∧ szs ts + j ≤ j * 2 ^ (d' + 1))
          (fun D H13 e13 nD => ⟨fresh_back e13 nD, .of_ex (e13.trans (Ex.new nD)), ⟨_, pu12.ex (e13.trans (Ex.new nD)), by omega⟩, [], [], upd_same, by rw [TmsV], rfl, fun _ z => (nomatch z), by rw [szs]; omega⟩) (fun _ _ _ _ _ => trivial) (fun D j x H13 H14 hj hP y => ?_) (fun D H13 hP => ?_)
        · obtain ⟨nD, o13, ⟨t13, pu13, lt13⟩, ts, us, hus, tms, lts, okts, sts⟩ := hP
          obtain ⟨rfl, rfl⟩ := y
          obtain ⟨Dp, Dc⟩ := pu12.fresh nD
          have ltu := tms.len
          have j2 : j < 2 := by omega
          have bnd : t13 + 4 * 2 ^ d' ≤ 80000 ∧ t13 ≤ t2 + 1 + 4 * 2 ^ d' := by
            have : j = 0 ∨ j = 1 := by omega
            rcases this with e | e <;> subst e <;> omega
          refine ⟨rfl, iteT (do_cons (do_ev (ev_var rfl) fun H15 e15 => do_cons (do_ev (ev_var rfl) fun H16 e16 => do_cons (do_ev (ev_var rfl) fun H17 e17 => do_cons (do_ev (v := vi d') (ev_is (ev_subM (a := d' + 1) (b := 1) (ev_var rfl) ev_c (by omega)) rfl) fun H18 e18 => do_nil ?_)))))⟩
          have e1418 := ((e15.trans e16).trans e17).trans e18
          have o1218 : Off H12 H18 p c := o13.trans (.of_ex e1418)
          refine ⟨p, c, t13, d', .ref sa, sg, z, rfl, by omega, pu13.ex e1418, bnd.1, hG12.off pu12 o1218, so, bare, z6, sub, fun v tm t19 H19 o19 pu19 lt19 tv okt szt hgt lin => ?_⟩
          have o1419 : Off H14 H19 p c := (Off.of_ex e1418).trans o19
          have hus19 : H19 D = some (.lst us) := o1419 _ _ Dp Dc hus
          have et20 : ET K H19 (upd H19 D (.lst (us ++ [v]))) := ET.refl.upd hus19
          refine ⟨us, hus19, sz_lt (by omega), nD, (o13.trans o1419).upd nD, ⟨t19, pu19.upd Dp Dc, by rw [Nat.add_mul, Nat.one_mul]; omega⟩, ts ++ [tm], us ++ [v], upd_same, (tms.et (ET.trans (o1419.et pu13) et20)).snoc (tv.et et20), by rw [List.length_append, lts]; rfl, fun t ht => ?_, ?_⟩
          · rcases List.mem_append.mp ht with z | z
            · exact okts t z
            · rw [List.mem_singleton.mp z]
              exact ⟨okt, hgt, szt, lin⟩
          · rw [szs_app, szs, szs, Nat.add_mul, Nat.one_mul]
            omega
        · obtain ⟨nD, o13, ⟨t13, pu13, lt13⟩, ts, us, hus, tms, lts9, okts, sts⟩ := hP
          refine ⟨D, us, rfl, .inl ⟨sq_of hus, fun r1 n1 => do_nil ⟨by show 3 ≤ sizeLine; decide, fun r2 n2 => ?_⟩⟩⟩
          have x9 : Ex H13 (upd (upd H13 r1 (.tup us)) r2 (.tup [.str "deed", .str dd.1, .ref r1])) := (Ex.new n1).trans (Ex.new n2)
          have h2 : (upd (upd H13 r1 (.tup us)) r2 (.tup [.str "deed", .str dd.1, .ref r1])) r2 = some (.tup [.str "deed", .str dd.1, .ref r1]) := upd_same
          have h1 : (upd (upd H13 r1 (.tup us)) r2 (.tup [.str "deed", .str dd.1, .ref r1])) r1 = some (.tup us) := Ex.new n2 _ _ upd_same
          generalize upd (upd H13 r1 (.tup us)) r2 (.tup [.str "deed", .str dd.1, .ref r1]) = H14 at *
          have alls : ∀ (ts : List Tm), (∀ t ∈ ts, t.ok sg) → oks sg ts := by
            intro ts
            induction ts with
            | nil => intro _; rw [oks]; trivial
            | cons t ts ih =>
              intro h
              rw [oks]
              exact ⟨h t (List.mem_cons_self ..), ih fun x hx => h x (List.mem_cons_of_mem _ hx)⟩
          refine q _ (.deed dd.1 ts) t13 H14 ((o012.trans o13).trans (.of_ex x9)) (pu13.ex x9) ?_ (tmv_deed (st_of h2) (st_of h1) (tms.et (Dw.Ex.et x9))) ?_ ?_ ?_ ?_
          · have : dd.2 = 0 ∨ dd.2 = 1 ∨ dd.2 = 2 := by omega
            rcases this with e | e | e <;> rw [e] at lt13 <;> omega
          · rw [Tm.ok, lts9]
            exact ⟨memd, alls ts fun t ht => (okts t ht).1⟩
          · rw [Tm.sz, pd2]
            have : dd.2 = 0 ∨ dd.2 = 1 ∨ dd.2 = 2 := by omega
            have q2 : 1 ≤ 2 ^ (d' + 1) := Nat.pow_pos (by decide)
            rcases this with e | e | e <;> rw [e] at sts <;> omega
          · rw [Tm.hgt]
            have := hgts_le fun t ht => (okts t ht).2.1
            omega
          · intro x hx
            rw [Tm.ls] at hx
            obtain ⟨t, ht, hx2⟩ := mem_lss hx
            exact (okts t ht).2.2.2 x hx2
end
end K80
end
section
namespace K80
open PySem PySem.Spec PyProof.Rows L2 Evl RZ Dw M20
/-! ### the parts of a term, with their paths -/
mutual
def Tm.pts : Tm → List (List Nat × Tm)
  | .var x => [([], .var x)]
  | .deed f ts => ([], .deed f ts) :: ptsL 0 ts
def ptsL : Nat → List Tm → List (List Nat × Tm)
  | _, [] => []
  | k, t :: ts => t.pts.map (fun e => (k :: e.1, e.2)) ++ ptsL (k + 1) ts
end
theorem ptsL_app : ∀ (a b : List Tm) (k : Nat), ptsL k (a ++ b) = ptsL k a ++ ptsL (k + a.length) b
  | [], b, k => by
    rw [ptsL]
    rfl
  | t :: a, b, k => by
    rw [List.cons_append, ptsL, ptsL, ptsL_app a b (k + 1), List.append_assoc, List.length_cons, show k + 1 + a.length = k + (a.length + 1) by omega]
theorem ptsL_snoc (a : List Tm) (t : Tm) : ptsL 0 (a ++ [t]) = ptsL 0 a ++ t.pts.map (fun e => (a.length :: e.1, e.2)) := by
  rw [ptsL_app, ptsL, ptsL, List.append_nil, Nat.zero_add]
mutual
theorem pts_len : ∀ t : Tm, t.pts.length = t.sz
  | .var x => by
    rw [Tm.pts, Tm.sz]
    rfl
  | .deed f ts => by
    rw [Tm.pts, Tm.sz, List.length_cons, ptsL_len ts 0, Nat.add_comm]
theorem ptsL_len : ∀ (ts : List Tm) (k : Nat), (ptsL k ts).length = szs ts
  | [], k => by
    rw [ptsL, szs]
    rfl
  | t :: ts, k => by
    rw [ptsL, szs, List.length_append, List.length_map, pts_len t, ptsL_len ts (k + 1)]
end
theorem ptsL_take (ts : List Tm) (i : Nat) : (ptsL 0 (ts.take i)).length ≤ szs ts := by
  rw [ptsL_len]
  have e := szs_app (ts.take i) (ts.drop i)
  rw [List.take_append_drop] at e
  omega
theorem hgt_of : ∀ {ts : List Tm} {t : Tm}, t ∈ ts → t.hgt ≤ hgts ts
  | [], _, h => nomatch h
  | x :: ts, t, h => by
    rw [hgts]
    rcases List.mem_cons.mp h with z | z
    · rw [z]
      exact Nat.le_max_left _ _
    · exact Nat.le_trans (hgt_of z) (Nat.le_max_right _ _)
theorem sz_of_mem : ∀ {ts : List Tm} {t : Tm}, t ∈ ts → t.sz ≤ szs ts
  | [], _, h => nomatch h
  | x :: ts, t, h => by
    rw [szs]
    rcases List.mem_cons.mp h with z | z
    · rw [z]
      omega
    · have := sz_of_mem z
      omega
mutual
theorem path_sz : ∀ (t : Tm) (e : List Nat × Tm), e ∈ t.pts → e.1.length + e.2.sz ≤ t.sz
  | .var x, e, h => by
    rw [Tm.pts, List.mem_singleton] at h
    rw [h]
    exact Nat.le_of_eq (Nat.zero_add _)
  | .deed f ts, e, h => by
    rw [Tm.pts] at h
    rcases List.mem_cons.mp h with z | z
    · rw [z]
      exact Nat.le_of_eq (Nat.zero_add _)
    · have := pathL_sz ts 0 e z
      rw [Tm.sz]
      omega
theorem pathL_sz : ∀ (ts : List Tm) (k : Nat) (e : List Nat × Tm), e ∈ ptsL k ts → e.1.length + e.2.sz ≤ szs ts + 1
  | [], k, e, h => by
    rw [ptsL] at h
    cases h
  | t :: ts, k, e, h => by
    rw [ptsL] at h
    rw [szs]
    rcases List.mem_append.mp h with z | z
    · obtain ⟨e2, h2, rfl⟩ := List.mem_map.mp z
      have := path_sz t e2 h2
      show e2.1.length + 1 + e2.2.sz ≤ _
      omega
    · have := pathL_sz ts (k + 1) e z
      omega
end
theorem path_len {t : Tm} {j : Nat} {path : List Nat} {one : Tm} (h : t.pts[j]? = some (path, one)) : path.length ≤ t.sz := by
  have := path_sz t _ (List.mem_of_getElem? h)
  have e : (path, one).1.length = path.length := rfl
  omega
section
variable {P : Program} {w : World} {K : PySem.W.Frag} {mg : Str → Option Value} {base : Heap} {σ : L2.St} {H H' : Hp} {p c : Addr} {n m k t : Nat} {v : V} {te : TE}
/-- a pair of a path and a part -/
def PtV (K : PySem.W.Frag) (H : Hp) (u : V) (e : List Nat × Tm) : Prop := ∃ (a pa : Addr) (v : V), u = .ref a ∧ SqT K H a [.ref pa, v] ∧ SqT K H pa (e.1.map vi) ∧ TmV K H e.2 v
theorem PtV.et {u : V} {q : List Nat × Tm} (e : ET K H H') (h : PtV K H u q) : PtV K H' u q := let ⟨a, pa, v, z, s, p, tv⟩ := h; ⟨a, pa, v, z, e _ _ s, e _ _ p, tv.et e⟩
def sp_parts (K : PySem.W.Frag) (n : Nat) : Sp := fun vs H Q _ => ∃ (v : V) (tm : Tm), vs = [v] ∧ TmV K H tm v ∧ tm.hgt < n ∧ tm.sz ≤ 1000 ∧ ∀ D us H', Ex H H' → H D = none → H' D = some (.lst us) → Paired (PtV K H') us tm.pts → Q (.ref D) H'
theorem ep_parts {E : XK} {tm : Tm} (h : Ev te σ H v) (tv : TmV K H tm v) (hh : tm.hgt < n) (sz : tm.sz ≤ 1000) : EvP (tCall (sp_parts K n) [] E (tCons te tNil)) σ H (fun u H' => ∃ D us, u = .ref D ∧ H D = none ∧ H' D = some (.lst us) ∧ Paired (PtV K H') us tm.pts) := fun H1 e Q q =>
  ea_cons h ea_nil H1 e _ fun H2 e2 => ⟨v, tm, rfl, tv.ex (e.trans e2), hh, sz, fun D us H3 e3 nD hD pr => q _ H3 (e2.trans e3) ⟨D, us, rfl, fresh_back (e.trans e2) nD, hD, pr⟩⟩
theorem c_parts (T : Txt mg) (D : Df K mg "_law_parts" s__law_parts ["_law_term_here"]) : ∀ n : Nat, Cl P w K mg base (n + 1) "_law_parts" (sp_parts K n)
  | 0 => cl_of (k := 0) D sc__law_parts (fun vs H Q E h => by
      obtain ⟨v, tm, rfl, _⟩ := h
      rfl) (fun f cdv A outer s H vs Q E hr h => by
      obtain ⟨v, tm, _, _, bad, _⟩ := h
      exact absurd bad (Nat.not_lt_zero _))
  | n + 1 => by
    have c_parts := c_parts T D n
    refine cl_of (k := n + 1) D sc__law_parts (fun vs H Q E h => ?_) (fun f cdv A outer s H vs Q E hr h => ?_)
    · obtain ⟨v, tm, rfl, _⟩ := h
      rfl
    · obtain ⟨v, tm, rfl, tv, hh, sz, q⟩ := h
      refine ⟨_, (pss_cons (ps_set (i := 1) sc__law_parts.nd rfl (.inl rfl) (pe_lst (pa_cons (pe_tup (pa_cons (pe_tup pa_nil) (pa_cons (pv 0) pa_nil))) pa_nil)))
      (pss_cons (ps_if (pt_cmpR op_eq (pe_ix ix_tup (pv 0) pe_int (fun _ _ => rfl)) pe_str (nomark _))
        (pss_one (ps_for PassesOwn.never (by rfl) (pi_enumT (by rfl) T.z_enumerate (pa_cons (pe_ix ix_tup (pv 0) pe_int (fun _ _ => rfl)) pa_nil)) (pg_tup (by rfl) (pgs_cons (pg_name (i := 2) sc__law_parts.nd rfl (.inl rfl)) (pgs_cons (pg_name (i := 3) sc__law_parts.nd rfl (.inl rfl)) pgs_nil)))
          (pss_one (ps_for PassesOwn.never (by rfl) (pi_list (pe_cl c_parts hr (by first | decide | omega) (by rfl) (pa_cons (pv 3) pa_nil))) (pg_tup (by rfl) (pgs_cons (pg_name (i := 4) sc__law_parts.nd rfl (.inl rfl)) (pgs_cons (pg_name (i := 5) sc__law_parts.nd rfl (.inl rfl)) pgs_nil)))
            (pss_one (ps_expr (pe_bm PySem.F.plainAttrs_list PySem.F.slot_list_append PySem.F.type_list_append mt_append (pv 1) (pa_cons (pe_tup (pa_cons (pe_op op_catA (pe_tup (pa_cons (pv 2) pa_nil)) (pv 4)) (pa_cons (pv 5) pa_nil))) pa_nil))))))))
        pss_nil)
      (pss_one (ps_ret (pv 1))))), ?_⟩
      refine do_set (do_lst (do_cons (do_tup (do_cons (do_tup (do_nil ⟨Nat.zero_le _, fun p1 n1 => do_cons (do_ev (ev_var rfl) fun H5 e5 => do_nil ⟨by show 2 ≤ sizeLine; decide, fun p2 n2 => do_nil ⟨by show 1 ≤ sizeLine; decide, fun D nD => ?_⟩⟩)⟩))))))
      have x6 : Ex H (upd H5 p2 (.tup [.ref p1, v])) := ((Ex.new n1).trans e5).trans (Ex.new n2)
      have s2 : SqT K (upd H5 p2 (.tup [.ref p1, v])) p2 [.ref p1, v] := st_of upd_same
      have s1 : SqT K (upd H5 p2 (.tup [.ref p1, v])) p1 [] := st_of (Ex.new n2 _ _ (e5 _ _ upd_same))
      generalize upd H5 p2 (.tup [.ref p1, v]) = H6 at *
      have nD0 : H D = none := fresh_back x6 nD
      have x7 : Ex H (upd H6 D (.lst [.ref p2])) := x6.trans (Ex.new nD)
      have D7 : (upd H6 D (.lst [.ref p2])) D = some (.lst [.ref p2]) := upd_same
      have r7 : PtV K (upd H6 D (.lst [.ref p2])) (.ref p2) ([], tm) := ⟨p2, p1, v, rfl, ex_t (Ex.new nD) s2, ex_t (Ex.new nD) s1, tv.ex x7⟩
      generalize upd H6 D (.lst [.ref p2]) = H7 at *
      cases tm with
      | var x =>
        rw [TmV] at tv
        obtain ⟨a, rfl, sa⟩ := tv
        refine q_when (b := false) (et_is (et_test (ev_op (ev_op (ev_var rfl) ev_c (rv_ixT (K := K) (ex_t x7 sa) (atI_vi (k := 0) rfl))) ev_c (rv_eq rfl))) (by decide)) (fun hb => by cases hb) (fun _ H8 e8 => ?_)
        refine s_ret (ev_var rfl) fun H9 e9 => q D _ H9 (x7.trans (e8.trans e9)) nD0 ((e8.trans e9) _ _ D7) ?_
        rw [Tm.pts]
        exact .cons (r7.et (Dw.Ex.et (e8.trans e9))) .nil
      | deed f ts =>
        rw [TmV] at tv
        obtain ⟨a, b, vs, rfl, sa, sb, tvs⟩ := tv
        have lvs := tvs.len
        rw [Tm.hgt] at hh
        rw [Tm.sz] at sz
        refine q_when (b := true) (et_is (et_test (ev_op (ev_op (ev_var rfl) ev_c (rv_ixT (K := K) (ex_t x7 sa) (atI_vi (k := 0) rfl))) ev_c (rv_eq rfl))) (by decide)) (fun _ H8 e8 => ?_) (fun hb => by cases hb)
        have x8 := x7.trans e8
        refine s_enumT (ea_cons (ev_op (ev_var rfl) ev_c (rv_ixT (K := K) (ex_t x8 sa) (atI_vi (k := 2) rfl))) ea_nil) (ex_t x8 sb) (fun i σ' H' => Ex H H' ∧ ∃ (us : List V) (y2 y3 y4 y5 : Option V), H' D = some (.lst us) ∧ Paired (PtV K H') us (([], .deed f ts) :: ptsL 0 (ts.take i)) ∧ σ' = [some (.ref a), some (.ref D), y2, y3, y4, y5])
          (fun H9 e9 => ⟨x8.trans e9, [.ref p2], none, none, none, none, (e8.trans e9) _ _ D7, by rw [List.take_zero, ptsL]; exact .cons (r7.et (Dw.Ex.et (e8.trans e9))) .nil, rfl⟩) (fun i σ' H' _ h => ex_t h.1 sb) (fun i x σ' H9 H10 hx hP e10 => ?_) (fun σ' H9 hP => ?_)
        · obtain ⟨x9, us, y2, y3, y4, y5, D9, prs, hσ⟩ := hP
          subst hσ
          obtain ⟨tk, ek, tvk⟩ := tvs.get hx
          have il : i < ts.length := (List.getElem?_eq_some_iff.mp ek).1
          have ek2 : ts[i] = tk := (List.getElem?_eq_some_iff.mp ek).2
          have tki : ts.take (i + 1) = ts.take i ++ [tk] := by rw [List.take_add_one, ek]; rfl
          have mem : tk ∈ ts := List.mem_of_getElem? ek
          have lti : (ts.take i).length = i := by rw [List.length_take]; omega
          have big := ptsL_take ts (i + 1)
          rw [tki, ptsL_snoc, List.length_append, List.length_map] at big
          have lus := paired_len prs
          rw [List.length_cons] at lus
          have x10 := x9.trans e10
          have D10 := e10 _ _ D9
          refine s_forP (ep_parts (n := n) (ev_var rfl) (tvk.ex x10) (by have := hgt_of mem; omega) (by have := sz_of_mem mem; omega)) fun v2 H11 e11 hv => ?_
          obtain ⟨D2, us2, rfl, nD2, D11, prs2⟩ := hv
          have ne : D ≠ D2 := fun z => by rw [z, nD2] at D10; cases D10
          have l2 := paired_len prs2
          refine ⟨D2, us2, rfl, sq_of D11, fun j σ' H' => Ex H H' ∧ ET K H11 H' ∧ H' D2 = some (.lst us2) ∧ ∃ (us : List V) (y4 y5 : Option V), H' D = some (.lst us) ∧ Paired (PtV K H') us ((([], .deed f ts) :: ptsL 0 (ts.take i)) ++ (tk.pts.take j).map (fun e => (i :: e.1, e.2))) ∧ σ' = [some (.ref a), some (.ref D), some (vi i), some x, y4, y5], ⟨x10.trans e11, ET.refl, D11, us, _, _, e11 _ _ D10, ?_, rfl⟩, fun _ _ _ _ h => sq_of h.2.2.1, fun j y σ' H12 hy hP => ?_, fun σ' H12 hP => ?_⟩
          · rw [List.take_zero, List.map_nil, List.append_nil]
            exact paired_imp (fun _ _ z => PtV.et (Dw.Ex.et (e10.trans e11)) z) prs
          · obtain ⟨x12, et12, D212, us3, z4, z5, D12, prs3, hσ⟩ := hP
            subst hσ
            have jl : j < us2.length := (List.getElem?_eq_some_iff.mp hy).1
            obtain ⟨pe, hpe, pr⟩ := paired_at (paired_imp (fun _ _ z => PtV.et et12 z) prs2) hy
            obtain ⟨path, one⟩ := pe
            obtain ⟨ra, rp, rv, rfl, sra, srp, tvo⟩ := pr
            have lus3 := paired_len prs3
            rw [List.length_append, List.length_map, List.length_take, List.length_cons] at lus3
            have pl : path.length ≤ 1000 := Nat.le_trans (path_len hpe) (by have := sz_of_mem mem; omega)
            refine ⟨ra, _, rfl, sra, rfl, _, _, rfl, _, _, rfl, rfl, ?_⟩
            show tDrop _ _ [some (.ref a), some (.ref D), some (vi i), some x, some (.ref rp), some rv] H12
            have cat := ep_cat (K := K) (xs := [vi i]) (ys := path.map vi) (ep_tup1 (K := K) (ta := tVar 2) (σ := [some (.ref a), some (.ref D), some (vi i), some x, some (.ref rp), some rv]) (H := H12) (ev_var rfl)) (ep_ev (P := fun v H' => TupV K H' v (path.map vi)) (ev_var (i := 4) rfl) (fun H' e' => ⟨rp, rfl, ex_t e' srp⟩)) (by rw [List.length_map]; show 1 + path.length ≤ 100000; omega)
            refine do_app D12 (ev_var rfl) fun H15 e15 => do_tup (do_cons (cat H15 e15 _ fun pv2 H16 e16 hpv => do_cons (do_ev (ev_var rfl) fun H20 e20 => do_nil ⟨by show 2 ≤ sizeLine; decide, fun r nr => ?_⟩)))
            obtain ⟨pa2, rfl, spa2⟩ := hpv
            have x21 : Ex H12 (upd H20 r (.tup [.ref pa2, rv])) := ((e15.trans e16).trans e20).trans (Ex.new nr)
            have D21 : (upd H20 r (.tup [.ref pa2, rv])) D = some (.lst us3) := x21 _ _ D12
            have D221 : (upd H20 r (.tup [.ref pa2, rv])) D2 = some (.lst us2) := x21 _ _ D212
            have r21 : (upd H20 r (.tup [.ref pa2, rv])) r = some (.tup [.ref pa2, rv]) := upd_same
            have sp21 := ex_t (e20.trans (Ex.new nr (o := .tup [.ref pa2, rv]))) spa2
            generalize upd H20 r (.tup [.ref pa2, rv]) = H21 at *
            have et23 : ET K H21 (upd H21 D (.lst (us3 ++ [.ref r]))) := ET.refl.upd D21
            have et22 : ET K H12 (upd H21 D (.lst (us3 ++ [.ref r]))) := ET.trans (Dw.Ex.et x21) et23
            refine ⟨D, us3, .ref r, rfl, rfl, D21, sz_lt (by omega), (x12.trans x21).mut nD0, ET.trans et12 et22, by rw [upd_ne (fun z => ne z.symm)]; exact D221, us3 ++ [.ref r], _, _, upd_same, ?_, rfl⟩
            rw [List.take_add_one, hpe, List.map_append, ← List.append_assoc]
            refine Dw.paired_snoc (y := (i :: path, one)) ⟨r, pa2, rv, rfl, et23 _ _ (st_of r21), ?_, tvo.et et22⟩ (paired_imp (fun _ _ z => PtV.et et22 z) prs3)
            show SqT K _ pa2 ((i :: path).map vi)
            exact et23 _ _ sp21
          · obtain ⟨x12, et12, D212, us3, z4, z5, D12, prs3, hσ⟩ := hP
            refine ⟨x12, us3, _, _, z4, z5, D12, ?_, hσ⟩
            have full : tk.pts.take us2.length = tk.pts := List.take_of_length_le (by omega)
            rw [full] at prs3
            rw [tki, ptsL_snoc, lti]
            exact prs3
        · obtain ⟨x9, us, y2, y3, y4, y5, D9, prs, hσ⟩ := hP
          subst hσ
          rw [List.take_of_length_le (by omega)] at prs
          exact s_ret (ev_var rfl) fun H10 e10 => q D us H10 (x9.trans e10) nD0 (e10 _ _ D9) (paired_imp (fun _ _ z => PtV.et (Dw.Ex.et e10) z) (by rw [Tm.pts]; exact prs))
end
end K80
end
section
namespace K80
open PySem PySem.Spec PyProof.Rows L2 Evl RZ Dw M20
/-! ### the letters of a term as a text -/
section
variable {P : Program} {w : World} {K : PySem.W.Frag} {mg : Str → Option Value} {base : Heap} {σ : L2.St} {H H' : Hp} {p c : Addr} {n m k t : Nat} {v : V} {te : TE}
/-- the letters of so many places -/
def pls (k : Nat) : List Str := vars.take k
/-- a reading: a term for each deed -/
structure Rdg (K : PySem.W.Frag) (H : Hp) (sg sg2 : List (Str × Nat)) (ts : List Tm) (us : List V) : Prop where
  tms : TmsV K H ts us
  len : ts.length ≤ sg.length
  each : ∀ i (h : i < ts.length) (h2 : i < sg.length), (ts[i]).ok sg2 ∧ (ts[i]).sz ≤ 7 ∧ (ts[i]).hgt ≤ 3 ∧ ∀ x ∈ (ts[i]).ls, x ∈ pls (sg[i]).2
def uvz (k : Nat) : Str := cutS "uv" none (some (k : Int))
theorem lts_uvz : ∀ k, k ≤ 2 → lts (uvz k) = pls k := by decide +kernel
theorem ev_slS {tk : TE} {z : Str} (h : Ev te σ H (.str z)) (hk : Ev tk σ H (vi k)) (l : z.length ≤ 1000) : Ev (tSl rSlS te tNoPart (tPart tk)) σ H (.str (cutS z none (some (k : Int)))) := fun H1 e Q q =>
  h H1 e _ fun H2 e2 => eo_none (σ := σ) (H := H) H2 (e.trans e2) _ fun H3 e3 => eo_some hk H3 ((e.trans e2).trans e3) _ fun H4 e4 => ⟨z, rfl, sz_of (by omega), q H4 ((e2.trans e3).trans e4)⟩
def sp_lreading (K : PySem.W.Frag) : Sp := fun vs H Q _ => ∃ (p c : Addr) (t : Nat) (sv ov : V) (sg sg2 : List (Str × Nat)), vs = [.ref p, sv, ov] ∧ Pur H p c t ∧ t ≤ 70000 ∧ FSig K H sv sg ∧ SigOk sg ∧ FSig K H ov sg2 ∧ SigOk sg2 ∧ (∃ y, (y, 0) ∈ sg2) ∧
  ∀ a ts us t' H', Off H H' p c → Pur H' p c t' → t' ≤ t + 80 → SqT K H' a us → Rdg K H' sg sg2 ts us → ts.length = sg.length → Q (.ref a) H'
theorem c_lreading (T : Txt mg) (D : Df K mg "_law_reading" s__law_reading ["_law_pile_here", "_law_sig", "_law_other"]) (c_take : Cl P w K mg base 2 "_law_take" sp_take) (c_term : Cl P w K mg base 6 "_law_term" (sp_lterm K 3)) : Cl P w K mg base 7 "_law_reading" (sp_lreading K) := by
  refine cl_of (k := 6) D sc__law_reading (fun vs H Q E h => ?_) (fun f cdv A outer s H vs Q E hr h => ?_)
  · obtain ⟨p, c, t, sv, ov, sg, sg2, rfl, _⟩ := h
    rfl
  · obtain ⟨p, c, t, sv, ov, sg, sg2, rfl, pu, big, hF, so, hG, so2, bare, q⟩ := h
    refine ⟨_, (pss_cons (ps_set (i := 3) sc__law_reading.nd rfl (.inl rfl) (pe_lst pa_nil))
      (pss_cons (ps_for PassesOwn.never (by rfl) (pi_tup (pv 1)) (pg_tup (by rfl) (pgs_cons (pg_name (i := 4) sc__law_reading.nd rfl (.inl rfl)) (pgs_cons (pg_name (i := 5) sc__law_reading.nd rfl (.inl rfl)) pgs_nil)))
        (pss_one (ps_expr (pe_bm PySem.F.plainAttrs_list PySem.F.slot_list_append PySem.F.type_list_append mt_append (pv 3) (pa_cons (pe_cl c_term hr (by first | decide | omega) (by rfl) (pa_cons (pv 0) (pa_cons (pv 2) (pa_cons (pe_slice sl_str pe_str po_none (po_some (pv 5))) (pa_cons (pe_op op_add pe_int (pe_cl c_take hr (by first | decide | omega) (by rfl) (pa_cons (pv 0) (pa_cons pe_int pa_nil)))) pa_nil))))) pa_nil)))))
      (pss_one (ps_ret (pe_callTy call_tupF (by rfl) T.z_tuple (by decide +kernel) (pa_cons (pv 3) pa_nil)))))), ?_⟩
    have so1 := so
    obtain ⟨sa, o1, ps, rfl, hsa, sod, prs⟩ := id hF
    have sqS : SqT K H sa (ps.map V.ref) := .inl (.inr ⟨o1, hsa⟩)
    have lps := paired_len prs
    have l4 := so.l4
    refine do_set (do_lst (do_nil ⟨Nat.zero_le _, fun D nD => ?_⟩))
    have x1 : Ex H (upd H D (.lst [])) := Ex.new nD
    have D1 : (upd H D (.lst [])) D = some (.lst []) := upd_same
    generalize upd H D (.lst []) = H1 at *
    obtain ⟨Dp, Dc⟩ := pu.fresh nD
    show tSeq _ _ _ [some (.ref p), some (.ref sa), some ov, some (.ref D), none, none] H1
    refine q_forT (K := K) (ev_var rfl) (ex_t x1 sqS) (fun i σ' H' => Off H H' p c ∧ (∃ t', Pur H' p c t' ∧ t' ≤ t + i * 16) ∧ ∃ (ts : List Tm) (us : List V) (y4 y5 : Option V), H' D = some (.lst us) ∧ Rdg K H' sg sg2 ts us ∧ ts.length = i ∧ σ' = [some (.ref p), some (.ref sa), some ov, some (.ref D), y4, y5])
      (fun H2 e2 => ⟨.of_ex (x1.trans e2), ⟨t, pu.ex (x1.trans e2), by omega⟩, [], [], none, none, e2 _ _ D1, ⟨by rw [TmsV], Nat.zero_le _, fun i h => absurd h (Nat.not_lt_zero _)⟩, rfl, rfl⟩) (fun i σ' H' _ h => h.1.et pu _ _ sqS) (fun i x σ' H2 hx hP => ?_) (fun σ' H2 hP => ?_)
    · obtain ⟨o2, ⟨t2, pu2, lt2⟩, ts, us, y4, y5, D2, rd, lts, hσ⟩ := hP
      subst hσ
      have hi : i < ps.length := by
        have := (List.getElem?_eq_some_iff.mp hx).1
        rw [List.length_map] at this
        exact this
      rw [List.getElem?_map, List.getElem?_eq_getElem hi] at hx
      cases Option.some.inj hx
      obtain ⟨dd, ed, hdd⟩ := paired_at prs (List.getElem?_eq_getElem hi)
      have is : i < sg.length := by omega
      have edd : sg[i] = dd := (List.getElem?_eq_some_iff.mp ed).2
      have pl2 : dd.2 ≤ 2 := so.pl _ (List.mem_of_getElem? ed)
      obtain ⟨nm, pl⟩ := dd
      refine ⟨ps[i], _, rfl, o2.et pu _ _ hdd, rfl, _, _, rfl, _, _, rfl, rfl, ?_⟩
      show tDrop _ _ [some (.ref p), some (.ref sa), some ov, some (.ref D), some (.str nm), some (vi pl)] H2
      replace pl2 : pl ≤ 2 := pl2
      have ltu := rd.tms.len
      refine do_app D2 (ev_var rfl) fun H3 e3 => do_cons (do_ev (ev_var rfl) fun H4 e4 => do_cons (do_ev (ev_var rfl) fun H5 e5 => do_cons (do_ev (ev_slS (z := "uv") (k := pl) ev_c (ev_var rfl) (by decide)) fun H6 e6 => do_cons (do_op (do_ev ev_c fun H7 e7 => do_take (n := 2) (ev_var rfl) ev_c (pu2.ex ((((e3.trans e4).trans e5).trans e6).trans e7)) (by omega) (by omega) (by omega) fun k H8 hk o8 pu8 => ⟨1, (k : Int), rfl, rfl, do_nil ?_⟩)))))
      have o28 : Off H2 H8 p c := (Off.of_ex ((((e3.trans e4).trans e5).trans e6).trans e7)).trans o8
      have d12 : 1 + k = 1 ∨ 1 + k = 2 := by omega
      have p4 : 4 * 2 ^ (1 + k) ≤ 16 := by rcases d12 with e | e <;> rw [e] <;> decide
      have uvl : (uvz pl).length ≤ 2 := cutS_length _ _ _
      have uve := lts_uvz pl pl2
      refine ⟨p, c, t2 + 1, 1 + k, ov, sg2, uvz pl, rfl, by omega, pu8, by omega, hG.off pu (o2.trans o28), so2, bare, by omega, fun x hx => ?_, fun v tm t9 H9 o9 pu9 lt9 tv okt szt hgt lin => ?_⟩
      · rw [uve] at hx
        exact List.mem_of_mem_take hx
      have o29 := o28.trans o9
      have D9 : H9 D = some (.lst us) := o29 _ _ Dp Dc D2
      have et : ET K H2 (upd H9 D (.lst (us ++ [v]))) := ET.trans (o29.et pu2) (ET.refl.upd D9)
      have et9 : ET K H9 (upd H9 D (.lst (us ++ [v]))) := ET.refl.upd D9
      refine ⟨D, us, v, rfl, rfl, D9, sz_lt (by omega), (o2.trans o29).upd nD, ⟨t9, pu9.upd Dp Dc, by rw [Nat.add_mul, Nat.one_mul]; omega⟩, ts ++ [tm], us ++ [v], _, _, upd_same, ⟨(rd.tms.et et).snoc (tv.et et9), by rw [List.length_append, lts]; show i + 1 ≤ _; omega, fun j h1 h2 => ?_⟩, by rw [List.length_append, lts]; rfl, rfl⟩
      rw [List.length_append, lts] at h1
      replace h1 : j < i + 1 := h1
      by_cases ji : j < i
      · have g : (ts ++ [tm])[j]'(by rw [List.length_append, lts]; exact h1) = ts[j]'(by omega) := List.getElem_append_left (by omega)
        rw [g]
        exact rd.each j (by omega) h2
      · obtain rfl : j = i := by omega
        have g : (ts ++ [tm])[j]'(by rw [List.length_append, lts]; exact h1) = tm := by
          rw [List.getElem_append_right (by omega)]
          simp [lts]
        rw [g, edd]
        refine ⟨okt, ?_, by omega, fun x hx => by rw [← uve]; exact lin x hx⟩
        have p8 : 2 ^ (1 + k + 1) ≤ 8 := by rcases d12 with e | e <;> rw [e] <;> decide
        omega
    · obtain ⟨o2, ⟨t2, pu2, lt2⟩, ts, us, y4, y5, D2, rd, lts, hσ⟩ := hP
      subst hσ
      rw [List.length_map] at lts lt2
      refine do_ret (do_cb (do_cons (do_ev (ev_var rfl) fun H3 e3 => do_nil ⟨D, us, rfl, sq_of (e3 _ _ D2), fun r o nr od => ?_⟩)))
      have x4 : Ex H2 (upd H3 r (.frz o (.tup us))) := e3.trans (Ex.new nr)
      exact q r ts us t2 _ (o2.trans (.of_ex x4)) (pu2.ex x4) (by omega) (.inl (.inr ⟨o, upd_same⟩)) ⟨rd.tms.et (Dw.Ex.et x4), rd.len, rd.each⟩ (by omega)
end
end K80
end
section
namespace K80
open PySem PySem.Spec PyProof.Rows L2 Evl RZ Dw M20
section
variable {P : Program} {w : World} {K : PySem.W.Frag} {mg : Str → Option Value} {base : Heap} {σ : L2.St} {H H' : Hp} {p c : Addr} {n m k t : Nat} {v : V} {te : TE} {sg : List (Str × Nat)}
/-! ### things stay where only the pile is written -/
theorem far_ne {a : Addr} {xs : List V} (pu : Pur H p c n) (h : H a = some (.lst xs)) (far : FarL H xs) : a ≠ p ∧ a ≠ c := by
  obtain ⟨rfl, d, m, k, hp, _⟩ := pu
  have e : a ≠ c := fun e => by
    rw [e, hp] at h
    injection h with h
    injection h with h
    exact far _ _ h.symm
  exact ⟨e, e⟩
theorem FarL.off {xs : List V} (h : FarL H xs) : FarL H' xs := h
theorem Dq.off {v : V} {d : PyData} (pu : Pur H p c n) (o : Off H H' p c) (h : Dq K H v d) : Dq K H' v d := by
  cases h with
  | fl h nl => exact .fl (dp_off pu o h nl) nl
  | lst h hd nl far => exact .lst (o _ _ (far_ne pu h far).1 (far_ne pu h far).2 h) (dps_off pu o hd nl) nl far.off
  | deed h0 h hd nl far => exact .deed (o.et pu _ _ h0) (o _ _ (far_ne pu h far).1 (far_ne pu h far).2 h) (dps_off pu o hd nl) nl far.off
theorem NoTu.off {v : V} (pu : Pur H p c n) (o : Off H H' p c) (h : NoTu H v) : NoTu H' v := by
  cases h with
  | non => exact .non
  | int i => exact .int i
  | bl b => exact .bl b
  | str z => exact .str z
  | lst h far => exact .lst (o _ _ (far_ne pu h far).1 (far_ne pu h far).2 h) far.off
theorem NF.off {v : V} (pu : Pur H p c n) (o : Off H H' p c) (h : NF K H sg v) : NF K H' sg v := by
  have e : ET K H H' := o.et pu
  cases h with
  | tup h => exact .tup (h.off pu o)
  | len h h2 h3 => exact .len (e _ _ h) h2 h3
  | two h ne => exact .two (e _ _ h) ne
  | letter h fl no => exact .letter (e _ _ h) fl no
  | three h ne => exact .three (e _ _ h) ne
  | name h no => exact .name (e _ _ h) (no.off pu o)
  | terms h no => exact .terms (e _ _ h) (no.off pu o)
  | many h h2 no sk => exact .many (e _ _ h) (e _ _ h2) no sk
mutual
theorem BtV.off (pu : Pur H p c n) (o : Off H H' p c) : ∀ {t : Bt} {v : V}, BtV K H sg t v → BtV K H' sg t v
  | .var x, v, h => by
    rw [BtV] at h ⊢
    obtain ⟨a, q, s⟩ := h
    exact ⟨a, q, o.et pu _ _ s⟩
  | .deed f ts, v, h => by
    rw [BtV] at h ⊢
    obtain ⟨a, b, vs, q, s, s2, r⟩ := h
    exact ⟨a, b, vs, q, o.et pu _ _ s, o.et pu _ _ s2, BtsV.off pu o r⟩
  | .odd d, v, h => by
    rw [BtV] at h ⊢
    exact ⟨h.1.off pu o, h.2.off pu o⟩
theorem BtsV.off (pu : Pur H p c n) (o : Off H H' p c) : ∀ {ts : List Bt} {vs : List V}, BtsV K H sg ts vs → BtsV K H' sg ts vs
  | [], vs, h => by
    rw [BtsV] at h ⊢
    exact h
  | t :: ts, vs, h => by
    rw [BtsV] at h ⊢
    obtain ⟨v, us, q, a, b⟩ := h
    exact ⟨v, us, q, BtV.off pu o a, BtsV.off pu o b⟩
end
theorem ThB.off (pu : Pur H p c n) (o : Off H H' p c) (h : ThB K H sg v) : ThB K H' sg v := let ⟨b, x, y⟩ := h; ⟨b, x.off pu o, y⟩
end
/-! ### a thing that may be a reading: no tuple, or a tuple of bent terms -/
inductive Rt where
  | odd (d : PyData)
  | row (bs : List Bt)
def Rt.data : Rt → PyData
  | .odd d => d
  | .row bs => .tuple (bdatas bs)
def RtV (K : PySem.W.Frag) (H : Hp) (sg : List (Str × Nat)) : Rt → V → Prop
  | .odd d => fun v => Dq K H v d ∧ NoTu H v
  | .row bs => fun v => ∃ a us, v = .ref a ∧ SqT K H a us ∧ BtsV K H sg bs us
def Rt.fits (sg : List (Str × Nat)) : Rt → Prop
  | .odd _ => True
  | .row bs => boks sg bs ∧ (∀ b ∈ bs, b.sz ≤ 8) ∧ bs.length ≤ 8
def Rt.ok (sg : List (Str × Nat)) (t : Rt) : Prop := t.fits sg ∧ Gb 40 6000 t.data
section
variable {P : Program} {w : World} {K : PySem.W.Frag} {mg : Str → Option Value} {base : Heap} {σ : L2.St} {H H' : Hp} {p c : Addr} {n m k t : Nat} {v : V} {te : TE} {sg : List (Str × Nat)}
theorem RtV.ex {th : Rt} (e : Ex H H') (h : RtV K H sg th v) : RtV K H' sg th v := by
  cases th with
  | odd d => exact ⟨h.1.ex e, h.2.ex e⟩
  | row bs =>
    obtain ⟨a, us, q, s, r⟩ := h
    exact ⟨a, us, q, ex_t e s, r.ex e⟩
theorem RtV.off {th : Rt} (pu : Pur H p c n) (o : Off H H' p c) (h : RtV K H sg th v) : RtV K H' sg th v := by
  cases th with
  | odd d => exact ⟨h.1.off pu o, h.2.off pu o⟩
  | row bs =>
    obtain ⟨a, us, q, s, r⟩ := h
    exact ⟨a, us, q, o.et pu _ _ s, r.off pu o⟩
theorem RtV.dp {th : Rt} (h : RtV K H sg th v) : Dp K H v th.data := by
  cases th with
  | odd d => exact h.1.dp
  | row bs =>
    obtain ⟨a, us, rfl, s, r⟩ := h
    exact .tup s r.dp
mutual
def Bt.all : Bt → Bool
  | .var _ => true
  | .deed _ ts => ball ts
  | .odd _ => false
def ball : List Bt → Bool
  | [] => true
  | t :: ts => t.all && ball ts
end
/-- what is no term -/
def ThN (K : PySem.W.Frag) (H : Hp) (sg : List (Str × Nat)) (v : V) : Prop := ∃ b : Bt, BtV K H sg b v ∧ b.ok sg ∧ b.fine ∧ b.sz ≤ 4 ∧ b.all = false
theorem ThN.ex {v : V} (e : Ex H H') (h : ThN K H sg v) : ThN K H' sg v := let ⟨b, x, y⟩ := h; ⟨b, x.ex e, y⟩
theorem ThN.off {v : V} (pu : Pur H p c n) (o : Off H H' p c) (h : ThN K H sg v) : ThN K H' sg v := let ⟨b, x, y⟩ := h; ⟨b, x.off pu o, y⟩
theorem thn_odd {v : V} {d : PyData} (hq : Dq K H v d) (nf : NF K H sg v) (g : Gd 5 100 d) : ThN K H sg v := ⟨.odd d, by rw [BtV]; exact ⟨hq, nf⟩, by rw [Bt.ok]; trivial, by rw [Bt.fine]; exact g, by rw [Bt.sz]; decide, rfl⟩
theorem thn_nones {a : Addr} {f : Str} {y : V} (s : SqT K H a [.str "deed", .str f, y]) (r : ∃ b, y = .ref b ∧ SqT K H b [.non]) (mem : (f, 1) ∈ sg) : ThN K H sg (.ref a) := by
  obtain ⟨b, rfl, sb⟩ := r
  have o : BtV K H sg (.odd .none) .non := by
    rw [BtV]
    exact ⟨.fl .non rfl, .tup .non⟩
  refine ⟨.deed f [.odd .none], btv_deed s sb (by rw [BtsV]; exact ⟨_, _, rfl, o, .nil⟩), ?_, ?_, ?_, rfl⟩
  · rw [Bt.ok]
    exact ⟨mem, by rw [boks, boks, Bt.ok]; exact ⟨trivial, trivial⟩⟩
  · rw [Bt.fine, bfines, bfines, Bt.fine]
    exact ⟨Gd.mono (gd_none) (by decide) (by decide), trivial⟩
  · rw [Bt.sz, bszs, bszs, Bt.sz]
    decide
/-- a strange thing: as a term and as a reading -/
def Strg (K : PySem.W.Frag) (sg : List (Str × Nat)) (v : V) (H : Hp) : Prop := ThN K H sg v ∧ ∃ th, RtV K H sg th v ∧ th.ok sg
theorem Strg.st : ∀ v H H', Ex H H' → Strg K sg v H → Strg K sg v H' := fun _ _ _ e ⟨a, th, b, r⟩ => ⟨a.ex e, th, b.ex e, r⟩
theorem Strg.off (pu : Pur H p c n) (o : Off H H' p c) (h : Strg K sg v H) : Strg K sg v H' := let ⟨a, th, b, r⟩ := h; ⟨a.off pu o, th, b.off pu o, r⟩
theorem Gd.gb6 {k W : Nat} {d : PyData} (g : Gd k W d) (hk : k ≤ 40) (hW : W ≤ 6000) : Gb 40 6000 d := (K80.Gd.gb g).mono hk hW
theorem ths_row (so : SigOk sg) : ∀ {us : List V}, (∀ x ∈ us, ThB K H sg x) → ∃ bs, BtsV K H sg bs us ∧ boks sg bs ∧ bfines bs ∧ (∀ b ∈ bs, b.sz ≤ 4) ∧ bs.length = us.length
  | [], _ => ⟨[], .nil, by rw [boks]; trivial, by rw [bfines]; trivial, fun _ z => (nomatch z), rfl⟩
  | x :: us, h => by
    obtain ⟨b, h1, h2, h3, h4⟩ := h x (List.mem_cons_self ..)
    obtain ⟨bs, g1, g2, g3, g4, g5⟩ := ths_row so (us := us) fun y hy => h y (List.mem_cons_of_mem _ hy)
    refine ⟨b :: bs, by rw [BtsV]; exact ⟨x, us, rfl, h1, g1⟩, by rw [boks]; exact ⟨h2, g2⟩, by rw [bfines]; exact ⟨h3, g3⟩, fun y hy => ?_, by rw [List.length_cons, List.length_cons, g5]⟩
    rcases List.mem_cons.mp hy with z | z
    · rw [z]
      exact h4
    · exact g4 y z
theorem bszs_le4 : ∀ {bs : List Bt}, (∀ b ∈ bs, b.sz ≤ 4) → bszs bs ≤ 4 * bs.length
  | [], _ => by
    rw [bszs]
    exact Nat.zero_le _
  | b :: bs, h => by
    rw [bszs, List.length_cons]
    have h1 := h b (List.mem_cons_self ..)
    have h2 := bszs_le4 (bs := bs) fun y hy => h y (List.mem_cons_of_mem _ hy)
    omega
theorem gb_bts (so : SigOk sg) {bs : List Bt} (o : boks sg bs) (f : bfines bs) (l : bszs bs ≤ 12) : Gb 40 6000 (.tuple (bdatas bs)) := by
  obtain ⟨a, b, cc, d, e⟩ := gd_bts so bs o f
  have g : GbA 39 5990 (bdatas bs) := ⟨a, Nat.le_trans b (by omega), Nat.le_trans cc (by omega), ints_monos _ d, e⟩
  exact (gb_tup g).mono (by decide) (by decide)
/-- a tuple of a few strange parts -/
theorem strg_row (so : SigOk sg) {a : Addr} {us : List V} (s : SqT K H a us) (h : ∀ x ∈ us, ThB K H sg x) (l : us.length ≤ 3) (tb : ThN K H sg (.ref a)) : Strg K sg (.ref a) H := by
  obtain ⟨bs, g1, g2, g3, g4, g5⟩ := ths_row so h
  have := bszs_le4 g4
  exact ⟨tb, .row bs, ⟨a, us, rfl, s, g1⟩, ⟨g2, fun b hb => Nat.le_trans (g4 b hb) (by decide), by omega⟩, gb_bts so g2 g3 (by omega)⟩
theorem thb_c {d : PyData} (hd : Dp K H v d) (nt : NoTu H v) (g : Gd 3 22 d) (nl : noL d = true) : ThB K H sg v := th_odd (.fl hd nl) (.tup nt) (g.mono (by decide) (by decide))
theorem thn_c {d : PyData} (hd : Dp K H v d) (nt : NoTu H v) (g : Gd 3 22 d) (nl : noL d = true) : ThN K H sg v := thn_odd (.fl hd nl) (.tup nt) (g.mono (by decide) (by decide))
theorem thb_s {z : Str} (g : Gd 3 22 (.str z)) : ThB K H sg (.str z) := thb_c (.str z) (.str z) g rfl
end
end K80
end
section
namespace K80
open PySem PySem.Spec PyProof.Rows L2 Evl RZ Dw M20
theorem gd_lst0 : Gd 3 22 (.list []) := (gd_lst (k := 0) (W := 0) (L := 0) (fun d hd => by cases hd) (by decide)).mono (by decide) (by decide)
theorem gd_non1 : Gd 3 22 (.tuple [.none]) := (gd_tup (k := 0) (W := 10) (L := 1) (fun d hd => by
  rw [List.mem_singleton.mp hd]
  exact ⟨by rw [PyData.canLay0], by rw [PyData.depth]; decide, by rw [PyData.weight]; decide, by rw [PyData.intsShort], by rw [PyData.showable]⟩) (by decide)).mono (by decide) (by decide)
theorem gd_m1 : Gd 3 22 (.int (-1)) := gd_int (by decide) (by rw [PyData.intsShort]; decide)
theorem gd_00 : Gd 3 22 (.int 0) := gd_int (by decide) (by rw [PyData.intsShort]; decide)
theorem noz {sg : List (Str × Nat)} (so : SigOk sg) (k : Nat) : (("z" : Str), k) ∉ sg := fun h => by
  have nm : Name "z" := so.nm _ h
  have := nm.abc 122 (by decide +kernel)
  exact absurd this (by decide +kernel)
section
variable {P : Program} {w : World} {K : PySem.W.Frag} {mg : Str → Option Value} {base : Heap} {σ : L2.St} {H H' : Hp} {p c : Addr} {n m k t : Nat} {v : V} {te : TE} {sg : List (Str × Nat)}
theorem far0 : FarL H [] := fun _ _ z => by cases z
theorem strg_c {d : PyData} (h : Ev te σ H v) (hd : ∀ H, Dp K H v d) (nt : ∀ H, NoTu H v) (g : Gd 3 22 d) (nl : noL d = true) : EvP te σ H (Strg K sg) := ep_ev h fun H' _ => ⟨thn_c (hd _) (nt _) g nl, .odd d, ⟨.fl (hd _) nl, nt _⟩, trivial, Gd.gb6 g (by decide) (by decide)⟩
theorem strg_t0 (so : SigOk sg) : EvP (tTup tNil) σ H (Strg K sg) := fun H1 e Q q => eu_tup (vs := []) ea_nil (by show 0 ≤ 100000; decide) H1 e _ fun a H2 _ e2 hp => q _ H2 e2 (strg_row so (st_of hp) (fun _ z => (nomatch z)) (by decide) (thn_odd (d := .tuple []) (.fl (.tup (st_of hp) .nil) rfl) (.len (st_of hp) (by decide) (by decide)) (gd_small (fun d hd => by cases hd) (by decide))))
theorem strg_l0 : EvP (tLst tNil) σ H (Strg K sg) := fun H1 e Q q => el_lst (vs := []) ea_nil (by show 0 ≤ 100000; decide) H1 e _ fun a H2 _ e2 hp => q _ H2 e2 ⟨thn_odd (d := .list []) (.lst hp .nil rfl far0) (.tup (.lst hp far0)) (gd_lst0.mono (by decide) (by decide)), .odd (.list []), ⟨.lst hp .nil rfl far0, .lst hp far0⟩, trivial, Gd.gb6 gd_lst0 (by decide) (by decide)⟩
theorem strg_l2 {x y : Str} (gx : Gd 3 22 (.str x)) (gy : Gd 3 22 (.str y)) : EvP (tLst (tCons (tC (.str x)) (tCons (tC (.str y)) tNil))) σ H (Strg K sg) := fun H1 e Q q => el_lst (vs := [.str x, .str y]) (ea_cons ev_c (ea_cons ev_c ea_nil)) (by show 2 ≤ 100000; decide) H1 e _ fun a H2 _ e2 hp => by
  have far : FarL H2 [V.str x, .str y] := fun _ _ z => by cases z
  have dq : Dq K H2 (.ref a) (.list [.str x, .str y]) := .lst hp (.cons (.str _) (.cons (.str _) .nil)) rfl far
  have g : Gd 5 100 (.list [.str x, .str y]) := gd_smallL (mem2 gx gy) (by show 2 ≤ 4; decide)
  exact q _ H2 e2 ⟨thn_odd dq (.tup (.lst hp far)) g, .odd _, ⟨dq, .lst hp far⟩, trivial, Gd.gb6 g (by decide) (by decide)⟩
theorem strg_t1 (so : SigOk sg) {x : Str} (g : Gd 3 22 (.str x)) : EvP (tTup (tCons (tC (.str x)) tNil)) σ H (Strg K sg) := fun H1 e Q q => eu_tup (vs := [.str x]) (ea_cons ev_c ea_nil) (by show 1 ≤ 100000; decide) H1 e _ fun a H2 _ e2 hp => q _ H2 e2 (strg_row so (st_of hp) (fun y z => by
  rw [List.mem_singleton.mp z]
  exact thb_s g) (by show 1 ≤ 3; decide) (thn_odd (d := .tuple [.str x]) (.fl (.tup (st_of hp) (.cons (.str _) .nil)) rfl) (.len (st_of hp) (by show 1 ≠ 2; decide) (by show 1 ≠ 3; decide)) (gd_small (mem1 g) (by show 1 ≤ 4; decide))))
theorem strg_t2 (so : SigOk sg) {t1 t2 : TE} {x y : Str} (h1 : Ev t1 σ H (.str x)) (h2 : Ev t2 σ H (.str y)) (gx : Gd 3 22 (.str x)) (gy : Gd 3 22 (.str y)) (no : x ≠ "var" ∨ (x = "var" ∧ inV (.str y) (vars.map V.str) = false)) : EvP (tTup (tCons t1 (tCons t2 tNil))) σ H (Strg K sg) := fun H1 e Q q => eu_tup (vs := [.str x, .str y]) (ea_cons h1 (ea_cons h2 ea_nil)) (by show 2 ≤ 100000; decide) H1 e _ fun a H2 _ e2 hp => by
  have s : SqT K H2 a [.str x, .str y] := st_of hp
  have nf : NF K H2 sg (.ref a) := by
    rcases no with z | ⟨rfl, z⟩
    · exact .two s z
    · exact .letter s rfl z
  exact q _ H2 e2 (strg_row so s (mem2 (thb_s gx) (thb_s gy)) (by show 2 ≤ 3; decide) (thn_odd (d := .tuple [.str x, .str y]) (.fl (.tup s (.cons (.str _) (.cons (.str _) .nil))) rfl) nf (gd_small (mem2 gx gy) (by show 2 ≤ 4; decide))))
theorem strg_t3 (so : SigOk sg) {x y z : Str} (gx : Gd 3 22 (.str x)) (gy : Gd 3 22 (.str y)) (gz : Gd 3 22 (.str z)) (no : x ≠ "deed") : EvP (tTup (tCons (tC (.str x)) (tCons (tC (.str y)) (tCons (tC (.str z)) tNil)))) σ H (Strg K sg) := fun H1 e Q q => eu_tup (vs := [.str x, .str y, .str z]) (ea_cons ev_c (ea_cons ev_c (ea_cons ev_c ea_nil))) (by show 3 ≤ 100000; decide) H1 e _ fun a H2 _ e2 hp => by
  have s : SqT K H2 a [.str x, .str y, .str z] := st_of hp
  exact q _ H2 e2 (strg_row so s (mem3 (thb_s gx) (thb_s gy) (thb_s gz)) (by show 3 ≤ 3; decide) (thn_odd (d := .tuple [.str x, .str y, .str z]) (.fl (.tup s (.cons (.str _) (.cons (.str _) (.cons (.str _) .nil)))) rfl) (.three s no) (gd_small (mem3 gx gy gz) (by show 3 ≤ 4; decide))))
/-- ("deed", word, []) -/
theorem strg_dl (so : SigOk sg) {tn : TE} {f : Str} (hn : ∀ H1, Ex H H1 → Ev tn σ H1 (.str f)) (g : Gd 3 22 (.str f)) : EvP (tTup (tCons (tC (.str "deed")) (tCons tn (tCons (tLst tNil) tNil)))) σ H (Strg K sg) := fun H1 e Q q => do_tup (do_cons (do_ev ev_c fun H2 e2 => do_cons (do_ev (hn H2 (e.trans e2)) fun H3 e3 => do_cons (do_lst (do_nil ⟨Nat.zero_le _, fun b nb => do_nil ⟨by show 3 ≤ sizeLine; decide, fun a na => by
  have x5 : Ex H1 (upd (upd H3 b (.lst [])) a (.tup [.str "deed", .str f, .ref b])) := ((e2.trans e3).trans (Ex.new nb)).trans (Ex.new na)
  have s : SqT K (upd (upd H3 b (.lst [])) a (.tup [.str "deed", .str f, .ref b])) a [.str "deed", .str f, .ref b] := st_of upd_same
  have hb : (upd (upd H3 b (.lst [])) a (.tup [.str "deed", .str f, .ref b])) b = some (.lst []) := Ex.new na _ _ upd_same
  generalize upd (upd H3 b (.lst [])) a (.tup [.str "deed", .str f, .ref b]) = H5 at *
  have tl : ThB K H5 sg (.ref b) := th_odd (d := .list []) (.lst hb .nil rfl far0) (.tup (.lst hb far0)) (gd_lst0.mono (by decide) (by decide))
  exact q _ H5 x5 (strg_row so s (mem3 (thb_s gd_deedS) (thb_s g) tl) (by show 3 ≤ 3; decide) (thn_odd (d := .tuple [.str "deed", .str f, .list []]) (.deed s hb .nil rfl far0) (.terms s (.lst hb far0)) (gd_small (mem3 gd_deedS g gd_lst0) (by show 3 ≤ 4; decide))))⟩⟩)))))
/-- ("deed", "z", ()) -/
theorem strg_dz (so : SigOk sg) : EvP (tTup (tCons (tC (.str "deed")) (tCons (tC (.str "z")) (tCons (tTup tNil) tNil)))) σ H (Strg K sg) := fun H1 e Q q => do_tup (do_cons (do_ev ev_c fun H2 e2 => do_cons (do_ev ev_c fun H3 e3 => do_cons (do_tup (do_nil ⟨Nat.zero_le _, fun b nb => do_nil ⟨by show 3 ≤ sizeLine; decide, fun a na => by
  have x5 : Ex H1 (upd (upd H3 b (.tup [])) a (.tup [.str "deed", .str "z", .ref b])) := ((e2.trans e3).trans (Ex.new nb)).trans (Ex.new na)
  have s : SqT K (upd (upd H3 b (.tup [])) a (.tup [.str "deed", .str "z", .ref b])) a [.str "deed", .str "z", .ref b] := st_of upd_same
  have hb : SqT K (upd (upd H3 b (.tup [])) a (.tup [.str "deed", .str "z", .ref b])) b [] := st_of (Ex.new na _ _ upd_same)
  generalize upd (upd H3 b (.tup [])) a (.tup [.str "deed", .str "z", .ref b]) = H5 at *
  have tl : ThB K H5 sg (.ref b) := th_odd (d := .tuple []) (.fl (.tup hb .nil) rfl) (.len hb (by decide) (by decide)) (gd_tup0.mono (by decide) (by decide))
  have gz : Gd 3 22 (.str "z") := gd_s (by decide)
  exact q _ H5 x5 (strg_row so s (mem3 (thb_s gd_deedS) (thb_s gz) tl) (by show 3 ≤ 3; decide) (thn_odd (d := .tuple [.str "deed", .str "z", .tuple []]) (.fl (.tup s (.cons (.str _) (.cons (.str _) (.cons (.tup hb .nil) .nil)))) rfl) (.many s hb (noz so _) (by decide +kernel)) (gd_small (mem3 gd_deedS gz gd_tup0) (by show 3 ≤ 4; decide))))⟩⟩)))))
/-- ("deed", word, (None,)) -/
theorem strg_dn (so : SigOk sg) {tn : TE} {f : Str} (hn : ∀ H1, Ex H H1 → Ev tn σ H1 (.str f)) (g : Gd 3 22 (.str f)) : EvP (tTup (tCons (tC (.str "deed")) (tCons tn (tCons (tTup (tCons (tC .non) tNil)) tNil)))) σ H (Strg K sg) := fun H1 e Q q => do_tup (do_cons (do_ev ev_c fun H2 e2 => do_cons (do_ev (hn H2 (e.trans e2)) fun H3 e3 => do_cons (do_tup (do_cons (do_ev ev_c fun H4 e4 => do_nil ⟨by show 1 ≤ sizeLine; decide, fun b nb => do_nil ⟨by show 3 ≤ sizeLine; decide, fun a na => by
  have x5 : Ex H1 (upd (upd H4 b (.tup [.non])) a (.tup [.str "deed", .str f, .ref b])) := (((e2.trans e3).trans e4).trans (Ex.new nb)).trans (Ex.new na)
  have s : SqT K (upd (upd H4 b (.tup [.non])) a (.tup [.str "deed", .str f, .ref b])) a [.str "deed", .str f, .ref b] := st_of upd_same
  have hb : SqT K (upd (upd H4 b (.tup [.non])) a (.tup [.str "deed", .str f, .ref b])) b [.non] := st_of (Ex.new na _ _ upd_same)
  generalize upd (upd H4 b (.tup [.non])) a (.tup [.str "deed", .str f, .ref b]) = H5 at *
  have tl : ThB K H5 sg (.ref b) := th_odd (d := .tuple [.none]) (.fl (.tup hb (.cons .non .nil)) rfl) (.len hb (by show 1 ≠ 2; decide) (by show 1 ≠ 3; decide)) (gd_non1.mono (by decide) (by decide))
  have root : ThN K H5 sg (.ref a) := by
    by_cases mem : (f, 1) ∈ sg
    · exact thn_nones s ⟨b, rfl, hb⟩ mem
    · exact thn_odd (d := .tuple [.str "deed", .str f, .tuple [.none]]) (.fl (.tup s (.cons (.str _) (.cons (.str _) (.cons (.tup hb (.cons .non .nil)) .nil)))) rfl) (.many s hb mem (strOk_of g)) (gd_small (mem3 gd_deedS g gd_non1) (by show 3 ≤ 4; decide))
  exact q _ H5 x5 (strg_row so s (mem3 (thb_s gd_deedS) (thb_s g) tl) (by show 3 ≤ 3; decide) root)⟩⟩))))))
def sp_strange (K : PySem.W.Frag) : Sp := fun vs H Q _ => ∃ (p c : Addr) (t : Nat) (f : Str) (sg : List (Str × Nat)), vs = [.ref p, .str f] ∧ Pur H p c t ∧ t ≤ 80000 ∧ Name f ∧ SigOk sg ∧ ∀ v H', Off H H' p c → Pur H' p c (t + 1) → Strg K sg v H' → Q v H'
theorem c_strange (T : Txt mg) (D : Df K mg "_law_strange" s__law_strange ["_law_pile_here", "_law_name"]) (c_take : Cl P w K mg base 2 "_law_take" sp_take) : Cl P w K mg base 3 "_law_strange" (sp_strange K) := by
  refine cl_of (k := 2) D sc__law_strange (fun vs H Q E h => ?_) (fun f cdv A outer s H vs Q E hr h => ?_)
  · obtain ⟨p, c, t, f, sg, rfl, _⟩ := h
    rfl
  · obtain ⟨p, c, t, f, sg, rfl, pu, big, nm, so, q⟩ := h
    refine ⟨_, (pss_cons (ps_set (i := 2) sc__law_strange.nd rfl (.inl rfl) (pe_lst (pa_cons pe_non (pa_cons pe_bl (pa_cons pe_int (pa_cons pe_str (pa_cons pe_str (pa_cons (pe_tup pa_nil) (pa_cons (pe_lst pa_nil) (pa_cons (pe_un un_neg pe_int) (pa_cons (pe_tup (pa_cons pe_str pa_nil)) (pa_cons (pe_tup (pa_cons pe_str (pa_cons pe_str pa_nil))) (pa_cons (pe_tup (pa_cons pe_str (pa_cons pe_str pa_nil))) (pa_cons (pe_tup (pa_cons pe_str (pa_cons (pv 1) pa_nil))) (pa_cons (pe_lst (pa_cons pe_str (pa_cons pe_str pa_nil))) pa_nil)))))))))))))))
      (pss_cons (ps_set (i := 2) sc__law_strange.nd rfl (.inl rfl) (pe_op op_cat (pv 2) (pe_lst (pa_cons (pe_tup (pa_cons pe_str (pa_cons (pv 1) (pa_cons (pe_lst pa_nil) pa_nil)))) (pa_cons (pe_tup (pa_cons pe_str (pa_cons pe_str (pa_cons (pe_tup pa_nil) pa_nil)))) (pa_cons (pe_tup (pa_cons pe_str (pa_cons pe_str pa_nil))) (pa_cons (pe_tup (pa_cons pe_str (pa_cons pe_str (pa_cons pe_str pa_nil)))) (pa_cons (pe_tup (pa_cons pe_str (pa_cons (pv 1) (pa_cons (pe_tup (pa_cons pe_non pa_nil)) pa_nil)))) (pa_cons pe_int pa_nil)))))))))
      (pss_one (ps_ret (pe_ix ix_list (pv 2) (pe_cl c_take hr (by first | decide | omega) (by rfl) (pa_cons (pv 0) (pa_cons pe_int pa_nil))) (fun _ _ => rfl)))))), ?_⟩
    obtain ⟨gf, _, _⟩ := name_gd nm
    have gu : Gd 3 22 (.str "u") := gd_s (by decide)
    refine do_set ((ep_lstR (R := Strg K sg) Strg.st (n := 13) (eas_cons Strg.st (strg_c ev_c (fun _ => .non) (fun _ => .non) gd_none rfl) (eas_cons Strg.st (strg_c ev_c (fun _ => .bl true) (fun _ => .bl true) (gd_bool true) rfl) (eas_cons Strg.st (strg_c ev_c (fun _ => .int 0) (fun _ => .int 0) gd_00 rfl) (eas_cons Strg.st (strg_c ev_c (fun _ => .str "u") (fun _ => .str "u") gu rfl) (eas_cons Strg.st (strg_c ev_c (fun _ => .str "") (fun _ => .str "") (gd_s (by decide)) rfl) (eas_cons Strg.st (strg_t0 so) (eas_cons Strg.st strg_l0 (eas_cons Strg.st (strg_c (ev_un (z := .int (-1)) ev_c (fun H1 _ Q q => ⟨1, rfl, q H1 (Ex.refl _)⟩)) (fun _ => .int (-1)) (fun _ => .int (-1)) gd_m1 rfl) (eas_cons Strg.st (strg_t1 so gd_varS) (eas_cons Strg.st (strg_t2 so ev_c ev_c gd_varS (gd_s (by decide)) (.inr ⟨rfl, by decide +kernel⟩)) (eas_cons Strg.st (strg_t2 so ev_c ev_c gd_varS (gd_s (by decide)) (.inr ⟨rfl, by decide +kernel⟩)) (eas_cons Strg.st (strg_t2 so ev_c (ev_var rfl) gd_deedS gf (.inl (by decide))) (eas_cons Strg.st (strg_l2 gd_varS gu) eas_nil))))))))))))) (by decide) pu) H (Ex.refl H) _ fun v H1 e1 hv => ?_)
    refine do_set ((ep_catR (R := Strg K sg) Strg.st (ep_ev (P := LsR (Strg K sg) p c 13) (ev_var rfl) fun H' e' => hv.ex Strg.st e') (ep_lstR (R := Strg K sg) Strg.st (n := 6) (eas_cons Strg.st (strg_dl so (fun _ _ => ev_var rfl) gf) (eas_cons Strg.st (strg_dz so) (eas_cons Strg.st (strg_t2 so ev_c ev_c (gd_s (by decide)) gu (.inl (by decide))) (eas_cons Strg.st (strg_t3 so gd_varS gu gu (by decide)) (eas_cons Strg.st (strg_dn so (fun _ _ => ev_var rfl) gf) (eas_cons Strg.st (strg_c ev_c (fun _ => .int 7) (fun _ => .int 7) gd_7 rfl) eas_nil)))))) (by decide) (pu.ex e1)) (by decide) (pu.ex e1)) H1 (Ex.refl _) _ fun v2 H2 e2 hv2 => ?_)
    obtain ⟨l, xs, rfl, hl, lp, lc, ln, all⟩ := hv2
    have e02 := e1.trans e2
    refine do_ret (do_op (do_ev (ev_var rfl) fun H3 e3 => do_take (n := 19) (ev_var rfl) ev_c (pu.ex (e02.trans e3)) (by omega) (by decide) (by decide) fun k H4 hk o4 pu4 => ?_))
    have kl : k < xs.length := by omega
    refine ⟨l, xs, (k : Int), xs[k], rfl, rfl, sq_of (o4 _ _ lp lc (e3 _ _ hl)), atI_nat (List.getElem?_eq_getElem kl), q _ H4 ((Off.of_ex (e02.trans e3)).trans o4) pu4 ?_⟩
    exact (Strg.st _ _ _ e3 (all _ (List.getElem_mem kl))).off (pu.ex (e02.trans e3)) o4
end
end K80
end
section
namespace K80
open PySem PySem.Spec PyProof.Rows L2 Evl RZ Dw M20
/-! ### a bent term with nothing odd is a term -/
mutual
def Bt.tm : Bt → Tm
  | .var x => .var x
  | .deed f ts => .deed f (btms ts)
  | .odd _ => .var ""
def btms : List Bt → List Tm
  | [] => []
  | t :: ts => t.tm :: btms ts
end
mutual
theorem all_met : ∀ (t : Bt) (p : List Nat), t.all = true → ∀ e ∈ t.met p, e.2.fits = true
  | .var x, p, _, e, h => by
    rw [Bt.met, List.mem_singleton] at h
    rw [h]
    rfl
  | .deed f ts, p, a, e, h => by
    rw [Bt.all] at a
    rw [Bt.met, List.mem_cons] at h
    rcases h with h | h
    · rw [h]
      rfl
    · exact alls_met ts p 0 a e h
  | .odd d, p, a, e, h => by
    rw [Bt.all] at a
    cases a
theorem alls_met : ∀ (ts : List Bt) (p : List Nat) (k : Nat), ball ts = true → ∀ e ∈ mets ts p k, e.2.fits = true
  | [], p, k, _, e, h => by
    rw [mets] at h
    cases h
  | t :: ts, p, k, a, e, h => by
    rw [ball, Bool.and_eq_true] at a
    rw [mets, List.mem_append] at h
    rcases h with h | h
    · exact all_met t _ a.1 e h
    · exact alls_met ts p (k + 1) a.2 e h
end
mutual
theorem odd_met : ∀ (t : Bt) (p : List Nat), t.all = false → ∃ e ∈ t.met p, e.2.fits = false
  | .var x, p, h => by
    rw [Bt.all] at h
    cases h
  | .deed f ts, p, h => by
    rw [Bt.all] at h
    obtain ⟨e, he, q⟩ := odds_met ts p 0 h
    exact ⟨e, by rw [Bt.met]; exact List.mem_cons_of_mem _ he, q⟩
  | .odd d, p, _ => ⟨(p, .odd d), by rw [Bt.met]; exact List.mem_singleton.mpr rfl, rfl⟩
theorem odds_met : ∀ (ts : List Bt) (p : List Nat) (k : Nat), ball ts = false → ∃ e ∈ mets ts p k, e.2.fits = false
  | [], p, k, h => by
    rw [ball] at h
    cases h
  | t :: ts, p, k, h => by
    rw [ball, Bool.and_eq_false_iff] at h
    rcases h with h | h
    · obtain ⟨e, he, q⟩ := odd_met t (p ++ [k]) h
      exact ⟨e, by rw [mets]; exact List.mem_append_left _ he, q⟩
    · obtain ⟨e, he, q⟩ := odds_met ts p (k + 1) h
      exact ⟨e, by rw [mets]; exact List.mem_append_right _ he, q⟩
end
theorem wrong_none {t : Bt} (s : t.sz ≤ 60) (h : t.all = true) : wrongL (t.met []) = .none := by
  rw [wrongL_fine (all_met t [] h), if_neg (by rw [met_len]; omega)]
theorem wrong_some {t : Bt} (h : t.all = false) : wrongL (t.met []) ≠ .none := by
  obtain ⟨e, he, q⟩ := odd_met t [] h
  unfold wrongL
  cases f : (t.met []).find? (fun e => !e.2.fits) with
  | none =>
    have := List.find?_eq_none.mp f e he
    rw [q] at this
    exact absurd rfl this
  | some e2 => exact fun z => by cases z
section
variable {P : Program} {w : World} {K : PySem.W.Frag} {mg : Str → Option Value} {base : Heap} {σ : L2.St} {H H' : Hp} {p c : Addr} {n m k t : Nat} {v : V} {te : TE} {sg : List (Str × Nat)} {va : Addr}
mutual
theorem BtV.tm : ∀ {t : Bt} {v : V}, t.all = true → BtV K H sg t v → TmV K H t.tm v
  | .var x, v, _, h => by
    rw [BtV] at h
    rw [Bt.tm, TmV]
    exact h
  | .deed f ts, v, al, h => by
    rw [BtV] at h
    rw [Bt.all] at al
    rw [Bt.tm, TmV]
    obtain ⟨a, b, vs, q, s, s2, r⟩ := h
    exact ⟨a, b, vs, q, s, s2, BtsV.tm al r⟩
  | .odd d, v, al, h => by
    rw [Bt.all] at al
    cases al
theorem BtsV.tm : ∀ {ts : List Bt} {vs : List V}, ball ts = true → BtsV K H sg ts vs → TmsV K H (btms ts) vs
  | [], vs, _, h => by
    rw [BtsV] at h
    rw [btms, TmsV]
    exact h
  | t :: ts, vs, al, h => by
    rw [BtsV] at h
    rw [ball, Bool.and_eq_true] at al
    rw [btms, TmsV]
    obtain ⟨v, us, q, a, b⟩ := h
    exact ⟨v, us, q, BtV.tm al.1 a, BtsV.tm al.2 b⟩
end
theorem btms_len : ∀ ts : List Bt, (btms ts).length = ts.length
  | [] => by
    rw [btms]
    rfl
  | t :: ts => by rw [btms, List.length_cons, List.length_cons, btms_len ts]
mutual
theorem tm_ok : ∀ {t : Bt}, t.all = true → t.ok sg → t.tm.ok sg
  | .var x, _, h => by
    rw [Bt.ok] at h
    rw [Bt.tm, Tm.ok]
    exact h
  | .deed f ts, al, h => by
    rw [Bt.ok] at h
    rw [Bt.all] at al
    rw [Bt.tm, Tm.ok, btms_len]
    exact ⟨h.1, tms_ok al h.2⟩
  | .odd d, al, h => by
    rw [Bt.all] at al
    cases al
theorem tms_ok : ∀ {ts : List Bt}, ball ts = true → boks sg ts → oks sg (btms ts)
  | [], _, _ => by
    rw [btms, oks]
    trivial
  | t :: ts, al, h => by
    rw [boks] at h
    rw [ball, Bool.and_eq_true] at al
    rw [btms, oks]
    exact ⟨tm_ok al.1 h.1, tms_ok al.2 h.2⟩
end
mutual
theorem tm_sz : ∀ {t : Bt}, t.tm.sz = t.sz
  | .var x => by rw [Bt.tm, Tm.sz, Bt.sz]
  | .deed f ts => by rw [Bt.tm, Tm.sz, Bt.sz, tms_sz]
  | .odd d => by rw [Bt.tm, Tm.sz, Bt.sz]
theorem tms_sz : ∀ {ts : List Bt}, szs (btms ts) = bszs ts
  | [] => by rw [btms, szs, bszs]
  | t :: ts => by rw [btms, szs, bszs, tm_sz, tms_sz]
end
/-- right for a deed of so many places -/
def rdB (pl : Nat) (t : Bt) : Bool := t.all && (inner t.tm).all fun x => decide (x ∈ pls pl)
theorem el_lcTV {xs : List V} {tl : TE} {j : Nat} {vs : List Nat} (h : EvP tl σ H (fun v H' => TupV K H' v xs)) (u : Nat → V) (hn : xs.length ≤ 40000) (hwp : ∀ x, wipe ((wipe σ vs).set j (some x)) vs = wipe σ vs)
    (he : ∀ i x H1, Ex H H1 → xs[i]? = some x → Ev te ((wipe σ vs).set j (some x)) H1 (u i)) : EvL (tLc (iTup K tl) (gName j) tYes te vs) σ H ((List.range xs.length).map u) := fun H1 e Q q => h H1 e _ fun v H2 e2 hv => by
  obtain ⟨a, rfl, s⟩ := hv
  exact el_lcT (K := K) (tl := tC (.ref a)) (te := te) (j := j) (vs := vs) (σ := σ) (H := H2) ev_c s u hn hwp (fun i x H3 e3 hx => he i x H3 ((e.trans e2).trans e3) hx) H2 (Ex.refl _) Q (fun p H3 n e3 hp => q p H3 (fresh_back e2 n) (e2.trans e3) hp)
theorem sl_tupAK {X : Cx} (K : PySem.W.Frag) (hK : X.K = K := by rfl) : SlR X (rSlA K) := by
  subst hK
  exact sl_tupA
theorem ev_inTo {ta tb : TE} {x : Str} {k : Nat} (h : Ev ta σ H (.str x)) (V0 : Vars K mg va) (hb : Ev tb σ H (vi k)) (hk : k ≤ 6) : Ev (tOp (rIn K false) ta (tSl (rSlA K) (tC (.ref va)) tNoPart (tPart tb))) σ H (.bl (decide (x ∈ pls k))) := fun H1 e Q q => h H1 e _ fun H2 e2 => by
  refine ep_cutTo (K := K) (k := k) ev_c (V0.sq H) hb hk H2 (e.trans e2) _ fun u H3 e3 hu => ?_
  obtain ⟨b, rfl, sb⟩ := hu
  refine rv_isT (K := K) sb (xs := (vars.map V.str).take k) rfl (by rw [← List.map_take]; exact flat_strs _) H3 (Ex.refl _) Q fun H4 e4 => ?_
  rw [← List.map_take, inV_str]
  exact q H4 ((e2.trans e3).trans e4)
def sp_is_rd (K : PySem.W.Frag) : Sp := spX (fun (z : List (Str × Nat) × Nat × Bt) vs H => (∃ d v, vs = [vi z.2.1, .ref d, v] ∧ PlcX H d z.1 ∧ BtV K H z.1 z.2.2 v) ∧ z.2.2.ok z.1 ∧ (z.1.map (·.1)).Nodup ∧ z.2.2.sz ≤ 8 ∧ z.2.1 ≤ 2) (fun z v _ => v = .bl (rdB z.2.1 z.2.2))
theorem c_is_rd (T : Txt mg) (V0 : Vars K mg va) (D : Df K mg "is_reading_of_deed" s_is_reading_of_deed ["places", "others", "thing"]) (c_wrong_any : Cl P w K mg base 2 "wrong_in_term" (sp_wrong_any K)) (c_variables_of : Cl P w K mg base 2 "variables_of" (sp_variables_of K)) : Cl P w K mg base 3 "is_reading_of_deed" (sp_is_rd K) := by
  refine cl_of (k := 2) D sc_is_reading_of_deed (fun vs H Q E h => ?_) (fun f cdv A outer s H vs Q E hr h => ?_)
  · obtain ⟨z, ⟨⟨d, v, rfl, _⟩, _⟩, _⟩ := h
    rfl
  · obtain ⟨⟨sg, pl, t⟩, ⟨⟨d, v, rfl, plc, tv⟩, ok, nd, small, p2⟩, q⟩ := h
    have c_wrong_in_term := c_wrong_any
    refine ⟨_, (pss_cons (ps_if (pt_cmpR op_notN (pe_cl c_wrong_in_term hr (by first | decide | omega) (by rfl) (pa_cons (pv 1) (pa_cons (pv 2) pa_nil))) pe_non (nomark _))
        (pss_one (ps_ret pe_bl))
        pss_nil)
      (pss_one (ps_ret (pe_callB (cr_all rfl) (by rfl) T.z_all (by decide +kernel) (pa_cons (pe_lc (own := [("name", 3)]) (g := (gName 3)) (by rfl) sc_is_reading_of_deed.nd (pi_tup (pe_cl c_variables_of hr (by first | decide | omega) (by rfl) (pa_cons (pe_lst (pa_cons (pv 2) pa_nil)) pa_nil))) (blkOk_by (own := [("name", 3)]) (N := ["places", "others", "thing", "name"]) (sc := defScope s_is_reading_of_deed) (by decide +kernel)) (fun _ _ _ _ _ => (pg_name (i := 3) sc_is_reading_of_deed.nd rfl (.inl rfl))) (fun _ _ _ _ _ => pts_nil) (fun _ _ _ _ _ => (pe_cmpR (op_in_seqK K) (pv 3) (pe_slice (sl_tupAK K) (pe_gv (by rfl) V0.at_) po_none (po_some (pv 0))) (by rfl)))) pa_nil))))), ?_⟩
    replace plc : PlcX H d sg := plc
    replace tv : BtV K H sg t v := tv
    replace ok : t.ok sg := ok
    replace nd : (sg.map (·.1)).Nodup := nd
    replace small : t.sz ≤ 8 := small
    replace p2 : pl ≤ 2 := p2
    replace q : ∀ r H', Ex H H' → r = .bl (rdB pl t) → Q r H' := q
    cases al : t.all with
    | false =>
      refine s_when (b := true) (et_isNP ((ep_call (sg, t) (ea_cons (ev_var rfl) (ea_cons (ev_var rfl) ea_nil)) (fun H1 e1 => ⟨⟨_, _, rfl, plc.ex e1, tv.ex e1⟩, ok, nd, by show t.sz ≤ 100; omega⟩)).imp fun r H1 _ y => w_ref (show Dp K H1 r (wrongL (t.met [])) from y) (wrong_some al) (wrongL_tup _))) (fun _ H1 e1 => ?_) (fun hb => by cases hb)
      exact s_ret ev_c fun H2 e2 => q _ H2 (e1.trans e2) (by rw [rdB, al]; rfl)
    | true =>
      refine q_when (b := false) (et_is (et_isN (ev_ep ((ep_call (sg, t) (ea_cons (ev_var rfl) (ea_cons (ev_var rfl) ea_nil)) (fun H1 e1 => ⟨⟨_, _, rfl, plc.ex e1, tv.ex e1⟩, ok, nd, by show t.sz ≤ 100; omega⟩)).imp fun r H1 _ y => by
        have z : Dp K H1 r (wrongL (t.met [])) := y
        rw [wrong_none (by omega) al] at z
        cases z
        exact rfl))) (by decide)) (fun hb => by cases hb) (fun _ H1 e1 => ?_)
      have tm := (tv.ex e1).tm al
      have okt := tm_ok al ok
      have tl : ∀ x ∈ inner t.tm, x ∈ vars := fun x hx => (List.mem_filter.mp hx).1
      have l6 : (inner t.tm).length ≤ 6 := List.length_filter_le ..
      have lc := el_lcTV (K := K) (σ := [some (vi pl), some (.ref d), some v, none]) (H := H1) (tl := tCall (sp_variables_of K) [] E0 (tCons (tLst (tCons (tVar 2) tNil)) tNil)) (te := tOp (rIn K false) (tVar 3) (tSl (rSlA K) (tC (.ref va)) tNoPart (tPart (tVar 0)))) (j := 3) (vs := [3]) (xs := (inner t.tm).map V.str) ((ep_vars (ev_var rfl) tm okt (by rw [tm_sz]; omega)).imp fun u H2 _ hu => hu.sq) (fun i => .bl (decide ((inner t.tm).getD i "" ∈ pls pl))) (by rw [List.length_map]; omega) (fun _ => rfl) (fun i x H3 e3 hx => ?_)
      · have ea : (List.range ((inner t.tm).map V.str).length).map (fun i => V.bl (decide ((inner t.tm).getD i "" ∈ pls pl))) = ((inner t.tm).map fun x => decide (x ∈ pls pl)).map V.bl := by
          rw [List.map_map, List.length_map]
          apply List.ext_getElem?
          intro j
          by_cases hj : j < (inner t.tm).length
          · rw [List.getElem?_map, List.getElem?_range hj, List.getElem?_map, List.getElem?_eq_getElem hj]
            show some (V.bl (decide ((inner t.tm).getD j "" ∈ pls pl))) = some (V.bl (decide ((inner t.tm)[j] ∈ pls pl)))
            rw [List.getD_eq_getElem?_getD, List.getElem?_eq_getElem hj]
            rfl
          · rw [List.getElem?_eq_none_iff.mpr (by simp; omega), List.getElem?_eq_none_iff.mpr (by simp; omega)]
        rw [ea] at lc
        refine s_ret (ev_all lc) fun H3 e3 => q _ H3 (e1.trans e3) ?_
        rw [rdB, al, Bool.true_and, List.all_map]
        rfl
      · have hi : i < (inner t.tm).length := by
          have := (List.getElem?_eq_some_iff.mp hx).1
          rw [List.length_map] at this
          exact this
        rw [List.getElem?_map, List.getElem?_eq_getElem hi] at hx
        cases Option.some.inj hx
        have g : (inner t.tm).getD i "" = (inner t.tm)[i] := by rw [List.getD_eq_getElem?_getD, List.getElem?_eq_getElem hi]; rfl
        rw [g]
        exact ev_inTo (ev_var rfl) V0 (ev_var rfl) (by omega)
end
end K80
end
section
namespace K80
open PySem PySem.Spec PyProof.Rows L2 Evl RZ Dw M20
/-! ### readings: what is wrong -/
def rdAt (sg : List (Str × Nat)) (bs : List Bt) : List Nat := (List.range sg.length).filter fun k => !rdB (plOf sg k) (bs.getD k (.odd .none))
def rdOdd : PyData := .tuple [.str "reading"]
def rdW (sg : List (Str × Nat)) : Rt → PyData
  | .odd _ => rdOdd
  | .row bs => if bs.length = sg.length then (match rdAt sg bs with
    | [] => .none
    | k :: _ => dK2 "deed" k) else rdOdd
section
variable {P : Program} {w : World} {K : PySem.W.Frag} {mg : Str → Option Value} {base : Heap} {σ : L2.St} {H H' : Hp} {p c : Addr} {n m k t : Nat} {v : V} {te : TE} {sg : List (Str × Nat)} {va : Addr}
theorem q_enumTP {a : Addr} {xs : List V} {ta : TA} {j1 j2 j3 : Nat} {tu tz : TS} {D : Ends} (h : EvA ta σ H [.ref a]) (hx : SqT K H a xs) (Pv : Nat → L2.St → Hp → Prop) (h0 : ∀ H1, Ex H H1 → Pv 0 σ H1) (hl : ∀ i σ' H', i ≤ xs.length → Pv i σ' H' → SqT K H' a xs)
    (hs : ∀ i x σ' H' H'', xs[i]? = some x → Pv i σ' H' → Ex H' H'' → ∃ r u1 u2, x = .ref r ∧ SqT K H'' r [u1, u2] ∧ tu { D with nx := Pv (i + 1), ct := Pv (i + 1), bk := tz D } (((σ'.set j1 (some (vi i))).set j2 (some u1)).set j3 (some u2)) H'') (hd : ∀ σ' H', Pv xs.length σ' H' → tz D σ' H') :
    tSeq (tFor (iEnumT K ta) (gTup K 2 (gCons (gName j1) (gCons (gTup K 2 (gCons (gName j2) (gCons (gName j3) gNil))) gNil))) tu) tz D σ H :=
  h H (Ex.refl H) _ fun H1 e => ⟨a, xs, rfl, ex_t e hx, for_it (D := { D with nx := tz D }) walk_enumT Pv (h0 H1 e) hl (fun i v σ' H2 H3 hi p y => by
    obtain ⟨T, x1, x2, rfl, nT, rfl, e1, e2⟩ := y
    cases e1
    obtain ⟨r, u1, u2, rfl, sq, hh⟩ := hs i x2 σ' H2 _ e2 p (Ex.new (o := .tup [vi i, x2]) nT)
    exact ⟨T, _, rfl, st_of upd_same, rfl, _, _, rfl, _, _, rfl, r, _, rfl, sq, rfl, _, _, rfl, _, _, rfl, rfl, rfl, hh⟩) hd⟩
/-- two signatures, and what may be a reading -/
def RdPre (K : PySem.W.Frag) (z : (List (Str × Nat) × List (Str × Nat)) × Rt) (vs : List V) (H : Hp) : Prop := (∃ u o v, vs = [u, o, v] ∧ FSig K H u z.1.1 ∧ FSig K H o z.1.2 ∧ RtV K H z.1.2 z.2 v) ∧ SigOk z.1.1 ∧ SigOk z.1.2 ∧ z.2.fits z.1.2
theorem RdPre.ex {z : (List (Str × Nat) × List (Str × Nat)) × Rt} {vs : List V} (e : Ex H H') (h : RdPre K z vs H) : RdPre K z vs H' := let ⟨⟨u, o, v, q, a, b, r⟩, s⟩ := h; ⟨⟨u, o, v, q, a.ex e, b.ex e, r.ex e⟩, s⟩
def sp_reading_any (K : PySem.W.Frag) : Sp := spX (RdPre K) (fun z v H => Dp K H v (rdW z.1.1 z.2))
theorem rd_bad {bs : List Bt} {i : Nat} (l : bs.length = sg.length) (hi : i < sg.length) (good : ∀ j, j < i → rdB (plOf sg j) (bs.getD j (.odd .none)) = true) (bad : rdB (plOf sg i) (bs.getD i (.odd .none)) = false) : rdW sg (.row bs) = dK2 "deed" i := by
  obtain ⟨rr, h⟩ : ∃ rr, rdAt sg bs = i :: rr := filt_first hi (fun j hj => by rw [good j hj]; rfl) (by rw [bad]; rfl)
  rw [rdW, if_pos l, h]
theorem rd_good {bs : List Bt} (l : bs.length = sg.length) (good : ∀ j, j < sg.length → rdB (plOf sg j) (bs.getD j (.odd .none)) = true) : rdW sg (.row bs) = .none := by
  have h : rdAt sg bs = [] := filt_none (fun j hj => by rw [good j hj]; rfl)
  rw [rdW, if_pos l, h]
theorem dp_dK2 {r : Addr} {z : Str} {i : Nat} (h : H r = some (.tup [.str z, vi i])) : Dp K H (.ref r) (dK2 z i) := .tup (st_of h) (.cons (.str _) (.cons (.int _) .nil))
theorem c_reading_any (T : Txt mg) (D : Df K mg "reading_wrong" s_reading_wrong ["signature", "other", "thing"]) (c_need_signature : Cl P w K mg base 5 "need_signature" (sp_need_signature K)) (c_is_rd : Cl P w K mg base 3 "is_reading_of_deed" (sp_is_rd K)) : Cl P w K mg base 6 "reading_wrong" (sp_reading_any K) := by
  refine cl_of (k := 5) D sc_reading_wrong (fun vs H Q E h => ?_) (fun f cdv A outer s H vs Q E hr h => ?_)
  · obtain ⟨z, ⟨⟨u, o, v, rfl, _⟩, _⟩, _⟩ := h
    rfl
  · obtain ⟨⟨⟨sg, sg2⟩, th⟩, ⟨⟨u, o, v, rfl, hF, hG, tv⟩, so, so2, fit⟩, q⟩ := h
    have c_is_reading_of_deed := c_is_rd
    refine ⟨_, (pss_cons (ps_expr (pe_cl c_need_signature hr (by first | decide | omega) (by rfl) (pa_cons (pv 0) pa_nil)))
      (pss_cons (ps_expr (pe_cl c_need_signature hr (by first | decide | omega) (by rfl) (pa_cons (pv 1) pa_nil)))
      (pss_cons (ps_if (PW.pt (pw_or (pt_not (pt_val (pe_callB call_isi (by rfl) T.z_isinstance (by decide +kernel) (pa_cons (pv 2) (pa_cons (pe_ty "tuple" (by rfl) T.z_tuple (by decide +kernel)) pa_nil))))) (pw_or1 (pt_cmpR op_ne (pe_callB call_len_seq (by rfl) T.z_len PySem.boot_len (pa_cons (pv 2) pa_nil)) (pe_callB call_len_seq (by rfl) T.z_len PySem.boot_len (pa_cons (pv 0) pa_nil)) (nomark _)))))
        (pss_one (ps_ret (pe_tup (pa_cons pe_str pa_nil))))
        pss_nil)
      (pss_cons (ps_set (i := 3) sc_reading_wrong.nd rfl (.inl rfl) (pe_callTy (call_dictT rfl) (by rfl) T.z_dict (by decide +kernel) (pa_cons (pv 1) pa_nil)))
      (pss_cons (ps_for PassesOwn.never (by rfl) (pi_enumT (by rfl) T.z_enumerate (pa_cons (pv 0) pa_nil)) (pg_tup (by rfl) (pgs_cons (pg_name (i := 4) sc_reading_wrong.nd rfl (.inl rfl)) (pgs_cons (pg_name (i := 5) sc_reading_wrong.nd rfl (.inl rfl)) pgs_nil)))
        (pss_one (ps_if (pt_not (pt_val (pe_cl c_is_reading_of_deed hr (by first | decide | omega) (by rfl) (pa_cons (pe_ix ix_tup (pv 5) pe_int (fun _ _ => rfl)) (pa_cons (pv 3) (pa_cons (pe_ix ix_tup (pv 2) (pv 4) (fun _ _ => rfl)) pa_nil))))))
          (pss_one (ps_ret (pe_tup (pa_cons pe_str (pa_cons (pv 4) pa_nil)))))
          pss_nil)))
      (pss_one (ps_ret pe_non))))))), ?_⟩
    replace hF : FSig K H u sg := hF
    replace hG : FSig K H o sg2 := hG
    replace tv : RtV K H sg2 th v := tv
    replace so : SigOk sg := so
    replace so2 : SigOk sg2 := so2
    replace fit : th.fits sg2 := fit
    replace q : ∀ r H', Ex H H' → Dp K H' r (rdW sg th) → Q r H' := q
    refine q_drop (ev_callV (v := .non) sg (ea_cons (ev_var rfl) ea_nil) (fun H1 e1 => ⟨⟨_, rfl, (hF.ex e1).sig⟩, so⟩) (fun _ _ p => p)) fun H1 e1 => ?_
    refine q_drop (ev_callV (v := .non) sg2 (ea_cons (ev_var rfl) ea_nil) (fun H2 e2 => ⟨⟨_, rfl, (hG.ex (e1.trans e2)).sig⟩, so2⟩) (fun _ _ p => p)) fun H2 e2 => ?_
    have e02 := e1.trans e2
    have isodd : ∀ {H3 : Hp}, Ex H2 H3 → rdW sg th = rdOdd → tRet (tTup (tCons (tC (.str "reading")) tNil)) { nx := fun _ H' => Q .non H', rt := Q } [some u, some o, some v, none, none, none] H3 := fun {H3} e3 hw => s_retU (eu_tup (vs := [.str "reading"]) (ea_cons ev_c ea_nil) (by show 1 ≤ 100000; decide)) fun r H4 _ e4 hr4 => q _ H4 (e02.trans (e3.trans e4)) (by rw [hw]; exact .tup (st_of hr4) (.cons (.str _) .nil))
    cases th with
    | odd d => exact q_when (b := true) (et_is (et_or (a := true) (b := false) (et_is (et_not (et_val (ev_noTu (K := K) (ev_var rfl) ev_c (tv.2.ex e02)))) rfl) (fun z => by cases z)) rfl) (fun _ H3 e3 => isodd e3 rfl) (fun hb => by cases hb)
    | row bs =>
      obtain ⟨a, us, rfl, sa, rb⟩ := tv
      obtain ⟨boks2, szb, lb8⟩ := fit
      have lub := rb.len
      obtain ⟨sa1, o1, ps, rfl, hsa, sod, prs⟩ := id hF
      have sqS : SqT K H sa1 (ps.map V.ref) := .inl (.inr ⟨o1, hsa⟩)
      have lps := paired_len prs
      refine q_when (b := !decide (us.length = ps.length)) (et_is (et_or (a := false) (b := !decide (us.length = ps.length)) (et_is (et_not (et_val (ev_isi (ev_var rfl) ev_c (.ty _) (fun _ e => tyx_tup (ex_t (e02.trans e) sa)) kit_tt))) rfl) (fun _ => ne_len (K := K) (ev_var rfl) (ex_t e02 sa) (ev_is (ev_lenT (ev_var rfl) (ex_t e02 sqS)) (by rw [List.length_map])))) (by rw [Bool.false_or])) (fun hb H3 e3 => ?_) (fun hb H3 e3 => ?_)
      · rw [Bool.not_eq_true', decide_eq_false_iff_not] at hb
        exact isodd e3 (by rw [rdW, if_neg (by omega)])
      · rw [Bool.not_eq_false', decide_eq_true_eq] at hb
        have lbs : bs.length = sg.length := by omega
        have e03 := e02.trans e3
        obtain ⟨oa, oo, ops, rfl, hoa, ood, oprs⟩ := hG.ex e03
        refine do_set (do_cb (do_cons (do_ev (ev_var rfl) fun H4 e4 => ?_)))
        refine ⟨oa, oo, ops, kvsOf sg2, rfl, e4 _ _ hoa, ood, paired_mapR (f := fun d : Str × Nat => ((Sum.inr d.1 : Key), vi d.2)) (fun _ _ z => ex_t e4 z) oprs, fun d nd => ?_⟩
        have x5 : Ex H (upd H4 d (.dK (mergeK [] (kvsOf sg2)))) := (e03.trans e4).trans (Ex.new nd)
        have nds : ((([] : List (Key × V)) ++ kvsOf sg2).map (·.1)).Nodup := by
          rw [List.nil_append]
          exact kvs_nodup so2.nd
        have plc : PlcX (upd H4 d (.dK (mergeK [] (kvsOf sg2)))) d sg2 := ⟨_, upd_same, fun p hp => val_merge sg2 [] p.1 p.2 so2.nd (.inl hp), fun x hx => by
          rw [merge_new nds, List.nil_append]
          exact val_none fun z => hx (kvs_keys z)⟩
        generalize upd H4 d (.dK (mergeK [] (kvsOf sg2))) = H5 at *
        show tSeq _ _ _ [some (.ref sa1), some (.ref oa), some (.ref a), some (.ref d), none, none] H5
        refine q_enumT (K := K) (ea_cons (ev_var rfl) ea_nil) (ex_t x5 sqS) (fun i σ H' => Ex H5 H' ∧ (∀ j, j < i → rdB (plOf sg j) (bs.getD j (.odd .none)) = true) ∧ ∃ y4 y5, σ = [some (.ref sa1), some (.ref oa), some (.ref a), some (.ref d), y4, y5]) (fun H6 e6 => ⟨e6, fun j hj => absurd hj (Nat.not_lt_zero _), none, none, rfl⟩) (fun i σ H' _ ⟨e, _⟩ => ex_t (x5.trans e) sqS) (fun i x σ H6 H7 hx ⟨e, good, y4, y5, hσ⟩ e7 => ?_) (fun σ H6 ⟨e6, good, y4, y5, hσ⟩ => ?_)
        · subst hσ
          have ip : i < ps.length := by
            have := (List.getElem?_eq_some_iff.mp hx).1
            rw [List.length_map] at this
            exact this
          rw [List.getElem?_map, List.getElem?_eq_getElem ip] at hx
          cases Option.some.inj hx
          obtain ⟨dd, ed, hdd⟩ := paired_at prs (List.getElem?_eq_getElem ip)
          have pl2 : dd.2 ≤ 2 := so.pl _ (List.mem_iff_getElem?.mpr ⟨i, ed⟩)
          have gpl : plOf sg i = dd.2 := by
            rw [plOf, List.getD_eq_getElem?_getD, ed]
            rfl
          have e57 := e.trans e7
          have e07 := x5.trans e57
          have ib : i < bs.length := by omega
          obtain ⟨x, hxu, bv⟩ := rb.put ib
          have gb : bs.getD i (.odd .none) = bs[i] := by rw [List.getD_eq_getElem?_getD, List.getElem?_eq_getElem ib]; rfl
          show tIfS _ _ _ _ [some (.ref sa1), some (.ref oa), some (.ref a), some (.ref d), some (vi i), some (.ref ps[i])] H7
          refine s_when (b := !rdB dd.2 bs[i]) (et_not (et_val (ev_callV (v := .bl (rdB dd.2 bs[i])) (sg2, dd.2, bs[i]) (ea_cons (ev_op (ev_var rfl) ev_c (rv_ixT (K := K) (ex_t e07 hdd) (atI_vi (k := 1) rfl))) (ea_cons (ev_var rfl) (ea_cons (ev_op (ev_var rfl) (ev_var rfl) (rv_ixT (K := K) (ex_t e07 sa) (atI_nat hxu))) ea_nil))) (fun H8 e8 => ⟨⟨d, x, rfl, plc.ex (e57.trans e8), bv.ex (e07.trans e8)⟩, boks_get ib boks2, so2.nd, szb _ (List.getElem_mem ib), pl2⟩) (fun _ _ p => p)))) (fun hb2 H8 e8 => ?_) (fun hb2 H8 e8 => ⟨e57.trans e8, fun j hj => ?_, _, _, rfl⟩)
          · rw [Bool.not_eq_true'] at hb2
            exact s_retU (eu_tup (vs := [.str "deed", vi i]) (ea_cons ev_c (ea_cons (ev_var rfl) ea_nil)) (by show 2 ≤ 100000; decide)) fun r2 H9 _ e9 hr9 => q _ H9 ((e07.trans e8).trans e9) (by
              rw [rd_bad lbs (by omega) good (by rw [gb, gpl]; exact hb2)]
              exact dp_dK2 hr9)
          · rw [Bool.not_eq_false'] at hb2
            by_cases z : j < i
            · exact good j z
            · rw [show j = i by omega, gb, gpl]
              exact hb2
        · subst hσ
          rw [List.length_map] at good
          exact s_ret ev_c fun H7 e7 => q _ H7 (x5.trans (e6.trans e7)) (by
            rw [rd_good lbs (fun j hj => good j (by omega))]
            exact .non)
end
end K80
end
section
namespace K80
open PySem PySem.Spec PyProof.Rows L2 Evl RZ Dw M20
section
variable {P : Program} {w : World} {K : PySem.W.Frag} {mg : Str → Option Value} {base : Heap} {σ : L2.St} {H H' Hb : Hp} {p c : Addr} {n m k W : Nat} {v : V} {d : PyData} {C : Nat → Addr} {G0 S0 E0 : Addr}
/-- two signatures, the first or the second no signature, ahead of more -/
def S2Pre (K : PySem.W.Frag) (n : Nat) (z : ((Addr × Addr) × PyData) × Option (List (Str × Nat))) (vs : List V) (H : Hp) : Prop := Gb 50 100000 z.1.2 ∧ sigW z.1.2 ≠ .none ∧ ∃ u o r, vs = u :: o :: r ∧ r.length = n ∧ ((z.2 = none ∧ Dz K z.1.1.1 z.1.1.2 H u z.1.2) ∨ ∃ sg, z.2 = some sg ∧ FSig K H u sg ∧ SigOk sg ∧ Dz K z.1.1.1 z.1.1.2 H o z.1.2)
theorem S2Pre.ex {z : ((Addr × Addr) × PyData) × Option (List (Str × Nat))} {vs : List V} (e : Ex H H') (h : S2Pre K n z vs H) : S2Pre K n z vs H' := let ⟨a, b, u, o, r, q, l, x⟩ := h; ⟨a, b, u, o, r, q, l, x.imp (fun y => ⟨y.1, y.2.ex e⟩) (fun ⟨sg, y, f, g, dz⟩ => ⟨sg, y, f.ex e, g, dz.ex e⟩)⟩
/-- what is no reading -/
def RbPre (K : PySem.W.Frag) (z : (List (Str × Nat) × List (Str × Nat)) × Rt) (vs : List V) (H : Hp) : Prop := RdPre K z vs H ∧ rdW z.1.1 z.2 ≠ .none
theorem RbPre.ex {z : (List (Str × Nat) × List (Str × Nat)) × Rt} {vs : List V} (e : Ex H H') (h : RbPre K z vs H) : RbPre K z vs H' := ⟨h.1.ex e, h.2⟩
/-- a reading -/
def RgPre (K : PySem.W.Frag) (z : (List (Str × Nat) × List (Str × Nat)) × Rt) (vs : List V) (H : Hp) : Prop := RdPre K z vs H ∧ rdW z.1.1 z.2 = .none
theorem RgPre.ex {z : (List (Str × Nat) × List (Str × Nat)) × Rt} {vs : List V} (e : Ex H H') (h : RgPre K z vs H) : RgPre K z vs H' := ⟨h.1.ex e, h.2⟩
def sp_need_readingG (K : PySem.W.Frag) : Sp := spX (RgPre K) (fun _ v _ => v = .non)
theorem c_need_readingG (T : Txt mg) (D : Df K mg "need_reading" s_need_reading ["signature", "other", "reading"]) (c_reading_any : Cl P w K mg base 6 "reading_wrong" (sp_reading_any K)) : Cl P w K mg base 7 "need_reading" (sp_need_readingG K) := by
  refine cl_of (k := 6) D sc_need_reading (fun vs H Q E h => ?_) (fun f cdv A outer s H vs Q E hr h => ?_)
  · obtain ⟨z, ⟨⟨⟨u, o, v, rfl, _⟩, _⟩, _⟩, _⟩ := h
    rfl
  · obtain ⟨z, hz, q⟩ := h
    obtain ⟨⟨⟨u, o, v, rfl, _⟩, _⟩, good⟩ := id hz
    have c_reading_wrong := c_reading_any
    refine ⟨_, (pss_one (ps_if (pt_cmpR op_notN (pe_cl c_reading_wrong hr (by first | decide | omega) (by rfl) (pa_cons (pv 0) (pa_cons (pv 1) (pa_cons (pv 2) pa_nil)))) pe_non (nomark _))
        (pss_one ps_never)
        pss_nil)), ?_⟩
    exact s_when (b := false) (et_is (et_isN (ev_ep ((ep_call z (ea_cons (ev_var rfl) (ea_cons (ev_var rfl) (ea_cons (ev_var rfl) ea_nil))) (fun H1 e1 => hz.1.ex e1)).imp fun r H1 _ y => by
      have y2 : Dp K H1 r (rdW z.1.1 z.2) := y
      rw [good] at y2
      cases y2
      exact rfl))) (by decide)) (fun hb => by cases hb) (fun _ H1 e1 => q _ H1 e1 rfl)
end
end K80
end
section
namespace K80
open PySem PySem.Spec PyProof.Rows L2 Evl RZ Dw M20
section
variable {P : Program} {w : World} {K : PySem.W.Frag} {mg : Str → Option Value} {base : Heap} {σ : L2.St} {H H' Hb : Hp} {p c : Addr} {n m k W : Nat} {v : V} {d : PyData} {C : Nat → Addr} {G0 S0 E0 : Addr}
end
end K80
end
section
namespace K80
open PySem PySem.Spec PyProof.Rows L2 Evl RZ Dw M20
section
variable {P : Program} {w : World} {K : PySem.W.Frag} {mg : Str → Option Value} {base : Heap} {σ : L2.St} {H H' Hb : Hp} {p c : Addr} {n m k W : Nat} {v : V} {d : PyData} {ta tb : TE}
end
end K80
end
section
namespace K80
open PySem PySem.Spec PyProof.Rows L2 Evl RZ Dw M20
section
variable {P : Program} {w : World} {K : PySem.W.Frag} {mg : Str → Option Value} {base : Heap} {σ : L2.St} {H H' Hb : Hp} {p c : Addr} {n m k W t : Nat} {v : V} {d : PyData} {ta tb te : TE} {sg sg2 : List (Str × Nat)} {xs0 : List V}
/-- what may stand in a reading -/
def ElS (K : PySem.W.Frag) (sg : List (Str × Nat)) (v : V) (H : Hp) : Prop := ∃ b : Bt, BtV K H sg b v ∧ b.ok sg ∧ b.sz ≤ 8 ∧ Gb 30 1100 b.data
theorem ElS.ex {v : V} (e : Ex H H') (h : ElS K sg v H) : ElS K sg v H' := let ⟨b, x, r⟩ := h; ⟨b, x.ex e, r⟩
theorem ElS.off (pu : Pur H p c n) (o : Off H H' p c) (h : ElS K sg v H) : ElS K sg v H' := let ⟨b, x, r⟩ := h; ⟨b, x.off pu o, r⟩
/-- rows of them are things -/
def Thg (K : PySem.W.Frag) (sg : List (Str × Nat)) (v : V) (H : Hp) : Prop := ∃ th, RtV K H sg th v ∧ th.ok sg
theorem Thg.st : ∀ v H H', Ex H H' → Thg K sg v H → Thg K sg v H' := fun _ _ _ e ⟨th, a, r⟩ => ⟨th, a.ex e, r⟩
theorem Thg.off (pu : Pur H p c n) (o : Off H H' p c) (h : Thg K sg v H) : Thg K sg v H' := let ⟨th, a, r⟩ := h; ⟨th, a.off pu o, r⟩
end
end K80
end
section
namespace K80
open PySem PySem.Spec PyProof.Rows L2 Evl RZ Dw M20
section
variable {P : Program} {w : World} {K : PySem.W.Frag} {mg : Str → Option Value} {base : Heap} {σ : L2.St} {H H' Hb : Hp} {p c : Addr} {n m k W t : Nat} {v : V} {d : PyData} {ta tb te tc : TE} {sg sg2 : List (Str × Nat)} {xs0 : List V}
/-- a tuple of at most so many -/
def Row (K : PySem.W.Frag) (sg : List (Str × Nat)) (n : Nat) (v : V) (H : Hp) : Prop := ∃ ys, TupV K H v ys ∧ (∀ x ∈ ys, ElS K sg x H) ∧ ys.length ≤ n
theorem Row.ex (e : Ex H H') (h : Row K sg n v H) : Row K sg n v H' := let ⟨ys, a, b, l⟩ := h; ⟨ys, a.ex e, fun x hx => (b x hx).ex e, l⟩
theorem Row.off (pu : Pur H p c m) (o : Off H H' p c) (h : Row K sg n v H) : Row K sg n v H' := by
  obtain ⟨ys, ⟨a, rfl, s⟩, b, l⟩ := h
  exact ⟨ys, ⟨a, rfl, o.et pu _ _ s⟩, fun x hx => (b x hx).off pu o, l⟩
end
end K80
end
section
namespace K80
open PySem PySem.Spec PyProof.Rows L2 Evl RZ Dw M20
section
variable {P : Program} {w : World} {K : PySem.W.Frag} {mg : Str → Option Value} {base : Heap} {σ : L2.St} {H H' Hb : Hp} {p c : Addr} {n m k W t : Nat} {v : V} {d : PyData} {ta tb te tc : TE} {sg sg2 : List (Str × Nat)}
/-- a reading as the law makes it: a term for each deed -/
def OwnV (K : PySem.W.Frag) (sg sg2 : List (Str × Nat)) (v : V) (H : Hp) : Prop := ∃ a ts us, v = .ref a ∧ SqT K H a us ∧ TmsV K H ts us ∧ (∀ t ∈ ts, t.ok sg2 ∧ t.sz ≤ 7) ∧ ts.length = sg.length
theorem OwnV.ex (e : Ex H H') (h : OwnV K sg sg2 v H) : OwnV K sg sg2 v H' := let ⟨a, ts, us, q, s, tv, r⟩ := h; ⟨a, ts, us, q, ex_t e s, tv.et (Dw.Ex.et e), r⟩
theorem OwnV.off (pu : Pur H p c m) (o : Off H H' p c) (h : OwnV K sg sg2 v H) : OwnV K sg sg2 v H' := let ⟨a, ts, us, q, s, tv, r⟩ := h; ⟨a, ts, us, q, o.et pu _ _ s, tv.et (o.et pu), r⟩
end
end K80
end
section
namespace K80
open PySem PySem.Spec PyProof.Rows L2 Evl RZ Dw M20
section
variable {P : Program} {w : World} {K : PySem.W.Frag} {mg : Str → Option Value} {base : Heap} {σ : L2.St} {H H' Hb : Hp} {p c : Addr} {n m k W t : Nat} {v : V} {d : PyData} {ta tb te tc : TE} {sg sg2 : List (Str × Nat)} {S0 : Addr}
theorem sql_through {a : Addr} {xs : List V} {H3 H4 : Hp} (s : SqL K H3 a xs) (np : H3 p = none) (e : Ex H3 H4) (o : Off H4 H' p p) : SqL K H' a xs := s.imp (fun r => r.imp (fun z => by
  have ne : a ≠ p := fun q => by
    rw [q, np] at z
    cases z
  exact o _ _ ne ne (e _ _ z)) (fun ⟨ob, z⟩ => ⟨ob, by
  have ne : a ≠ p := fun q => by
    rw [q, np] at z
    cases z
  exact o _ _ ne ne (e _ _ z)⟩)) id
/-- a loop over a new list whose items are made with effects -/
theorem q_forX {te : TE} {g : TG} {tu tz : TS} {D : Ends} (h : te σ H fun v H1 => ∃ a, v = .ref a ∧ (∃ xs, SqL K H1 a xs) ∧ ∃ W : Nat → Nat → L2.St → Hp → Prop, (∃ m, W 0 m σ H1) ∧ ∀ i m σ' H', W i m σ' H' →
  ((Itl K a).stop i H' ∧ tz D σ' H') ∨ ((Itl K a).go i H' ∧ ∃ N : L2.St → Hp → Prop, (∀ σ2 H2, N σ2 H2 → ∃ m', m' < m ∧ W (i + 1) m' σ2 H2) ∧ ∀ x H2, (Itl K a).yld i H' x H2 → g x σ' H2 fun σ2 H3 => tu { D with nx := N, ct := N, bk := tz D } σ2 H3)) : tSeq (tFor (iList K te) g tu) tz D σ H := h
theorem for_x {a : Addr} {xs : List V} {g : TG} {tu tz : TS} {D : Ends} (Pv : Nat → L2.St → Hp → Prop) (h0 : Pv 0 σ H) (hl : ∀ i σ' H', i ≤ xs.length → Pv i σ' H' → SqL K H' a xs)
    (hs : ∀ i x σ' H', xs[i]? = some x → Pv i σ' H' → g x σ' H' fun σ2 H2 => tu { D with nx := Pv (i + 1), ct := Pv (i + 1), bk := tz D } σ2 H2) (hd : ∀ σ' H', Pv xs.length σ' H' → tz D σ' H') :
    ∃ W : Nat → Nat → L2.St → Hp → Prop, (∃ m, W 0 m σ H) ∧ ∀ i m σ' H', W i m σ' H' →
  ((Itl K a).stop i H' ∧ tz D σ' H') ∨ ((Itl K a).go i H' ∧ ∃ N : L2.St → Hp → Prop, (∀ σ2 H2, N σ2 H2 → ∃ m', m' < m ∧ W (i + 1) m' σ2 H2) ∧ ∀ x H2, (Itl K a).yld i H' x H2 → g x σ' H2 fun σ2 H3 => tu { D with nx := N, ct := N, bk := tz D } σ2 H3) :=
  for_it (D := { D with nx := tz D }) walk_list Pv h0 hl (fun i x σ' H2 H3 hi p y => by
    obtain ⟨rfl, hx⟩ := y
    exact hs i x σ' _ hx p) hd
/-! seven things that are no signature -/
end
end K80
end
section
namespace K80
open PySem PySem.Spec PyProof.Rows L2 Evl RZ Dw M20
section
variable {P : Program} {w : World} {K : PySem.W.Frag} {mg : Str → Option Value} {base : Heap} {S0 E0 G0 : Addr} {C : Nat → Addr}
end
end K80
end
section
namespace K80
open PySem PySem.Spec PyProof.Rows L2 Evl RZ Dw M20
section
variable {P : Program} {w : World} {K : PySem.W.Frag} {mg : Str → Option Value} {base : Heap} {σ : L2.St} {H : Hp}
def sp_exchanged (K : PySem.W.Frag) (n : Nat) : Sp := spX (fun (p : Tm × (Str → Tm)) vs H => (∃ v u, vs = [v, u] ∧ TmV K H p.1 v ∧ PutD K H u p.2 p.1.ls) ∧ p.1.sz ≤ n ∧ p.1.sz ≤ 60) (fun p v H => TmV K H (p.1.put p.2) v)
theorem c_exchanged (T : Txt mg) (D : Df K mg "exchanged" s_exchanged ["term", "putting"]) : ∀ n : Nat, Cl P w K mg base (n + 1) "exchanged" (sp_exchanged K n)
  | 0 => cl_of (k := 0) D sc_exchanged (fun vs H Q E h => by
      obtain ⟨t, ⟨⟨v, u, rfl, _⟩, _⟩, _⟩ := h
      rfl) (fun f cdv A outer s H vs Q E hr h => by
      obtain ⟨⟨t, _⟩, ⟨_, z, _⟩, _⟩ := h
      have b : 1 ≤ t.sz := by cases t <;> (rw [Tm.sz]; omega)
      have z2 : t.sz ≤ 0 := z
      omega)
  | n + 1 => by
    have c_rec := c_exchanged T D n
    refine cl_of (k := n + 1) D sc_exchanged (fun vs H Q E h => ?_) (fun f cdv A outer s H vs Q E hr h => ?_)
    · obtain ⟨t, ⟨⟨v, u, rfl, _⟩, _⟩, _⟩ := h
      rfl
    · obtain ⟨⟨t, g⟩, ⟨⟨v, u, rfl, tv, pd⟩, few, small⟩, q⟩ := h
      refine ⟨_, (pss_cons (ps_if (pt_cmpR op_eq (pe_ix ix_tup (pv 0) pe_int (fun _ _ => rfl)) pe_str (nomark _))
        (pss_one (ps_ret (pe_dget2 (hu_of hr) (pv 1) (pe_ix ix_tup (pv 0) pe_int (fun _ _ => rfl)) (pv 0) ⟨rfl, rfl, rfl, rfl⟩)))
        pss_nil)
      (pss_cons (ps_set (i := 2) sc_exchanged.nd rfl (.inl rfl) (pe_lst pa_nil))
      (pss_cons (ps_for PassesOwn.never (by rfl) (pi_tup (pe_ix ix_tup (pv 0) pe_int (fun _ _ => rfl))) (pg_name (i := 3) sc_exchanged.nd rfl (.inl rfl))
        (pss_one (ps_expr (pe_bm PySem.F.plainAttrs_list PySem.F.slot_list_append PySem.F.type_list_append mt_append (pv 2) (pa_cons (pe_cl c_rec hr (by first | decide | omega) (by rfl) (pa_cons (pv 3) (pa_cons (pv 1) pa_nil))) pa_nil)))))
      (pss_one (ps_ret (pe_tup (pa_cons pe_str (pa_cons (pe_ix ix_tup (pv 0) pe_int (fun _ _ => rfl)) (pa_cons (pe_callTy call_tuple_of (by rfl) T.z_tuple (by decide +kernel) (pa_cons (pv 2) pa_nil)) pa_nil))))))))), ?_⟩
      replace tv : TmV K H t v := tv
      replace pd : PutD K H u g t.ls := pd
      replace few : t.sz ≤ n + 1 := few
      replace small : t.sz ≤ 60 := small
      replace q : ∀ r H', Ex H H' → TmV K H' (t.put g) r → Q r H' := q
      cases t with
      | var x =>
        have tv0 := tv
        rw [TmV] at tv
        obtain ⟨a, rfl, ha⟩ := tv
        refine q_when (b := true) (et_is (et_test (ev_op (ev_op (ev_var rfl) ev_c (rv_ixT (K := K) ha (atI_vi (k := 0) rfl))) ev_c (rv_eq rfl))) (by decide)) (fun _ H1 e1 => ?_) (fun hb => by cases hb)
        refine do_ret (do_get2 (K := K) (ev_var rfl) (ev_op (ev_var rfl) ev_c (rv_ixT (K := K) (ex_t e1 ha) (atI_vi (k := 1) rfl))) (ev_var rfl) (pd.ex e1) (by rw [Tm.ls]; exact List.mem_singleton.mpr rfl) (tv0.et (Dw.Ex.et e1)) fun r H2 e2 hr2 => q r H2 (e1.trans e2) ?_)
        rw [Tm.put]
        exact hr2
      | deed f ts =>
        rw [TmV] at tv
        rw [Tm.sz] at few small
        rw [Tm.ls] at pd
        obtain ⟨a, b, us, rfl, ha, hb, tms⟩ := tv
        have lu := tms.len
        have ln := len_szs ts
        refine q_when (b := false) (et_is (et_test (ev_op (ev_op (ev_var rfl) ev_c (rv_ixT (K := K) ha (atI_vi (k := 0) rfl))) ev_c (rv_eq rfl))) (by decide)) (fun hb => by cases hb) (fun _ H1 e1 => ?_)
        refine q_asgL (el_lst ea_nil (Nat.zero_le _)) fun l H2 nl e2 hl => ?_
        have nlH : H l = none := fresh_back e1 nl
        have e02 := e1.trans e2
        refine q_forT (K := K) (ev_op (ev_var rfl) ev_c (rv_ixT (K := K) (ex_t e02 ha) (atI_vi (k := 2) rfl))) (ex_t e02 hb) (fun i σ H' => Ex H H' ∧ (∃ ws, H' l = some (.lst ws) ∧ TmsV K H' (puts g (ts.take i)) ws) ∧ ∃ y : Option V, σ = [some (.ref a), some u, some (.ref l), y])
          (fun H3 e3 => ⟨e02.trans e3, ⟨[], e3 _ _ hl, by rw [List.take_zero, puts, TmsV]⟩, none, rfl⟩) (fun i σ H' _ ⟨e, _⟩ => ex_t e hb) (fun i x σ H3 hx hP => ?_) (fun σ H3 hP => ?_)
        · obtain ⟨e3, ⟨ws, hl3, tws⟩, y, hσ⟩ := hP
          subst hσ
          obtain ⟨t', ht', tv'⟩ := tms.get hx
          have le := sz_le ht'
          have lw := tws.len
          rw [puts_len, List.length_take] at lw
          show tDrop _ _ [some (.ref a), some u, some (.ref l), some x] H3
          refine s_appP hl3 (ev_var rfl) (ep_call (t', g) (ea_cons (ev_var rfl) (ea_cons (ev_var rfl) ea_nil)) (fun H4 e4 => ⟨⟨_, _, rfl, tv'.et (Dw.Ex.et (e3.trans e4)), (pd.ex (e3.trans e4)).sub fun y hy => ls_at ht' hy⟩, by show t'.sz ≤ n; omega, by show t'.sz ≤ 60; omega⟩)) (by omega) fun r H4 e4 hr4 => ?_
          have et5 : ET K H4 (upd H4 l (.lst (ws ++ [r]))) := ET.refl.upd (e4 _ _ hl3)
          refine ⟨(e3.trans e4).mut nlH, ⟨ws ++ [r], upd_same, ?_⟩, _, rfl⟩
          rw [puts_take ht']
          exact (tws.et (ET.trans (Dw.Ex.et e4) et5)).snoc (TmV.et et5 hr4)
        · obtain ⟨e3, ⟨ws, hl3, tws⟩, y, hσ⟩ := hP
          subst hσ
          rw [lu, List.take_length] at tws
          refine do_ret (do_tup (do_cons (do_ev ev_c fun H4 e4 => do_cons (do_ev (ev_op (ev_var rfl) ev_c (rv_ixT (K := K) (ex_t (e3.trans e4) ha) (atI_vi (k := 1) rfl))) fun H5 e5 => do_cons (do_cb (do_cons (do_ev (ev_var rfl) fun H6 e6 => ?_)))))))
          have e36 := (e4.trans e5).trans e6
          refine ⟨l, ws, rfl, .inl ⟨sq_of (e36 _ _ hl3), fun r1 n1 => do_nil ⟨by show 3 ≤ sizeLine; decide, fun r2 n2 => ?_⟩⟩⟩
          have x9 : Ex H3 (upd (upd H6 r1 (.tup ws)) r2 (.tup [.str "deed", .str f, .ref r1])) := (e36.trans (Ex.new n1)).trans (Ex.new n2)
          have h2 : (upd (upd H6 r1 (.tup ws)) r2 (.tup [.str "deed", .str f, .ref r1])) r2 = some (.tup [.str "deed", .str f, .ref r1]) := upd_same
          have h1 : (upd (upd H6 r1 (.tup ws)) r2 (.tup [.str "deed", .str f, .ref r1])) r1 = some (.tup ws) := Ex.new n2 _ _ upd_same
          generalize upd (upd H6 r1 (.tup ws)) r2 (.tup [.str "deed", .str f, .ref r1]) = H9 at *
          refine q _ H9 (e3.trans x9) ?_
          rw [Tm.put]
          exact tmv_deed (st_of h2) (st_of h1) (tws.et (Dw.Ex.et x9))
end
section
variable {P : Program} {w : World} {K : PySem.W.Frag} {mg : Str → Option Value} {base : Heap} {σ : L2.St} {H : Hp}
def sp_grown_many (K : PySem.W.Frag) : Sp := spX (fun (p : Tm × (Str → Nat)) vs H => (∃ v u, vs = [v, u] ∧ TmV K H p.1 v ∧ NumD H u p.2 p.1.ls) ∧ p.1.sz ≤ 1000) (fun p v _ => v = vi (p.1.szb p.2))
theorem c_grown_many (T : Txt mg) (D : Df K mg "grown_many" s_grown_many ["term", "grown_by"]) : Cl P w K mg base 1 "grown_many" (sp_grown_many K) := by
  refine cl_of (k := 0) D sc_grown_many (fun vs H Q E h => ?_) (fun f cdv A outer s H vs Q E hr h => ?_)
  · obtain ⟨p, ⟨⟨v, u, rfl, _⟩, _⟩, _⟩ := h
    rfl
  · obtain ⟨⟨t, g⟩, ⟨⟨v, u, rfl, hv, hN⟩, big⟩, q⟩ := h
    refine ⟨_, (pss_cons (ps_set (i := 2) sc_grown_many.nd rfl (.inl rfl) pe_int)
      (pss_cons (ps_set (i := 3) sc_grown_many.nd rfl (.inl rfl) (pe_lst (pa_cons (pv 0) pa_nil)))
      (pss_cons (ps_while PassesOwn.never (pt_truth (pv 3) (by intro _; rfl))
        (pss_cons (ps_set (i := 4) sc_grown_many.nd rfl (.inl rfl) (pe_bm0 PySem.F.plainAttrs_list PySem.F.slot_list_pop PySem.F.type_list_pop mt_pop (pv 3)))
        (pss_one (ps_if (pt_cmpR op_eq (pe_ix ix_tup (pv 4) pe_int (fun _ _ => rfl)) pe_str (nomark _))
          (pss_cons (ps_aug (i := 2) sc_grown_many.nd rfl (.inl rfl) pe_int ip_add)
          (pss_one (ps_expr (pe_bm PySem.F.plainAttrs_list PySem.F.slot_list_extend PySem.F.type_list_extend mt_extS (pv 3) (pa_cons (pe_ix ix_tup (pv 4) pe_int (fun _ _ => rfl)) pa_nil)))))
          (pss_one (ps_aug (i := 2) sc_grown_many.nd rfl (.inl rfl) (pe_dget2 (hu_of hr) (pv 1) (pe_ix ix_tup (pv 4) pe_int (fun _ _ => rfl)) pe_int ⟨rfl, rfl, rfl, rfl⟩) ip_add))))))
      (pss_one (ps_ret (pv 2)))))), ?_⟩
    replace hv : TmV K H t v := hv
    replace hN : NumD H u g t.ls := hN
    replace big : t.sz ≤ 1000 := big
    replace q : ∀ r H', Ex H H' → r = vi (t.szb g) → Q r H' := q
    refine q_asg ev_c fun H1 e1 => ?_
    refine q_asgL (el_lst (ea_cons (ev_var rfl) ea_nil) (by show 1 ≤ 100000; decide)) fun td H2 ntd e2 htd => ?_
    have ntH : H td = none := fresh_back e1 ntd
    have e02 : Ex H H2 := e1.trans e2
    refine q_while (fun k σ H' => Ex H H' ∧ ∃ (stk : List Tm) (us : List V) (n : Nat) (y : Option V), k = szs stk ∧ H' td = some (.lst us) ∧ TmsV K H' stk us ∧ n + szbs g stk = t.szb g ∧ (∀ x ∈ lss stk, x ∈ t.ls) ∧ szs stk ≤ t.sz ∧ σ = [some v, some u, some (vi n), some (.ref td), y]) (szs [t])
      ⟨e02, [t], [v], 0, none, rfl, htd, TmsV.one (hv.et (Dw.Ex.et e02)), by rw [szbs, szbs]; omega, fun x hx => by rw [lss, lss, List.append_nil] at hx; exact hx, by rw [szs, szs]; omega, rfl⟩ (fun k σ H3 hW => ?_)
    obtain ⟨e3, stk, us, n, y, ek, hus, tms, le, lin, lsz, hσ⟩ := hW
    subst hσ
    subst ek
    have lu := tms.len
    have ls := len_szs stk
    refine ⟨_, et_truL (K := K) (ev_var rfl) (sq_of hus), fun hb H4 e4 => ?_, fun hb H4 e4 => ?_⟩
    · have ne : stk ≠ [] := fun z => by
        subst z
        rw [TmsV] at tms
        subst tms
        cases hb
      obtain ⟨b, t', ws, v', rfl, rfl, tb, tv⟩ := tms.last ne
      rw [szbs_app, szbs, szbs] at le
      rw [szs_app, szs, szs] at lsz
      have linb : ∀ x ∈ lss b, x ∈ t.ls := fun x hx => lin x (by rw [lss_app]; exact List.mem_append_left _ hx)
      have lint : ∀ x ∈ t'.ls, x ∈ t.ls := fun x hx => lin x (by rw [lss_app, lss, lss, List.append_nil]; exact List.mem_append_right _ hx)
      refine ⟨fun σ' H' => ∃ k', k' < szs (b ++ [t']) ∧ Ex H H' ∧ ∃ (stk : List Tm) (us : List V) (n : Nat) (y : Option V), k' = szs stk ∧ H' td = some (.lst us) ∧ TmsV K H' stk us ∧ n + szbs g stk = t.szb g ∧ (∀ x ∈ lss stk, x ∈ t.ls) ∧ szs stk ≤ t.sz ∧ σ' = [some v, some u, some (vi n), some (.ref td), y], fun σ2 H5 ⟨k', lt, r⟩ => ⟨k', lt, r⟩, ?_⟩
      refine do_set (do_pop (e4 _ _ hus) (ev_var rfl) fun H5 e5 => ?_)
      have e35 := e4.trans e5
      have et6 : ET K H3 (upd H5 td (.lst ws)) := ET.trans (Dw.Ex.et e35) (ET.refl.upd (e35 _ _ hus))
      have x6 : Ex H (upd H5 td (.lst ws)) := (e3.trans e35).mut ntH
      have td6 : (upd H5 td (.lst ws)) td = some (.lst ws) := upd_same
      have tb6 := tb.et et6
      have tv6 := tv.et et6
      generalize upd H5 td (.lst ws) = H6 at *
      show tIfS _ _ _ _ [some v, some u, some (vi n), some (.ref td), some v'] H6
      cases t' with
      | var x =>
        rw [TmV] at tv6
        obtain ⟨a, rfl, ha⟩ := tv6
        refine s_if (b := false) (et_is (et_test (ev_op (ev_op (ev_var rfl) ev_c (rv_ixT (K := K) ha (atI_vi (k := 0) rfl))) ev_c (rv_eq rfl))) (by decide)) (fun hb => by cases hb) (fun _ H8 e8 => ?_)
        have x8 := x6.trans e8
        refine s_aug (a := (n : Int)) (b := (g x : Int)) rfl (ev_getN (ev_var rfl) (ev_op (ev_var rfl) ev_c (rv_ixT (K := K) (ex_t e8 ha) (atI_vi (k := 1) rfl))) ev_c (hN.ex x8) (lint x (by rw [Tm.ls]; exact List.mem_singleton.mpr rfl))) fun H9 e9 => ?_
        have e89 := e8.trans e9
        rw [Tm.szb] at le
        rw [Tm.sz] at lsz
        refine ⟨szs b, by rw [szs_app, szs, Tm.sz]; omega, x8.trans e9, b, ws, n + g x, some (.ref a), rfl, e89 _ _ td6, tb6.et (Dw.Ex.et e89), by omega, linb, by omega, ?_⟩
        show [some v, some u, some (V.int ((n : Int) + (g x : Int))), some (.ref td), some (.ref a)] = [some v, some u, some (vi (n + g x)), some (.ref td), some (.ref a)]
        rw [show V.int ((n : Int) + (g x : Int)) = vi (n + g x) by show V.int _ = V.int _; rw [Int.natCast_add]]
      | deed f ts =>
        rw [TmV] at tv6
        obtain ⟨a, c, vs, rfl, ha, hc, tvs⟩ := tv6
        refine s_if (b := true) (et_is (et_test (ev_op (ev_op (ev_var rfl) ev_c (rv_ixT (K := K) ha (atI_vi (k := 0) rfl))) ev_c (rv_eq rfl))) (by decide)) (fun _ H8 e8 => ?_) (fun hb => by cases hb)
        have big2 := len_szs ts
        have lvs := tvs.len
        have lws := tb.len
        have lb := len_szs b
        rw [Tm.szb] at le
        rw [Tm.sz] at lsz
        refine q_aug (a := (n : Int)) (b := 1) rfl ev_c fun H9 e9 => ?_
        have e69 := e8.trans e9
        show tDrop _ _ [some v, some u, some (vi (n + 1)), some (.ref td), some (.ref a)] H9
        refine do_bm (ev_var rfl) fun H10 e10 => ⟨Or.inl ⟨rfl, _, sq_of ((e69.trans e10) _ _ td6)⟩, ?_⟩
        have e610 := e69.trans e10
        refine do_cons (ev_op (ev_var rfl) ev_c (rv_ixT (K := K) (ex_t e610 ha) (atI_vi (k := 2) rfl)) H10 (Ex.refl _) _ fun H11 e11 => do_nil ?_)
        have e611 := e610.trans e11
        refine ⟨td, c, ws, vs, rfl, rfl, e611 _ _ td6, ex_t e611 hc, sz_of (by omega), ?_⟩
        have etx : ET K H6 (upd H11 td (.lst (ws ++ vs))) := ET.trans (Dw.Ex.et e611) (ET.refl.upd (e611 _ _ td6))
        exact ⟨szs (b ++ ts), by rw [szs_app, szs_app, szs, szs, Tm.sz]; omega, (x6.trans e611).mut ntH, b ++ ts, ws ++ vs, n + 1, _, rfl, upd_same, (tb6.et etx).app (tvs.et etx), by rw [szbs_app]; omega, fun x hx => by
          rw [lss_app] at hx
          rcases List.mem_append.mp hx with z | z
          · exact linb x z
          · exact lint x (by rw [Tm.ls]; exact z), by rw [szs_app]; omega, rfl⟩
    · have no : stk = [] := by
        cases us with
        | nil => exact List.length_eq_zero_iff.mp lu.symm
        | cons _ _ => cases hb
      subst no
      rw [szbs] at le
      exact s_ret (ev_var rfl) fun H5 e5 => q _ H5 (e3.trans (e4.trans e5)) (by rw [← le]; rfl)
end
end K80
end
section
namespace K80
open PySem PySem.Spec PyProof.Rows L2 Evl RZ Dw M20
/-! terms as read -/
/-- the variables, in their order, by terms -/
def zf (ts : List Tm) (x : Str) : Tm := (ts[vars.idxOf x]?).getD (.var x)
mutual
def Tm.rd (f : Str → Tm) : Tm → Tm
  | .var x => .var x
  | .deed g ts => (f g).put (zf (rds f ts))
def rds (f : Str → Tm) : List Tm → List Tm
  | [] => []
  | t :: ts => t.rd f :: rds f ts
end
theorem rds_map (f : Str → Tm) : ∀ ts : List Tm, rds f ts = ts.map (Tm.rd f)
  | [] => by rw [rds]; rfl
  | t :: ts => by rw [rds, rds_map f ts]; rfl
theorem zf_at {ts : List Tm} {i : Nat} {x : Str} {t : Tm} (h : vars[i]? = some x) (h2 : ts[i]? = some t) : zf ts x = t := by
  have e : vars.idxOf x = i := by
    obtain ⟨hi, e⟩ := List.getElem?_eq_some_iff.mp h
    have all : ∀ j : Nat, (hj : j < 6) → vars.idxOf (vars[j]'hj) = j := by decide +kernel
    rw [← e]
    exact all i hi
  unfold zf
  rw [e, h2]
  rfl
theorem pls_at {k : Nat} {x : Str} (h : x ∈ pls k) : ∃ i, i < k ∧ vars[i]? = some x := by
  have h2 : x ∈ vars.take k := h
  obtain ⟨i, hi, e⟩ := List.mem_iff_getElem.mp h2
  rw [List.length_take] at hi
  refine ⟨i, by omega, ?_⟩
  rw [← e, List.getElem_take, List.getElem?_eq_getElem]
/-- each deed of a signature has a term, of few parts, in its letters -/
def RdOk (sg : List (Str × Nat)) (f : Str → Tm) : Prop := ∀ p ∈ sg, (f p.1).sz ≤ 8 ∧ ∀ x ∈ (f p.1).ls, x ∈ pls p.2
/-- a dict of terms by the deeds' names -/
def NmD (K : PySem.W.Frag) (H : Hp) (v : V) (f : Str → Tm) (sg : List (Str × Nat)) : Prop := ∃ (d : Addr) (kvs : List (Key × V)), v = .ref d ∧ H d = some (.dK kvs) ∧ ∀ p ∈ sg, ∃ u, valV kvs (.inr p.1) = some u ∧ TmV K H (f p.1) u
theorem NmD.ex {K : PySem.W.Frag} {H H' : Hp} {v : V} {f : Str → Tm} {sg : List (Str × Nat)} (e : Ex H H') (h : NmD K H v f sg) : NmD K H' v f sg := by
  obtain ⟨d, kvs, q, hd, all⟩ := h
  refine ⟨d, kvs, q, e _ _ hd, fun p hp => ?_⟩
  obtain ⟨u, a, b⟩ := all p hp
  exact ⟨u, a, b.et (Dw.Ex.et e)⟩
structure RgA where
  sg : List (Str × Nat)
  f : Str → Tm
  t : Tm
def RPre (K : PySem.W.Frag) (n : Nat) (p : RgA) (vs : List V) (H : Hp) : Prop := (∃ b v, vs = [b, v] ∧ NmD K H b p.f p.sg ∧ TmV K H p.t v) ∧ SigOk p.sg ∧ RdOk p.sg p.f ∧ p.t.ok p.sg ∧ p.t.hgt < n
section
variable {P : Program} {w : World} {K : PySem.W.Frag} {mg : Str → Option Value} {base : Heap} {σ : L2.St} {H : Hp}
/-- zip of two tuples, as long as the shorter one -/
theorem walk_zipTm {K : PySem.W.Frag} {a b : Addr} {xs ys : List V} {n : Nat} (hn : n = min xs.length ys.length) : Walk (ItzT K a b) n (fun H => SqT K H a xs ∧ SqT K H b ys) (YPair (fun i => xs[i]?) (fun i => ys[i]?)) := by
  refine ⟨fun i H hi q => ⟨xs, ys, xs[i]'(by omega), ys[i]'(by omega), q.1, q.2, List.getElem?_eq_getElem (by omega), List.getElem?_eq_getElem (by omega)⟩, fun H q => ⟨xs, ys, q.1, q.2, by omega⟩, fun i H v H' _ q y => ?_⟩
  obtain ⟨T, x1, x2, h1, h2, h3, h4, h5⟩ := y
  exact ⟨T, x1, x2, h1, h2, h3, h4 xs q.1, h5 ys q.2⟩
theorem q_zipTm {g : TG} {tu tz : TS} {D : Ends} {a b : Addr} {xs ys : List V} {ta : TA} {n : Nat} (h : EvA ta σ H [.ref a, .ref b]) (hx : SqT K H a xs) (hy : SqT K H b ys) (hl : n = min xs.length ys.length) (Pv : Nat → L2.St → Hp → Prop) (h0 : ∀ H1, Ex H H1 → Pv 0 σ H1) (hk : ∀ i σ' H', i ≤ n → Pv i σ' H' → SqT K H' a xs ∧ SqT K H' b ys)
    (hs : ∀ i x y T σ' H', xs[i]? = some x → ys[i]? = some y → Pv i σ' H' → H' T = none → g (.ref T) σ' (upd H' T (.tup [x, y])) fun σ2 H2 => tu { D with nx := Pv (i + 1), ct := Pv (i + 1), bk := tz D } σ2 H2) (hd : ∀ σ' H', Pv n σ' H' → tz D σ' H') :
    tSeq (tFor (iZipA K ta) g tu) tz D σ H :=
  h H (Ex.refl H) _ fun H1 e => ⟨a, b, xs, ys, rfl, .inr ⟨ex_t e hx, ex_t e hy, for_it (D := { D with nx := tz D }) (walk_zipTm hl) Pv (h0 H1 e) hk (fun i v σ' H2 H3 hi p y => by
    obtain ⟨T, x1, x2, rfl, nT, rfl, e1, e2⟩ := y
    exact hs i x1 x2 T σ' H2 e1 e2 p nT) hd⟩⟩
def sp_parts_read (K : PySem.W.Frag) (n : Nat) : Sp := spX (RPre K n) (fun p v _ => v = vi (p.t.rd p.f).sz)
theorem c_parts_read (T : Txt mg) (V0 : Vars K mg va) (D : Df K mg "parts_read" s_parts_read ["by_names", "term"]) (c_grown_many : Cl P w K mg base 1 "grown_many" (sp_grown_many K)) : ∀ n : Nat, Cl P w K mg base (n + 2) "parts_read" (sp_parts_read K n)
  | 0 => cl_of (k := 1) D sc_parts_read (fun vs H Q E h => by
      obtain ⟨p, ⟨⟨b, v, rfl, _⟩, _⟩, _⟩ := h
      rfl) (fun f cdv A outer s H vs Q E hr h => by
      obtain ⟨p, ⟨_, _, _, _, bad⟩, _⟩ := h
      exact absurd bad (Nat.not_lt_zero _))
  | n + 1 => by
    have c_rec := c_parts_read T V0 D c_grown_many n
    refine cl_of (k := n + 2) D sc_parts_read (fun vs H Q E h => ?_) (fun fa cdv A outer s H vs Q E hr h => ?_)
    · obtain ⟨p, ⟨⟨b, v, rfl, _⟩, _⟩, _⟩ := h
      rfl
    · obtain ⟨⟨sg, f, t⟩, ⟨⟨b, v, rfl, hN, tv⟩, so, ro, okt, hg⟩, q⟩ := h
      refine ⟨_, (pss_cons (ps_if (pt_cmpR op_eq (pe_ix ix_tup (pv 1) pe_int (fun _ _ => rfl)) pe_str (nomark _))
        (pss_one (ps_ret pe_int))
        pss_nil)
      (pss_cons (ps_set (i := 2) sc_parts_read.nd rfl (.inl rfl) (pe_dget (hu_of hr) (pv 0) (pe_ix ix_tup (pv 1) pe_int (fun _ _ => rfl)) (fun _ _ => rfl)))
      (pss_cons (ps_set (i := 3) sc_parts_read.nd rfl (.inl rfl) pe_dnewK)
      (pss_cons (ps_for PassesOwn.never (by rfl) (pi_zipA (by rfl) T.z_zip (pa_cons (pe_gv (by rfl) V0.at_) (pa_cons (pe_ix ix_tup (pv 1) pe_int (fun _ _ => rfl)) pa_nil))) (pg_tup (by rfl) (pgs_cons (pg_name (i := 4) sc_parts_read.nd rfl (.inl rfl)) (pgs_cons (pg_name (i := 5) sc_parts_read.nd rfl (.inl rfl)) pgs_nil)))
        (pss_one (ps_dput (hu_of hr) (pv 3) (pv 4) (pe_cl c_rec hr (by first | decide | omega) (by rfl) (pa_cons (pv 0) (pa_cons (pv 5) pa_nil))) rfl)))
      (pss_one (ps_ret (pe_cl c_grown_many hr (by first | decide | omega) (by rfl) (pa_cons (pv 2) (pa_cons (pv 3) pa_nil))))))))), ?_⟩
      replace hN : NmD K H b f sg := hN
      replace tv : TmV K H t v := tv
      replace so : SigOk sg := so
      replace ro : RdOk sg f := ro
      replace okt : t.ok sg := okt
      replace hg : t.hgt < n + 1 := hg
      replace q : ∀ r H', Ex H H' → r = vi (t.rd f).sz → Q r H' := q
      cases t with
      | var x =>
        rw [TmV] at tv
        obtain ⟨a, rfl, ha⟩ := tv
        refine q_when (b := true) (et_is (et_test (ev_op (ev_op (ev_var rfl) ev_c (rv_ixT (K := K) ha (atI_vi (k := 0) rfl))) ev_c (rv_eq rfl))) (by decide)) (fun _ H1 e1 => ?_) (fun hb => by cases hb)
        exact s_ret ev_c fun H2 e2 => q _ H2 (e1.trans e2) (by rw [Tm.rd, Tm.sz]; rfl)
      | deed g ts =>
        rw [TmV] at tv
        rw [Tm.ok] at okt
        rw [Tm.hgt] at hg
        obtain ⟨a, b2, us, rfl, ha, hb2, tms⟩ := tv
        have lu := tms.len
        obtain ⟨d, kvs, rfl, hd, all⟩ := id hN
        obtain ⟨fg, val, fv⟩ := all _ okt.1
        have rog := ro _ okt.1
        have p2 : ts.length ≤ 2 := so.pl _ okt.1
        refine q_when (b := false) (et_is (et_test (ev_op (ev_op (ev_var rfl) ev_c (rv_ixT (K := K) ha (atI_vi (k := 0) rfl))) ev_c (rv_eq rfl))) (by decide)) (fun hb => by cases hb) (fun _ H1 e1 => ?_)
        refine q_asg (ev_dget (ev_var rfl) (ev_op (ev_var rfl) ev_c (rv_ixT (K := K) (ex_t e1 ha) (atI_vi (k := 1) rfl))) (e1 _ _ hd) val) fun H2 e2 => ?_
        have e02 := e1.trans e2
        refine do_set (fun dd nd => ?_)
        have x3 : Ex H2 (upd H2 dd (.dK [])) := Ex.new nd
        have hd3 : (upd H2 dd (.dK [])) dd = some (.dK []) := upd_same
        have ndH : H dd = none := fresh_back e02 nd
        generalize upd H2 dd (.dK []) = H3 at *
        have e03 := e02.trans x3
        show tSeq _ _ _ [some (.ref d), some (.ref a), some fg, some (.ref dd), none, none] H3
        refine q_zipTm (K := K) (n := ts.length) (a := va) (b := b2) (xs := vars.map V.str) (ys := us) (ea_cons ev_c (ea_cons (ev_op (ev_var rfl) ev_c (rv_ixT (K := K) (ex_t e03 ha) (atI_vi (k := 2) rfl))) ea_nil)) (V0.sq _) (ex_t e03 hb2) (by rw [List.length_map, lu]; show _ = min 6 _; omega)
          (fun i σ' H' => Ex H H' ∧ ∃ (kv : List (Key × V)) (y4 y5 : Option V), H' dd = some (.dK kv) ∧ kv.length ≤ i ∧ (∀ j x t', j < i → vars[j]? = some x → ts[j]? = some t' → valV kv (.inr x) = some (vi (t'.rd f).sz)) ∧ σ' = [some (.ref d), some (.ref a), some fg, some (.ref dd), y4, y5])
          (fun H4 e4 => ⟨e03.trans e4, [], none, none, e4 _ _ hd3, Nat.le_refl _, fun j x t' h => absurd h (Nat.not_lt_zero _), rfl⟩) (fun i σ' H' _ h => ⟨V0.sq _, ex_t h.1 hb2⟩) (fun i x y Tp σ' H4 hx hy hP nT => ?_) (fun σ' H4 hP => ?_)
        · obtain ⟨e4, kv, y4, y5, hkv, lkv, vals, hσ⟩ := hP
          subst hσ
          obtain ⟨t', ht', tv'⟩ := tms.get hy
          have i2 : i < ts.length := (List.getElem?_eq_some_iff.mp ht').1
          rw [List.getElem?_map] at hx
          obtain ⟨xl, hxl, rfl⟩ : ∃ xl, vars[i]? = some xl ∧ x = .str xl := by
            cases hv : vars[i]? with
            | none => rw [hv] at hx; cases hx
            | some z => rw [hv] at hx; exact ⟨z, rfl, (Option.some.inj hx).symm⟩
          have e5 : Ex H4 (upd H4 Tp (.tup [.str xl, y])) := Ex.new nT
          have hT : (upd H4 Tp (.tup [.str xl, y])) Tp = some (.tup [.str xl, y]) := upd_same
          generalize upd H4 Tp (.tup [.str xl, y]) = H5 at *
          refine ⟨Tp, _, rfl, st_of hT, rfl, _, _, rfl, _, _, rfl, rfl, ?_⟩
          show sDPut _ _ _ _ [some (.ref d), some (.ref a), some fg, some (.ref dd), some (.str xl), some y] H5
          have e05 := e4.trans e5
          have ht : t'.hgt < n := by
            have := hgts_mem t' (List.mem_of_getElem? ht')
            omega
          refine do_put (do_ev (v := vi (t'.rd f).sz) (ev_callV (RgA.mk sg f t') (ea_cons (ev_var rfl) (ea_cons (ev_var rfl) ea_nil)) (fun H6 e6 => ⟨⟨_, _, rfl, hN.ex (e05.trans e6), tv'.et (Dw.Ex.et (e05.trans e6))⟩, so, ro, oks_get okt.2 ht', ht⟩) (fun _ _ p => p)) fun H6 e6 => do_ev (ev_var rfl) fun H7 e7 => do_ev (ev_var rfl) fun H8 e8 => ?_)
          have e58 := (e6.trans e7).trans e8
          have hk8 := (e5.trans e58) _ _ hkv
          refine ⟨dd, _, rfl, DPut.k (k := .inr xl) hk8 (sz_lt (by omega)), ?_⟩
          refine ⟨(e05.trans e58).mut ndH, _, _, _, upd_same, Nat.le_trans (put_len _ _ _) (by omega), fun j z t2 hj hz ht2 => ?_, rfl⟩
          rw [val_put]
          by_cases e : z = xl
          · rw [if_pos (by rw [e])]
            have ij : j = i := by
              have inj : ∀ p q : Nat, p < 6 → q < 6 → vars[p]? = vars[q]? → p = q := by
                intro p q hp hq
                have hp' : p = 0 ∨ p = 1 ∨ p = 2 ∨ p = 3 ∨ p = 4 ∨ p = 5 := by omega
                have hq' : q = 0 ∨ q = 1 ∨ q = 2 ∨ q = 3 ∨ q = 4 ∨ q = 5 := by omega
                rcases hp' with rfl | rfl | rfl | rfl | rfl | rfl <;> rcases hq' with rfl | rfl | rfl | rfl | rfl | rfl <;> decide +kernel
              exact inj j i (by omega) (by omega) (by rw [hz, hxl, e])
            rw [ij, ht'] at ht2
            rw [Option.some.inj ht2]
          · rw [if_neg (fun z => e (Sum.inr.inj z))]
            refine vals j z t2 ?_ hz ht2
            have : j ≠ i := fun q => e (by
              rw [q, hxl] at hz
              exact (Option.some.inj hz).symm)
            omega
        · obtain ⟨e4, kv, y4, y5, hkv, lkv, vals, hσ⟩ := hP
          subst hσ
          have nd : ∀ x ∈ (f g).ls, (valV kv (.inr x)).getD (vi 1) = vi (zf (rds f ts) x).sz := fun x hx => by
            obtain ⟨i, hi, hv⟩ := pls_at (rog.2 x hx)
            have hti : ts[i]? = some ts[i] := List.getElem?_eq_getElem hi
            rw [vals i x _ hi hv hti, zf_at (t := (ts[i]).rd f) hv (by rw [rds_map, List.getElem?_map, hti]; rfl)]
            rfl
          refine s_ret (ev_callV (v := vi ((f g).szb fun x => (zf (rds f ts) x).sz)) (f g, fun x => (zf (rds f ts) x).sz) (ea_cons (ev_var rfl) (ea_cons (ev_var rfl) ea_nil)) (fun H5 e5 => ⟨⟨_, _, rfl, fv.et (Dw.Ex.et (e4.trans e5)), dd, kv, rfl, e5 _ _ hkv, nd⟩, by show (f g).sz ≤ 1000; have h8 : (f g).sz ≤ 8 := rog.1; omega⟩) (fun _ _ p => p)) fun H5 e5 => q _ H5 (e4.trans e5) ?_
          rw [Tm.rd, szb_put (f g) fun x _ => rfl]
end
end K80
end
section
namespace K80
open PySem PySem.Spec PyProof.Rows L2 Evl RZ Dw M20
mutual
theorem sz_in_put {h : Str → Tm} {x : Str} : ∀ t : Tm, x ∈ t.ls → (h x).sz ≤ (t.put h).sz
  | .var y, m => by
    rw [Tm.ls, List.mem_singleton] at m
    rw [Tm.put, m]
    exact Nat.le_refl _
  | .deed g ts, m => by
    rw [Tm.ls] at m
    rw [Tm.put, Tm.sz]
    have := szs_in_put (h := h) ts m
    omega
theorem szs_in_put {h : Str → Tm} {x : Str} : ∀ ts : List Tm, x ∈ lss ts → (h x).sz ≤ szs (puts h ts)
  | [], m => by
    rw [lss] at m
    cases m
  | t :: ts, m => by
    rw [lss] at m
    rw [puts, szs]
    rcases List.mem_append.mp m with z | z
    · have := sz_in_put (h := h) t z
      omega
    · have := szs_in_put (h := h) ts z
      omega
end
theorem vars_inj {p q : Nat} (hp : p < 6) (hq : q < 6) (h : vars[p]? = vars[q]?) : p = q := by
  have hp' : p = 0 ∨ p = 1 ∨ p = 2 ∨ p = 3 ∨ p = 4 ∨ p = 5 := by omega
  have hq' : q = 0 ∨ q = 1 ∨ q = 2 ∨ q = 3 ∨ q = 4 ∨ q = 5 := by omega
  revert h
  rcases hp' with rfl | rfl | rfl | rfl | rfl | rfl <;> rcases hq' with rfl | rfl | rfl | rfl | rfl | rfl <;> decide +kernel
section
variable {P : Program} {w : World} {K : PySem.W.Frag} {mg : Str → Option Value} {base : Heap} {σ : L2.St} {H : Hp} {B0 : Addr}
def sp_read_by (K : PySem.W.Frag) (n : Nat) : Sp := spX (fun p vs H => RPre K n p vs H ∧ (p.t.rd p.f).sz ≤ 60) (fun p v H => TmV K H (p.t.rd p.f) v)
theorem c_read_by (T : Txt mg) (V0 : Vars K mg va) (D : Df K mg "read_by" s_read_by ["by_names", "term"]) (c_variables_of : Cl P w K mg base 2 "variables_of" (sp_variables_of K)) (c_exchanged : Cl P w K mg base 9 "exchanged" (sp_exchanged K 8)) : ∀ n : Nat, Cl P w K mg base (n + 10) "read_by" (sp_read_by K n)
  | 0 => cl_of (k := 9) D sc_read_by (fun vs H Q E h => by
      obtain ⟨p, ⟨⟨⟨b, v, rfl, _⟩, _⟩, _⟩, _⟩ := h
      rfl) (fun f cdv A outer s H vs Q E hr h => by
      obtain ⟨p, ⟨⟨_, _, _, _, bad⟩, _⟩, _⟩ := h
      exact absurd bad (Nat.not_lt_zero _))
  | n + 1 => by
    have c_rec := c_read_by T V0 D c_variables_of c_exchanged n
    refine cl_of (k := n + 10) D sc_read_by (fun vs H Q E h => ?_) (fun fa cdv A outer s H vs Q E hr h => ?_)
    · obtain ⟨p, ⟨⟨⟨b, v, rfl, _⟩, _⟩, _⟩, _⟩ := h
      rfl
    · obtain ⟨⟨sg, f, t⟩, ⟨⟨⟨b, v, rfl, hN, tv⟩, so, ro, okt, hg⟩, s60⟩, q⟩ := h
      refine ⟨_, (pss_cons (ps_if (pt_cmpR op_eq (pe_ix ix_tup (pv 1) pe_int (fun _ _ => rfl)) pe_str (nomark _))
        (pss_one (ps_ret (pv 1)))
        pss_nil)
      (pss_cons (ps_set (i := 2) sc_read_by.nd rfl (.inl rfl) (pe_dget (hu_of hr) (pv 0) (pe_ix ix_tup (pv 1) pe_int (fun _ _ => rfl)) (fun _ _ => rfl)))
      (pss_cons (ps_set (i := 3) sc_read_by.nd rfl (.inl rfl) (pe_cl c_variables_of hr (by first | decide | omega) (by rfl) (pa_cons (pe_lst (pa_cons (pv 2) pa_nil)) pa_nil)))
      (pss_cons (ps_set (i := 4) sc_read_by.nd rfl (.inl rfl) pe_dnewK)
      (pss_cons (ps_for PassesOwn.never (by rfl) (pi_zipA (by rfl) T.z_zip (pa_cons (pe_gv (by rfl) V0.at_) (pa_cons (pe_ix ix_tup (pv 1) pe_int (fun _ _ => rfl)) pa_nil))) (pg_tup (by rfl) (pgs_cons (pg_name (i := 5) sc_read_by.nd rfl (.inl rfl)) (pgs_cons (pg_name (i := 6) sc_read_by.nd rfl (.inl rfl)) pgs_nil)))
        (pss_one (ps_if (pt_cmpR op_in_seq (pv 5) (pv 3) (by rfl))
          (pss_one (ps_dput (hu_of hr) (pv 4) (pv 5) (pe_cl c_rec hr (by first | decide | omega) (by rfl) (pa_cons (pv 0) (pa_cons (pv 6) pa_nil))) rfl))
          pss_nil)))
      (pss_one (ps_ret (pe_cl c_exchanged hr (by first | decide | omega) (by rfl) (pa_cons (pv 2) (pa_cons (pv 4) pa_nil)))))))))), ?_⟩
      replace hN : NmD K H b f sg := hN
      replace tv : TmV K H t v := tv
      replace so : SigOk sg := so
      replace ro : RdOk sg f := ro
      replace okt : t.ok sg := okt
      replace hg : t.hgt < n + 1 := hg
      replace s60 : (t.rd f).sz ≤ 60 := s60
      replace q : ∀ r H', Ex H H' → TmV K H' (t.rd f) r → Q r H' := q
      cases t with
      | var x =>
        have tv0 := tv
        rw [TmV] at tv
        obtain ⟨a, rfl, ha⟩ := tv
        refine q_when (b := true) (et_is (et_test (ev_op (ev_op (ev_var rfl) ev_c (rv_ixT (K := K) ha (atI_vi (k := 0) rfl))) ev_c (rv_eq rfl))) (by decide)) (fun _ H1 e1 => ?_) (fun hb => by cases hb)
        exact s_ret (ev_var rfl) fun H2 e2 => q _ H2 (e1.trans e2) (by rw [Tm.rd]; exact tv0.et (Dw.Ex.et (e1.trans e2)))
      | deed g ts =>
        rw [TmV] at tv
        rw [Tm.ok] at okt
        rw [Tm.hgt] at hg
        obtain ⟨a, b2, us, rfl, ha, hb2, tms⟩ := tv
        have lu := tms.len
        obtain ⟨d, kvs, rfl, hd, all⟩ := id hN
        obtain ⟨fg, val, fv⟩ := all _ okt.1
        have rog := ro _ okt.1
        replace fv : TmV K H (f g) fg := fv
        have f8 : (f g).sz ≤ 8 := rog.1
        have p2 : ts.length ≤ 2 := so.pl _ okt.1
        have lin : ∀ x ∈ (f g).ls, x ∈ vars := fun x hx => List.mem_of_mem_take (rog.2 x hx)
        refine q_when (b := false) (et_is (et_test (ev_op (ev_op (ev_var rfl) ev_c (rv_ixT (K := K) ha (atI_vi (k := 0) rfl))) ev_c (rv_eq rfl))) (by decide)) (fun hb => by cases hb) (fun _ H1 e1 => ?_)
        refine q_asg (ev_dget (ev_var rfl) (ev_op (ev_var rfl) ev_c (rv_ixT (K := K) (ex_t e1 ha) (atI_vi (k := 1) rfl))) (e1 _ _ hd) val) fun H2 e2 => ?_
        have e02 := e1.trans e2
        refine q_asgP (ep_callP [f g] (Dw.eap_cons (P := fun v H' => ∃ l, v = .ref l ∧ H' l = some (.lst [fg])) (ep_new (el_lst (ea_cons (ev_var rfl) ea_nil) (by show 1 ≤ 100000; decide))) Dw.eap_nil (fun _ _ _ e ⟨l, a, b⟩ => ⟨l, a, e _ _ b⟩)) (fun vs H1 e1 ⟨v, r, q1, ⟨l, q2, hl⟩, q3⟩ => by
          subst q1 q2 q3
          exact ⟨⟨l, [fg], rfl, .inl (sq_of hl), TmsV.one (fv.et (Dw.Ex.et (e02.trans e1)))⟩, by show szs [f g] ≤ 63; rw [szs, szs]; omega⟩)) fun wv H3 e3 hw => ?_
        obtain ⟨ys, hw, _, _, memy⟩ := hw
        replace memy : ∀ x, x ∈ ys ↔ x ∈ (f g).ls := fun x => by rw [memy x, lss, lss, List.append_nil]
        obtain ⟨wa, rfl, sqw⟩ := hw.sq
        have e03 := e02.trans e3
        refine do_set (fun dd nd => ?_)
        have x4 : Ex H3 (upd H3 dd (.dK [])) := Ex.new nd
        have hd4 : (upd H3 dd (.dK [])) dd = some (.dK []) := upd_same
        have ndH : H dd = none := fresh_back e03 nd
        generalize upd H3 dd (.dK []) = H4 at *
        have e04 := e03.trans x4
        have sqw4 := ex_t x4 sqw
        show tSeq _ _ _ [some (.ref d), some (.ref a), some fg, some (.ref wa), some (.ref dd), none, none] H4
        refine q_zipTm (K := K) (n := ts.length) (a := va) (b := b2) (xs := vars.map V.str) (ys := us) (ea_cons ev_c (ea_cons (ev_op (ev_var rfl) ev_c (rv_ixT (K := K) (ex_t e04 ha) (atI_vi (k := 2) rfl))) ea_nil)) (V0.sq _) (ex_t e04 hb2) (by rw [List.length_map, lu]; show _ = min 6 _; omega)
          (fun i σ' H' => Ex H H' ∧ Ex H3 H' ∧ ∃ (kv : List (Key × V)) (y4 y5 : Option V), H' dd = some (.dK kv) ∧ kv.length ≤ i ∧ (∀ j x t', j < i → vars[j]? = some x → ts[j]? = some t' → x ∈ (f g).ls → ∃ u, valV kv (.inr x) = some u ∧ TmV K H' (t'.rd f) u) ∧ σ' = [some (.ref d), some (.ref a), some fg, some (.ref wa), some (.ref dd), y4, y5])
          (fun H5 e5 => ⟨e04.trans e5, x4.trans e5, [], none, none, e5 _ _ hd4, Nat.le_refl _, fun j x t' h => absurd h (Nat.not_lt_zero _), rfl⟩) (fun i σ' H' _ h => ⟨V0.sq _, ex_t h.1 hb2⟩) (fun i x y Tp σ' H5 hx hy hP nT => ?_) (fun σ' H5 hP => ?_)
        · obtain ⟨e5, e35, kv, y4, y5, hkv, lkv, vals, hσ⟩ := hP
          subst hσ
          obtain ⟨t', ht', tv'⟩ := tms.get hy
          have i2 : i < ts.length := (List.getElem?_eq_some_iff.mp ht').1
          rw [List.getElem?_map] at hx
          obtain ⟨xl, hxl, rfl⟩ : ∃ xl, vars[i]? = some xl ∧ x = .str xl := by
            cases hv : vars[i]? with
            | none => rw [hv] at hx; cases hx
            | some z => rw [hv] at hx; exact ⟨z, rfl, (Option.some.inj hx).symm⟩
          have e6 : Ex H5 (upd H5 Tp (.tup [.str xl, y])) := Ex.new nT
          have hT : (upd H5 Tp (.tup [.str xl, y])) Tp = some (.tup [.str xl, y]) := upd_same
          generalize upd H5 Tp (.tup [.str xl, y]) = H6 at *
          refine ⟨Tp, _, rfl, st_of hT, rfl, _, _, rfl, _, _, rfl, rfl, ?_⟩
          show tIfS _ _ _ _ [some (.ref d), some (.ref a), some fg, some (.ref wa), some (.ref dd), some (.str xl), some y] H6
          have e06 := e5.trans e6
          have e36 := e35.trans e6
          have ht : t'.hgt < n := by
            have := hgts_mem t' (List.mem_of_getElem? ht')
            omega
          have grow : ∀ {H' : Hp} {kv' : List (Key × V)}, Ex H6 H' → (∀ j z t2, j < i → vars[j]? = some z → ts[j]? = some t2 → z ∈ (f g).ls → ∃ u, valV kv (.inr z) = some u ∧ TmV K H' (t2.rd f) u) := fun e7 j z t2 h1 h2 h3 h4 => let ⟨u, a, b⟩ := vals j z t2 h1 h2 h3 h4; ⟨u, a, b.et (Dw.Ex.et (e6.trans e7))⟩
          refine s_if (b := decide (xl ∈ ys)) (et_is (et_test (ev_op (ev_var rfl) (ev_var rfl) (rv_inT (ex_t e36 sqw) rfl (flat_strs ys)))) (inV_str ..)) (fun hb H7 e7 => ?_) (fun hb H7 e7 => ?_)
          · have mem : xl ∈ (f g).ls := (memy xl).mp (of_decide_eq_true hb)
            have zx : zf (rds f ts) xl = t'.rd f := zf_at (t := t'.rd f) hxl (by rw [rds_map, List.getElem?_map, ht']; rfl)
            have small : (t'.rd f).sz ≤ 60 := by
              rw [Tm.rd] at s60
              have := sz_in_put (h := zf (rds f ts)) (f g) mem
              rw [zx] at this
              omega
            have e07 := e06.trans e7
            refine do_put (ep_call (RgA.mk sg f t') (ea_cons (ev_var rfl) (ea_cons (ev_var rfl) ea_nil)) (fun H8 e8 => ⟨⟨⟨_, _, rfl, hN.ex (e07.trans e8), tv'.et (Dw.Ex.et (e07.trans e8))⟩, so, ro, oks_get okt.2 ht', ht⟩, small⟩) H7 (Ex.refl _) _ fun r H8 e8 hr8 => do_ev (ev_var rfl) fun H9 e9 => do_ev (ev_var rfl) fun H10 e10 => ?_)
            replace hr8 : TmV K H8 (t'.rd f) r := hr8
            have e710 := (e8.trans e9).trans e10
            have hk10 := (e6.trans (e7.trans e710)) _ _ hkv
            refine ⟨dd, _, rfl, DPut.k (k := .inr xl) hk10 (sz_lt (by omega)), ?_⟩
            have et11 : ET K H10 (upd H10 dd (.dK (putK kv (.inr xl) r))) := ET.updD ET.refl hk10
            refine ⟨(e07.trans e710).mut ndH, (e36.trans (e7.trans e710)).mut nd, _, _, _, upd_same, Nat.le_trans (put_len _ _ _) (by omega), fun j z t2 hj hz ht2 hm => ?_, rfl⟩
            rw [val_put]
            by_cases e : z = xl
            · rw [if_pos (by rw [e])]
              have ij : j = i := by
                have j6 := (List.getElem?_eq_some_iff.mp hz).1
                have i6 := (List.getElem?_eq_some_iff.mp hxl).1
                exact vars_inj j6 i6 (by rw [hz, hxl, e])
              rw [ij, ht'] at ht2
              cases Option.some.inj ht2
              exact ⟨r, rfl, hr8.et (ET.trans (Dw.Ex.et (e9.trans e10)) et11)⟩
            · rw [if_neg (fun z => e (Sum.inr.inj z))]
              have ji : j ≠ i := fun q => e (by
                rw [q, hxl] at hz
                exact (Option.some.inj hz).symm)
              obtain ⟨u, a1, b1⟩ := grow (kv' := kv) (e7.trans e710) j z t2 (by omega) hz ht2 hm
              exact ⟨u, a1, b1.et et11⟩
          · have nm : xl ∉ (f g).ls := fun m => by
              rw [decide_eq_true ((memy xl).mpr m)] at hb
              cases hb
            refine ⟨e06.trans e7, e36.trans e7, kv, _, _, (e6.trans e7) _ _ hkv, by omega, fun j z t2 hj hz ht2 hm => ?_, rfl⟩
            have ji : j ≠ i := fun q => by
              rw [q, hxl] at hz
              rw [Option.some.inj hz] at nm
              exact nm hm
            exact grow (kv' := kv) e7 j z t2 (by omega) hz ht2 hm
        · obtain ⟨e5, e35, kv, y4, y5, hkv, lkv, vals, hσ⟩ := hP
          subst hσ
          have pd : ∀ x ∈ (f g).ls, (valV kv (.inr x) = none ∧ zf (rds f ts) x = .var x) ∨ ∃ u, valV kv (.inr x) = some u ∧ TmV K H5 (zf (rds f ts) x) u := fun x hx => by
            obtain ⟨i, hi, hv⟩ := pls_at (rog.2 x hx)
            have hti : ts[i]? = some ts[i] := List.getElem?_eq_getElem hi
            obtain ⟨u, a1, b1⟩ := vals i x _ hi hv hti hx
            exact .inr ⟨u, a1, by rw [zf_at (t := (ts[i]).rd f) hv (by rw [rds_map, List.getElem?_map, hti]; rfl)]; exact b1⟩
          refine s_retP (ep_call (f g, zf (rds f ts)) (ea_cons (ev_var rfl) (ea_cons (ev_var rfl) ea_nil)) (fun H6 e6 => ⟨⟨_, _, rfl, fv.et (Dw.Ex.et (e5.trans e6)), PutD.ex e6 ⟨dd, kv, rfl, hkv, pd⟩⟩, f8, by show (f g).sz ≤ 60; omega⟩)) fun r H6 e6 hr6 => q r H6 (e5.trans e6) ?_
          rw [Tm.rd]
          exact hr6
/-- read, where that is small, else refused -/
def SrE (K : PySem.W.Frag) (n : Nat) (B0 : Addr) : Sp := fun vs H Q E => ∃ p : RgA, RPre K n p vs H ∧ ((60 < (p.t.rd p.f).sz ∧ ∀ H', Ex H H' → E (.ref B0) none H') ∨ ((p.t.rd p.f).sz ≤ 60 ∧ ∀ r H', Ex H H' → TmV K H' (p.t.rd p.f) r → Q r H'))
theorem c_small_read_by (T : Txt mg) (eb : ExcT K mg "TooBig" B0) (D : Df K mg "small_read_by" s_small_read_by ["by_names", "term"]) (c_parts_read : Cl P w K mg base 64 "parts_read" (sp_parts_read K 62)) (c_read_by : Cl P w K mg base 72 "read_by" (sp_read_by K 62)) : ClX P w K mg base 73 "small_read_by" (SrE K 62 B0) := by
  refine clx_of (k := 72) D sc_small_read_by (fun vs H Q E h => ?_) (fun fa cdv A outer s H vs Q E hr h => ?_)
  · obtain ⟨p, ⟨⟨b, v, rfl, _⟩, _⟩, _⟩ := h
    rfl
  · obtain ⟨p, ⟨⟨b, v, rfl, hN, tv⟩, r⟩, h⟩ := h
    refine ⟨_, (pss_cons (ps_if (pt_cmpR op_gt (pe_cl c_parts_read hr (by first | decide | omega) (by rfl) (pa_cons (pv 0) (pa_cons (pv 1) pa_nil))) (pe_gi (by rfl) T.c_MOST_PARTS) (nomark _))
        (pss_one (ps_raise rfl (takes_of rfl rfl rfl rfl) (pmk_own PySem.F.excBase_ValueError eb.q eb.g eb.k (raises_own eb.c.hs eb.t) (by rfl))))
        pss_nil)
      (pss_one (ps_ret (pe_cl c_read_by hr (by first | decide | omega) (by rfl) (pa_cons (pv 0) (pa_cons (pv 1) pa_nil)))))), ?_⟩
    have tst : EvT (tTest (tOp rGt (tCall (sp_parts_read K 62) [] E0 (tCons (tVar 0) (tCons (tVar 1) tNil))) (tC (.int 60)))) [some b, some v] H (decide (60 < (p.t.rd p.f).sz)) := et_is (et_test (ev_op (ev_callV (v := vi (p.t.rd p.f).sz) p (ea_cons (ev_var rfl) (ea_cons (ev_var rfl) ea_nil)) (fun H1 e1 => ⟨⟨_, _, rfl, hN.ex e1, tv.et (Dw.Ex.et e1)⟩, r⟩) (fun _ _ p => p)) ev_c rv_I0)) (decide_eq_decide.mpr ⟨fun z => by omega, fun z => by omega⟩)
    rcases h with ⟨big, q⟩ | ⟨small, q⟩
    · exact q_when (b := true) (et_is tst (decide_eq_true big)) (fun _ H1 e1 => q H1 e1) (fun hb => by cases hb)
    · refine q_when (b := false) (et_is tst (decide_eq_false (by omega))) (fun hb => by cases hb) (fun _ H1 e1 => ?_)
      exact s_retP (ep_call p (ea_cons (ev_var rfl) (ea_cons (ev_var rfl) ea_nil)) (fun H2 e2 => ⟨⟨⟨_, _, rfl, hN.ex (e1.trans e2), tv.et (Dw.Ex.et (e1.trans e2))⟩, r⟩, small⟩)) fun r H2 e2 hr2 => q r H2 (e1.trans e2) hr2
end
end K80
end
section
namespace K80
open PySem PySem.Spec PyProof.Rows L2 Evl RZ Dw M20
/-! good readings -/
mutual
theorem bt_allT : ∀ t : Tm, t.bt.all = true
  | .var x => rfl
  | .deed f ts => by
    rw [Tm.bt, Bt.all]
    exact bts_allT ts
theorem bts_allT : ∀ ts : List Tm, ball (bts ts) = true
  | [] => rfl
  | t :: ts => by
    rw [bts, ball, bt_allT t, bts_allT ts]
    rfl
end
mutual
theorem tm_bt : ∀ t : Tm, t.bt.tm = t
  | .var x => rfl
  | .deed f ts => by rw [Tm.bt, Bt.tm, tms_bts ts]
theorem tms_bts : ∀ ts : List Tm, btms (bts ts) = ts
  | [] => rfl
  | t :: ts => by rw [bts, btms, tm_bt t, tms_bts ts]
end
theorem bts_map : ∀ ts : List Tm, bts ts = ts.map Tm.bt
  | [] => by rw [bts]; rfl
  | t :: ts => by rw [bts, bts_map ts]; rfl
/-- a good reading -/
structure GRd (K : PySem.W.Frag) (H : Hp) (sg sg2 : List (Str × Nat)) (ts : List Tm) (v : V) : Prop where
  tms : ∃ a us, v = .ref a ∧ SqT K H a us ∧ TmsV K H ts us
  len : ts.length = sg.length
  each : ∀ (i : Nat) (h : i < ts.length) (h2 : i < sg.length), (ts[i]).ok sg2 ∧ (ts[i]).sz ≤ 8 ∧ ∀ x ∈ (ts[i]).ls, x ∈ pls (sg[i]).2
theorem GRd.ex {K : PySem.W.Frag} {H H' : Hp} {sg sg2 : List (Str × Nat)} {ts : List Tm} {v : V} (e : Ex H H') (h : GRd K H sg sg2 ts v) : GRd K H' sg sg2 ts v := ⟨let ⟨a, us, q, s, r⟩ := h.tms; ⟨a, us, q, ex_t e s, r.et (Dw.Ex.et e)⟩, h.len, h.each⟩
theorem GRd.et {K : PySem.W.Frag} {H H' : Hp} {sg sg2 : List (Str × Nat)} {ts : List Tm} {v : V} (e : ET K H H') (h : GRd K H sg sg2 ts v) : GRd K H' sg sg2 ts v := ⟨let ⟨a, us, q, s, r⟩ := h.tms; ⟨a, us, q, e _ _ s, r.et e⟩, h.len, h.each⟩
/-- the term of a deed by its name -/
def fOf (sg : List (Str × Nat)) (ts : List Tm) (g : Str) : Tm := (ts[(sg.map (·.1)).idxOf g]?).getD (.var "u")
theorem idx_nd : ∀ {l : List Str} {i : Nat} {x : Str}, l.Nodup → l[i]? = some x → l.idxOf x = i
  | [], i, x, _, h => by
    rw [List.getElem?_nil] at h
    cases h
  | y :: l, 0, x, nd, h => by
    cases Option.some.inj (show some y = some x from h)
    exact List.idxOf_cons_self ..
  | y :: l, i + 1, x, nd, h => by
    have h' : l[i]? = some x := h
    have ne : y ≠ x := fun z => (List.nodup_cons.mp nd).1 (by rw [z]; exact List.mem_of_getElem? h')
    rw [List.idxOf_cons, show (y == x) = false from beq_false_of_ne ne, cond_false, idx_nd (List.nodup_cons.mp nd).2 h']
theorem fOf_at {sg : List (Str × Nat)} {ts : List Tm} {i : Nat} {p : Str × Nat} {t : Tm} (nd : (sg.map (·.1)).Nodup) (h : sg[i]? = some p) (h2 : ts[i]? = some t) : fOf sg ts p.1 = t := by
  unfold fOf
  rw [idx_nd nd (by rw [List.getElem?_map, h]; rfl), h2]
  rfl
theorem GRd.ro {K : PySem.W.Frag} {H : Hp} {sg sg2 : List (Str × Nat)} {ts : List Tm} {v : V} (so : SigOk sg) (h : GRd K H sg sg2 ts v) : RdOk sg (fOf sg ts) := fun p hp => by
  obtain ⟨i, hi, e⟩ := List.mem_iff_getElem.mp hp
  have l := h.len
  have ht : ts[i]? = some (ts[i]'(by omega)) := List.getElem?_eq_getElem (by omega)
  have eo := h.each i (by omega) hi
  rw [fOf_at so.nd (by rw [List.getElem?_eq_getElem hi, e]) ht, ← e]
  exact ⟨eo.2.1, eo.2.2⟩
theorem GRd.rg {K : PySem.W.Frag} {H : Hp} {sg sg2 : List (Str × Nat)} {ts : List Tm} {u o v : V} (so : SigOk sg) (so2 : SigOk sg2) (hF : FSig K H u sg) (hG : FSig K H o sg2) (h : GRd K H sg sg2 ts v) : RgPre K ((sg, sg2), .row (bts ts)) [u, o, v] H := by
  obtain ⟨a, us, rfl, s, r⟩ := h.tms
  have l := h.len
  have l4 := so.l4
  have ok1 : ∀ t ∈ ts, t.ok sg2 ∧ t.sz ≤ 8 := fun t ht => by
    obtain ⟨i, hi, e⟩ := List.mem_iff_getElem.mp ht
    have := h.each i hi (by omega)
    rw [← e]
    exact ⟨this.1, this.2.1⟩
  obtain ⟨b1, b2, _, _⟩ := bts_all ts r (oks_of fun t ht => (ok1 t ht).1)
  refine ⟨⟨⟨u, o, .ref a, rfl, hF, hG, a, us, rfl, s, b1⟩, so, so2, b2, fun b hb => ?_, by rw [bts_len]; show ts.length ≤ 8; omega⟩, ?_⟩
  · rw [bts_map] at hb
    obtain ⟨t, ht, e⟩ := List.mem_map.mp hb
    obtain ⟨i, hi, ei⟩ := List.mem_iff_getElem.mp ht
    obtain ⟨ux, hux, tv⟩ : ∃ ux, us[i]? = some ux ∧ TmV K H t ux := by
      have lu := r.len
      have hu : us[i]? = some (us[i]'(by omega)) := List.getElem?_eq_getElem (by omega)
      obtain ⟨t', ht', tv'⟩ := r.get hu
      rw [List.getElem?_eq_getElem hi, ei] at ht'
      cases Option.some.inj ht'
      exact ⟨_, hu, tv'⟩
    obtain ⟨_, _, _, q⟩ := bt_all t tv (ok1 t ht).1
    rw [← e, q]
    exact (ok1 t ht).2
  · show rdW sg (.row (bts ts)) = .none
    refine rd_good (by rw [bts_len]; exact l) fun j hj => ?_
    have hj2 : j < ts.length := by omega
    have eo := h.each j hj2 hj
    have g1 : (bts ts).getD j (.odd .none) = (ts[j]).bt := by rw [List.getD_eq_getElem?_getD, bts_map, List.getElem?_map, List.getElem?_eq_getElem hj2]; rfl
    have g2 : plOf sg j = (sg[j]).2 := by rw [plOf, List.getD_eq_getElem?_getD, List.getElem?_eq_getElem hj]; rfl
    rw [g1, g2, rdB, bt_allT, tm_bt, Bool.true_and, List.all_eq_true]
    intro x hx
    exact decide_eq_true (eo.2.2 x (by
      have := (List.mem_filter.mp hx).2
      exact of_decide_eq_true this))
theorem tm_pre {K : PySem.W.Frag} {H : Hp} {sg : List (Str × Nat)} {u v : V} {b : Bt} (so : SigOk sg) (hF : FSig K H u sg) (h : BtV K H sg b v) (ok : b.ok sg) (s : b.sz ≤ 4) (al : b.all = false) : TmPre K (sg, b) [u, v] H := ⟨⟨⟨u, v, rfl, hF, h⟩, so, ok, by show b.sz ≤ 100; omega⟩, wrong_some al⟩
section
variable {P : Program} {w : World} {K : PySem.W.Frag} {mg : Str → Option Value} {base : Heap} {σ : L2.St} {H : Hp} {B0 T0 N0 : Addr}
def sp_reading_by_names (K : PySem.W.Frag) : Sp := spX (fun (z : (List (Str × Nat) × List (Str × Nat)) × List Tm) vs H => (∃ u v, vs = [u, v] ∧ FSig K H u z.1.1 ∧ GRd K H z.1.1 z.1.2 z.2 v) ∧ SigOk z.1.1) (fun z v H => NmD K H v (fOf z.1.1 z.2) z.1.1)
theorem c_reading_by_names (T : Txt mg) (D : Df K mg "reading_by_names" s_reading_by_names ["signature", "reading"]) : Cl P w K mg base 1 "reading_by_names" (sp_reading_by_names K) := by
  refine cl_of (k := 0) D sc_reading_by_names (fun vs H Q E h => ?_) (fun fa cdv A outer s H vs Q E hr h => ?_)
  · obtain ⟨z, ⟨⟨u, v, rfl, _⟩, _⟩, _⟩ := h
    rfl
  · obtain ⟨⟨⟨sg, sg2⟩, ts⟩, ⟨⟨u, v, rfl, hF, hR⟩, so⟩, q⟩ := h
    refine ⟨_, (pss_one (ps_ret (pe_dc (own := [("deed", 2), ("term", 3)]) (g := (gTup _ 2 (gCons (gName 2) (gCons (gName 3) gNil)))) (by rfl) sc_reading_by_names.nd (pi_zipA (by rfl) T.z_zip (pa_cons (pv 0) (pa_cons (pv 1) pa_nil))) (blkOk_by (own := [("deed", 2), ("term", 3)]) (N := ["signature", "reading", "deed", "term"]) (sc := defScope s_reading_by_names) (by decide +kernel)) (fun _ _ _ _ _ => (pg_tup (by rfl) (pgs_cons (pg_name (i := 2) sc_reading_by_names.nd rfl (.inl rfl)) (pgs_cons (pg_name (i := 3) sc_reading_by_names.nd rfl (.inl rfl)) pgs_nil)))) (fun _ _ _ _ _ => pts_nil) (fun _ _ _ _ _ => (pe_ix (ix_tupK K) (pv 2) pe_int (fun _ _ => rfl))) (fun _ _ _ _ _ => (pv 3))))), ?_⟩
    replace hF : FSig K H u sg := hF
    replace hR : GRd K H sg sg2 ts v := hR
    replace so : SigOk sg := so
    replace q : ∀ r H', Ex H H' → NmD K H' r (fOf sg ts) sg → Q r H' := q
    obtain ⟨sa, o1, ps, rfl, hsa, sod, prs⟩ := id hF
    have sqS : SqT K H sa (ps.map V.ref) := .inl (.inr ⟨o1, hsa⟩)
    have lps := paired_len prs
    obtain ⟨ra, us, rfl, sqR, tms⟩ := hR.tms
    have lu := tms.len
    have lts := hR.len
    have l4 := so.l4
    refine do_ret (do_dcW (walk_zipT (K := K) (a := sa) (b := ra) (xs := ps.map V.ref) (ys := us) (by rw [List.length_map]; omega)) (fun R r => (ea_cons (ev_var rfl) (ea_cons (ev_var rfl) ea_nil)) H (Ex.refl _) _ fun H1 e1 => ⟨sa, ra, _, _, rfl, .inr ⟨ex_t e1 sqS, ex_t e1 sqR, r H1 e1⟩⟩)
      (fun D j H' => H D = none ∧ Ex H H' ∧ ∃ kv : List (Key × V), H' D = some (.dK kv) ∧ kv.length ≤ j ∧ ∀ i p t, i < j → sg[i]? = some p → ts[i]? = some t → ∃ u, valV kv (.inr p.1) = some u ∧ TmV K H' t u)
      (fun D H1 e1 nD => ⟨fresh_back e1 nD, e1.trans (Ex.new nD), [], upd_same, Nat.le_refl _, fun i p t h => absurd h (Nat.not_lt_zero _)⟩) (fun D j H1 _ h => ⟨ex_t h.2.1 sqS, ex_t h.2.1 sqR⟩) (fun D j x H1 H2 hj hP y => ?_) (fun D H1 hP => ?_))
    · obtain ⟨nD, e1, kv, hkv, lkv, vals⟩ := hP
      obtain ⟨Tp, x1, x2, rfl, nT, rfl, f1, f2⟩ := y
      rw [List.length_map] at hj
      replace f1 : (ps.map V.ref)[j]? = some x1 := f1
      replace f2 : us[j]? = some x2 := f2
      rw [List.getElem?_map, List.getElem?_eq_getElem hj] at f1
      cases Option.some.inj f1
      obtain ⟨dd, ed, hdd⟩ := paired_at prs (List.getElem?_eq_getElem hj)
      obtain ⟨t', ht', tv'⟩ := tms.get f2
      have e2 : Ex H1 (upd H1 Tp (.tup [.ref ps[j], x2])) := Ex.new nT
      have hT : (upd H1 Tp (.tup [.ref ps[j], x2])) Tp = some (.tup [.ref ps[j], x2]) := upd_same
      generalize upd H1 Tp (.tup [.ref ps[j], x2]) = H2 at *
      have e12 := e1.trans e2
      refine ⟨Tp, _, rfl, st_of hT, rfl, _, _, rfl, _, _, rfl, rfl, rfl, do_yes ?_⟩
      refine do_ev (ev_op (ev_var rfl) ev_c (rv_ixT (K := K) (ex_t e12 hdd) (atI_vi (k := 0) rfl))) fun H3 e3 => do_ev (ev_var rfl) fun H4 e4 => ?_
      have e14 := e2.trans (e3.trans e4)
      have hk4 := e14 _ _ hkv
      refine ⟨kv, .inr dd.1, rfl, hk4, sz_lt (by omega), nD, (e1.trans e14).mut nD, _, upd_same, Nat.le_trans (put_len _ _ _) (by omega), fun i p t hi hp ht => ?_⟩
      have et5 : ET K H4 (upd H4 D (.dK (putK kv (.inr dd.1) x2))) := ET.updD ET.refl hk4
      rw [val_put]
      by_cases e : i = j
      · rw [e, ed] at hp
        rw [e, ht'] at ht
        cases Option.some.inj hp
        cases Option.some.inj ht
        rw [if_pos rfl]
        exact ⟨x2, rfl, tv'.et (ET.trans (Dw.Ex.et (e1.trans e14)) et5)⟩
      · have ne : p.1 ≠ dd.1 := fun z => e (by
          have a1 := idx_nd so.nd (i := i) (x := p.1) (by rw [List.getElem?_map, hp]; rfl)
          have a2 := idx_nd so.nd (i := j) (x := dd.1) (by rw [List.getElem?_map, ed]; rfl)
          rw [← a1, ← a2, z])
        rw [if_neg (fun z => ne (Sum.inr.inj z))]
        obtain ⟨u, a1, b1⟩ := vals i p t (by omega) hp ht
        exact ⟨u, a1, b1.et (ET.trans (Dw.Ex.et e14) et5)⟩
    · obtain ⟨nD, e1, kv, hkv, lkv, vals⟩ := hP
      rw [List.length_map] at vals
      refine q _ H1 e1 ⟨D, kv, rfl, hkv, fun p hp => ?_⟩
      obtain ⟨i, hi, e⟩ := List.mem_iff_getElem.mp hp
      have ht : ts[i]? = some (ts[i]'(by omega)) := List.getElem?_eq_getElem (by omega)
      have hp' : sg[i]? = some p := by rw [List.getElem?_eq_getElem hi, e]
      rw [fOf_at so.nd hp' ht]
      exact vals i p _ (by omega) hp' ht
end
end K80
end
section
namespace K80
open PySem PySem.Spec PyProof.Rows L2 Evl RZ Dw M20
theorem pe_clP {X : Cx} {k j : Nat} {x : Str} {sp : Sp} {p pos : Pos} {e : Expr} {es : List Expr} {t : TA} {W : WX} {σ0 : L2.St} (c : ClX X.prog X.w X.K X.mg X.base k x sp) (ps : ∀ σ', PassesAt (CX X.prog X.w) X σ' (WE W σ0)) (hr : Room j X.A) (hk : k ≤ j) (hg : Gl X x) (ha : PA X (e :: es) t)
    (dbg : (x == ("__debug__" : Str)) = false := by decide) (str : starEach (e :: es) X.env = (false, eval e X.env) :: starEach es X.env := by rfl) (bck : (backTo pos (starEach es X.env)).any (·.1) = false := by rfl) :
    PE X (.Call (.Name x p) (e :: es) [] pos) (tCallS sp (fun _ => WE W σ0) t) := by
  obtain ⟨f, fd, ps2, F, m, kp, b⟩ := c.ex
  exact pe_callS F (hr.mono hk) hg m kp b ps ha dbg str bck
/-- a table as read -/
def rowOf (n : Nat) (sg : List (Str × Nat)) (tbs : List (List Nat)) (k : Nat) (t : Tm) : List Nat := (List.range (n ^ k)).map fun r => t.wt n sg tbs (envR n (pls k) r)
def rdTb (n : Nat) (sg2 : List (Str × Nat)) (tbs : List (List Nat)) (sg : List (Str × Nat)) (ts : List Tm) : List (List Nat) := (sg.zip ts).map fun e => rowOf n sg2 tbs e.1.2 e.2
theorem pls_len : ∀ k, k ≤ 2 → (pls k).length = k := by decide +kernel
theorem pls_cut : ∀ k, k ≤ 2 → cutV (vars.map V.str) none (some ((k : Nat) : Int)) = (pls k).map V.str ∧ ¬ (HT.sIx (vars.map V.str).length 0 none = 0 ∧ HT.sIx (vars.map V.str).length (vars.map V.str).length (some ((k : Nat) : Int)) = (vars.map V.str).length) := by
  intro k hk
  have : k = 0 ∨ k = 1 ∨ k = 2 := by omega
  rcases this with rfl | rfl | rfl <;> exact ⟨rfl, by decide +kernel⟩
section
variable {P : Program} {w : World} {K : PySem.W.Frag} {mg : Str → Option Value} {base : Heap} {σ : L2.St} {H : Hp} {B0 T0 N0 : Addr} {va : Addr}
theorem ep_slV {te : TE} {k : Nat} (V0 : Vars K mg va) (hk : Ev te σ H (vi k)) (k2 : k ≤ 2) : EvP (tSl (rSlF K) (tC (.ref va)) tNoPart (tPart te)) σ H (fun v H' => FStrs H' v (pls k)) := fun H1 e Q q => ev_c (σ := σ) (H := H) H1 e _ fun H2 e2 =>
  eo_none (σ := σ) (H := H) H2 (e.trans e2) _ fun H3 e3 => eo_some hk H3 ((e.trans e2).trans e3) _ fun H4 e4 => by
    obtain ⟨a, b⟩ := pls_cut k k2
    refine ⟨va, _, rfl, V0.sq _, b, fun p o np od => q (.ref p) _ (((e2.trans e3).trans e4).trans (Ex.new np)) ⟨p, o, rfl, ?_, od⟩⟩
    rw [upd_same, a]
/-- how a term is read: each way it may end -/
def TrE (K : PySem.W.Frag) (B0 T0 : Addr) : Sp := fun vs H Q E => ∃ (u o r v : V) (sg sg2 : List (Str × Nat)) (ts : List Tm), vs = [u, o, r, v] ∧ FSig K H u sg ∧ FSig K H o sg2 ∧ SigOk sg ∧ SigOk sg2 ∧ GRd K H sg sg2 ts r ∧
  ((∃ b, TmPre K (sg, b) [u, v] H ∧ ∀ H', Ex H H' → E (.ref T0) none H') ∨
    ∃ t, TmV K H t v ∧ t.ok sg ∧ t.sz ≤ 60 ∧ ((60 < (t.rd (fOf sg ts)).sz ∧ ∀ H', Ex H H' → E (.ref B0) none H') ∨ ((t.rd (fOf sg ts)).sz ≤ 60 ∧ ∀ x H', Ex H H' → TmV K H' (t.rd (fOf sg ts)) x → Q x H')))
theorem ev_needR {u o r : V} {sg sg2 : List (Str × Nat)} {ts : List Tm} {i j k : Nat} {E : XK} (so : SigOk sg) (so2 : SigOk sg2) (hF : FSig K H u sg) (hG : FSig K H o sg2) (hR : GRd K H sg sg2 ts r) (h1 : σ[i]? = some (some u)) (h2 : σ[j]? = some (some o)) (h3 : σ[k]? = some (some r)) : Ev (tCall (sp_need_readingG K) [] E (tCons (tVar i) (tCons (tVar j) (tCons (tVar k) tNil)))) σ H .non :=
  ev_callV (v := .non) ((sg, sg2), .row (bts ts)) (ea_cons (ev_var h1) (ea_cons (ev_var h2) (ea_cons (ev_var h3) ea_nil))) (fun H1 e1 => (hR.ex e1).rg so so2 (hF.ex e1) (hG.ex e1)) (fun _ _ p => p)
theorem c_term_readX (T : Txt mg) (D : Df K mg "term_read" s_term_read ["signature", "other", "reading", "term"]) (c_need_readingG : Cl P w K mg base 7 "need_reading" (sp_need_readingG K)) (c_need_termB : ClX P w K mg base 7 "need_term" (spE T0 (TmPre K))) (c_need_term : Cl P w K mg base 7 "need_term" (sp_need_term K))
    (c_reading_by_names : Cl P w K mg base 1 "reading_by_names" (sp_reading_by_names K)) (c_small_read_by : ClX P w K mg base 73 "small_read_by" (SrE K 62 B0)) : ClX P w K mg base 74 "term_read" (TrE K B0 T0) := by
  refine clx_of (k := 73) D sc_term_read (fun vs H Q E h => ?_) (fun f cdv AA outer s H vs Q E hr h => ?_)
  · obtain ⟨u, o, r, v, sg, sg2, ts, rfl, _⟩ := h
    rfl
  · obtain ⟨u, o, r, v, sg, sg2, ts, rfl, hF, hG, so, so2, hR, h⟩ := h
    have c_need_reading := c_need_readingG
    rcases h with ⟨b, bad, q⟩ | ⟨t, tv, ok, s60, h⟩
    · refine ⟨_, (pss_cons (ps_expr (pe_cl c_need_reading hr (by first | decide | omega) (by rfl) (pa_cons (pv 0) (pa_cons (pv 1) (pa_cons (pv 2) pa_nil)))))
      (pss_cons (ps_expr (pe_clX c_need_termB (takes_of rfl rfl rfl rfl) hr (by first | decide | omega) (by rfl) (pa_cons (pv 0) (pa_cons (pv 3) pa_nil))))
      (pss_one (ps_never)))), ?_⟩
      refine q_drop (ev_needR so so2 hF hG hR rfl rfl rfl) fun H1 e1 => ?_
      exact do_try (W0 := fun _ => fun cls d _ H => E cls d H) ((ea_cons (ev_var rfl) (ea_cons (ev_var rfl) ea_nil)) H1 (Ex.refl _) _ fun H2 e2 => ⟨(sg, b), bad.ex (e1.trans e2), fun H3 e3 => q H3 ((e1.trans e2).trans e3)⟩)
    · refine ⟨_, (pss_cons (ps_expr (pe_cl c_need_reading hr (by first | decide | omega) (by rfl) (pa_cons (pv 0) (pa_cons (pv 1) (pa_cons (pv 2) pa_nil)))))
      (pss_cons (ps_expr (pe_cl c_need_term hr (by first | decide | omega) (by rfl) (pa_cons (pv 0) (pa_cons (pv 3) pa_nil))))
      (pss_one (ps_ret (pe_clX c_small_read_by (takes_of rfl rfl rfl rfl) hr (by first | decide | omega) (by rfl) (pa_cons (pe_cl c_reading_by_names hr (by first | decide | omega) (by rfl) (pa_cons (pv 0) (pa_cons (pv 2) pa_nil))) (pa_cons (pv 3) pa_nil))))))), ?_⟩
      refine q_drop (ev_needR so so2 hF hG hR rfl rfl rfl) fun H1 e1 => ?_
      refine q_drop (ev_need (K := K) (p := (sg, t)) (ev_var rfl) (ev_var rfl) (hF.ex e1) (tv.et (Dw.Ex.et e1)) ⟨so, ok, s60⟩) fun H2 e2 => ?_
      have e02 := e1.trans e2
      refine do_ret (do_cons (ep_call ((sg, sg2), ts) (ea_cons (ev_var rfl) (ea_cons (ev_var rfl) ea_nil)) (fun H3 e3 => ⟨⟨_, _, rfl, hF.ex (e02.trans e3), hR.ex (e02.trans e3)⟩, so⟩) H2 (Ex.refl _) _ fun d H3 e3 hd => do_cons (do_ev (ev_var rfl) fun H4 e4 => do_nil ?_)))
      replace hd : NmD K H3 d (fOf sg ts) sg := hd
      have e04 := e02.trans (e3.trans e4)
      refine ⟨⟨sg, fOf sg ts, t⟩, ⟨⟨d, v, rfl, hd.ex e4, tv.et (Dw.Ex.et e04)⟩, so, hR.ro so, ok, by show t.hgt < 62; have := hgt_sz t; omega⟩, ?_⟩
      rcases h with ⟨big, q⟩ | ⟨small, q⟩
      · exact .inl ⟨big, fun H5 e5 => q H5 (e04.trans e5)⟩
      · exact .inr ⟨small, fun x H5 e5 hx => q x H5 (e04.trans e5) hx⟩
/-- two readings, one behind the other -/
def TwE (K : PySem.W.Frag) (B0 : Addr) : Sp := fun vs H Q E => ∃ (u1 u2 u3 r1 r2 : V) (sg1 sg2 sg3 : List (Str × Nat)) (ts1 ts2 : List Tm), vs = [u1, u2, u3, r1, r2] ∧ FSig K H u1 sg1 ∧ FSig K H u2 sg2 ∧ FSig K H u3 sg3 ∧ SigOk sg1 ∧ SigOk sg2 ∧ SigOk sg3 ∧ GRd K H sg1 sg2 ts1 r1 ∧ GRd K H sg2 sg3 ts2 r2 ∧
  (((∃ t ∈ ts1, 60 < (t.rd (fOf sg2 ts2)).sz) ∧ ∀ H', Ex H H' → E (.ref B0) none H') ∨ ((∀ t ∈ ts1, (t.rd (fOf sg2 ts2)).sz ≤ 60) ∧ ∀ a us H', Ex H H' → SqT K H' a us → TmsV K H' (rds (fOf sg2 ts2) ts1) us → Q (.ref a) H'))
theorem c_two_readX (T : Txt mg) (D : Df K mg "two_read" s_two_read ["first", "second", "third", "one", "two"]) (c_need_signature : Cl P w K mg base 5 "need_signature" (sp_need_signature K)) (c_need_readingG : Cl P w K mg base 7 "need_reading" (sp_need_readingG K))
    (c_reading_by_names : Cl P w K mg base 1 "reading_by_names" (sp_reading_by_names K)) (c_small_read_by : ClX P w K mg base 73 "small_read_by" (SrE K 62 B0)) : ClX P w K mg base 74 "two_read" (TwE K B0) := by
  refine clx_of (k := 73) D sc_two_read (fun vs H Q E h => ?_) (fun f cdv AA outer s H vs Q E hr h => ?_)
  · obtain ⟨u1, u2, u3, r1, r2, sg1, sg2, sg3, ts1, ts2, rfl, _⟩ := h
    rfl
  · obtain ⟨u1, u2, u3, r1, r2, sg1, sg2, sg3, ts1, ts2, rfl, h1, h2, h3, so1, so2, so3, g1, g2, h⟩ := h
    have c_need_reading := c_need_readingG
    refine ⟨_, (pss_cons (ps_expr (pe_cl c_need_signature hr (by first | decide | omega) (by rfl) (pa_cons (pv 0) pa_nil)))
      (pss_cons (ps_expr (pe_cl c_need_signature hr (by first | decide | omega) (by rfl) (pa_cons (pv 1) pa_nil)))
      (pss_cons (ps_expr (pe_cl c_need_signature hr (by first | decide | omega) (by rfl) (pa_cons (pv 2) pa_nil)))
      (pss_cons (ps_expr (pe_cl c_need_reading hr (by first | decide | omega) (by rfl) (pa_cons (pv 0) (pa_cons (pv 1) (pa_cons (pv 3) pa_nil)))))
      (pss_cons (ps_expr (pe_cl c_need_reading hr (by first | decide | omega) (by rfl) (pa_cons (pv 1) (pa_cons (pv 2) (pa_cons (pv 4) pa_nil)))))
      (pss_cons (ps_set (i := 5) sc_two_read.nd rfl (.inr rfl) (pe_cl c_reading_by_names hr (by first | decide | omega) (by rfl) (pa_cons (pv 1) (pa_cons (pv 4) pa_nil))))
      (pss_one (ps_ret (pe_callTy call_tuple_of (by rfl) T.z_tuple (by decide +kernel) (pa_cons (pe_lcX (own := [("term", 6)]) (g := (gName 6)) (tt := tYes) rfl rfl (takes_of rfl rfl rfl rfl) (by rfl) sc_two_read.nd (pi_tup (pv 3)) (blkOk_by (own := [("term", 6)]) (N := ["first", "second", "third", "one", "two", "by_names", "term"]) (sc := defScope s_two_read) (by decide +kernel)) (fun _ _ _ _ _ _ => (pg_name (i := 6) sc_two_read.nd rfl (.inl rfl))) (fun _ _ _ _ _ _ => pts_nil) (fun _ _ _ _ _ _ _ pass => pe_clP c_small_read_by pass hr (by first | decide | omega) (by rfl) (pa_cons (pv 5) (pa_cons (pv 6) pa_nil)))) pa_nil)))))))))), ?_⟩
    refine q_drop (ev_callV (v := .non) sg1 (ea_cons (ev_var rfl) ea_nil) (fun H1 e1 => ⟨⟨_, rfl, (h1.ex e1).sig⟩, so1⟩) (fun _ _ p => p)) fun H1 e1 => ?_
    refine q_drop (ev_callV (v := .non) sg2 (ea_cons (ev_var rfl) ea_nil) (fun H2 e2 => ⟨⟨_, rfl, (h2.ex (e1.trans e2)).sig⟩, so2⟩) (fun _ _ p => p)) fun H2 e2 => ?_
    have e02 := e1.trans e2
    refine q_drop (ev_callV (v := .non) sg3 (ea_cons (ev_var rfl) ea_nil) (fun H3 e3 => ⟨⟨_, rfl, (h3.ex (e02.trans e3)).sig⟩, so3⟩) (fun _ _ p => p)) fun H3 e3 => ?_
    have e03 := e02.trans e3
    refine q_drop (ev_needR so1 so2 (h1.ex e03) (h2.ex e03) (g1.ex e03) rfl rfl rfl) fun H4 e4 => ?_
    have e04 := e03.trans e4
    refine q_drop (ev_needR so2 so3 (h2.ex e04) (h3.ex e04) (g2.ex e04) rfl rfl rfl) fun H5 e5 => ?_
    have e05 := e04.trans e5
    refine q_asgP (ep_call ((sg2, sg3), ts2) (ea_cons (ev_var rfl) (ea_cons (ev_var rfl) ea_nil)) (fun H6 e6 => ⟨⟨_, _, rfl, h2.ex (e05.trans e6), g2.ex (e05.trans e6)⟩, so2⟩)) fun d H6 e6 hd => ?_
    replace hd : NmD K H6 d (fOf sg2 ts2) sg2 := hd
    have e06 := e05.trans e6
    obtain ⟨ra, us, rfl, sqR, tms⟩ := g1.tms
    have lu := tms.len
    have l4 := so1.l4
    have len1 := g1.len
    have ok1 : ∀ t ∈ ts1, t.ok sg2 ∧ t.sz ≤ 8 := fun t ht => by
      obtain ⟨i, hi, e⟩ := List.mem_iff_getElem.mp ht
      have := g1.each i hi (by omega)
      rw [← e]
      exact ⟨this.1, this.2.1⟩
    refine do_ret (do_cb (do_cons ?_))
    refine do_lcIt (walk_tup (K := K) (a := ra) (xs := us)) (fun R r => w_tup (K := K) (xs := us) (ev_var rfl) (ex_t e06 sqR) H6 (Ex.refl _) R r) (fun D j H' => H6 D = none ∧ Ex H6 H' ∧ ∃ ws : List V, H' D = some (.lst ws) ∧ TmsV K H' (rds (fOf sg2 ts2) (ts1.take j)) ws ∧ ∀ i (hi : i < ts1.length), i < j → ((ts1[i]).rd (fOf sg2 ts2)).sz ≤ 60)
      (fun D H7 e7 nD => ⟨fresh_back e7 nD, e7.trans (Ex.new nD), [], upd_same, by rw [List.take_zero, rds, TmsV], fun i _ h => absurd h (Nat.not_lt_zero _)⟩) (fun D j H7 _ h => ex_t (e06.trans h.2.1) sqR) (fun D j x H7 H8 hj hP y => ?_) (fun D H7 hP => ?_)
    · obtain ⟨nD, e7, ws, hws, tws, sm⟩ := hP
      obtain ⟨rfl, hx⟩ := y
      obtain ⟨t', ht', tv'⟩ := tms.get hx
      have hj2 : j < ts1.length := by omega
      have et' : ts1[j] = t' := (List.getElem?_eq_some_iff.mp ht').2
      have lw := tws.len
      have lr : (rds (fOf sg2 ts2) (ts1.take j)).length ≤ 4 := by
        rw [rds_map, List.length_map, List.length_take]
        omega
      refine ⟨rfl, iteT (do_cons (do_ev (ev_var rfl) fun H9 e9 => do_cons (do_ev (ev_var rfl) fun H10 e10 => do_nil ?_)))⟩
      have e710 := e9.trans e10
      have e0 := e06.trans (e7.trans e710)
      have okt := ok1 t' (List.mem_of_getElem? ht')
      refine ⟨⟨sg2, fOf sg2 ts2, t'⟩, ⟨⟨d, x, rfl, hd.ex (e7.trans e710), tv'.et (Dw.Ex.et e0)⟩, so2, g2.ro so2, okt.1, by show t'.hgt < 62; have := hgt_sz t'; omega⟩, ?_⟩
      by_cases big : 60 < (t'.rd (fOf sg2 ts2)).sz
      · refine .inl ⟨big, fun H11 e11 => ?_⟩
        rcases h with ⟨_, q⟩ | ⟨small, _⟩
        · exact q H11 (e0.trans e11)
        · have := small t' (List.mem_of_getElem? ht')
          omega
      · refine .inr ⟨by show (t'.rd (fOf sg2 ts2)).sz ≤ 60; omega, fun r H11 e11 hr11 => ?_⟩
        replace hr11 : TmV K H11 (t'.rd (fOf sg2 ts2)) r := hr11
        have e711 := e710.trans e11
        have hws11 := e711 _ _ hws
        have et12 : ET K H11 (upd H11 D (.lst (ws ++ [r]))) := ET.refl.upd hws11
        refine ⟨ws, hws11, sz_lt (by omega), nD, (e7.trans e711).mut nD, _, upd_same, ?_, fun i hi hij => ?_⟩
        · rw [List.take_add_one, ht', rds_map, List.map_append, ← rds_map]
          exact (tws.et (ET.trans (Dw.Ex.et e711) et12)).snoc (hr11.et et12)
        · by_cases z : i = j
          · subst z
            rw [et']
            omega
          · exact sm i hi (by omega)
    · obtain ⟨nD, e7, ws, hws, tws, sm⟩ := hP
      rw [lu, List.take_length] at tws
      rw [lu] at sm
      refine do_nil ⟨D, ws, rfl, .inl ⟨sq_of hws, fun l nl => ?_⟩⟩
      rcases h with ⟨⟨t, ht, big⟩, _⟩ | ⟨_, q⟩
      · obtain ⟨i, hi, e⟩ := List.mem_iff_getElem.mp ht
        have := sm i hi hi
        rw [e] at this
        omega
      · exact q l ws _ (e06.trans (e7.trans (Ex.new nl))) (st_of upd_same) (tws.et (Dw.Ex.et (Ex.new nl)))
end
end K80
end
section
namespace K80
open PySem PySem.Spec PyProof.Rows L2 Evl RZ Dw M20
section
variable {P : Program} {w : World} {K : PySem.W.Frag} {mg : Str → Option Value} {base : Heap} {σ : L2.St} {H : Hp} {B0 T0 N0 : Addr} {va : Addr}
/-- what is no model -/
def MnPre (K : PySem.W.Frag) (z : (Addr × Addr) × PyData) (vs : List V) (H : Hp) : Prop := ∃ (u o r m : V) (sg sg2 : List (Str × Nat)) (ts : List Tm), vs = [u, o, r, m] ∧ FSig K H u sg ∧ FSig K H o sg2 ∧ SigOk sg ∧ SigOk sg2 ∧ GRd K H sg sg2 ts r ∧ Dz K z.1.1 z.1.2 H m z.2 ∧ modW sg2 z.2 ≠ .none
theorem c_model_readN (T : Txt mg) (D : Df K mg "model_read" s_model_read ["signature", "other", "reading", "model"]) (c_need_readingG : Cl P w K mg base 7 "need_reading" (sp_need_readingG K)) (c_need_modelM : ClX P w K mg base 7 "need_model" (spE N0 (MBad K 0))) : ClX P w K mg base 12 "model_read" (spE N0 (MnPre K)) := by
  refine clx_of (k := 11) D sc_model_read (fun vs H Q E h => ?_) (fun f cdv AA outer s H vs Q E hr h => ?_)
  · obtain ⟨z, ⟨u, o, r, m, sg, sg2, ts, rfl, _⟩, _⟩ := h
    rfl
  · obtain ⟨⟨⟨p, c⟩, d⟩, ⟨u, o, r, m, sg, sg2, ts, rfl, hF, hG, so, so2, hR, hd, bad⟩, q⟩ := h
    have c_need_reading := c_need_readingG
    refine ⟨_, (pss_cons (ps_expr (pe_cl c_need_reading hr (by first | decide | omega) (by rfl) (pa_cons (pv 0) (pa_cons (pv 1) (pa_cons (pv 2) pa_nil)))))
      (pss_cons (ps_expr (pe_clX c_need_modelM (takes_of rfl rfl rfl rfl) hr (by first | decide | omega) (by rfl) (pa_cons (pv 1) (pa_cons (pv 3) pa_nil))))
      (pss_cons (ps_never)
      (pss_cons (ps_never)
      (pss_one (ps_never)))))), ?_⟩
    refine q_drop (ev_needR so so2 hF hG hR rfl rfl rfl) fun H1 e1 => ?_
    exact do_try (W0 := fun _ => fun cls d _ H => E cls d H) ((ea_cons (ev_var rfl) (ea_cons (ev_var rfl) ea_nil)) H1 (Ex.refl _) _ fun H2 e2 => ⟨((p, c), sg2, d), ⟨⟨_, _, _, rfl, rfl, hG.ex (e1.trans e2), hd.ex (e1.trans e2)⟩, so2, bad⟩, fun H3 e3 => q H3 ((e1.trans e2).trans e3)⟩)
structure MrA where
  sg : List (Str × Nat)
  sg2 : List (Str × Nat)
  ts : List Tm
  n : Nat
  tbs : List (List Nat)
def MrPre (K : PySem.W.Frag) (z : MrA) (vs : List V) (H : Hp) : Prop := (∃ u o r m, vs = [u, o, r, m] ∧ FSig K H u z.sg ∧ FSig K H o z.sg2 ∧ GRd K H z.sg z.sg2 z.ts r ∧ Mdl K H m z.n z.tbs) ∧ SigOk z.sg ∧ SigOk z.sg2 ∧ MdlOk z.sg2 z.n z.tbs
def sp_model_readG (K : PySem.W.Frag) : Sp := spX (MrPre K) (fun z v H => Mdl K H v z.n (rdTb z.n z.sg2 z.tbs z.sg z.ts))
theorem c_model_readG (T : Txt mg) (V0 : Vars K mg va) (D : Df K mg "model_read" s_model_read ["signature", "other", "reading", "model"]) (c_need_readingG : Cl P w K mg base 7 "need_reading" (sp_need_readingG K)) (c_need_model : Cl P w K mg base 7 "need_model" (sp_need_model K))
    (c_term_column : Cl P w K mg base 11 "term_column" (sp_term_column K 8)) : Cl P w K mg base 12 "model_read" (sp_model_readG K) := by
  refine cl_of (k := 11) D sc_model_read (fun vs H Q E h => ?_) (fun f cdv AA outer s H vs Q E hr h => ?_)
  · obtain ⟨z, ⟨⟨u, o, r, m, rfl, _⟩, _⟩, _⟩ := h
    rfl
  · obtain ⟨⟨sg, sg2, ts, n, tbs⟩, ⟨⟨u, o, r, m, rfl, hF, hG, hR, hM⟩, so, so2, mo⟩, q⟩ := h
    have c_need_reading := c_need_readingG
    refine ⟨_, (pss_cons (ps_expr (pe_cl c_need_reading hr (by first | decide | omega) (by rfl) (pa_cons (pv 0) (pa_cons (pv 1) (pa_cons (pv 2) pa_nil)))))
      (pss_cons (ps_expr (pe_cl c_need_model hr (by first | decide | omega) (by rfl) (pa_cons (pv 1) (pa_cons (pv 3) pa_nil))))
      (pss_cons (ps_set (i := 4) sc_model_read.nd rfl (.inl rfl) (pe_lst pa_nil))
      (pss_cons (ps_for PassesOwn.never (by rfl) (pi_zipA (by rfl) T.z_zip (pa_cons (pv 0) (pa_cons (pv 2) pa_nil))) (pg_tup (by rfl) (pgs_cons (pg_name (i := 5) sc_model_read.nd rfl (.inl rfl)) (pgs_cons (pg_name (i := 6) sc_model_read.nd rfl (.inl rfl)) pgs_nil)))
        (pss_one (ps_expr (pe_bm PySem.F.plainAttrs_list PySem.F.slot_list_append PySem.F.type_list_append mt_append (pv 4) (pa_cons (pe_callTy call_tuple_of (by rfl) T.z_tuple (by decide +kernel) (pa_cons (pe_cl c_term_column hr (by first | decide | omega) (by rfl) (pa_cons (pv 1) (pa_cons (pv 3) (pa_cons (pv 6) (pa_cons (pe_slice sl_tupF (pe_gv (by rfl) V0.at_) po_none (po_some (pe_ix ix_tup (pv 5) pe_int (fun _ _ => rfl)))) pa_nil))))) pa_nil)) pa_nil)))))
      (pss_one (ps_ret (pe_tup (pa_cons (pe_ix ix_tup (pv 3) pe_int (fun _ _ => rfl)) (pa_cons (pe_callTy call_tuple_of (by rfl) T.z_tuple (by decide +kernel) (pa_cons (pv 4) pa_nil)) pa_nil))))))))), ?_⟩
    replace hF : FSig K H u sg := hF
    replace hG : FSig K H o sg2 := hG
    replace hR : GRd K H sg sg2 ts r := hR
    replace hM : Mdl K H m n tbs := hM
    replace so : SigOk sg := so
    replace so2 : SigOk sg2 := so2
    replace mo : MdlOk sg2 n tbs := mo
    replace q : ∀ x H', Ex H H' → Mdl K H' x n (rdTb n sg2 tbs sg ts) → Q x H' := q
    refine q_drop (ev_needR so so2 hF hG hR rfl rfl rfl) fun H1 e1 => ?_
    refine q_drop (ev_callV (v := .non) (sg2, n, tbs) (ea_cons (ev_var rfl) (ea_cons (ev_var rfl) ea_nil)) (fun H2 e2 => ⟨⟨_, _, rfl, (hG.ex (e1.trans e2)).sig, hM.ex (e1.trans e2)⟩, so2, mo⟩) (fun _ _ p => p)) fun H2 e2 => ?_
    have e02 := e1.trans e2
    refine q_asgL (el_lst ea_nil (Nat.zero_le _)) fun l H3 nl e3 hl => ?_
    have e03 := e02.trans e3
    have nlH : H l = none := fresh_back e02 nl
    obtain ⟨sa, o1, ps, rfl, hsa, sod, prs⟩ := id hF
    have sqS : SqT K H sa (ps.map V.ref) := .inl (.inr ⟨o1, hsa⟩)
    have lps := paired_len prs
    obtain ⟨ra, us, rfl, sqR, tms⟩ := hR.tms
    have lu := tms.len
    have lts := hR.len
    have l4 := so.l4
    obtain ⟨ma, mu, rfl, sqM, tab⟩ := id hM
    show tSeq _ _ _ [some (.ref sa), some o, some (.ref ra), some (.ref ma), some (.ref l), none, none] H3
    refine q_zipT (K := K) (a := sa) (b := ra) (xs := ps.map V.ref) (ys := us) (ea_cons (ev_var rfl) (ea_cons (ev_var rfl) ea_nil)) (ex_t e03 sqS) (ex_t e03 sqR) (by rw [List.length_map]; omega)
      (fun i σ' H' => Ex H H' ∧ ∃ (ws : List V) (y4 y5 : Option V), H' l = some (.lst ws) ∧ Paired (Nats K H') ws (((sg.zip ts).take i).map fun e => rowOf n sg2 tbs e.1.2 e.2) ∧ σ' = [some (.ref sa), some o, some (.ref ra), some (.ref ma), some (.ref l), y4, y5])
      (fun H4 e4 => ⟨e03.trans e4, [], none, none, e4 _ _ hl, .nil, rfl⟩) (fun i σ' H' _ h => ⟨ex_t h.1 sqS, ex_t h.1 sqR⟩) (fun i x y Tp σ' H4 hx hy hP nT => ?_) (fun σ' H4 hP => ?_)
    · obtain ⟨e4, ws, y4, y5, hws, pws, hσ⟩ := hP
      subst hσ
      have hi : i < ps.length := by
        have := (List.getElem?_eq_some_iff.mp hx).1
        rw [List.length_map] at this
        exact this
      rw [List.getElem?_map, List.getElem?_eq_getElem hi] at hx
      cases Option.some.inj hx
      obtain ⟨dd, ed, hdd⟩ := paired_at prs (List.getElem?_eq_getElem hi)
      obtain ⟨t', ht', tv'⟩ := tms.get hy
      have hi2 : i < ts.length := by omega
      have eo := hR.each i hi2 (by omega)
      have et' : ts[i] = t' := (List.getElem?_eq_some_iff.mp ht').2
      have ed' : sg[i]'(by omega) = dd := (List.getElem?_eq_some_iff.mp ed).2
      rw [et', ed'] at eo
      have pl2 : dd.2 ≤ 2 := so.pl _ (List.mem_of_getElem? ed)
      have e5 : Ex H4 (upd H4 Tp (.tup [.ref ps[i], y])) := Ex.new nT
      have hT : (upd H4 Tp (.tup [.ref ps[i], y])) Tp = some (.tup [.ref ps[i], y]) := upd_same
      generalize upd H4 Tp (.tup [.ref ps[i], y]) = H5 at *
      refine ⟨Tp, _, rfl, st_of hT, rfl, _, _, rfl, _, _, rfl, rfl, ?_⟩
      show tDrop _ _ [some (.ref sa), some o, some (.ref ra), some (.ref ma), some (.ref l), some (.ref ps[i]), some y] H5
      have e05 := e4.trans e5
      have lw := paired_len pws
      rw [List.length_map, List.length_take, List.length_zip] at lw
      refine s_appP (e5 _ _ hws) (ev_var rfl) (P := fun v H' => Nats K H' v (rowOf n sg2 tbs dd.2 t')) (fun H6 e6 Q6 q6 => do_cb (do_cons (do_cons (do_ev (ev_var rfl) fun H7 e7 => do_cons (do_ev (ev_var rfl) fun H8 e8 => do_cons (do_ev (ev_var rfl) fun H9 e9 => do_cons (ep_slV V0 (ev_op (ev_var rfl) ev_c (rv_ixT (K := K) (ex_t (e05.trans (((e6.trans e7).trans e8).trans e9)) hdd) (atI_vi (k := 1) rfl))) pl2 H9 (Ex.refl _) _ fun lv H10 e10 hlv => do_nil ?_))))))) (by omega) fun v H7 e7 hv => ?_
      · have e610 := ((e7.trans e8).trans e9).trans e10
        have e010 := e05.trans (e6.trans e610)
        have lp := pls_len dd.2 pl2
        refine ⟨CArg.mk sg2 n tbs t' (pls dd.2), ⟨⟨_, _, _, _, rfl, (hG.ex e010).sig, hM.ex e010, tv'.et (Dw.Ex.et e010), hlv⟩, so2, mo, eo.1, eo.2.2, by show (pls dd.2).length ≤ 4; omega, eo.2.1⟩, fun p H11 np e11 hp => do_nil ⟨p, _, rfl, .inl ⟨sq_of hp, fun l2 nl2 => q6 (.ref l2) _ ((e610.trans e11).trans (Ex.new nl2)) ⟨l2, rfl, st_of (by rw [upd_same]; congr 2; show (List.range (n ^ (pls dd.2).length)).map (fun r => vi (t'.wt n sg2 tbs (envR n (pls dd.2) r))) = (rowOf n sg2 tbs dd.2 t').map vi; rw [rowOf, List.map_map, lp]; rfl)⟩⟩⟩⟩
      · have hws7 := (e5.trans e7) _ _ hws
        have et8 : ET K H7 (upd H7 l (.lst (ws ++ [v]))) := ET.refl.upd hws7
        refine ⟨(e05.trans e7).mut nlH, _, _, _, upd_same, ?_, rfl⟩
        have hz : (sg.zip ts)[i]? = some (dd, t') := by
          rw [List.getElem?_zip_eq_some]
          exact ⟨ed, ht'⟩
        rw [List.take_add_one, hz, List.map_append]
        exact paired_snoc (paired_imp (fun _ _ z => z.et (ET.trans (Dw.Ex.et (e5.trans e7)) et8)) pws) (hv.et et8)
    · obtain ⟨e4, ws, y4, y5, hws, pws, hσ⟩ := hP
      subst hσ
      rw [List.length_map] at pws
      have zl : (sg.zip ts).take ps.length = sg.zip ts := by
        apply List.take_of_length_le
        rw [List.length_zip]
        omega
      rw [zl] at pws
      have e34 := e4
      refine do_ret (do_tup (do_cons (do_ev (v := vi n) (ev_op (ev_var rfl) ev_c (rv_ixT (K := K) (ex_t e4 sqM) (atI_vi (k := 0) rfl))) fun H5 e5 => do_cons (do_cb (do_cons (do_ev (ev_var rfl) fun H6 e6 => do_nil ⟨l, ws, rfl, .inl ⟨sq_of ((e5.trans e6) _ _ hws), fun a na => do_nil ⟨by show 2 ≤ sizeLine; decide, fun b nb => ?_⟩⟩⟩))))))
      have x7 : Ex H6 (upd (upd H6 a (.tup ws)) b (.tup [vi n, .ref a])) := (Ex.new na).trans (Ex.new nb)
      have hb : (upd (upd H6 a (.tup ws)) b (.tup [vi n, .ref a])) b = some (.tup [vi n, .ref a]) := upd_same
      have ha : (upd (upd H6 a (.tup ws)) b (.tup [vi n, .ref a])) a = some (.tup ws) := Ex.new nb _ _ upd_same
      generalize upd (upd H6 a (.tup ws)) b (.tup [vi n, .ref a]) = H7 at *
      exact q _ H7 ((e4.trans (e5.trans e6)).trans x7) ⟨b, .ref a, rfl, st_of hb, a, ws, rfl, st_of ha, paired_imp (fun _ _ z => z.ex ((e5.trans e6).trans x7)) pws⟩
end
end K80
end
section
namespace K80
open PySem PySem.Spec PyProof.Rows L2 Evl RZ Dw M20
/-! the law's own putting and reading -/
theorem sg_at {sg : List (Str × Nat)} {g : Str} {k : Nat} (h : (g, k) ∈ sg) : ∃ j, j < sg.length ∧ sg[j]? = some (g, k) := by
  obtain ⟨j, hj, e⟩ := List.mem_iff_getElem.mp h
  exact ⟨j, hj, by rw [List.getElem?_eq_getElem hj, e]⟩
theorem sg_before {sg : List (Str × Nat)} {g : Str} {k j : Nat} (so : SigOk sg) (hj : sg[j]? = some (g, k)) : ∀ i (h : i < sg.length), i < j → sg[i].1 ≠ g := fun i h lt z => by
  have a1 := idx_nd so.nd (i := i) (x := g) (by rw [List.getElem?_map, List.getElem?_eq_getElem h]; show some sg[i].1 = some g; rw [z])
  have a2 := idx_nd so.nd (i := j) (x := g) (by rw [List.getElem?_map, hj]; rfl)
  omega
theorem uv_val : ∀ {ws : List V}, ws.length ≤ 2 → ∀ (i : Nat) (x : Str) (v : V), vars[i]? = some x → ws[i]? = some v → valV (mergeK [] ((signsK "uv").zip ws)) (.inr x) = some v := by
  intro ws l i x v hx hv
  have s2 : signsK "uv" = ([Sum.inr ("u" : Str), Sum.inr ("v" : Str)] : List Key) := by decide +kernel
  rw [s2]
  match ws, l, i, hx, hv with
  | [a], _, 0, hx, hv =>
    have e : a = v := Option.some.inj hv
    rw [← Option.some.inj (show some ("u" : Str) = some x from hx), ← e]
    rfl
  | [a, b], _, 0, hx, hv =>
    have e : a = v := Option.some.inj hv
    rw [← Option.some.inj (show some ("u" : Str) = some x from hx), ← e]
    show valV (putK (putK [] (Sum.inr ("u" : Str)) a) (Sum.inr ("v" : Str)) b) (Sum.inr ("u" : Str) : Key) = some a
    rw [val_put, if_neg (by decide +kernel), val_put, if_pos rfl]
  | [a, b], _, 1, hx, hv =>
    have e : b = v := Option.some.inj hv
    rw [← Option.some.inj (show some ("v" : Str) = some x from hx), ← e]
    show valV (putK (putK [] (Sum.inr ("u" : Str)) a) (Sum.inr ("v" : Str)) b) (Sum.inr ("v" : Str) : Key) = some b
    rw [val_put, if_pos rfl]
  | [], _, i, hx, hv => rw [List.getElem?_nil] at hv; cases hv
  | [a], _, i + 1, hx, hv => cases hv
  | [a, b], _, i + 2, hx, hv => cases hv
section
variable {P : Program} {w : World} {K : PySem.W.Frag} {mg : Str → Option Value} {base : Heap} {σ : L2.St} {H : Hp}
/-- [name for name, places in sig].index(a name) -/
theorem ev_nmAt {i0 j1 j2 j k : Nat} {vs : List Nat} {sv : V} {sg : List (Str × Nat)} {te : TE} {g : Str} (so : SigOk sg) (hF : FSig K H sv sg) (h0 : σ[i0]? = some (some sv)) (hx : Ev te σ H (.str g)) (hj : sg[j]? = some (g, k)) (hw : ∀ x y, wipe (((wipe σ vs).set j1 (some x)).set j2 (some y)) vs = wipe σ vs) (hv : ∀ x y, (((wipe σ vs).set j1 (some x)).set j2 (some y))[j1]? = some (some x)) :
    Ev (tBM K "list" (rIndex K) (tLc (iTup K (tVar i0)) (gTup K 2 (gCons (gName j1) (gCons (gName j2) gNil))) tYes (tVar j1) vs) (tCons te tNil)) σ H (vi j) := by
  obtain ⟨sa, so1, ps, rfl, hsa, sod, prs⟩ := id hF
  have sqS : SqT K H sa (ps.map V.ref) := .inl (.inr ⟨so1, hsa⟩)
  have lps := paired_len prs
  have sl4 := so.l4
  have jl : j < sg.length := (List.getElem?_eq_some_iff.mp hj).1
  have before := sg_before so hj
  have names := el_lcP (K := K) (σ := σ) (H := H) (te := tVar j1) (j1 := j1) (j2 := j2) (vs := vs) (wi := iTup K (tVar i0)) (ps := ps) (f1 := fun i => .str (sg.getD i ("", 0)).1) (f2 := fun i => vi (sg.getD i ("", 0)).2) walk_tup (w_tup (K := K) (xs := ps.map V.ref) (ev_var h0) sqS) (fun H9 e9 => ex_t e9 sqS) (fun j r hr' => by
    obtain ⟨dd, e1, h1⟩ := paired_at prs hr'
    rw [List.getD_eq_getElem?_getD, e1]
    exact h1) (fun i => .str (sg.getD i ("", 0)).1) (by omega) hw (fun j H9 e9 hj => ev_var (hv _ _))
  have eN : ((List.range ps.length).map fun i => V.str (sg.getD i ("", 0)).1) = (sg.map (·.1)).map V.str := by
    rw [lps]
    apply List.ext_getElem?
    intro j
    by_cases hj : j < sg.length
    · rw [List.getElem?_map, List.getElem?_range hj, List.getElem?_map, List.getElem?_map, List.getElem?_eq_getElem hj]
      show some (V.str (sg.getD j ("", 0)).1) = some (V.str sg[j].1)
      rw [List.getD_eq_getElem?_getD, List.getElem?_eq_getElem hj]
      rfl
    · rw [List.getElem?_eq_none_iff.mpr (by simp; omega), List.getElem?_eq_none_iff.mpr (by simp; omega)]
  rw [eN] at names
  intro H1 e1 Q q
  refine do_bmV (names H1 e1 _ fun l H4 nl e4 hl => ⟨.inl ⟨rfl, _, sq_of hl⟩, do_cons (hx H4 (e1.trans e4) _ fun H5 e5 => do_nil ⟨l, _, .str g, j, .str g, rfl, rfl, sq_of (e5 _ _ hl), rfl, flat_strs _, ?_, ?_, fun m z hm hz => ?_, ?_⟩)⟩)
  · rw [List.getElem?_map, List.getElem?_map, hj]
    rfl
  · simp [eqV]
  · rw [List.getElem?_map, List.getElem?_map] at hz
    have ml : m < sg.length := by omega
    rw [List.getElem?_eq_getElem ml] at hz
    cases Option.some.inj hz
    have := before m ml hm
    simp [eqV, this]
  · exact q H5 (e4.trans e5)
def sp_put (K : PySem.W.Frag) (n : Nat) : Sp := spX (fun (p : Tm × (Str → Tm)) vs H => (∃ v u, vs = [v, u] ∧ TmV K H p.1 v ∧ PutD K H u p.2 p.1.ls) ∧ p.1.hgt < n ∧ p.1.sz ≤ 8) (fun p v H => TmV K H (p.1.put p.2) v)
theorem c_put (T : Txt mg) (D : Df K mg "_law_put" s__law_put ["_law_term_here", "_law_putting"]) : ∀ n : Nat, Cl P w K mg base (n + 1) "_law_put" (sp_put K n)
  | 0 => cl_of (k := 0) D sc__law_put (fun vs H Q E h => by
      obtain ⟨p, ⟨⟨v, u, rfl, _⟩, _⟩, _⟩ := h
      rfl) (fun f cdv A outer s H vs Q E hr h => by
      obtain ⟨p, ⟨_, bad, _⟩, _⟩ := h
      exact absurd bad (Nat.not_lt_zero _))
  | n + 1 => by
    have c_rec := c_put T D n
    refine cl_of (k := n + 1) D sc__law_put (fun vs H Q E h => ?_) (fun fa cdv A outer s H vs Q E hr h => ?_)
    · obtain ⟨p, ⟨⟨v, u, rfl, _⟩, _⟩, _⟩ := h
      rfl
    · obtain ⟨⟨t, g⟩, ⟨⟨v, u, rfl, tv, pd⟩, hg, small⟩, q⟩ := h
      refine ⟨_, (pss_cons (ps_if (pt_cmpR op_eq (pe_ix ix_tup (pv 0) pe_int (fun _ _ => rfl)) pe_str (nomark _))
        (pss_one (ps_ret (pe_dget2 (hu_of hr) (pv 1) (pe_ix ix_tup (pv 0) pe_int (fun _ _ => rfl)) (pv 0) ⟨rfl, rfl, rfl, rfl⟩)))
        pss_nil)
      (pss_one (ps_ret (pe_tup (pa_cons pe_str (pa_cons (pe_ix ix_tup (pv 0) pe_int (fun _ _ => rfl)) (pa_cons (pe_callTy call_tuple_of (by rfl) T.z_tuple (by decide +kernel) (pa_cons (pe_lc (own := [("_law_piece", 2)]) (g := (gName 2)) (by rfl) sc__law_put.nd (pi_tup (pe_ix ix_tup (pv 0) pe_int (fun _ _ => rfl))) (blkOk_by (own := [("_law_piece", 2)]) (N := ["_law_term_here", "_law_putting", "_law_piece"]) (sc := defScope s__law_put) (by decide +kernel)) (fun _ _ _ _ _ => (pg_name (i := 2) sc__law_put.nd rfl (.inl rfl))) (fun _ _ _ _ _ => pts_nil) (fun _ _ _ _ _ => (pe_cl c_rec hr (by first | decide | omega) (by rfl) (pa_cons (pv 2) (pa_cons (pv 1) pa_nil))))) pa_nil)) pa_nil))))))), ?_⟩
      replace tv : TmV K H t v := tv
      replace pd : PutD K H u g t.ls := pd
      replace hg : t.hgt < n + 1 := hg
      replace small : t.sz ≤ 8 := small
      replace q : ∀ r H', Ex H H' → TmV K H' (t.put g) r → Q r H' := q
      cases t with
      | var x =>
        have tv0 := tv
        rw [TmV] at tv
        obtain ⟨a, rfl, ha⟩ := tv
        refine q_when (b := true) (et_is (et_test (ev_op (ev_op (ev_var rfl) ev_c (rv_ixT (K := K) ha (atI_vi (k := 0) rfl))) ev_c (rv_eq rfl))) (by decide)) (fun _ H1 e1 => ?_) (fun hb => by cases hb)
        refine do_ret (do_get2 (K := K) (ev_var rfl) (ev_op (ev_var rfl) ev_c (rv_ixT (K := K) (ex_t e1 ha) (atI_vi (k := 1) rfl))) (ev_var rfl) (pd.ex e1) (by rw [Tm.ls]; exact List.mem_singleton.mpr rfl) (tv0.et (Dw.Ex.et e1)) fun r H2 e2 hr2 => q r H2 (e1.trans e2) ?_)
        rw [Tm.put]
        exact hr2
      | deed f ts =>
        rw [TmV] at tv
        rw [Tm.sz] at small
        rw [Tm.hgt] at hg
        rw [Tm.ls] at pd
        obtain ⟨a, b, us, rfl, ha, hb, tms⟩ := tv
        have lu := tms.len
        have ln := len_szs ts
        refine q_when (b := false) (et_is (et_test (ev_op (ev_op (ev_var rfl) ev_c (rv_ixT (K := K) ha (atI_vi (k := 0) rfl))) ev_c (rv_eq rfl))) (by decide)) (fun hb => by cases hb) (fun _ H1 e1 => ?_)
        refine do_ret (do_tup (do_cons (do_ev ev_c fun H2 e2 => do_cons (do_ev (v := .str f) (ev_op (ev_var rfl) ev_c (rv_ixT (K := K) (ex_t (e1.trans e2) ha) (atI_vi (k := 1) rfl))) fun H3 e3 => do_cons (do_cb (do_cons ?_))))))
        have e03 := (e1.trans e2).trans e3
        refine do_lcIt (walk_tup (K := K) (a := b) (xs := us)) (fun R r => w_tup (K := K) (xs := us) (ev_op (ev_var rfl) ev_c (rv_ixT (K := K) (ex_t e03 ha) (atI_vi (k := 2) rfl))) (ex_t e03 hb) H3 (Ex.refl _) R r) (fun D j H' => H3 D = none ∧ Ex H3 H' ∧ ∃ ws : List V, H' D = some (.lst ws) ∧ TmsV K H' (puts g (ts.take j)) ws)
          (fun D H4 e4 nD => ⟨fresh_back e4 nD, e4.trans (Ex.new nD), [], upd_same, by rw [List.take_zero, puts, TmsV]⟩) (fun D j H4 _ h => ex_t (e03.trans h.2.1) hb) (fun D j x H4 H5 hj hP y => ?_) (fun D H4 hP => ?_)
        · obtain ⟨nD, e4, ws, hws, tws⟩ := hP
          obtain ⟨rfl, hx⟩ := y
          obtain ⟨t', ht', tv'⟩ := tms.get hx
          have le := sz_le ht'
          have lw := tws.len
          have e04 := e03.trans e4
          have lp : (puts g (ts.take j)).length ≤ 8 := by
            rw [puts_map, List.length_map, List.length_take]
            omega
          have ht : t'.hgt < n := by
            have := hgts_mem t' (List.mem_of_getElem? ht')
            omega
          refine ⟨rfl, iteT ?_⟩
          refine ep_call (t', g) (ea_cons (ev_var rfl) (ea_cons (ev_var rfl) ea_nil)) (fun H6 e6 => ⟨⟨_, _, rfl, tv'.et (Dw.Ex.et (e04.trans e6)), (pd.ex (e04.trans e6)).sub fun y hy => ls_at ht' hy⟩, ht, by show t'.sz ≤ 8; omega⟩) _ (Ex.refl _) _ fun r H6 e6 hr6 => ?_
          replace hr6 : TmV K H6 (t'.put g) r := hr6
          have hws6 := e6 _ _ hws
          have et7 : ET K H6 (upd H6 D (.lst (ws ++ [r]))) := ET.refl.upd hws6
          refine ⟨ws, hws6, sz_lt (by omega), nD, (e4.trans e6).mut nD, _, upd_same, ?_⟩
          rw [puts_take ht']
          exact (tws.et (ET.trans (Dw.Ex.et e6) et7)).snoc (hr6.et et7)
        · obtain ⟨nD, e4, ws, hws, tws⟩ := hP
          rw [lu, List.take_length] at tws
          refine do_nil ⟨D, ws, rfl, .inl ⟨sq_of hws, fun r1 n1 => do_nil ⟨by show 3 ≤ sizeLine; decide, fun r2 n2 => ?_⟩⟩⟩
          have x9 : Ex H4 (upd (upd H4 r1 (.tup ws)) r2 (.tup [.str "deed", .str f, .ref r1])) := (Ex.new n1).trans (Ex.new n2)
          have h2 : (upd (upd H4 r1 (.tup ws)) r2 (.tup [.str "deed", .str f, .ref r1])) r2 = some (.tup [.str "deed", .str f, .ref r1]) := upd_same
          have h1 : (upd (upd H4 r1 (.tup ws)) r2 (.tup [.str "deed", .str f, .ref r1])) r1 = some (.tup ws) := Ex.new n2 _ _ upd_same
          generalize upd (upd H4 r1 (.tup ws)) r2 (.tup [.str "deed", .str f, .ref r1]) = H5 at *
          refine q _ H5 ((e03.trans e4).trans x9) ?_
          rw [Tm.put]
          exact tmv_deed (st_of h2) (st_of h1) (tws.et (Dw.Ex.et x9))
end
end K80
end
section
namespace K80
open PySem PySem.Spec PyProof.Rows L2 Evl RZ Dw M20
section
variable {P : Program} {w : World} {K : PySem.W.Frag} {mg : Str → Option Value} {base : Heap}
/-! ### the law's own worth -/
def sp_worth (K : PySem.W.Frag) (d : Nat) : Sp := spX (fun (p : WArg) vs H => (∃ u m tv dd, vs = [u, m, tv, .ref dd] ∧ FSig K H u p.sg ∧ Mdl K H m p.n p.tbs ∧ TmV K H p.t tv ∧ Env H dd p.t.ls p.env) ∧ WOk d p) (fun p v _ => v = vi p.wt)
theorem c_worth (T : Txt mg) (D : Df K mg "_law_worth" s__law_worth ["_law_sig", "_law_model_here", "_law_term_here", "_law_worths"]) : ∀ d : Nat, Cl P w K mg base (d + 1) "_law_worth" (sp_worth K d)
  | 0 => cl_of (k := 0) D sc__law_worth (fun vs H Q E h => by
      obtain ⟨p, ⟨⟨u, m, tv, dd, rfl, _⟩, _⟩, _⟩ := h
      rfl) (fun f cdv A outer s H vs Q E hr h => by
      obtain ⟨p, ⟨_, w⟩, _⟩ := h
      have a := w.few
      have b : 1 ≤ p.t.sz := by cases p.t <;> (rw [Tm.sz]; omega)
      omega)
  | d + 1 => by
    have c_rec := c_worth T D d
    refine cl_of (k := d + 1) D sc__law_worth (fun vs H Q E h => ?_) (fun f cdv A outer s H vs Q E hr h => ?_)
    · obtain ⟨p, ⟨⟨u, m, tv, dd, rfl, _⟩, _⟩, _⟩ := h
      rfl
    · obtain ⟨⟨sg, n, tbs, t, env⟩, ⟨⟨u, m, tv, dd, rfl, hG, hM, hT, kvs, hd, val⟩, wok⟩, q⟩ := h
      refine ⟨_, (pss_cons (ps_if (pt_cmpR op_eq (pe_ix ix_tup (pv 2) pe_int (fun _ _ => rfl)) pe_str (nomark _))
        (pss_one (ps_ret (pe_dget (hu_of hr) (pv 3) (pe_ix ix_tup (pv 2) pe_int (fun _ _ => rfl)) (fun _ _ => rfl))))
        pss_nil)
      (pss_cons (ps_set (i := 4) sc__law_worth.nd rfl (.inl rfl) pe_int)
      (pss_cons (ps_for PassesOwn.never (by rfl) (pi_tup (pe_ix ix_tup (pv 2) pe_int (fun _ _ => rfl))) (pg_name (i := 5) sc__law_worth.nd rfl (.inl rfl))
        (pss_one (ps_set (i := 4) sc__law_worth.nd rfl (.inl rfl) (pe_op op_add (pe_op op_mul (pv 4) (pe_ix ix_tup (pv 1) pe_int (fun _ _ => rfl))) (pe_cl c_rec hr (by first | decide | omega) (by rfl) (pa_cons (pv 0) (pa_cons (pv 1) (pa_cons (pv 5) (pa_cons (pv 3) pa_nil)))))))))
      (pss_one (ps_ret (pe_ix ix_tup (pe_ix ix_tup (pe_ix ix_tup (pv 1) pe_int (fun _ _ => rfl)) (pe_bm PySem.F.plainAttrs_list PySem.F.slot_list_index PySem.F.type_list_index mt_index (pe_lc (own := [("_law_name", 6), ("_law_places", 7)]) (g := (gTup _ 2 (gCons (gName 6) (gCons (gName 7) gNil)))) (by rfl) sc__law_worth.nd (pi_tup (pv 0)) (blkOk_by (own := [("_law_name", 6), ("_law_places", 7)]) (N := ["_law_sig", "_law_model_here", "_law_term_here", "_law_worths", "_law_cell", "_law_piece", "_law_name", "_law_places"]) (sc := defScope s__law_worth) (by decide +kernel)) (fun _ _ _ _ _ => (pg_tup (by rfl) (pgs_cons (pg_name (i := 6) sc__law_worth.nd rfl (.inl rfl)) (pgs_cons (pg_name (i := 7) sc__law_worth.nd rfl (.inl rfl)) pgs_nil)))) (fun _ _ _ _ _ => pts_nil) (fun _ _ _ _ _ => (pv 6))) (pa_cons (pe_ix ix_tup (pv 2) pe_int (fun _ _ => rfl)) pa_nil)) (fun _ _ => rfl)) (pv 4) (fun _ _ => rfl))))))), ?_⟩
      replace hG : FSig K H u sg := hG
      replace hM : Mdl K H m n tbs := hM
      replace hT : TmV K H t tv := hT
      obtain ⟨so, mo, ok, low, few⟩ := wok
      replace so : SigOk sg := so
      replace mo : MdlOk sg n tbs := mo
      replace ok : t.ok sg := ok
      replace low : ∀ x ∈ t.ls, env x < n := low
      replace few : t.sz ≤ d + 1 := few
      replace val : ∀ x ∈ t.ls, valV kvs (.inr x) = some (vi (env x)) := val
      cases t with
      | var x =>
        rw [TmV] at hT
        obtain ⟨a, rfl, ha⟩ := hT
        refine q_when (b := true) (et_is (et_test (ev_op (ev_op (ev_var rfl) ev_c (rv_ixT (K := K) ha (atI_vi (k := 0) rfl))) ev_c (rv_eq rfl))) (by decide)) (fun _ H1 e1 => ?_) (fun hb => by cases hb)
        refine s_ret (ev_dget (ev_var rfl) (ev_op (ev_var rfl) ev_c (rv_ixT (K := K) (ex_t e1 ha) (atI_vi (k := 1) rfl))) (e1 _ _ hd) (val x (by rw [Tm.ls]; exact List.mem_singleton.mpr rfl))) fun H2 e2 => q _ H2 (e1.trans e2) ?_
        show vi (env x) = vi (Tm.wt n sg tbs env (.var x))
        rw [Tm.wt]
      | deed g ts =>
        rw [TmV] at hT
        rw [Tm.ok] at ok
        rw [Tm.ls] at low val
        rw [Tm.sz] at few
        obtain ⟨a, b, us, rfl, ha, hb, tms⟩ := hT
        have lu := tms.len
        have p2 : ts.length ≤ 2 := so.pl _ ok.1
        have n1 := mo.n1
        have n6 := mo.n6
        have low2 := wts_low mo so ts ok.2 low
        have tab := tb_tab mo so ok.1
        have pl := plc_low low2 (by rw [wts_len]; exact p2)
        rw [wts_len] at pl
        obtain ⟨ma, mu, rfl, hm1, ca, tvs, rfl, hc, pT⟩ := id hM
        obtain ⟨sa, so1, ps, rfl, hsa, sod, prs⟩ := id hG
        have sqS : SqT K H sa (ps.map V.ref) := .inl (.inr ⟨so1, hsa⟩)
        have lps := paired_len prs
        have sl4 := so.l4
        refine q_when (b := false) (et_is (et_test (ev_op (ev_op (ev_var rfl) ev_c (rv_ixT (K := K) ha (atI_vi (k := 0) rfl))) ev_c (rv_eq rfl))) (by decide)) (fun hb => by cases hb) (fun _ H1 e1 => ?_)
        refine q_asg (v := vi 0) ev_c fun H2 e2 => ?_
        have e02 := e1.trans e2
        refine q_forT (K := K) (ev_op (ev_var rfl) ev_c (rv_ixT (K := K) (ex_t e02 ha) (atI_vi (k := 2) rfl))) (ex_t e02 hb) (fun i σ H' => Ex H H' ∧ ∃ y : Option V, σ = [some (.ref sa), some (.ref ma), some (.ref a), some (.ref dd), some (vi (plc n (wts n sg tbs env (ts.take i)))), y, none, none])
          (fun H3 e3 => ⟨e02.trans e3, none, by rw [List.take_zero, wts]; rfl⟩) (fun i σ H' _ ⟨e, _⟩ => ex_t e hb) (fun i x σ H3 hx hP => ?_) (fun σ H3 hP => ?_)
        · obtain ⟨e3, y, hσ⟩ := hP
          subst hσ
          obtain ⟨t', ht', tv'⟩ := tms.get hx
          have le := sz_le ht'
          have lowt : ∀ k ∈ wts n sg tbs env (ts.take i), k < n := fun k hk => by
            have e : wts n sg tbs env ts = wts n sg tbs env (ts.take i) ++ wts n sg tbs env (ts.drop i) := by
              have app : ∀ a b : List Tm, wts n sg tbs env (a ++ b) = wts n sg tbs env a ++ wts n sg tbs env b := by
                intro a b
                induction a with
                | nil => rw [wts]; rfl
                | cons x a ih => rw [List.cons_append, wts, wts, ih]; rfl
              rw [← app, List.take_append_drop]
            exact low2 k (by rw [e]; exact List.mem_append_left _ hk)
          have pll := plc_low lowt (by rw [wts_len, List.length_take]; omega)
          have pl36 : n ^ (wts n sg tbs env (ts.take i)).length ≤ 36 := by
            have h1 : n ^ (wts n sg tbs env (ts.take i)).length ≤ 6 ^ (wts n sg tbs env (ts.take i)).length := Nat.pow_le_pow_left n6 _
            have h2 : 6 ^ (wts n sg tbs env (ts.take i)).length ≤ 6 ^ 2 := Nat.pow_le_pow_right (by decide) (by rw [wts_len, List.length_take]; omega)
            omega
          show tAsg _ _ _ [some (.ref sa), some (.ref ma), some (.ref a), some (.ref dd), some (vi (plc n (wts n sg tbs env (ts.take i)))), some x, none, none] H3
          refine s_asg (v := vi (plc n (wts n sg tbs env (ts.take (i + 1))))) (ev_is (ev_addM (ev_mulM (ev_var rfl) (ev_op (ev_var rfl) ev_c (rv_ixT (K := K) (ex_t e3 hm1) (atI_vi (k := 0) rfl))) (by omega)) (ev_callV (v := vi (t'.wt n sg tbs env)) (WArg.mk sg n tbs t' env) (ea_cons (ev_var rfl) (ea_cons (ev_var rfl) (ea_cons (ev_var rfl) (ea_cons (ev_var rfl) ea_nil)))) (fun H4 e4 => ⟨⟨_, _, _, _, rfl, hG.ex (e3.trans e4), hM.ex (e3.trans e4), tv'.et (Dw.Ex.et (e3.trans e4)), kvs, (e3.trans e4) _ _ hd, fun x hx => val x (ls_mem ht' hx)⟩, so, mo, oks_get ok.2 ht', fun x hx => low x (ls_mem ht' hx), by show t'.sz ≤ d; omega⟩) (fun _ _ p => p))) (by rw [wts_take ht', plc_snoc])) fun H4 e4 => ⟨e3.trans e4, _, rfl⟩
        · obtain ⟨e3, y, hσ⟩ := hP
          subst hσ
          rw [lu, List.take_length]
          -- the deed's place
          obtain ⟨j, hj⟩ := List.mem_iff_getElem?.mp ok.1
          have jl : j < sg.length := (List.getElem?_eq_some_iff.mp hj).1
          have jt : j < tbs.length := by rw [mo.len]; exact jl
          have ej : sg[j] = (g, ts.length) := by
            rw [List.getElem?_eq_getElem jl] at hj
            exact Option.some.inj hj
          have before := sg_before so hj
          have tbj : tbOf sg tbs g = tbs[j] := tbOf_at jl jt (by rw [ej]) before
          obtain ⟨tv, etv, ra, rfl, hra⟩ := paired_get pT (List.getElem?_eq_getElem jt)
          refine s_ret (v := vi (M20.g (tbOf sg tbs g) (plc n (wts n sg tbs env ts)))) (ev_op (ev_op (ev_op (ev_var rfl) ev_c (rv_ixT (K := K) (ex_t e3 hm1) (atI_vi (k := 1) rfl))) (ev_nmAt (sg := sg) (g := g) (j := j) (k := ts.length) (j1 := 6) (j2 := 7) (vs := [6, 7]) so (hG.ex e3) rfl (ev_op (ev_var rfl) ev_c (rv_ixT (K := K) (ex_t e3 ha) (atI_vi (k := 1) rfl))) hj (fun _ _ => rfl) (fun _ _ => rfl)) (rv_ixT (K := K) (ex_t e3 hc) (atI_vi (k := j) etv))) (ev_var rfl) (rv_ixT (K := K) (ex_t e3 hra) (atI_vi (by rw [← tbj, List.getElem?_map, g_eq (by rw [tab.len]; exact pl)]; rfl)))) fun H6 e6 => q _ H6 (e3.trans e6) ?_
          show _ = vi (Tm.wt n sg tbs env (.deed g ts))
          rw [Tm.wt]
/-! ### rows -/
def sp_rows (K : PySem.W.Frag) : Sp := fun vs H Q _ => ∃ n m : Nat, vs = [vi m, vi n] ∧ 1 ≤ n ∧ n ≤ 6 ∧ m ≤ 4 ∧ ∀ l us H', H l = none → Ex H H' → H' l = some (.lst us) → Paired (Nats K H') us (rowsN n m) → Q (.ref l) H'
theorem c_rows (T : Txt mg) (D : Df K mg "_law_rows" s__law_rows ["_law_many", "_law_size"]) : Cl P w K mg base 1 "_law_rows" (sp_rows K) := by
  refine cl_of (k := 0) D sc__law_rows (fun vs H Q E h => ?_) (fun f cdv A outer s H vs Q E hr h => ?_)
  · obtain ⟨n, m, rfl, _⟩ := h
    rfl
  · obtain ⟨n, m, rfl, n1, n6, m4, q⟩ := h
    refine ⟨_, (pss_cons (ps_set (i := 2) sc__law_rows.nd rfl (.inl rfl) (pe_lst (pa_cons (pe_tup pa_nil) pa_nil)))
      (pss_cons (ps_for PassesOwn.never (by rfl) (pi_range1 (by rfl) T.z_range (pa_cons (pv 0) pa_nil)) (pg_name (i := 3) sc__law_rows.nd rfl (.inl rfl))
        (pss_cons (ps_set (i := 4) sc__law_rows.nd rfl (.inl rfl) (pe_lst pa_nil))
        (pss_cons (ps_for PassesOwn.never (by rfl) (pi_list (pv 2)) (pg_name (i := 5) sc__law_rows.nd rfl (.inr rfl))
          (pss_one (ps_set (i := 4) sc__law_rows.nd rfl (.inl rfl) (pe_op op_cat (pv 4) (pe_lc (own := [("_law_number", 6)]) (g := (gName 6)) (by rfl) sc__law_rows.nd (pi_range1 (by rfl) T.z_range (pa_cons (pv 1) pa_nil)) (blkOk_by (own := [("_law_number", 6)]) (N := ["_law_many", "_law_size", "_law_found", "_law_turn", "_law_longer", "_law_row", "_law_number"]) (sc := defScope s__law_rows) (by decide +kernel)) (fun _ _ _ _ _ => (pg_name (i := 6) sc__law_rows.nd rfl (.inl rfl))) (fun _ _ _ _ _ => pts_nil) (fun _ _ _ _ _ => (pe_op (op_catAK K) (pv 5) (pe_tup (pa_cons (pv 6) pa_nil)))))))))
        (pss_one (ps_set (i := 2) sc__law_rows.nd rfl (.inl rfl) (pv 4))))))
      (pss_one (ps_ret (pv 2))))), ?_⟩
    refine do_set (do_lst (do_cons (do_tup (do_nil ⟨Nat.zero_le _, fun r nr => do_nil ⟨by show 1 ≤ sizeLine; decide, fun f0 nf0 => ?_⟩⟩))))
    have e1 : Ex H (upd (upd H r (.tup [])) f0 (.lst [.ref r])) := (Ex.new nr).trans (Ex.new nf0)
    have nf0H : H f0 = none := fresh_back (Ex.new nr) nf0
    have hf0 : (upd (upd H r (.tup [])) f0 (.lst [.ref r])) f0 = some (.lst [.ref r]) := upd_same
    have hr0 : (upd (upd H r (.tup [])) f0 (.lst [.ref r])) r = some (.tup []) := Ex.new nf0 _ _ upd_same
    generalize upd (upd H r (.tup [])) f0 (.lst [.ref r]) = H1 at *
    refine q_forR1 (n := (m : Int)) (ea_cons (ev_var rfl) ea_nil) ⟨by omega, by omega⟩ (fun i σ H' => Ex H H' ∧ ∃ (fa : Addr) (us : List V) (y3 y4 y5 : Option V), H fa = none ∧ H' fa = some (.lst us) ∧ Paired (Nats K H') us (rowsN n i) ∧ σ = [some (vi m), some (vi n), some (.ref fa), y3, y4, y5, none])
      (fun H2 e2 => ⟨e1.trans e2, f0, [.ref r], none, none, none, nf0H, e2 _ _ hf0, .cons ⟨r, rfl, st_of (e2 _ _ hr0)⟩ .nil, rfl⟩) (fun i σ H2 hi hP => ?_) (fun σ H2 hP => ?_)
    · obtain ⟨e2, fa, us, y3, y4, y5, nfa, hfa, pus, hσ⟩ := hP
      subst hσ
      have im : i < m := by omega
      refine q_asgL (el_lst ea_nil (Nat.zero_le _)) fun g0 H3 ng0 e3 hg0 => ?_
      have ng0H : H g0 = none := fresh_back e2 ng0
      have fg : fa ≠ g0 := fun z => by
        rw [← z, hfa] at ng0
        cases ng0
      have lus : us.length ≤ 1296 := by
        rw [paired_len pus, rowsN_len]
        exact pow_small n6 (by omega)
      refine q_forLn (K := K) (ev_var rfl) (sq_of (e3 _ _ hfa)) (fun j σ H' => Ex H2 H' ∧ ∃ (ga : Addr) (ws : List V) (y5 : Option V), H2 ga = none ∧ H' ga = some (.lst ws) ∧ Paired (Nats K H') ws (((rowsN n i).take j).flatMap fun r => (List.range n).map fun k => r ++ [k]) ∧ ws.length = j * n ∧ σ = [some (vi m), some (vi n), some (.ref fa), some (vi i), some (.ref ga), y5, none])
        (fun H4 e4 => ⟨e3.trans e4, g0, [], y5, ng0, e4 _ _ hg0, by rw [List.take_zero, List.flatMap_nil]; exact .nil, by rw [Nat.zero_mul]; rfl, rfl⟩) (fun j σ H' _ ⟨e, _⟩ => sq_of (e _ _ hfa)) (fun j x σ H4 hx hQ => ?_) (fun σ H4 hQ => ?_)
      · obtain ⟨e4, ga, ws, y5', nga, hga, pws, lws, hσ⟩ := hQ
        subst hσ
        obtain ⟨row, hrow, xa, rfl, hxa⟩ := paired_at pus hx
        have jl : j < us.length := (List.getElem?_eq_some_iff.mp hx).1
        have wl : ws.length + n ≤ 8000 := by
          rw [lws]
          have : j * n ≤ 1296 * 6 := Nat.mul_le_mul (by omega) n6
          omega
        have rl : row.length ≤ 4 := by
          rw [(rowsN_each n i row (List.mem_iff_getElem?.mpr ⟨j, hrow⟩)).1]
          omega
        show tAsg _ _ _ [some (vi m), some (vi n), some (.ref fa), some (vi i), some (.ref ga), some (.ref xa), none] H4
        refine do_asg (do_op (do_ev (ev_var rfl) fun H5 e5 => ?_))
        have x5 : SqT K H5 xa (row.map vi) := ex_t (e4.trans e5) hxa
        refine do_lcIt walk_range (fun R r => w_rng (n := n) (ea_cons (ev_var rfl) ea_nil) (by omega) H5 (Ex.refl _) R r) (fun D k H' => H5 D = none ∧ Ex H5 H' ∧ ∃ zs : List V, H' D = some (.lst zs) ∧ Paired (Nats K H') zs ((List.range k).map fun q => row ++ [q]) ∧ zs.length = k)
          (fun D H6 e6 nD => ⟨fresh_back e6 nD, e6.trans (Ex.new nD), [], upd_same, .nil, rfl⟩) (fun _ _ _ _ _ => trivial) (fun D k x H6 H7 hk ⟨nD, e6, zs, hzs, pzs, lzs⟩ y => ?_) (fun D H6 ⟨nD, e6, zs, hzs, pzs, lzs⟩ => ?_)
        · obtain ⟨rfl, hxk⟩ := y
          have e0 : V.int ((0 : Int) + (k : Int)) = vi k := by
            show V.int _ = V.int _
            rw [Int.zero_add]
          have exk : x = vi k := hxk.trans e0
          subst exk
          refine ⟨rfl, iteT (do_op (do_ev (ev_var rfl) fun H8 e8 => do_tup (do_cons (do_ev (ev_var rfl) fun H9 e9 => do_nil ⟨by show 1 ≤ sizeLine; decide, fun r1 nr1 => ?_⟩))))⟩
          have x10 : Ex H7 (upd H9 r1 (.tup [vi k])) := (e8.trans e9).trans (Ex.new nr1)
          have hr1 : (upd H9 r1 (.tup [vi k])) r1 = some (.tup [vi k]) := upd_same
          generalize upd H9 r1 (.tup [vi k]) = H10 at *
          have done : ∀ (H11 : Hp) (pv : Addr), Ex H10 H11 → SqT K H11 pv ((row ++ [k]).map vi) → ∃ acc, H11 D = some (.lst acc) ∧ acc.length < sizeLine ∧ H5 D = none ∧ Ex H5 (upd H11 D (.lst (acc ++ [.ref pv]))) ∧ ∃ zs : List V, (upd H11 D (.lst (acc ++ [.ref pv]))) D = some (.lst zs) ∧ Paired (Nats K (upd H11 D (.lst (acc ++ [.ref pv])))) zs ((List.range (k + 1)).map fun q => row ++ [q]) ∧ zs.length = k + 1 := fun H11 pv e11 hpv => by
            have hz11 := (x10.trans e11) _ _ hzs
            have et : ET K H11 (upd H11 D (.lst (zs ++ [.ref pv]))) := ET.refl.upd hz11
            refine ⟨zs, hz11, sz_lt (by omega), nD, ((e6.trans x10).trans e11).mut nD, zs ++ [.ref pv], upd_same, ?_, by rw [List.length_append, lzs]; rfl⟩
            rw [List.range_succ, List.map_append]
            exact Dw.paired_snoc (Nats.et et ⟨pv, rfl, hpv⟩) (paired_imp (fun _ _ h => h.et (ET.trans (Dw.Ex.et (x10.trans e11)) et)) pzs)
          refine ⟨xa, r1, row.map vi, [vi k], rfl, rfl, ex_t (e6.trans x10) x5, st_of hr1, sz_of (by rw [List.length_map]; show row.length + 1 ≤ 100000; omega), fun e => ?_, fun _ z => (by cases z), fun ne _ p3 np3 => ?_⟩
          · have er : row = [] := List.map_eq_nil_iff.mp e
            exact done H10 r1 (Ex.refl _) (by rw [er]; exact st_of hr1)
          · exact done _ p3 (Ex.new np3) (by rw [List.map_append]; exact st_of upd_same)
        · have e46 := e5.trans e6
          refine ⟨ga, D, ws, zs, rfl, rfl, e46 _ _ hga, hzs, sz_of (by omega), fun p np => ?_⟩
          have x7 : Ex H4 (upd H6 p (.lst (ws ++ zs))) := e46.trans (Ex.new np)
          refine ⟨e4.trans x7, p, ws ++ zs, _, fresh_back (e4.trans e46) np, upd_same, ?_, by rw [List.length_append, lws, lzs, Nat.add_mul, Nat.one_mul], rfl⟩
          have app : ∀ {xs ys : List V} {as bs : List (List Nat)}, Paired (Nats K (upd H6 p (.lst (ws ++ zs)))) xs as → Paired (Nats K (upd H6 p (.lst (ws ++ zs)))) ys bs → Paired (Nats K (upd H6 p (.lst (ws ++ zs)))) (xs ++ ys) (as ++ bs) := by
            intro xs ys as bs h1 h2
            induction h1 with
            | nil => exact h2
            | cons a r ih => exact .cons a ih
          rw [List.take_add_one, hrow, List.flatMap_append]
          show Paired _ (ws ++ zs) (_ ++ ([row].flatMap _))
          rw [List.flatMap_singleton]
          exact app (paired_imp (fun _ _ h => h.ex x7) pws) (paired_imp (fun _ _ h => h.ex (Ex.new np)) pzs)
      · obtain ⟨e4, ga, ws, y5', nga, hga, pws, lws, hσ⟩ := hQ
        subst hσ
        have full : (rowsN n i).take us.length = rowsN n i := List.take_of_length_le (by rw [paired_len pus]; exact Nat.le_refl _)
        rw [full] at pws
        refine s_asg (ev_var rfl) fun H5 e5 => ⟨(e2.trans e4).trans e5, ga, ws, _, _, _, fresh_back e2 nga, e5 _ _ hga, ?_, rfl⟩
        exact paired_imp (fun _ _ h => h.ex e5) pws
    · obtain ⟨e2, fa, us, y3, y4, y5, nfa, hfa, pus, hσ⟩ := hP
      subst hσ
      rw [Int.toNat_natCast] at pus
      exact s_ret (ev_var rfl) fun H3 e3 => q fa us H3 nfa (e2.trans e3) (e3 _ _ hfa) (paired_imp (fun _ _ h => h.ex e3) pus)
end
end K80
end
section
namespace K80
open PySem PySem.Spec PyProof.Rows L2 Evl RZ Dw M20
/-! how big what is read may be -/
mutual
theorem ls_half {sg : List (Str × Nat)} (so : SigOk sg) : ∀ t : Tm, t.ok sg → 2 * t.ls.length ≤ t.sz + 1
  | .var x, _ => by
    rw [Tm.ls, Tm.sz]
    exact Nat.le_refl _
  | .deed g ts, ok => by
    rw [Tm.ok] at ok
    rw [Tm.ls, Tm.sz]
    have p2 : ts.length ≤ 2 := so.pl _ ok.1
    have := lss_half so ts ok.2
    omega
theorem lss_half {sg : List (Str × Nat)} (so : SigOk sg) : ∀ ts : List Tm, oks sg ts → 2 * (lss ts).length ≤ szs ts + ts.length
  | [], _ => by
    rw [lss, szs]
    exact Nat.le_refl _
  | t :: ts, ok => by
    rw [oks] at ok
    rw [lss, szs, List.length_append, List.length_cons]
    have a := ls_half so t ok.1
    have b := lss_half so ts ok.2
    omega
end
mutual
theorem szb_le {n : Str → Nat} {M : Nat} : ∀ t : Tm, (∀ x ∈ t.ls, n x ≤ M) → t.szb n + t.ls.length ≤ t.sz + t.ls.length * M
  | .var x, h => by
    have := h x (by rw [Tm.ls]; exact List.mem_singleton.mpr rfl)
    rw [Tm.szb, Tm.ls, Tm.sz, List.length_singleton, Nat.one_mul]
    omega
  | .deed g ts, h => by
    rw [Tm.ls] at h
    rw [Tm.szb, Tm.ls, Tm.sz]
    have := szbs_le ts h
    omega
theorem szbs_le {n : Str → Nat} {M : Nat} : ∀ ts : List Tm, (∀ x ∈ lss ts, n x ≤ M) → szbs n ts + (lss ts).length ≤ szs ts + (lss ts).length * M
  | [], _ => by
    rw [szbs, lss, szs]
    exact Nat.zero_le _
  | t :: ts, h => by
    rw [lss] at h
    rw [szbs, lss, szs, List.length_append, Nat.add_mul]
    have a := szb_le t fun x hx => h x (List.mem_append_left _ hx)
    have b := szbs_le ts fun x hx => h x (List.mem_append_right _ hx)
    omega
end
/-- a reading that the law draws -/
def Rd7 (sg sg2 : List (Str × Nat)) (f : Str → Tm) : Prop := ∀ p ∈ sg, (f p.1).ok sg2 ∧ (f p.1).sz ≤ 7 ∧ (f p.1).hgt ≤ 3 ∧ ∀ x ∈ (f p.1).ls, x ∈ pls p.2
def bnd : Nat → Nat
  | 0 => 1
  | h + 1 => 3 + 4 * bnd h
theorem bnd_pos : ∀ h, 1 ≤ bnd h
  | 0 => Nat.le_refl _
  | h + 1 => by
    rw [bnd]
    omega
theorem bnd_mono : ∀ {a b : Nat}, a ≤ b → bnd a ≤ bnd b
  | 0, b, _ => bnd_pos b
  | a + 1, 0, h => absurd h (by omega)
  | a + 1, b + 1, h => by
    rw [bnd, bnd]
    have := bnd_mono (a := a) (b := b) (by omega)
    omega
theorem rd_bnd {sg sg2 : List (Str × Nat)} {f : Str → Tm} (so2 : SigOk sg2) (r7 : Rd7 sg sg2 f) : ∀ (n : Nat) (t : Tm), t.hgt ≤ n → t.ok sg → (t.rd f).sz ≤ bnd t.hgt ∧ (t.rd f).hgt ≤ 3 * t.hgt
  | n, .var x, _, _ => by
    rw [Tm.rd, Tm.sz, Tm.hgt]
    exact ⟨Nat.le_refl _, Nat.le_refl _⟩
  | 0, .deed g ts, h, _ => by
    rw [Tm.hgt] at h
    omega
  | n + 1, .deed g ts, h, ok => by
    rw [Tm.ok] at ok
    rw [Tm.hgt] at h ⊢
    obtain ⟨okf, s7, h3, lin⟩ := r7 _ ok.1
    have kid : ∀ x ∈ (f g).ls, (zf (rds f ts) x).sz ≤ bnd (hgts ts) ∧ (zf (rds f ts) x).hgt ≤ 3 * hgts ts := fun x hx => by
      obtain ⟨i, hi, hv⟩ := pls_at (lin x hx)
      have hti : ts[i]? = some ts[i] := List.getElem?_eq_getElem hi
      rw [zf_at (t := (ts[i]).rd f) hv (by rw [rds_map, List.getElem?_map, hti]; rfl)]
      have hm := hgts_mem _ (List.getElem_mem hi)
      have ih := rd_bnd so2 r7 n ts[i] (by omega) (oks_get ok.2 hti)
      exact ⟨Nat.le_trans ih.1 (bnd_mono hm), by omega⟩
    refine ⟨?_, ?_⟩
    · rw [Tm.rd, ← szb_put (f g) (n := fun x => (zf (rds f ts) x).sz) fun x _ => rfl, Nat.add_comm, bnd]
      have a := szb_le (n := fun x => (zf (rds f ts) x).sz) (M := bnd (hgts ts)) (f g) fun x hx => (kid x hx).1
      have b := ls_half so2 (f g) okf
      have c := bnd_pos (hgts ts)
      have l4 : (f g).ls.length ≤ 4 := by
        have : (f g).sz ≤ 7 := s7
        omega
      have s7' : (f g).sz ≤ 7 := s7
      have : (f g).ls.length = 0 ∨ (f g).ls.length = 1 ∨ (f g).ls.length = 2 ∨ (f g).ls.length = 3 ∨ (f g).ls.length = 4 := by omega
      rcases this with e | e | e | e | e <;> rw [e] at a <;> omega
    · rw [Tm.rd]
      have e : (f g).put (zf (rds f ts)) = (f g).put (fun x => if x ∈ (f g).ls then zf (rds f ts) x else .var x) := put_congr _ fun x hx => by rw [if_pos hx]
      rw [e]
      have := hgt_put (f := fun x => if x ∈ (f g).ls then zf (rds f ts) x else .var x) (n := 3 * hgts ts) (fun x => by
        by_cases m : x ∈ (f g).ls
        · rw [if_pos m]
          exact (kid x m).2
        · rw [if_neg m, Tm.hgt]
          exact Nat.zero_le _) (f g)
      have h3' : (f g).hgt ≤ 3 := h3
      omega
structure LrA where
  sg : List (Str × Nat)
  sg2 : List (Str × Nat)
  ts : List Tm
  t : Tm
section
variable {P : Program} {w : World} {K : PySem.W.Frag} {mg : Str → Option Value} {base : Heap} {σ : L2.St} {H : Hp}
def LrPre (K : PySem.W.Frag) (n : Nat) (p : LrA) (vs : List V) (H : Hp) : Prop := (∃ u r v, vs = [u, r, v] ∧ FSig K H u p.sg ∧ GRd K H p.sg p.sg2 p.ts r ∧ TmV K H p.t v) ∧ SigOk p.sg ∧ p.t.ok p.sg ∧ p.t.hgt < n
def sp_read (K : PySem.W.Frag) (n : Nat) : Sp := spX (LrPre K n) (fun p v H => TmV K H (p.t.rd (fOf p.sg p.ts)) v)
theorem c_read (T : Txt mg) (D : Df K mg "_law_read" s__law_read ["_law_sig", "_law_how", "_law_term_here"]) (c_put : Cl P w K mg base 10 "_law_put" (sp_put K 9)) : ∀ n : Nat, Cl P w K mg base (n + 11) "_law_read" (sp_read K n)
  | 0 => cl_of (k := 10) D sc__law_read (fun vs H Q E h => by
      obtain ⟨p, ⟨⟨u, r, v, rfl, _⟩, _⟩, _⟩ := h
      rfl) (fun f cdv A outer s H vs Q E hr h => by
      obtain ⟨p, ⟨_, _, _, bad⟩, _⟩ := h
      exact absurd bad (Nat.not_lt_zero _))
  | n + 1 => by
    have c_rec := c_read T D c_put n
    refine cl_of (k := n + 11) D sc__law_read (fun vs H Q E h => ?_) (fun fa cdv A outer s H vs Q E hr h => ?_)
    · obtain ⟨p, ⟨⟨u, r, v, rfl, _⟩, _⟩, _⟩ := h
      rfl
    · obtain ⟨⟨sg, sg2, rs, t⟩, ⟨⟨u, r, v, rfl, hF, hR, tv⟩, so, okt, hg⟩, q⟩ := h
      refine ⟨_, (pss_cons (ps_if (pt_cmpR op_eq (pe_ix ix_tup (pv 2) pe_int (fun _ _ => rfl)) pe_str (nomark _))
        (pss_one (ps_ret (pv 2)))
        pss_nil)
      (pss_cons (ps_set (i := 3) sc__law_read.nd rfl (.inl rfl) (pe_ix ix_tup (pv 1) (pe_bm PySem.F.plainAttrs_list PySem.F.slot_list_index PySem.F.type_list_index mt_index (pe_lc (own := [("_law_name", 5), ("_law_places", 6)]) (g := (gTup _ 2 (gCons (gName 5) (gCons (gName 6) gNil)))) (by rfl) sc__law_read.nd (pi_tup (pv 0)) (blkOk_by (own := [("_law_name", 5), ("_law_places", 6)]) (N := ["_law_sig", "_law_how", "_law_term_here", "_law_own", "_law_parts_here", "_law_name", "_law_places", "_law_piece"]) (sc := defScope s__law_read) (by decide +kernel)) (fun _ _ _ _ _ => (pg_tup (by rfl) (pgs_cons (pg_name (i := 5) sc__law_read.nd rfl (.inl rfl)) (pgs_cons (pg_name (i := 6) sc__law_read.nd rfl (.inl rfl)) pgs_nil)))) (fun _ _ _ _ _ => pts_nil) (fun _ _ _ _ _ => (pv 5))) (pa_cons (pe_ix ix_tup (pv 2) pe_int (fun _ _ => rfl)) pa_nil)) (fun _ _ => rfl)))
      (pss_cons (ps_setLc (i := 4) (own := [("_law_piece", 7)]) (g := (gName 7)) (by rfl) sc__law_read.nd rfl rfl (sw_true rfl rfl rfl (by decide +kernel)) (pi_tup (pe_ix ix_tup (pv 2) pe_int (fun _ _ => rfl))) (blkOk_by (own := [("_law_piece", 7)]) (N := ["_law_sig", "_law_how", "_law_term_here", "_law_own", "_law_parts_here", "_law_name", "_law_places", "_law_piece"]) (sc := defScope s__law_read) (by decide +kernel)) (fun _ _ _ _ _ => (pg_name (i := 7) sc__law_read.nd rfl (.inl rfl))) (fun _ _ _ _ _ => pts_nil) (fun _ _ _ _ _ => (pe_cl c_rec hr (by first | decide | omega) (by rfl) (pa_cons (pv 0) (pa_cons (pv 1) (pa_cons (pv 7) pa_nil))))))
      (pss_one (ps_ret (pe_cl c_put hr (by first | decide | omega) (by rfl) (pa_cons (pv 3) (pa_cons (pe_dictZS rfl (by rfl) T.z_dict (by rfl) T.z_zip (pa_cons pe_str (pa_cons (pv 4) pa_nil))) pa_nil)))))))), ?_⟩
      replace hF : FSig K H u sg := hF
      replace hR : GRd K H sg sg2 rs r := hR
      replace tv : TmV K H t v := tv
      replace so : SigOk sg := so
      replace okt : t.ok sg := okt
      replace hg : t.hgt < n + 1 := hg
      replace q : ∀ x H', Ex H H' → TmV K H' (t.rd (fOf sg rs)) x → Q x H' := q
      cases t with
      | var x =>
        have tv0 := tv
        rw [TmV] at tv
        obtain ⟨a, rfl, ha⟩ := tv
        refine q_when (b := true) (et_is (et_test (ev_op (ev_op (ev_var rfl) ev_c (rv_ixT (K := K) ha (atI_vi (k := 0) rfl))) ev_c (rv_eq rfl))) (by decide)) (fun _ H1 e1 => ?_) (fun hb => by cases hb)
        exact s_ret (ev_var rfl) fun H2 e2 => q _ H2 (e1.trans e2) (by rw [Tm.rd]; exact tv0.et (Dw.Ex.et (e1.trans e2)))
      | deed g ts =>
        rw [TmV] at tv
        rw [Tm.ok] at okt
        rw [Tm.hgt] at hg
        obtain ⟨a, b, us, rfl, ha, hb, tms⟩ := tv
        have lu := tms.len
        have p2 : ts.length ≤ 2 := so.pl _ okt.1
        obtain ⟨ra, ws, rfl, sqR, rms⟩ := hR.tms
        obtain ⟨j, jl, hj⟩ := sg_at okt.1
        have rl := hR.len
        have hrj : rs[j]? = some (rs[j]'(by omega)) := List.getElem?_eq_getElem (by omega)
        have lw := rms.len
        have hwj : ws[j]? = some (ws[j]'(by omega)) := List.getElem?_eq_getElem (by omega)
        obtain ⟨tj, htj, fv⟩ := rms.get hwj
        rw [hrj] at htj
        have fgj : fOf sg rs g = tj := fOf_at (p := (g, ts.length)) so.nd hj (by rw [hrj]; exact htj)
        have eo := hR.each j (by omega) jl
        have ej : rs[j]'(by omega) = tj := Option.some.inj htj
        rw [ej] at eo
        have sgj : sg[j] = (g, ts.length) := (List.getElem?_eq_some_iff.mp hj).2
        rw [sgj] at eo
        rw [← fgj] at eo fv
        refine q_when (b := false) (et_is (et_test (ev_op (ev_op (ev_var rfl) ev_c (rv_ixT (K := K) ha (atI_vi (k := 0) rfl))) ev_c (rv_eq rfl))) (by decide)) (fun hb => by cases hb) (fun _ H1 e1 => ?_)
        refine q_asg (ev_op (ev_var rfl) (ev_nmAt (sg := sg) (g := g) (j := j) (k := ts.length) (j1 := 5) (j2 := 6) (vs := [5, 6]) so (hF.ex e1) rfl (ev_op (ev_var rfl) ev_c (rv_ixT (K := K) (ex_t e1 ha) (atI_vi (k := 1) rfl))) hj (fun _ _ => rfl) (fun _ _ => rfl)) (rv_ixT (K := K) (ex_t e1 sqR) (atI_vi (k := j) hwj))) fun H2 e2 => ?_
        have e02 := e1.trans e2
        refine do_set (do_lcIt (walk_tup (K := K) (a := b) (xs := us)) (fun R r => w_tup (K := K) (xs := us) (ev_op (ev_var rfl) ev_c (rv_ixT (K := K) (ex_t e02 ha) (atI_vi (k := 2) rfl))) (ex_t e02 hb) H2 (Ex.refl _) R r) (fun D j H' => H2 D = none ∧ Ex H2 H' ∧ ∃ zs : List V, H' D = some (.lst zs) ∧ TmsV K H' (rds (fOf sg rs) (ts.take j)) zs)
          (fun D H4 e4 nD => ⟨fresh_back e4 nD, e4.trans (Ex.new nD), [], upd_same, by rw [List.take_zero, rds, TmsV]⟩) (fun D j H4 _ h => ex_t (e02.trans h.2.1) hb) (fun D i x H4 H5 hi hP y => ?_) (fun D H4 hP => ?_))
        · obtain ⟨nD, e4, zs, hzs, tzs⟩ := hP
          obtain ⟨rfl, hx⟩ := y
          obtain ⟨t', ht', tv'⟩ := tms.get hx
          have lz := tzs.len
          have e04 := e02.trans e4
          have lp : (rds (fOf sg rs) (ts.take i)).length ≤ 2 := by
            rw [rds_map, List.length_map, List.length_take]
            omega
          have ht : t'.hgt < n := by
            have := hgts_mem t' (List.mem_of_getElem? ht')
            omega
          refine ⟨rfl, iteT ?_⟩
          refine ep_call (LrA.mk sg sg2 rs t') (ea_cons (ev_var rfl) (ea_cons (ev_var rfl) (ea_cons (ev_var rfl) ea_nil))) (fun H6 e6 => ⟨⟨_, _, _, rfl, hF.ex (e04.trans e6), hR.ex (e04.trans e6), tv'.et (Dw.Ex.et (e04.trans e6))⟩, so, oks_get okt.2 ht', ht⟩) _ (Ex.refl _) _ fun r H6 e6 hr6 => ?_
          replace hr6 : TmV K H6 (t'.rd (fOf sg rs)) r := hr6
          have hzs6 := e6 _ _ hzs
          have et7 : ET K H6 (upd H6 D (.lst (zs ++ [r]))) := ET.refl.upd hzs6
          refine ⟨zs, hzs6, sz_lt (by omega), nD, (e4.trans e6).mut nD, _, upd_same, ?_⟩
          rw [List.take_add_one, ht', rds_map, List.map_append, ← rds_map]
          exact (tzs.et (ET.trans (Dw.Ex.et e6) et7)).snoc (hr6.et et7)
        · obtain ⟨nD, e4, zs, hzs, tzs⟩ := hP
          rw [lu, List.take_length] at tzs
          have lz := tzs.len
          rw [rds_map, List.length_map] at lz
          have e04 := e02.trans e4
          refine do_ret (do_cons (do_ev (ev_var rfl) fun H5 e5 => do_cons (do_cons (do_ev ev_c fun H6 e6 => do_cons (do_ev (ev_var rfl) fun H7 e7 => do_nil ⟨"uv", D, zs, rfl, .inl (sq_of (((e5.trans e6).trans e7) _ _ hzs)), fun p np => do_nil ?_⟩)))))
          have x8 : Ex H7 (upd H7 p (.dK (mergeK [] ((signsK "uv").zip zs)))) := Ex.new np
          have hp8 : (upd H7 p (.dK (mergeK [] ((signsK "uv").zip zs)))) p = some (.dK (mergeK [] ((signsK "uv").zip zs))) := upd_same
          generalize upd H7 p (.dK (mergeK [] ((signsK "uv").zip zs))) = H8 at *
          have e48 := ((e5.trans e6).trans e7).trans x8
          have e08 := e04.trans e48
          refine ⟨(fOf sg rs g, zf (rds (fOf sg rs) ts)), ⟨⟨_, _, rfl, fv.et (Dw.Ex.et e08), p, _, rfl, hp8, fun x hx => ?_⟩, ?_, eo.2.1⟩, fun x H9 e9 hx9 => q x H9 (e08.trans e9) ?_⟩
          · obtain ⟨i, hi, hv⟩ := pls_at (eo.2.2 x hx)
            have hti : ts[i]? = some ts[i] := List.getElem?_eq_getElem hi
            have hzi : zs[i]? = some (zs[i]'(by omega)) := List.getElem?_eq_getElem (by omega)
            obtain ⟨tz, htz, tvz⟩ := tzs.get hzi
            rw [rds_map, List.getElem?_map, hti] at htz
            have etz := Option.some.inj htz
            refine .inr ⟨zs[i]'(by omega), uv_val (by omega) i x _ hv hzi, ?_⟩
            show TmV K H8 (zf (rds (fOf sg rs) ts) x) _
            rw [zf_at (t := (ts[i]).rd (fOf sg rs)) hv (by rw [rds_map, List.getElem?_map, hti]; rfl), etz]
            exact tvz.et (Dw.Ex.et e48)
          · show (fOf sg rs g).hgt < 9
            have := hgt_sz (fOf sg rs g)
            have : (fOf sg rs g).sz ≤ 8 := eo.2.1
            omega
          · rw [Tm.rd]
            exact hx9
end
end K80
end
section
namespace K80
open PySem PySem.Spec PyProof.Rows L2 Evl RZ Dw M20
section
variable {P : Program} {w : World} {K : PySem.W.Frag} {mg : Str → Option Value} {base : Heap} {σ : L2.St} {H : Hp}
theorem ev_pw {te tn : TE} {n k : Nat} (hn : Ev tn σ H (vi n)) (hk : Ev te σ H (vi k)) (n6 : n ≤ 6) (k2 : k ≤ 2) : Ev (tOp (rIxL K) (tLst (tCons (tC (.int 1)) (tCons tn (tCons (tOp (rI CMul fun i j => .int (i * j)) tn tn) tNil)))) te) σ H (vi (n ^ k)) := fun H1 e Q q =>
  do_op (el_lst (vs := [.int 1, vi n, vi (n * n)]) (ea_cons ev_c (ea_cons hn (ea_cons (ev_mulM hn hn (by omega)) ea_nil))) (by show 3 ≤ 100000; decide) H1 e _ fun p H2 np e2 hp => hk H2 (e.trans e2) _ fun H3 e3 => ⟨p, _, (k : Int), vi (n ^ k), rfl, rfl, sq_of (e3 _ _ hp), atI_nat (by
    have : k = 0 ∨ k = 1 ∨ k = 2 := by omega
    rcases this with rfl | rfl | rfl
    · rw [Nat.pow_zero]; rfl
    · rw [Nat.pow_one]; rfl
    · rw [Nat.pow_two]; rfl), q H3 (e2.trans e3)⟩)
def sp_model (K : PySem.W.Frag) : Sp := fun vs H Q _ => ∃ (p c : Addr) (t most : Nat) (sv : V) (sg : List (Str × Nat)), vs = [.ref p, sv, vi most] ∧ Pur H p c t ∧ t ≤ 70000 ∧ 1 ≤ most ∧ most ≤ 6 ∧ FSig K H sv sg ∧ SigOk sg ∧
  ∀ v n tbs t' H', Off H H' p c → Pur H' p c t' → t' ≤ t + 200 → Mdl K H' v n tbs → MdlOk sg n tbs → Q v H'
theorem c_model (T : Txt mg) (D : Df K mg "_law_model" s__law_model ["_law_pile_here", "_law_sig", "_law_most"]) (c_take : Cl P w K mg base 2 "_law_take" sp_take) : Cl P w K mg base 3 "_law_model" (sp_model K) := by
  refine cl_of (k := 2) D sc__law_model (fun vs H Q E h => ?_) (fun f cdv A outer s H vs Q E hr h => ?_)
  · obtain ⟨p, c, t, most, sv, sg, rfl, _⟩ := h
    rfl
  · obtain ⟨p, c, t, most, sv, sg, rfl, pu, big, m1, m6, hF, so, q⟩ := h
    refine ⟨_, (pss_cons (ps_set (i := 3) sc__law_model.nd rfl (.inr rfl) (pe_op op_add pe_int (pe_cl c_take hr (by first | decide | omega) (by rfl) (pa_cons (pv 0) (pa_cons (pv 2) pa_nil)))))
      (pss_cons (ps_set (i := 4) sc__law_model.nd rfl (.inl rfl) (pe_lst pa_nil))
      (pss_cons (ps_for PassesOwn.never (by rfl) (pi_tup (pv 1)) (pg_tup (by rfl) (pgs_cons (pg_name (i := 5) sc__law_model.nd rfl (.inl rfl)) (pgs_cons (pg_name (i := 6) sc__law_model.nd rfl (.inl rfl)) pgs_nil)))
        (pss_one (ps_expr (pe_bm PySem.F.plainAttrs_list PySem.F.slot_list_append PySem.F.type_list_append mt_append (pv 4) (pa_cons (pe_callTy call_tuple_of (by rfl) T.z_tuple (by decide +kernel) (pa_cons (pe_lc (own := [("_law_k", 7)]) (g := (gName 7)) (by rfl) sc__law_model.nd (pi_range1 (by rfl) T.z_range (pa_cons (pe_ix ix_list (pe_lst (pa_cons pe_int (pa_cons (pv 3) (pa_cons (pe_op op_mul (pv 3) (pv 3)) pa_nil)))) (pv 6) (fun _ _ => rfl)) pa_nil)) (blkOk_by (own := [("_law_k", 7)]) (N := ["_law_pile_here", "_law_sig", "_law_most", "_law_size", "_law_tables", "_law_name", "_law_places", "_law_k"]) (sc := defScope s__law_model) (by decide +kernel)) (fun _ _ _ _ _ => (pg_name (i := 7) sc__law_model.nd rfl (.inl rfl))) (fun _ _ _ _ _ => pts_nil) (fun _ _ _ _ _ => (pe_cl c_take hr (by first | decide | omega) (by rfl) (pa_cons (pv 0) (pa_cons (pv 3) pa_nil))))) pa_nil)) pa_nil)))))
      (pss_one (ps_ret (pe_tup (pa_cons (pv 3) (pa_cons (pe_callTy call_tuple_of (by rfl) T.z_tuple (by decide +kernel) (pa_cons (pv 4) pa_nil)) pa_nil)))))))), ?_⟩
    obtain ⟨sa, o1, ps, rfl, hsa, sod, prs⟩ := id hF
    have sqS : SqT K H sa (ps.map V.ref) := .inl (.inr ⟨o1, hsa⟩)
    have lps := paired_len prs
    have l4 := so.l4
    refine do_set (do_op (do_ev ev_c fun H1 e1 => do_take (n := most) (ev_var rfl) (ev_var rfl) (pu.ex e1) (by omega) m1 (by omega) fun k H2 hk o2 pu2 => ⟨1, (k : Int), rfl, rfl, ?_⟩))
    show tSeq _ _ _ [some (.ref p), some (.ref sa), some (vi most), some (V.int ((1 : Int) + (k : Int))), none, none, none, none] H2
    have o02 : Off H H2 p c := (Off.of_ex e1).trans o2
    obtain ⟨n, hn⟩ : ∃ n, n = 1 + k := ⟨_, rfl⟩
    have n1 : 1 ≤ n := by omega
    have n6 : n ≤ 6 := by omega
    rw [show V.int ((1 : Int) + (k : Int)) = vi n by rw [hn]; show V.int _ = V.int _; rw [Int.natCast_add]; rfl]
    refine do_set (do_lst (do_nil ⟨Nat.zero_le _, fun l nl => ?_⟩))
    have x3 : Ex H2 (upd H2 l (.lst [])) := Ex.new nl
    have hl3 : (upd H2 l (.lst [])) l = some (.lst []) := upd_same
    obtain ⟨lp, lc⟩ := pu2.fresh nl
    have nlH : H l = none := by
      cases hh : H l with
      | none => rfl
      | some o =>
        rw [o02 _ _ lp lc hh] at nl
        cases nl
    generalize upd H2 l (.lst []) = H3 at *
    have o03 : Off H H3 p c := o02.trans (.of_ex x3)
    have pu3 := pu2.ex x3
    show tSeq _ _ _ [some (.ref p), some (.ref sa), some (vi most), some (vi n), some (.ref l), none, none, none] H3
    refine q_forT (K := K) (ev_var rfl) (o03.et pu _ _ sqS) (fun i σ' H' => Off H H' p c ∧ (∃ t', Pur H' p c t' ∧ t' ≤ t + 1 + i * 36) ∧ ∃ (ws : List V) (tbs : List (List Nat)) (y5 y6 : Option V), H' l = some (.lst ws) ∧ Paired (Nats K H') ws tbs ∧ tbs.length = i ∧ (∀ j (h1 : j < sg.length) (h2 : j < tbs.length), Tab n sg[j].2 tbs[j]) ∧ σ' = [some (.ref p), some (.ref sa), some (vi most), some (vi n), some (.ref l), y5, y6, none])
      (fun H4 e4 => ⟨o03.trans (.of_ex e4), ⟨t + 1, pu3.ex e4, by omega⟩, [], [], none, none, e4 _ _ hl3, .nil, rfl, fun j _ h => absurd h (Nat.not_lt_zero _), rfl⟩) (fun i σ' H' _ h => h.1.et pu _ _ sqS) (fun i x σ' H4 hx hP => ?_) (fun σ' H4 hP => ?_)
    · obtain ⟨o4, ⟨t4, pu4, lt4⟩, ws, tbs, y5, y6, hws, pws, ltb, tabs, hσ⟩ := hP
      subst hσ
      have hi : i < ps.length := by
        have := (List.getElem?_eq_some_iff.mp hx).1
        rw [List.length_map] at this
        exact this
      rw [List.getElem?_map, List.getElem?_eq_getElem hi] at hx
      cases Option.some.inj hx
      obtain ⟨dd, ed, hdd⟩ := paired_at prs (List.getElem?_eq_getElem hi)
      have is : i < sg.length := by omega
      have edd : sg[i] = dd := (List.getElem?_eq_some_iff.mp ed).2
      have pl2 : dd.2 ≤ 2 := so.pl _ (List.mem_of_getElem? ed)
      obtain ⟨nm, pl⟩ := dd
      replace pl2 : pl ≤ 2 := pl2
      refine ⟨ps[i], _, rfl, o4.et pu _ _ hdd, rfl, _, _, rfl, _, _, rfl, rfl, ?_⟩
      show tDrop _ _ [some (.ref p), some (.ref sa), some (vi most), some (vi n), some (.ref l), some (.str nm), some (vi pl), none] H4
      have lw := paired_len pws
      have np36 : n ^ pl ≤ 36 := by
        have h1 : n ^ pl ≤ 6 ^ pl := Nat.pow_le_pow_left n6 _
        have h2 : 6 ^ pl ≤ 6 ^ 2 := Nat.pow_le_pow_right (by decide) pl2
        omega
      refine do_app hws (ev_var rfl) fun H5 e5 => do_cons ?_
      refine do_lcIt walk_range (fun R r => w_rng (n := n ^ pl) (ea_cons (ev_pw (ev_var rfl) (ev_var rfl) n6 pl2) ea_nil) (by omega) H5 (Ex.refl _) R r) (fun D j H' => H5 D = none ∧ Off H5 H' p c ∧ (∃ t', Pur H' p c t' ∧ t' ≤ t4 + j) ∧ ∃ xs : List Nat, H' D = some (.lst (xs.map vi)) ∧ xs.length = j ∧ ∀ x ∈ xs, x < n)
        (fun D H6 e6 nD => ⟨fresh_back e6 nD, .of_ex (e6.trans (Ex.new nD)), ⟨_, pu4.ex (e5.trans (e6.trans (Ex.new nD))), Nat.le_refl _⟩, [], upd_same, rfl, fun _ z => (nomatch z)⟩) (fun _ _ _ _ _ => trivial) (fun D j x H6 H7 hj hP y => ?_) (fun D H6 hP => ?_)
      · obtain ⟨nD, o6, ⟨t6, pu6, lt6⟩, xs, hxs, lxs, low⟩ := hP
        obtain ⟨rfl, rfl⟩ := y
        obtain ⟨Dp, Dc⟩ := (pu4.ex e5).fresh nD
        refine ⟨rfl, iteT (do_take (n := n) (ev_var rfl) (ev_var rfl) pu6 (by omega) n1 (by omega) fun k8 H8 hk8 o8 pu8 => ?_)⟩
        have hxs8 := o8 _ _ Dp Dc hxs
        refine ⟨_, hxs8, sz_lt (by rw [List.length_map]; omega), nD, (o6.trans o8).upd nD, ⟨t6 + 1, pu8.upd Dp Dc, by omega⟩, xs ++ [k8], by rw [upd_same, List.map_append]; rfl, by rw [List.length_append, lxs]; rfl, fun x hx => ?_⟩
        rcases List.mem_append.mp hx with z | z
        · exact low x z
        · rw [List.mem_singleton.mp z]
          exact hk8
      · obtain ⟨nD, o6, ⟨t6, pu6, lt6⟩, xs, hxs, lxs, low⟩ := hP
        obtain ⟨Dp, Dc⟩ := (pu4.ex e5).fresh nD
        refine do_nil ⟨D, _, rfl, .inl ⟨sq_of hxs, fun r nr => ?_⟩⟩
        have x7 : Ex H6 (upd H6 r (.tup (xs.map vi))) := Ex.new nr
        have hr7 : (upd H6 r (.tup (xs.map vi))) r = some (.tup (xs.map vi)) := upd_same
        generalize upd H6 r (.tup (xs.map vi)) = H7 at *
        have o47 : Off H4 H7 p c := ((Off.of_ex e5).trans o6).trans (.of_ex x7)
        have hws7 : H7 l = some (.lst ws) := o47 _ _ lp lc hws
        have pu7 := pu6.ex x7
        have et8 : ET K H7 (upd H7 l (.lst (ws ++ [.ref r]))) := ET.refl.upd hws7
        refine ⟨l, ws, .ref r, rfl, rfl, hws7, sz_lt (by omega), (o4.trans o47).upd nlH, ⟨t6, pu7.upd lp lc, by rw [Nat.add_mul, Nat.one_mul]; omega⟩, _, tbs ++ [xs], _, _, upd_same, Dw.paired_snoc (Nats.et et8 ⟨r, rfl, st_of hr7⟩) (paired_imp (fun _ _ z => z.et (ET.trans (o47.et pu4) et8)) pws), by rw [List.length_append, ltb]; rfl, fun j h1 h2 => ?_, rfl⟩
        rw [List.length_append, ltb] at h2
        replace h2 : j < i + 1 := h2
        by_cases z : j < i
        · have g1 : (tbs ++ [xs])[j]'(by rw [List.length_append, ltb]; exact h2) = tbs[j]'(by omega) := List.getElem_append_left (by omega)
          rw [g1]
          exact tabs j h1 (by omega)
        · obtain rfl : j = i := by omega
          have g1 : (tbs ++ [xs])[j]'(by rw [List.length_append, ltb]; exact h2) = xs := by
            rw [List.getElem_append_right (by omega)]
            simp [ltb]
          rw [g1, edd]
          exact ⟨lxs, fun k hk => low _ (g_mem (by rw [lxs]; exact hk))⟩
    · obtain ⟨o4, ⟨t4, pu4, lt4⟩, ws, tbs, y5, y6, hws, pws, ltb, tabs, hσ⟩ := hP
      subst hσ
      rw [List.length_map] at ltb lt4
      refine do_ret (do_tup (do_cons (do_ev (v := vi n) (ev_var rfl) fun H5 e5 => do_cons (do_cb (do_cons (do_ev (ev_var rfl) fun H6 e6 => do_nil ⟨l, ws, rfl, .inl ⟨sq_of ((e5.trans e6) _ _ hws), fun a na => do_nil ⟨by show 2 ≤ sizeLine; decide, fun b nb => ?_⟩⟩⟩))))))
      have x7 : Ex H6 (upd (upd H6 a (.tup ws)) b (.tup [vi n, .ref a])) := (Ex.new na).trans (Ex.new nb)
      have hb : (upd (upd H6 a (.tup ws)) b (.tup [vi n, .ref a])) b = some (.tup [vi n, .ref a]) := upd_same
      have ha : (upd (upd H6 a (.tup ws)) b (.tup [vi n, .ref a])) a = some (.tup ws) := Ex.new nb _ _ upd_same
      generalize upd (upd H6 a (.tup ws)) b (.tup [vi n, .ref a]) = H7 at *
      have e47 := (e5.trans e6).trans x7
      exact q _ n tbs t4 H7 (o4.trans (.of_ex e47)) (pu4.ex e47) (by omega) ⟨b, .ref a, rfl, st_of hb, a, ws, rfl, st_of ha, paired_imp (fun _ _ z => z.ex e47) pws⟩ ⟨n1, n6, by omega, tabs⟩
end
end K80
end
section
namespace K80
open PySem PySem.Spec PyProof.Rows L2 Evl RZ Dw M20
section
variable {P : Program} {w : World} {K : PySem.W.Frag} {mg : Str → Option Value} {base : Heap} {σ : L2.St} {H : Hp}
def sp_model_due (K : PySem.W.Frag) : Sp := spX (MrPre K) (fun z v H => Mdl K H v z.n (rdTb z.n z.sg2 z.tbs z.sg z.ts))
theorem c_model_due (T : Txt mg) (D : Df K mg "_law_model_due" s__law_model_due ["_law_sig", "_law_other", "_law_how", "_law_model_here"]) (c_worth : Cl P w K mg base 9 "_law_worth" (sp_worth K 8)) (c_rows : Cl P w K mg base 1 "_law_rows" (sp_rows K)) : Cl P w K mg base 10 "_law_model_due" (sp_model_due K) := by
  refine cl_of (k := 9) D sc__law_model_due (fun vs H Q E h => ?_) (fun f cdv A outer s H vs Q E hr h => ?_)
  · obtain ⟨z, ⟨⟨u, o, r, m, rfl, _⟩, _⟩, _⟩ := h
    rfl
  · obtain ⟨⟨sg, sg2, ts, n, tbs⟩, ⟨⟨u, o, r, m, rfl, hF, hG, hR, hM⟩, so, so2, mo⟩, q⟩ := h
    refine ⟨_, (pss_cons (ps_set (i := 4) sc__law_model_due.nd rfl (.inl rfl) (pe_lst pa_nil))
      (pss_cons (ps_for PassesOwn.never (by rfl) (pi_enumT (by rfl) T.z_enumerate (pa_cons (pv 0) pa_nil)) (pg_tup (by rfl) (pgs_cons (pg_name (i := 5) sc__law_model_due.nd rfl (.inl rfl)) (pgs_cons (pg_tup (by rfl) (pgs_cons (pg_name (i := 6) sc__law_model_due.nd rfl (.inl rfl)) (pgs_cons (pg_name (i := 7) sc__law_model_due.nd rfl (.inl rfl)) pgs_nil))) pgs_nil)))
        (pss_cons (ps_set (i := 8) sc__law_model_due.nd rfl (.inl rfl) (pe_lst pa_nil))
        (pss_cons (ps_for PassesOwn.never (by rfl) (pi_list (pe_cl c_rows hr (by first | decide | omega) (by rfl) (pa_cons (pv 7) (pa_cons (pe_ix ix_tup (pv 3) pe_int (fun _ _ => rfl)) pa_nil)))) (pg_name (i := 9) sc__law_model_due.nd rfl (.inl rfl))
          (pss_one (ps_expr (pe_bm PySem.F.plainAttrs_list PySem.F.slot_list_append PySem.F.type_list_append mt_append (pv 8) (pa_cons (pe_cl c_worth hr (by first | decide | omega) (by rfl) (pa_cons (pv 1) (pa_cons (pv 3) (pa_cons (pe_ix ix_tup (pv 2) (pv 5) (fun _ _ => rfl)) (pa_cons (pe_dictZS rfl (by rfl) T.z_dict (by rfl) T.z_zip (pa_cons pe_str (pa_cons (pv 9) pa_nil))) pa_nil))))) pa_nil)))))
        (pss_one (ps_expr (pe_bm PySem.F.plainAttrs_list PySem.F.slot_list_append PySem.F.type_list_append mt_append (pv 4) (pa_cons (pe_callTy call_tuple_of (by rfl) T.z_tuple (by decide +kernel) (pa_cons (pv 8) pa_nil)) pa_nil)))))))
      (pss_one (ps_ret (pe_tup (pa_cons (pe_ix ix_tup (pv 3) pe_int (fun _ _ => rfl)) (pa_cons (pe_callTy call_tuple_of (by rfl) T.z_tuple (by decide +kernel) (pa_cons (pv 4) pa_nil)) pa_nil))))))), ?_⟩
    replace hF : FSig K H u sg := hF
    replace hG : FSig K H o sg2 := hG
    replace hR : GRd K H sg sg2 ts r := hR
    replace hM : Mdl K H m n tbs := hM
    replace so : SigOk sg := so
    replace so2 : SigOk sg2 := so2
    replace mo : MdlOk sg2 n tbs := mo
    replace q : ∀ x H', Ex H H' → Mdl K H' x n (rdTb n sg2 tbs sg ts) → Q x H' := q
    have n1 := mo.n1
    have n6 := mo.n6
    obtain ⟨sa, o1, ps, rfl, hsa, sod, prs⟩ := id hF
    have sqS : SqT K H sa (ps.map V.ref) := .inl (.inr ⟨o1, hsa⟩)
    have lps := paired_len prs
    obtain ⟨ra, us, rfl, sqR, tms⟩ := hR.tms
    have lu := tms.len
    have lts := hR.len
    have l4 := so.l4
    obtain ⟨ma, mu, rfl, sqM, tab⟩ := id hM
    refine q_asgL (el_lst ea_nil (Nat.zero_le _)) fun l H1 nl e1 hl => ?_
    show tSeq _ _ _ [some (.ref sa), some o, some (.ref ra), some (.ref ma), some (.ref l), none, none, none, none, none] H1
    refine q_enumTP (K := K) (j1 := 5) (j2 := 6) (j3 := 7) (a := sa) (xs := ps.map V.ref) (ea_cons (ev_var rfl) ea_nil) (ex_t e1 sqS)
      (fun i σ' H' => Ex H H' ∧ ∃ (ws : List V) (y5 y6 y7 y8 y9 : Option V), H' l = some (.lst ws) ∧ Paired (Nats K H') ws (((sg.zip ts).take i).map fun e => rowOf n sg2 tbs e.1.2 e.2) ∧ σ' = [some (.ref sa), some o, some (.ref ra), some (.ref ma), some (.ref l), y5, y6, y7, y8, y9])
      (fun H2 e2 => ⟨e1.trans e2, [], none, none, none, none, none, e2 _ _ hl, .nil, rfl⟩) (fun i σ' H' _ h => ex_t h.1 sqS) (fun i x σ' H2 H3 hx hP e3 => ?_) (fun σ' H2 hP => ?_)
    · obtain ⟨e2, ws, y5, y6, y7, y8, y9, hws, pws, hσ⟩ := hP
      subst hσ
      have hi : i < ps.length := by
        have := (List.getElem?_eq_some_iff.mp hx).1
        rw [List.length_map] at this
        exact this
      rw [List.getElem?_map, List.getElem?_eq_getElem hi] at hx
      cases Option.some.inj hx
      obtain ⟨dd, ed, hdd⟩ := paired_at prs (List.getElem?_eq_getElem hi)
      have hi2 : i < us.length := by omega
      have hu : us[i]? = some us[i] := List.getElem?_eq_getElem hi2
      obtain ⟨t', ht', tv'⟩ := tms.get hu
      have eo := hR.each i (by omega) (by omega)
      have et' : ts[i]'(by omega) = t' := (List.getElem?_eq_some_iff.mp ht').2
      have ed' : sg[i]'(by omega) = dd := (List.getElem?_eq_some_iff.mp ed).2
      rw [et', ed'] at eo
      have pl2 : dd.2 ≤ 2 := so.pl _ (List.mem_of_getElem? ed)
      have e03 := e2.trans e3
      refine ⟨ps[i], _, _, rfl, ex_t e03 hdd, ?_⟩
      show tSeq _ _ _ [some (.ref sa), some o, some (.ref ra), some (.ref ma), some (.ref l), some (vi i), some (.str dd.1), some (vi dd.2), y8, y9] H3
      refine q_asgL (el_lst ea_nil (Nat.zero_le _)) fun l2 H4 nl2 e4 hl2 => ?_
      have e04 := e03.trans e4
      have nl2' : H2 l2 = none := fresh_back e3 nl2
      have l2l : l2 ≠ l := fun z => by
        rw [z, hws] at nl2'
        cases nl2'
      show tSeq _ _ _ [some (.ref sa), some o, some (.ref ra), some (.ref ma), some (.ref l), some (vi i), some (.str dd.1), some (vi dd.2), some (.ref l2), y9] H4
      have lp := pls_len dd.2 pl2
      have np36 : n ^ dd.2 ≤ 36 := by
        have h1 : n ^ dd.2 ≤ 6 ^ dd.2 := Nat.pow_le_pow_left n6 _
        have h2 : 6 ^ dd.2 ≤ 6 ^ 2 := Nat.pow_le_pow_right (by decide) pl2
        omega
      refine q_forNX (K := K) (j := 9) (fun a xs H' => Ex H4 H' ∧ a ≠ l2 ∧ a ≠ l ∧ H' a = some (.lst xs) ∧ Paired (Nats K H') xs (rowsN n dd.2)) (fun Q5 q5 => (ea_cons (ev_var rfl) (ea_cons (ev_op (ev_var rfl) ev_c (rv_ixT (K := K) (ex_t e04 sqM) (atI_vi (k := 0) rfl))) ea_nil)) H4 (Ex.refl _) _ fun H5 e5 => ⟨n, dd.2, rfl, n1, n6, by omega, fun a xs H6 na e6 ha pa => q5 a xs H6 ⟨e5.trans e6, (fun z => by (rw [z, e5 _ _ hl2] at na; cases na)), (fun z => by (rw [z, (e3.trans (e4.trans e5)) _ _ hws] at na; cases na)), ha, pa⟩⟩) (fun a xs H' c => sq_of c.2.2.2.1)
        (fun a xs j σ' H' => Ex H2 H' ∧ H' a = some (.lst xs) ∧ a ≠ l2 ∧ a ≠ l ∧ Paired (Nats K H') xs (rowsN n dd.2) ∧ H' l2 = some (.lst (((List.range j).map fun r => t'.wt n sg2 tbs (envR n (pls dd.2) r)).map vi)) ∧ ∃ y9 : Option V, σ' = [some (.ref sa), some o, some (.ref ra), some (.ref ma), some (.ref l), some (vi i), some (.str dd.1), some (vi dd.2), some (.ref l2), y9])
        (fun a xs H5 c => ⟨(e3.trans e4).trans c.1, c.2.2.2.1, c.2.1, c.2.2.1, c.2.2.2.2, c.1 _ _ hl2, _, rfl⟩) (fun a xs j σ' H' _ h => sq_of h.2.1) (fun a xs j x σ' H5 hxj hP => ?_) (fun a xs σ' H5 hP => ?_)
      · obtain ⟨e5, hxs, al2, al, pxs, hl5, y, hσ⟩ := hP
        subst hσ
        obtain ⟨row, hrow, rra, rfl, hra⟩ := paired_at pxs hxj
        have jl : j < n ^ dd.2 := by
          have h1 := (List.getElem?_eq_some_iff.mp hrow).1
          rw [rowsN_len] at h1
          exact h1
        have er : row = rowAt n dd.2 j := by
          rw [rowsN_row n1 jl] at hrow
          exact (Option.some.inj hrow).symm
        have e05 := e2.trans e5
        show tDrop _ _ [some (.ref sa), some o, some (.ref ra), some (.ref ma), some (.ref l), some (vi i), some (.str dd.1), some (vi dd.2), some (.ref l2), some (.ref rra)] H5
        refine s_appP hl5 (ev_var rfl) (P := fun v _ => v = vi (t'.wt n sg2 tbs (envR n (pls dd.2) j))) (fun H6 e6 Q6 q6 => do_cons (do_ev (ev_var rfl) fun H7 e7 => do_cons (do_ev (ev_var rfl) fun H8 e8 => do_cons (do_ev (ev_op (ev_var rfl) (ev_var rfl) (rv_ixT (K := K) (ex_t (e05.trans ((e6.trans e7).trans e8)) sqR) (atI_nat hu))) fun H9 e9 => do_cons (do_cons (do_ev ev_c fun H10 e10 => do_cons (do_ev (ev_var rfl) fun H11 e11 => do_nil ⟨"uv", rra, _, rfl, .inr (ex_t (((((e6.trans e7).trans e8).trans e9).trans e10).trans e11) hra), fun p np => do_nil ?_⟩))))))) (by rw [List.length_map, List.length_map, List.length_range]; omega) fun v H7 e7 hv => ?_
        · have x12 : Ex H11 (upd H11 p (.dK (mergeK [] ((signsK "uv").zip (row.map vi))))) := Ex.new np
          have hp12 : (upd H11 p (.dK (mergeK [] ((signsK "uv").zip (row.map vi))))) p = some (.dK (mergeK [] ((signsK "uv").zip (row.map vi)))) := upd_same
          generalize upd H11 p (.dK (mergeK [] ((signsK "uv").zip (row.map vi)))) = H12 at *
          have e612 := ((((e7.trans e8).trans e9).trans e10).trans e11).trans x12
          have e012 := e05.trans (e6.trans e612)
          refine ⟨WArg.mk sg2 n tbs t' (envR n (pls dd.2) j), ⟨⟨_, _, _, _, rfl, hG.ex e012, hM.ex e012, tv'.et (Dw.Ex.et e012), _, hp12, fun x hx => ?_⟩, so2, mo, eo.1, fun x _ => Nat.mod_lt _ n1, eo.2.1⟩, fun v H13 e13 hv => q6 v H13 (e612.trans e13) hv⟩
          obtain ⟨i2, hi3, hvx⟩ := pls_at (eo.2.2 x hx)
          have rl : row.length = dd.2 := by rw [er, rowAt_len]
          have hg : (row.map vi)[i2]? = some (vi (envR n (pls dd.2) j x)) := by
            rw [List.getElem?_map, g_eq (l := row) (k := i2) (by omega), er, rowAt_g hi3]
            have ix : (pls dd.2).idxOf x = i2 := by
              have ip : (pls dd.2)[i2]? = some x := by
                unfold pls
                rw [List.getElem?_take, if_pos hi3, hvx]
              refine idx_nd ?_ ip
              unfold pls
              exact List.Nodup.sublist (List.take_sublist _ _) (by decide +kernel)
            show some (vi _) = some (vi _)
            unfold envR
            rw [ix, lp]
          exact uv_val (by rw [List.length_map]; omega) i2 x _ hvx hg
        · replace hv : v = vi (t'.wt n sg2 tbs (envR n (pls dd.2) j)) := hv
          have hl7 := e7 _ _ hl5
          have et8 : ET K H7 (upd H7 l2 (.lst ((((List.range j).map fun r => t'.wt n sg2 tbs (envR n (pls dd.2) r)).map vi) ++ [v]))) := ET.refl.upd hl7
          refine ⟨(e5.trans e7).mut nl2', ?_, al2, al, paired_imp (fun _ _ z => z.et (ET.trans (Dw.Ex.et e7) et8)) pxs, ?_, _, rfl⟩
          · rw [upd_ne al2]
            exact e7 _ _ hxs
          · rw [upd_same, List.range_succ, List.map_append, List.map_append, hv]
            rfl
      · obtain ⟨e5, hxs, al2, al, pxs, hl5, y, hσ⟩ := hP
        subst hσ
        have xl : xs.length = n ^ dd.2 := by rw [paired_len pxs, rowsN_len]
        rw [xl] at hl5
        have lw := paired_len pws
        rw [List.length_map, List.length_take, List.length_zip] at lw
        have hws5 := e5 _ _ hws
        show tDrop _ _ [some (.ref sa), some o, some (.ref ra), some (.ref ma), some (.ref l), some (vi i), some (.str dd.1), some (vi dd.2), some (.ref l2), y] H5
        refine s_appP hws5 (ev_var rfl) (P := fun v H' => Nats K H' v (rowOf n sg2 tbs dd.2 t')) (fun H6 e6 Q6 q6 => do_cb (do_cons (do_ev (ev_var rfl) fun H7 e7 => do_nil ⟨l2, _, rfl, .inl ⟨sq_of ((e6.trans e7) _ _ hl5), fun b nb => q6 (.ref b) _ (e7.trans (Ex.new nb)) ⟨b, rfl, st_of upd_same⟩⟩⟩))) (by omega) fun v H7 e7 hv => ?_
        have hws7 := e7 _ _ hws5
        have et8 : ET K H7 (upd H7 l (.lst (ws ++ [v]))) := ET.refl.upd hws7
        refine ⟨(e2.trans (e5.trans e7)).mut (fresh_back (Ex.refl _) nl), _, _, _, _, _, _, upd_same, ?_, rfl⟩
        have hz : (sg.zip ts)[i]? = some (dd, t') := by
          rw [List.getElem?_zip_eq_some]
          exact ⟨ed, ht'⟩
        rw [List.take_add_one, hz, List.map_append]
        exact paired_snoc (paired_imp (fun _ _ z => z.et (ET.trans (Dw.Ex.et (e5.trans e7)) et8)) pws) (hv.et et8)
    · obtain ⟨e2, ws, y5, y6, y7, y8, y9, hws, pws, hσ⟩ := hP
      subst hσ
      rw [List.length_map] at pws
      have zl : (sg.zip ts).take ps.length = sg.zip ts := by
        apply List.take_of_length_le
        rw [List.length_zip]
        omega
      rw [zl] at pws
      refine do_ret (do_tup (do_cons (do_ev (v := vi n) (ev_op (ev_var rfl) ev_c (rv_ixT (K := K) (ex_t e2 sqM) (atI_vi (k := 0) rfl))) fun H5 e5 => do_cons (do_cb (do_cons (do_ev (ev_var rfl) fun H6 e6 => do_nil ⟨l, ws, rfl, .inl ⟨sq_of ((e5.trans e6) _ _ hws), fun a na => do_nil ⟨by show 2 ≤ sizeLine; decide, fun b nb => ?_⟩⟩⟩))))))
      have x7 : Ex H6 (upd (upd H6 a (.tup ws)) b (.tup [vi n, .ref a])) := (Ex.new na).trans (Ex.new nb)
      have hb : (upd (upd H6 a (.tup ws)) b (.tup [vi n, .ref a])) b = some (.tup [vi n, .ref a]) := upd_same
      have ha : (upd (upd H6 a (.tup ws)) b (.tup [vi n, .ref a])) a = some (.tup ws) := Ex.new nb _ _ upd_same
      generalize upd (upd H6 a (.tup ws)) b (.tup [vi n, .ref a]) = H7 at *
      exact q _ H7 ((e2.trans (e5.trans e6)).trans x7) ⟨b, .ref a, rfl, st_of hb, a, ws, rfl, st_of ha, paired_imp (fun _ _ z => z.ex ((e5.trans e6).trans x7)) pws⟩
end
end K80
end
section
namespace K80
open PySem PySem.Spec PyProof.Rows L2 Evl RZ Dw M20
/-- the errors that the law awaits -/
structure ErR (K : PySem.W.Frag) (mg : Str → Option Value) (B0 T0 R0 N0 G0 : Addr) : Prop where
  b : ExcT K mg "TooBig" B0
  t : ExcT K mg "NoTerm" T0
  n : ExcT K mg "NoModel" N0
  r : mg "NoReading" = some (.ref R0)
  g : mg "DeedError" = some (.ref G0)
  bb : PySem.W.exmOne K (.ref B0) (.ref B0) = some true
  tb : PySem.W.exmOne K (.ref T0) (.ref B0) = some false
  tt : PySem.W.exmOne K (.ref T0) (.ref T0) = some true
  nn : PySem.W.exmOne K (.ref N0) (.ref N0) = some true
  ng : PySem.W.kitOne K (.ref N0) (.ref G0) = some true
section
variable {P : Program} {w : World} {K : PySem.W.Frag} {mg : Str → Option Value} {base : Heap} {σ : L2.St} {H : Hp} {B0 T0 R0 N0 G0 : Addr}
/-- what the law hears of a term that is read -/
def LsE (K : PySem.W.Frag) : Sp := fun vs H Q _ => ∃ (u o r v : V) (sg sg2 : List (Str × Nat)) (ts : List Tm), vs = [u, o, r, v] ∧ FSig K H u sg ∧ FSig K H o sg2 ∧ SigOk sg ∧ SigOk sg2 ∧ GRd K H sg sg2 ts r ∧
  ((∃ b, TmPre K (sg, b) [u, v] H ∧ ∀ H', Ex H H' → Q (.str "term") H') ∨
    ∃ t, TmV K H t v ∧ t.ok sg ∧ t.sz ≤ 60 ∧ ((60 < (t.rd (fOf sg ts)).sz ∧ ∀ H', Ex H H' → Q (.str "big") H') ∨ ((t.rd (fOf sg ts)).sz ≤ 60 ∧ ∀ x H', Ex H H' → TmV K H' (t.rd (fOf sg ts)) x → Q x H')))
theorem c_said (T : Txt mg) (D : Df K mg "_law_said" s__law_said ["_law_sig", "_law_other", "_law_how", "_law_term_here"]) (er : ErR K mg B0 T0 R0 N0 G0) (c_term_readX : ClX P w K mg base 74 "term_read" (TrE K B0 T0)) : Cl P w K mg base 75 "_law_said" (LsE K) := by
  refine cl_of (k := 74) D sc__law_said (fun vs H Q E h => ?_) (fun f cdv A outer s H vs Q E hr h => ?_)
  · obtain ⟨u, o, r, v, sg, sg2, ts, rfl, _⟩ := h
    rfl
  · obtain ⟨u, o, r, v, sg, sg2, ts, rfl, hF, hG, so, so2, hR, h⟩ := h
    refine ⟨_, (pss_one (ps_try_many rfl rfl takes_none5 (fun W pn xe tk _ => pss_one (ps_ret (pe_clX c_term_readX tk hr (by first | decide | omega) (by rfl) (pa_cons (pv 0) (pa_cons (pv 1) (pa_cons (pv 2) (pa_cons (pv 3) pa_nil))))))) (.cons (b₀ := _) (suite := []) ⟨rfl, by decide, .inl er.b.g⟩ (fun _ _ _ _ _ _ _ => pss_one (ps_ret pe_str)) (.cons (b₀ := _) (suite := []) ⟨rfl, by decide, .inl er.t.g⟩ (fun _ _ _ _ _ _ _ => pss_one (ps_ret pe_str)) (.cons (b₀ := _) (suite := []) ⟨rfl, by decide, .inl er.g⟩ (fun _ _ _ _ _ _ _ => pss_one (ps_ret pe_str)) .nil))))), ?_⟩
    refine do_ret (do_cons (do_ev (ev_var rfl) fun H1 e1 => do_cons (do_ev (ev_var rfl) fun H2 e2 => do_cons (do_ev (ev_var rfl) fun H3 e3 => do_cons (do_ev (ev_var rfl) fun H4 e4 => do_nil ?_)))))
    have e04 := ((e1.trans e2).trans e3).trans e4
    refine ⟨u, o, r, v, sg, sg2, ts, rfl, hF.ex e04, hG.ex e04, so, so2, hR.ex e04, ?_⟩
    rcases h with ⟨b, bad, q⟩ | ⟨t, tv, ok, s60, h⟩
    · refine .inl ⟨b, bad.ex e04, fun H5 e5 => ⟨false, er.tb, (fun z => (by cases z)), fun _ => ⟨true, er.tt, fun _ a na => s_ret ev_c fun H6 e6 => q H6 ((e04.trans e5).trans e6), (fun z => (by cases z))⟩⟩⟩
    · refine .inr ⟨t, tv.et (Dw.Ex.et e04), ok, s60, ?_⟩
      rcases h with ⟨big, q⟩ | ⟨small, q⟩
      · exact .inl ⟨big, fun H5 e5 => ⟨true, er.bb, fun _ a na => s_ret ev_c fun H6 e6 => q H6 ((e04.trans e5).trans e6), (fun z => (by cases z))⟩⟩
      · exact .inr ⟨small, fun x H5 e5 hx => q x H5 (e04.trans e5) hx⟩
/-- what the law hears of two readings -/
def LtE (K : PySem.W.Frag) : Sp := fun vs H Q _ => ∃ (u1 u2 u3 r1 r2 : V) (sg1 sg2 sg3 : List (Str × Nat)) (ts1 ts2 : List Tm), vs = [u1, u2, u3, r1, r2] ∧ FSig K H u1 sg1 ∧ FSig K H u2 sg2 ∧ FSig K H u3 sg3 ∧ SigOk sg1 ∧ SigOk sg2 ∧ SigOk sg3 ∧ GRd K H sg1 sg2 ts1 r1 ∧ GRd K H sg2 sg3 ts2 r2 ∧
  (((∃ t ∈ ts1, 60 < (t.rd (fOf sg2 ts2)).sz) ∧ ∀ H', Ex H H' → Q (.str "big") H') ∨ ((∀ t ∈ ts1, (t.rd (fOf sg2 ts2)).sz ≤ 60) ∧ ∀ a us H', Ex H H' → SqT K H' a us → TmsV K H' (rds (fOf sg2 ts2) ts1) us → Q (.ref a) H'))
theorem c_two_said (T : Txt mg) (D : Df K mg "_law_two_said" s__law_two_said ["_law_first", "_law_second", "_law_third", "_law_one", "_law_two"]) (er : ErR K mg B0 T0 R0 N0 G0) (c_two_readX : ClX P w K mg base 74 "two_read" (TwE K B0)) : Cl P w K mg base 75 "_law_two_said" (LtE K) := by
  refine cl_of (k := 74) D sc__law_two_said (fun vs H Q E h => ?_) (fun f cdv A outer s H vs Q E hr h => ?_)
  · obtain ⟨u1, u2, u3, r1, r2, sg1, sg2, sg3, ts1, ts2, rfl, _⟩ := h
    rfl
  · obtain ⟨u1, u2, u3, r1, r2, sg1, sg2, sg3, ts1, ts2, rfl, h1, h2, h3, so1, so2, so3, g1, g2, h⟩ := h
    refine ⟨_, (pss_one (ps_try_many rfl rfl takes_none5 (fun W pn xe tk _ => pss_one (ps_ret (pe_clX c_two_readX tk hr (by first | decide | omega) (by rfl) (pa_cons (pv 0) (pa_cons (pv 1) (pa_cons (pv 2) (pa_cons (pv 3) (pa_cons (pv 4) pa_nil)))))))) (.cons (b₀ := _) (suite := []) ⟨rfl, by decide, .inl er.b.g⟩ (fun _ _ _ _ _ _ _ => pss_one (ps_ret pe_str)) (.cons (b₀ := _) (suite := []) ⟨rfl, by decide, .inl er.r⟩ (fun _ _ _ _ _ _ _ => pss_one (ps_ret pe_str)) .nil)))), ?_⟩
    refine do_ret (do_cons (do_ev (ev_var rfl) fun H1 e1 => do_cons (do_ev (ev_var rfl) fun H2 e2 => do_cons (do_ev (ev_var rfl) fun H3 e3 => do_cons (do_ev (ev_var rfl) fun H4 e4 => do_cons (do_ev (ev_var rfl) fun H5 e5 => do_nil ?_))))))
    have e05 := (((e1.trans e2).trans e3).trans e4).trans e5
    refine ⟨u1, u2, u3, r1, r2, sg1, sg2, sg3, ts1, ts2, rfl, h1.ex e05, h2.ex e05, h3.ex e05, so1, so2, so3, g1.ex e05, g2.ex e05, ?_⟩
    rcases h with ⟨big, q⟩ | ⟨small, q⟩
    · exact .inl ⟨big, fun H6 e6 => ⟨true, er.bb, fun _ a na => s_ret ev_c fun H7 e7 => q H7 ((e05.trans e6).trans e7), (fun z => (by cases z))⟩⟩
    · exact .inr ⟨small, fun a us H6 e6 s t => q a us H6 (e05.trans e6) s t⟩
def chn (g : Str) : Nat → Tm → Tm
  | 0, t => t
  | n + 1, t => .deed g [chn g n t]
def sp_chain (K : PySem.W.Frag) : Sp := spX (fun (z : (Str × Nat) × Tm) vs H => (∃ v, vs = [.str z.1.1, vi z.1.2, v] ∧ TmV K H z.2 v) ∧ z.1.2 ≤ 100) (fun z v H => TmV K H (chn z.1.1 z.1.2 z.2) v)
theorem c_chain (T : Txt mg) (D : Df K mg "_law_chain" s__law_chain ["_law_name", "_law_many", "_law_term_here"]) : Cl P w K mg base 1 "_law_chain" (sp_chain K) := by
  refine cl_of (k := 0) D sc__law_chain (fun vs H Q E h => ?_) (fun f cdv A outer s H vs Q E hr h => ?_)
  · obtain ⟨z, ⟨⟨v, rfl, _⟩, _⟩, _⟩ := h
    rfl
  · obtain ⟨⟨⟨g, m⟩, t⟩, ⟨⟨v, rfl, tv⟩, m1⟩, q⟩ := h
    refine ⟨_, (pss_cons (ps_for PassesOwn.never (by rfl) (pi_range1 (by rfl) T.z_range (pa_cons (pv 1) pa_nil)) (pg_name (i := 3) sc__law_chain.nd rfl (.inl rfl))
        (pss_one (ps_set (i := 2) sc__law_chain.nd rfl (.inl rfl) (pe_tup (pa_cons pe_str (pa_cons (pv 0) (pa_cons (pe_tup (pa_cons (pv 2) pa_nil)) pa_nil)))))))
      (pss_one (ps_ret (pv 2)))), ?_⟩
    replace tv : TmV K H t v := tv
    replace m1 : m ≤ 100 := m1
    replace q : ∀ r H', Ex H H' → TmV K H' (chn g m t) r → Q r H' := q
    refine q_forR1 (n := (m : Int)) (ea_cons (ev_var rfl) ea_nil) ⟨by omega, by omega⟩ (fun i σ' H' => Ex H H' ∧ ∃ (x : V) (y : Option V), TmV K H' (chn g i t) x ∧ σ' = [some (.str g), some (vi m), some x, y])
      (fun H1 e1 => ⟨e1, v, none, tv.et (Dw.Ex.et e1), rfl⟩) (fun i σ' H1 hi hP => ?_) (fun σ' H1 hP => ?_)
    · obtain ⟨e1, x, y, hx, hσ⟩ := hP
      subst hσ
      show tAsg _ _ _ [some (.str g), some (vi m), some x, some (vi i)] H1
      refine do_asg (do_tup (do_cons (do_ev ev_c fun H2 e2 => do_cons (do_ev (ev_var rfl) fun H3 e3 => do_cons (do_tup (do_cons (do_ev (ev_var rfl) fun H4 e4 => do_nil ⟨by show 1 ≤ sizeLine; decide, fun r1 n1 => do_nil ⟨by show 3 ≤ sizeLine; decide, fun r2 n2 => ?_⟩⟩)))))))
      have x9 : Ex H4 (upd (upd H4 r1 (.tup [x])) r2 (.tup [.str "deed", .str g, .ref r1])) := (Ex.new n1).trans (Ex.new n2)
      have h2 : (upd (upd H4 r1 (.tup [x])) r2 (.tup [.str "deed", .str g, .ref r1])) r2 = some (.tup [.str "deed", .str g, .ref r1]) := upd_same
      have h1 : (upd (upd H4 r1 (.tup [x])) r2 (.tup [.str "deed", .str g, .ref r1])) r1 = some (.tup [x]) := Ex.new n2 _ _ upd_same
      generalize upd (upd H4 r1 (.tup [x])) r2 (.tup [.str "deed", .str g, .ref r1]) = H5 at *
      have e15 := ((e2.trans e3).trans e4).trans x9
      exact ⟨e1.trans e15, .ref r2, _, tmv_deed (st_of h2) (st_of h1) (TmsV.one (hx.et (Dw.Ex.et e15))), rfl⟩
    · obtain ⟨e1, x, y, hx, hσ⟩ := hP
      subst hσ
      rw [Int.toNat_natCast] at hx
      exact s_ret (ev_var rfl) fun H2 e2 => q x H2 (e1.trans e2) (hx.et (Dw.Ex.et e2))
end
end K80
end
section
namespace K80
open PySem PySem.Spec PyProof.Rows L2 Evl RZ Dw M20
theorem lay_str {z : Str} (h : PyData.strOk z = true) : Lay (.str z) := ⟨by rw [PyData.canLay0]; exact h, by rw [PyData.depth]; decide⟩
theorem cut_last {xs : List V} (h : 1 ≤ xs.length) : cutV xs none (some (-1)) = xs.dropLast ∧ HT.sIx xs.length xs.length (some (-1)) = xs.length - 1 := by
  have e : HT.sIx xs.length xs.length (some (-1)) = xs.length - 1 := by
    have e1 : HT.sIx xs.length xs.length (some (-1)) = ((-1 : Int) + (xs.length : Int)).toNat := by
      unfold HT.sIx
      exact if_pos (by decide)
    rw [e1]
    omega
  refine ⟨?_, e⟩
  unfold cutV
  rw [e, HT.sIx_none, Nat.sub_zero, List.drop_zero, List.dropLast_eq_take]
/-- the models that are none, as data -/
theorem mod_short {sg : List (Str × Nat)} {n : Int} {ds : List PyData} (h : ds.length ≠ sg.length) : modW sg (.tuple [.int n, .tuple ds]) ≠ .none := by
  rw [modW, modW2]
  split
  · rw [modW3, if_neg h]
    exact fun z => by cases z
  · exact fun z => by cases z
theorem mod_list {sg : List (Str × Nat)} {n : Int} {ds : List PyData} : modW sg (.tuple [.int n, .list ds]) ≠ .none := by
  rw [modW, modW2]
  split
  · exact fun z => by cases z
  · exact fun z => by cases z
theorem mod_cell {sg : List (Str × Nat)} {n : Nat} {ds : List PyData} (l1 : 1 ≤ sg.length) (l : ds.length = sg.length) : modW sg (.tuple [.int ((n : Nat) : Int), .tuple (ds.dropLast ++ [.tuple [.int ((n : Nat) : Int)]])]) ≠ .none := by
  rw [modW, modW2]
  split
  · have ln : (ds.dropLast ++ [PyData.tuple [.int ((n : Nat) : Int)]]).length = sg.length := by
      rw [List.length_append, List.length_dropLast]
      show ds.length - 1 + 1 = _
      omega
    rw [modW3, if_pos ln, modW4]
    cases hb : badK sg ((n : Nat) : Int).toNat (ds.dropLast ++ [PyData.tuple [.int ((n : Nat) : Int)]]) with
    | cons k r => exact fun z => by cases z
    | nil =>
      rw [Int.toNat_natCast]
      have at_ : (ds.dropLast ++ [PyData.tuple [.int ((n : Nat) : Int)]]).getD (sg.length - 1) .none = .tuple [.int ((n : Nat) : Int)] := by
        rw [List.getD_eq_getElem?_getD, List.getElem?_append_right (by rw [List.length_dropLast]; omega), List.length_dropLast, l, Nat.sub_self]
        rfl
      have odd : oddRow n [PyData.int ((n : Nat) : Int)] ≠ [] := by
        obtain ⟨r, e⟩ := oddRow_first (n := n) (i := 0) (cs := [PyData.int ((n : Nat) : Int)]) (by show 0 < 1; decide) (fun j h => absurd h (Nat.not_lt_zero _)) (by
          show belowB (n : Int) (.int ((n : Nat) : Int)) = false
          rw [belowB]
          simp)
        rw [e]
        exact fun z => by cases z
      have mem : sg.length - 1 ∈ oddT n (ds.dropLast ++ [PyData.tuple [.int ((n : Nat) : Int)]]) := by
        rw [oddT, List.mem_filter, List.mem_range]
        refine ⟨by omega, ?_⟩
        rw [at_]
        show (!(oddRow n [PyData.int ((n : Nat) : Int)]).isEmpty) = true
        cases h : oddRow n [PyData.int ((n : Nat) : Int)] with
        | nil => exact absurd h odd
        | cons a b => rfl
      have some_ : oddW n (ds.dropLast ++ [PyData.tuple [.int ((n : Nat) : Int)]]) ≠ none := by
        rw [oddW]
        cases h : oddT n (ds.dropLast ++ [PyData.tuple [.int ((n : Nat) : Int)]]) with
        | nil => rw [h] at mem; cases mem
        | cons k r =>
          have km : k ∈ oddT n (ds.dropLast ++ [PyData.tuple [.int ((n : Nat) : Int)]]) := by rw [h]; exact List.mem_cons_self ..
          rw [oddT, List.mem_filter] at km
          show (match oddRow n (cellsOf ((ds.dropLast ++ [PyData.tuple [.int ((n : Nat) : Int)]]).getD k .none)) with
            | j :: _ => some (k, j)
            | [] => none) ≠ none
          cases h2 : oddRow n (cellsOf ((ds.dropLast ++ [PyData.tuple [.int ((n : Nat) : Int)]]).getD k .none)) with
          | nil => rw [h2] at km; exact absurd km.2 (by decide)
          | cons a b => exact fun z => by cases z
      cases h : oddW n (ds.dropLast ++ [PyData.tuple [.int ((n : Nat) : Int)]]) with
      | none => exact absurd h some_
      | some e => exact fun z => by cases z
  · exact fun z => by cases z
section
variable {P : Program} {w : World} {K : PySem.W.Frag} {mg : Str → Option Value} {base : Heap} {σ : L2.St} {H H' : Hp} {B0 T0 R0 N0 G0 p c : Addr} {sg : List (Str × Nat)} {v : V} {m : Nat}
theorem ep_cutLast {ta tb : TE} {a : Addr} {xs : List V} (h : Ev ta σ H (.ref a)) (hx : SqT K H a xs) (hb : Ev tb σ H (.int (-1))) (hk : 1 ≤ xs.length) : EvP (tSl (rSlA K) ta tNoPart (tPart tb)) σ H (fun v H' => TupV K H' v xs.dropLast) := fun H1 e1 Q q =>
  h H1 e1 _ fun H2 e2 => hb H2 (e1.trans e2) _ fun H3 e3 => ⟨-1, rfl, a, xs, rfl, ex_t ((e1.trans e2).trans e3) hx, fun z => by
    have z2 : HT.sIx xs.length xs.length (some (-1)) = xs.length := z.2
    rw [(cut_last hk).2] at z2
    omega, fun _ p np => by
    rw [(cut_last hk).1]
    exact q _ _ ((e2.trans e3).trans (Ex.new np)) ⟨p, rfl, st_of upd_same⟩⟩
theorem tabs_dz {vs : List V} {ts : List (List Nat)} (pr : Paired (Nats K H) vs ts) : DzAll K p c H vs (ts.map tabD) := by
  have cs : ∀ t : List Nat, DzAll K p c H (t.map vi) (t.map intD) := fun t => by
    induction t with
    | nil => exact .nil
    | cons x t ih => exact .cons (.int _) ih
  induction pr with
  | nil => exact .nil
  | cons a b ih =>
    obtain ⟨r, rfl, s⟩ := a
    exact .cons (.tup s (cs _)) ih
/-- what is no model -/
def MbX (K : PySem.W.Frag) (p c : Addr) (sg : List (Str × Nat)) (v : V) (H : Hp) : Prop := ∃ d, Dz K p c H v d ∧ modW sg d ≠ .none
theorem MbX.st : ∀ v H H', Ex H H' → MbX K p c sg v H → MbX K p c sg v H' := fun _ _ _ e ⟨d, a, r⟩ => ⟨d, a.ex e, r⟩
/-- what is no term -/
def TnX (K : PySem.W.Frag) (sg : List (Str × Nat)) (v : V) (H : Hp) : Prop := ThN K H sg v
theorem TnX.st : ∀ v H H', Ex H H' → TnX K sg v H → TnX K sg v H' := fun _ _ _ e h => ThN.ex e h
theorem tn_zz (so : SigOk sg) : EvP (tTup (tCons (tC (.str "deed")) (tCons (tC (.str "zz")) (tCons (tTup tNil) tNil)))) σ H (TnX K sg) := fun H1 e Q q => do_tup (do_cons (do_ev ev_c fun H2 e2 => do_cons (do_ev ev_c fun H3 e3 => do_cons (do_tup (do_nil ⟨Nat.zero_le _, fun b nb => do_nil ⟨by show 3 ≤ sizeLine; decide, fun a na => by
  have x5 : Ex H1 (upd (upd H3 b (.tup [])) a (.tup [.str "deed", .str "zz", .ref b])) := ((e2.trans e3).trans (Ex.new nb)).trans (Ex.new na)
  have s : SqT K (upd (upd H3 b (.tup [])) a (.tup [.str "deed", .str "zz", .ref b])) a [.str "deed", .str "zz", .ref b] := st_of upd_same
  have hb : SqT K (upd (upd H3 b (.tup [])) a (.tup [.str "deed", .str "zz", .ref b])) b [] := st_of (Ex.new na _ _ upd_same)
  generalize upd (upd H3 b (.tup [])) a (.tup [.str "deed", .str "zz", .ref b]) = H5 at *
  have gz : Gd 3 22 (.str "zz") := gd_s (by decide)
  exact q _ H5 x5 (thn_odd (d := .tuple [.str "deed", .str "zz", .tuple []]) (.fl (.tup s (.cons (.str _) (.cons (.str _) (.cons (.tup hb .nil) .nil)))) rfl) (.many s hb (nozz so _) (by decide +kernel)) (gd_small (mem3 gd_deedS gz gd_tup0) (by show 3 ≤ 4; decide)))⟩⟩)))))
theorem tn_va : EvP (tTup (tCons (tC (.str "var")) (tCons (tC (.str "a")) tNil))) σ H (TnX K sg) := fun H1 e Q q => eu_tup (vs := [.str "var", .str "a"]) (ea_cons ev_c (ea_cons ev_c ea_nil)) (by show 2 ≤ 100000; decide) H1 e _ fun a H2 na e2 ha => by
  have s : SqT K H2 a [.str "var", .str "a"] := st_of ha
  exact q _ H2 e2 (thn_odd (d := .tuple [.str "var", .str "a"]) (.fl (.tup s (.cons (.str _) (.cons (.str _) .nil))) rfl) (.letter s rfl (by rw [inV_str]; decide)) (gd_small (mem2 (gd_s (by decide)) (gd_s (by decide))) (by show 2 ≤ 4; decide)))
def sp_refused (K : PySem.W.Frag) : Sp := fun vs H Q _ => ∃ (p c : Addr) (t : Nat) (u o r m : V) (sg sg2 : List (Str × Nat)) (ts : List Tm) (n : Nat) (tbs : List (List Nat)), vs = [.ref p, u, o, r, m] ∧ Pur H p c t ∧ t ≤ 80000 ∧ FSig K H u sg ∧ FSig K H o sg2 ∧ SigOk sg ∧ SigOk sg2 ∧ GRd K H sg sg2 ts r ∧ Mdl K H m n tbs ∧ MdlOk sg2 n tbs ∧
  ∀ H', Off H H' p c → Pur H' p c (t + 1) → Q (.bl true) H'
theorem c_refused (T : Txt mg) (D : Df K mg "_law_refused" s__law_refused ["_law_pile_here", "_law_first", "_law_second", "_law_how", "_law_model_here"]) (er : ErR K mg B0 T0 R0 N0 G0) (c_strange : Cl P w K mg base 3 "_law_strange" (sp_strange K)) (c_said : Cl P w K mg base 75 "_law_said" (LsE K)) (c_model_readN : ClX P w K mg base 12 "model_read" (spE N0 (MnPre K))) : Cl P w K mg base 76 "_law_refused" (sp_refused K) := by
  refine cl_of (k := 75) D sc__law_refused (fun vs H Q E h => ?_) (fun f cdv A outer s H vs Q E hr h => ?_)
  · obtain ⟨p, c, t, u, o, r, m, sg, sg2, ts, n, tbs, rfl, _⟩ := h
    rfl
  · obtain ⟨p, c, t, u, o, r, m, sg, sg2, ts, n, tbs, rfl, pu, big, hF, hG, so, so2, hR, hM, mo, q⟩ := h
    refine ⟨_, (pss_cons (ps_for PassesOwn.never (by rfl) (pi_list (pe_lst (pa_cons (pe_cl c_strange hr (by first | decide | omega) (by rfl) (pa_cons (pv 0) (pa_cons (pe_ix ix_tup (pe_ix ix_tup (pv 1) pe_int (fun _ _ => rfl)) pe_int (fun _ _ => rfl)) pa_nil))) (pa_cons (pe_tup (pa_cons pe_str (pa_cons pe_str (pa_cons (pe_tup pa_nil) pa_nil)))) (pa_cons (pe_tup (pa_cons pe_str (pa_cons pe_str pa_nil))) pa_nil))))) (pg_name (i := 5) sc__law_refused.nd rfl (.inl rfl))
        (pss_one (ps_if (pt_cmpR (op_neL hr) (pe_cl c_said hr (by first | decide | omega) (by rfl) (pa_cons (pv 1) (pa_cons (pv 2) (pa_cons (pv 3) (pa_cons (pv 5) pa_nil))))) pe_str (nomark _))
          (pss_one (ps_ret pe_bl))
          pss_nil)))
      (pss_cons (ps_asg (pv 4) (pg_tup (by rfl) (pgs_cons (pg_name (i := 6) sc__law_refused.nd rfl (.inl rfl)) (pgs_cons (pg_name (i := 7) sc__law_refused.nd rfl (.inl rfl)) pgs_nil))))
      (pss_cons (ps_for PassesOwn.never (by rfl) (pi_list (pe_lst (pa_cons pe_non (pa_cons (pe_tup (pa_cons pe_int (pa_cons (pv 7) pa_nil))) (pa_cons (pe_tup (pa_cons (pv 6) (pa_cons (pe_slice sl_tupA (pv 7) (po_some pe_int) po_none) pa_nil))) (pa_cons (pe_tup (pa_cons (pv 6) (pa_cons (pe_callTy call_list_of (by rfl) T.z_list (by decide +kernel) (pa_cons (pv 7) pa_nil)) pa_nil))) (pa_cons (pe_tup (pa_cons (pv 6) (pa_cons (pe_op op_catA (pe_slice sl_tupA (pv 7) po_none (po_some (pe_un un_neg pe_int))) (pe_tup (pa_cons (pe_tup (pa_cons (pv 6) pa_nil)) pa_nil))) pa_nil))) (pa_cons (pv 6) pa_nil)))))))) (pg_name (i := 5) sc__law_refused.nd rfl (.inl rfl))
        (pss_cons (ps_set (i := 8) sc__law_refused.nd rfl (.inl rfl) pe_non)
        (pss_cut (ps_try_trk (i := 9) rfl rfl rfl sc__law_refused.nd rfl rfl ⟨rfl, by decide, .inl er.n.g⟩ (fun W pn xe tk _ => (pss_one (ps_expr (pe_clX c_model_readN tk hr (by first | decide | omega) (by rfl) (pa_cons (pv 1) (pa_cons (pv 2) (pa_cons (pv 3) (pa_cons (pv 5) pa_nil)))))))) (fun a pn => pss_one (ps_set (i := 8) sc__law_refused.nd rfl (.inl rfl) (pv 9))))
        (pss_one (ps_if (pt_not (pt_val (pe_callB call_isC (by rfl) T.z_isinstance (by decide +kernel) (pa_cons (pv 8) (pa_cons (pe_gv (by rfl) er.g) pa_nil)))))
          (pss_one (ps_ret pe_bl))
          pss_nil)))))
      (pss_one (ps_ret pe_bl))))), ?_⟩
    obtain ⟨sa, o1, ps, rfl, hsa, sod, prs⟩ := id hF
    have sqS : SqT K H sa (ps.map V.ref) := .inl (.inr ⟨o1, hsa⟩)
    have lps := paired_len prs
    have sl1 := so.l1
    have h0 : 0 < ps.length := by omega
    obtain ⟨d0, ed0, hd0⟩ := paired_at prs (List.getElem?_eq_getElem h0)
    have nm0 := so.nm _ (List.mem_of_getElem? ed0)
    have n6 := mo.n6
    obtain ⟨ma, mu, rfl, sqM, mb, mus, rfl, sqB, tab⟩ := id hM
    have ltm := paired_len tab
    have ltb := mo.len
    have s21 := so2.l1
    have s24 := so2.l4
    have neq : ∀ {x : V} {σ' : L2.St} {H1 : Hp}, ThN K H1 sg x → FSig K H1 (.ref sa) sg → FSig K H1 o sg2 → GRd K H1 sg sg2 ts r → σ'[1]? = some (some (.ref sa)) → σ'[2]? = some (some o) → σ'[3]? = some (some r) → σ'[5]? = some (some x) → EvT (tTest (tOp (rNeL K) (tCall (LsE K) [] E0 (tCons (tVar 1) (tCons (tVar 2) (tCons (tVar 3) (tCons (tVar 5) tNil))))) (tC (.str "term")))) σ' H1 false := fun {x σ' H1} th f1 f2 f3 h1 h2 h3 h5 => et_test fun H2 e2 Q2 q2 => do_op ((ea_cons (ev_var h1) (ea_cons (ev_var h2) (ea_cons (ev_var h3) (ea_cons (ev_var h5) ea_nil)))) H2 e2 _ fun H3 e3 => by
      obtain ⟨b, bv, okb, _, s4, al⟩ := th
      have e13 := e2.trans e3
      exact ⟨_, _, _, _, sg, sg2, ts, rfl, f1.ex e13, f2.ex e13, so, so2, f3.ex e13, .inl ⟨b, tm_pre so (f1.ex e13) (bv.ex e13) okb s4 al, fun H4 e4 => do_ev ev_c fun H5 e5 => ⟨.str "term", .str "term", .str _, .str _, lay_str (by decide +kernel), lay_str (by decide +kernel), by
        rw [SeqAt.eqv_refl _ (lay_str (z := "term") (by decide +kernel)).1]
        exact q2 H5 ((e3.trans e4).trans e5)⟩⟩⟩)
    refine q_forX (K := K) (do_lst (do_cons ((ea_cons (ev_var rfl) (ea_cons (ev_op (ev_op (ev_var rfl) ev_c (rv_ixT (K := K) (xs := ps.map V.ref) sqS (atI_vi (k := 0) (by rw [List.getElem?_map, List.getElem?_eq_getElem h0]; rfl)))) ev_c (rv_ixT (K := K) hd0 (atI_vi (k := 0) rfl))) ea_nil)) H (Ex.refl _) _ fun H1 e1 => ⟨p, c, t, d0.1, sg, rfl, pu.ex e1, big, nm0, so, fun v0 H2 o2 pu2 st => do_cons (tn_zz (K := K) (σ := _) (H := H2) so H2 (Ex.refl _) _ fun v1 H3 e3 hv1 => do_cons (tn_va (K := K) (sg := sg) (σ := _) (H := H3) H3 (Ex.refl _) _ fun v2 H4 e4 hv2 => do_nil ⟨by show 3 ≤ sizeLine; decide, fun la nla => ?_⟩))⟩)))
    have x5 : Ex H4 (upd H4 la (.lst [v0, v1, v2])) := Ex.new nla
    have hla : (upd H4 la (.lst [v0, v1, v2])) la = some (.lst [v0, v1, v2]) := upd_same
    generalize upd H4 la (.lst [v0, v1, v2]) = H5 at *
    have e25 := (e3.trans e4).trans x5
    have o05 : Off H H5 p c := ((Off.of_ex e1).trans o2).trans (.of_ex e25)
    have pu5 := pu2.ex e25
    have F5 := hF.off pu o05
    have G5 := hG.off pu o05
    have R5 := hR.et (o05.et pu)
    have allt : ∀ x ∈ [v0, v1, v2], ThN K H5 sg x := fun x hx => by
      rcases List.mem_cons.mp hx with rfl | hx
      · exact st.1.ex e25
      rcases List.mem_cons.mp hx with rfl | hx
      · exact ThN.ex (e4.trans x5) hv1
      · rw [List.mem_singleton.mp hx]
        exact ThN.ex x5 hv2
    refine ⟨la, rfl, ⟨_, sq_of hla⟩, for_x (K := K) (xs := [v0, v1, v2]) (fun i σ' H' => Ex H5 H' ∧ ∃ y5 : Option V, σ' = [some (.ref p), some (.ref sa), some o, some r, some (.ref ma), y5, none, none, none, none]) ⟨Ex.refl _, none, rfl⟩ (fun i σ' H' _ h => sq_of (h.1 _ _ hla)) (fun i x σ' H6 hx hP => ?_) (fun σ' H6 hP => ?_)⟩
    · obtain ⟨e6, y5, hσ⟩ := hP
      subst hσ
      show tIfS _ _ _ _ [some (.ref p), some (.ref sa), some o, some r, some (.ref ma), some x, none, none, none, none] H6
      refine s_if (b := false) (neq ((allt x (List.mem_of_getElem? hx)).ex e6) (F5.ex e6) (G5.ex e6) (R5.ex e6) rfl rfl rfl rfl) (fun hb => by cases hb) (fun _ H7 e7 => ⟨e6.trans e7, _, rfl⟩)
    obtain ⟨e6, y5, hσ⟩ := hP
    subst hσ
    have o06 := o05.trans (.of_ex e6)
    have sqM6 := o06.et pu _ _ sqM
    have sqB6 := o06.et pu _ _ sqB
    have pu6 := pu5.ex e6
    have F6 := F5.ex e6
    have G6 := G5.ex e6
    have R6 := R5.ex e6
    have tab6 : Paired (Nats K H6) mus tbs := paired_imp (fun _ _ z => z.et (o06.et pu)) tab
    refine ⟨.ref ma, rfl, ma, _, rfl, sqM6, rfl, _, _, rfl, _, _, rfl, rfl, ?_⟩
    show tSeq _ _ _ [some (.ref p), some (.ref sa), some o, some r, some (.ref ma), y5, some (vi n), some (.ref mb), none, none] H6
    have dz6 : DzAll K p c H6 mus (tbs.map tabD) := tabs_dz tab6
    have lds : (tbs.map tabD).length = sg2.length := by rw [List.length_map, ltb]
    have b1 : EvP (tC .non) [some (.ref p), some (.ref sa), some o, some r, some (.ref ma), y5, some (vi n), some (.ref mb), none, none] H6 (MbX K p c sg2) := ep_ev ev_c fun _ _ => ⟨.none, .non, fun z => by cases z⟩
    have b2 : EvP (tTup (tCons (tC (.int 0)) (tCons (tVar 7) tNil))) [some (.ref p), some (.ref sa), some o, some r, some (.ref ma), y5, some (vi n), some (.ref mb), none, none] H6 (MbX K p c sg2) := fun H1 e Q q => eu_tup (vs := [.int 0, .ref mb]) (ea_cons ev_c (ea_cons (ev_var rfl) ea_nil)) (by show 2 ≤ 100000; decide) H1 e _ fun a H2 na e2 ha => q _ H2 e2 ⟨.tuple [.int 0, .tuple (tbs.map tabD)], .tup (st_of ha) (.cons (.int 0) (.cons (.tup (ex_t (e.trans e2) sqB6) (dz6.ex (e.trans e2))) .nil)), mod_size rfl⟩
    have b3 : EvP (tTup (tCons (tVar 6) (tCons (tSl (rSlA K) (tVar 7) (tPart (tC (.int 1))) tNoPart) tNil))) [some (.ref p), some (.ref sa), some o, some r, some (.ref ma), y5, some (vi n), some (.ref mb), none, none] H6 (MbX K p c sg2) := fun H1 e Q q => do_tup (do_cons (do_ev (ev_var rfl) fun I1 f1 => do_cons (ep_cutFrom (K := K) (k := 1) (ev_var rfl) (ex_t (e.trans f1) sqB6) ev_c (by omega) I1 (Ex.refl _) _ fun u I2 f2 hu => do_nil ⟨by show 2 ≤ sizeLine; decide, fun a na => by
      obtain ⟨b, rfl, sb⟩ := hu
      exact q _ _ ((f1.trans f2).trans (Ex.new na)) ⟨.tuple [.int (n : Int), .tuple ((tbs.map tabD).drop 1)], .tup (st_of upd_same) (.cons (.int _) (.cons (.tup (ex_t (Ex.new na) sb) ((dz6.drop 1).ex (((e.trans f1).trans f2).trans (Ex.new na)))) .nil)), mod_short (by rw [List.length_drop]; omega)⟩⟩)))
    have b4 : EvP (tTup (tCons (tVar 6) (tCons (tCB (fun xs H Q => ∃ p ys, xs = [.ref p] ∧ (SqL K H p ys ∨ SqT K H p ys) ∧ ∀ l, H l = none → Q (.ref l) (upd H l (.lst ys))) (tCons (tVar 7) tNil)) tNil))) [some (.ref p), some (.ref sa), some o, some r, some (.ref ma), y5, some (vi n), some (.ref mb), none, none] H6 (MbX K p c sg2) := fun H1 e Q q => do_tup (do_cons (do_ev (ev_var rfl) fun I1 f1 => do_cons (do_cb (do_cons (do_ev (ev_var rfl) fun I2 f2 => do_nil ⟨mb, mus, rfl, .inr (ex_t (e.trans (f1.trans f2)) sqB6), fun l nl => do_nil ⟨by show 2 ≤ sizeLine; decide, fun a na => by
      obtain ⟨lp, lc⟩ := (pu6.ex (e.trans (f1.trans f2))).fresh nl
      have x3 := (Ex.new (o := .lst mus) nl).trans (Ex.new (o := .tup [vi n, .ref l]) na)
      exact q _ _ ((f1.trans f2).trans x3) ⟨.tuple [.int (n : Int), .list (tbs.map tabD)], .tup (st_of upd_same) (.cons (.int _) (.cons (.lst (Ex.new na _ _ upd_same) lp lc (dz6.ex ((e.trans (f1.trans f2)).trans x3))) .nil)), mod_list⟩⟩⟩)))))
    have b5 : EvP (tTup (tCons (tVar 6) (tCons (tOp (rCatA K) (tSl (rSlA K) (tVar 7) tNoPart (tPart (tUn (fun x H Q => ∃ i, x = .int i ∧ Q (.int (-i)) H) (tC (.int 1))))) (tTup (tCons (tTup (tCons (tVar 6) tNil)) tNil))) tNil))) [some (.ref p), some (.ref sa), some o, some r, some (.ref ma), y5, some (vi n), some (.ref mb), none, none] H6 (MbX K p c sg2) := fun H1 e Q q => do_tup (do_cons (do_ev (ev_var rfl) fun I1 f1 => do_cons (do_op (ep_cutLast (K := K) (ev_var rfl) (ex_t (e.trans f1) sqB6) (ev_un (z := .int (-1)) ev_c (fun H1 _ Q q => ⟨1, rfl, q H1 (Ex.refl _)⟩)) (by omega) I1 (Ex.refl _) _ fun u I2 f2 hu => do_tup (do_cons (do_tup (do_cons (do_ev (ev_var rfl) fun I3 f3 => do_nil ⟨by show 1 ≤ sizeLine; decide, fun r0 n0 => do_nil ⟨by show 1 ≤ sizeLine; decide, fun r1 n1 => by
      obtain ⟨b, rfl, sb⟩ := hu
      have x4 : Ex I3 (upd (upd I3 r0 (.tup [vi n])) r1 (.tup [.ref r0])) := (Ex.new n0).trans (Ex.new n1)
      have hr1 : (upd (upd I3 r0 (.tup [vi n])) r1 (.tup [.ref r0])) r1 = some (.tup [.ref r0]) := upd_same
      have hr0 : (upd (upd I3 r0 (.tup [vi n])) r1 (.tup [.ref r0])) r0 = some (.tup [vi n]) := Ex.new n1 _ _ upd_same
      generalize upd (upd I3 r0 (.tup [vi n])) r1 (.tup [.ref r0]) = I4 at *
      have e14 := ((f1.trans f2).trans f3).trans x4
      have ld : mus.dropLast.length = mus.length - 1 := List.length_dropLast
      have fin : ∀ (a : Addr) (I5 : Hp), Ex I4 I5 → SqT K I5 a (mus.dropLast ++ [.ref r0]) → tNil [some (.ref p), some (.ref sa), some o, some r, some (.ref ma), y5, some (vi n), some (.ref mb), none, none] I5 fun xs H2 => (vi n :: .ref a :: xs).length ≤ sizeLine ∧ ∀ l, H2 l = none → Q (.ref l) (upd H2 l (.tup (vi n :: .ref a :: xs))) := fun a I5 f5 sa5 => do_nil ⟨by show 2 ≤ sizeLine; decide, fun a2 na2 => by
        have e15 := (e14.trans f5).trans (Ex.new (o := .tup [vi n, .ref a]) na2)
        have dl : DzAll K p c H6 mus.dropLast ((tbs.map tabD).dropLast) := by
          rw [List.dropLast_eq_take, List.dropLast_eq_take, lds, ltm, ltb]
          exact dz6.take _
        exact q _ _ e15 ⟨.tuple [.int (n : Int), .tuple ((tbs.map tabD).dropLast ++ [.tuple [.int (n : Int)]])], .tup (st_of upd_same) (.cons (.int _) (.cons (.tup (ex_t (Ex.new na2) sa5) ((dl.ex (e.trans e15)).app (.cons (.tup (st_of ((f5.trans (Ex.new na2)) _ _ hr0)) (.cons (.int _) .nil)) .nil))) .nil)), mod_cell s21 lds⟩⟩
      refine ⟨b, r1, mus.dropLast, [.ref r0], rfl, rfl, ex_t (f3.trans x4) sb, st_of hr1, sz_of (by rw [ld]; show mus.length - 1 + 1 ≤ 100000; omega), fun z => ?_, fun _ z => (by cases z), fun ne _ p3 np3 => ?_⟩
      · exact fin r1 I4 (Ex.refl _) (by rw [z]; exact st_of hr1)
      · exact fin p3 _ (Ex.new np3) (st_of upd_same)⟩⟩))))))))
    have b6 : EvP (tVar 6) [some (.ref p), some (.ref sa), some o, some r, some (.ref ma), y5, some (vi n), some (.ref mb), none, none] H6 (MbX K p c sg2) := ep_ev (ev_var rfl) fun _ _ => ⟨.int (n : Int), .int _, fun z => by cases z⟩
    refine q_forP (K := K) (Pq := LsR (MbX K p c sg2) p c 6) (ep_lstR (R := MbX K p c sg2) MbX.st (n := 6) (eas_cons MbX.st b1 (eas_cons MbX.st b2 (eas_cons MbX.st b3 (eas_cons MbX.st b4 (eas_cons MbX.st b5 (eas_cons MbX.st b6 eas_nil)))))) (by decide) pu6) fun lv H7 e7 hl => ?_
    obtain ⟨l, xs, rfl, hxs, lp, lc, ln, all⟩ := hl
    refine ⟨l, xs, rfl, sq_of hxs, fun i σ' H' => Ex H7 H' ∧ ∃ y5 y8 : Option V, σ' = [some (.ref p), some (.ref sa), some o, some r, some (.ref ma), y5, some (vi n), some (.ref mb), y8, none], ⟨Ex.refl _, _, _, rfl⟩, fun i σ' H' _ h => sq_of (h.1 _ _ hxs), fun i x σ' H8 hx hP => ?_, fun σ' H8 hP => ?_⟩
    · obtain ⟨e8, z5, z8, hσ⟩ := hP
      subst hσ
      show tSeq _ _ _ [some (.ref p), some (.ref sa), some o, some r, some (.ref ma), some x, some (vi n), some (.ref mb), z8, none] H8
      refine q_asg ev_c fun H9 e9 => ?_
      obtain ⟨d, hd, bad⟩ := all x (List.mem_of_getElem? hx)
      refine q_cut (M := fun σ' H' => Ex H7 H' ∧ ∃ a : Addr, TyC K H' (.ref a) (.ref N0) ∧ σ' = [some (.ref p), some (.ref sa), some o, some r, some (.ref ma), some x, some (vi n), some (.ref mb), some (.ref a), none]) ?_ (fun σ' H' hM => ?_)
      · refine do_callS ((ea_cons (ev_var rfl) (ea_cons (ev_var rfl) (ea_cons (ev_var rfl) (ea_cons (ev_var rfl) ea_nil)))) H9 (Ex.refl _) _ fun I1 f1 => ?_)
        have e71 := (e8.trans e9).trans f1
        have e61 := e7.trans e71
        exact ⟨((p, c), d), ⟨.ref sa, o, r, x, sg, sg2, ts, rfl, F6.ex e61, G6.ex e61, so, so2, R6.ex e61, hd.ex e71, bad⟩, fun I2 f2 => ⟨er.nn, fun a na => s_asg (ev_var rfl) fun I3 f3 => ⟨(e71.trans f2).trans ((Ex.new na).trans f3), a, .inr ⟨a, N0, rfl, f3 _ _ upd_same, er.n.c, rfl⟩, rfl⟩⟩⟩
      · obtain ⟨e10, a, tc, hσ⟩ := hM
        subst hσ
        refine s_if (b := false) (et_is (et_not (et_val (ev_isC (ev_var rfl) ev_c (.own _) tc er.ng))) rfl) (fun hb => by cases hb) (fun _ H11 e11 => ⟨e10.trans e11, _, _, rfl⟩)
    · obtain ⟨e8, z5, z8, hσ⟩ := hP
      subst hσ
      exact s_ret ev_c fun H9 e9 => q H9 (o06.trans (.of_ex ((e7.trans e8).trans e9))) (pu6.ex ((e7.trans e8).trans e9))
end
end K80
end
section
namespace K80
open PySem PySem.Spec PyProof.Rows L2 Evl RZ Dw M20
theorem sigOk_of {sg : List (Str × Nat)} (h : (1 ≤ sg.length ∧ sg.length ≤ 4) ∧ (∀ p ∈ sg, (1 ≤ p.1.length ∧ p.1.length ≤ 4) ∧ (∀ c ∈ p.1.cps.toList, c ∈ letters.cps.toList) ∧ p.2 ≤ 2) ∧ (sg.map (·.1)).Nodup) : SigOk sg := ⟨h.1.1, h.1.2, fun p hp => ⟨(h.2.1 p hp).1.1, (h.2.1 p hp).1.2, (h.2.1 p hp).2.1⟩, fun p hp => (h.2.1 p hp).2.2, h.2.2⟩
def sgA : List (Str × Nat) := [("f", 1), ("c", 0)]
def sgD : List (Str × Nat) := [("g", 2), ("e", 0)]
def rsD : List Tm := [.deed "g" [.var "u", .var "u"], .deed "e" []]
theorem soA : SigOk sgA := sigOk_of (by decide +kernel)
theorem soD : SigOk sgD := sigOk_of (by decide +kernel)
theorem chn_sz (g : Str) (t : Tm) : ∀ n, (chn g n t).sz = n + t.sz
  | 0 => by rw [chn, Nat.zero_add]
  | n + 1 => by
    rw [chn, Tm.sz, szs, szs, chn_sz g t n]
    omega
theorem chn_ok {sg : List (Str × Nat)} {g : Str} {t : Tm} (m : (g, 1) ∈ sg) (h : t.ok sg) : ∀ n, (chn g n t).ok sg
  | 0 => by
    rw [chn]
    exact h
  | n + 1 => by
    rw [chn, Tm.ok]
    exact ⟨m, by rw [oks, oks]; exact ⟨chn_ok m h n, trivial⟩⟩
def dbl : Nat → Tm
  | 0 => .deed "e" []
  | n + 1 => .deed "g" [dbl n, dbl n]
theorem dbl_sz : ∀ n, (dbl n).sz + 1 = 2 ^ (n + 1)
  | 0 => by
    rw [dbl, Tm.sz, szs]
  | n + 1 => by
    have ih := dbl_sz n
    rw [dbl, Tm.sz, szs, szs, szs, Nat.pow_succ 2 (n + 1)]
    omega
theorem dbl_ok : ∀ n, (dbl n).ok sgD
  | 0 => by
    rw [dbl, Tm.ok, oks]
    exact ⟨by decide +kernel, trivial⟩
  | n + 1 => by
    rw [dbl, Tm.ok, oks, oks, oks]
    exact ⟨(by show (("g" : Str), 2) ∈ sgD; decide +kernel), dbl_ok n, dbl_ok n, trivial⟩
theorem f_f : fOf sgA rsD "f" = .deed "g" [.var "u", .var "u"] := fOf_at (p := ("f", 1)) (i := 0) soA.nd rfl rfl
theorem f_c : fOf sgA rsD "c" = .deed "e" [] := fOf_at (p := ("c", 0)) (i := 1) soA.nd rfl rfl
theorem rd_dbl : ∀ n, (chn "f" n (.deed "c" [])).rd (fOf sgA rsD) = dbl n
  | 0 => by
    rw [chn, Tm.rd, f_c, Tm.put, puts, dbl]
  | n + 1 => by
    have z : zf (rds (fOf sgA rsD) [chn "f" n (.deed "c" [])]) "u" = dbl n := zf_at (i := 0) rfl (by rw [rds, rd_dbl n]; rfl)
    rw [chn, Tm.rd, f_f, Tm.put, puts, puts, puts, Tm.put, z, dbl]
section
variable {P : Program} {w : World} {K : PySem.W.Frag} {mg : Str → Option Value} {base : Heap} {σ : L2.St} {H H' : Hp} {B0 T0 R0 N0 G0 p c : Addr} {sg : List (Str × Nat)} {v : V} {m : Nat}
/-! written terms -/
theorem lit_var {x : Str} : EvP (tTup (tCons (tC (.str "var")) (tCons (tC (.str x)) tNil))) σ H (fun v H' => TmV K H' (.var x) v) := fun H1 e Q q => eu_tup (vs := [.str "var", .str x]) (ea_cons ev_c (ea_cons ev_c ea_nil)) (by show 2 ≤ 100000; decide) H1 e _ fun a H2 _ e2 hp => q _ H2 e2 (tmv_var (st_of hp))
def EvTs (K : PySem.W.Frag) (ta : TA) (σ : L2.St) (H : Hp) (ts : List Tm) : Prop := Dw.EvAP ta σ H (fun vs H' => TmsV K H' ts vs)
theorem ets_nil : EvTs K tNil σ H [] := fun H1 _ Q q => q [] H1 (Ex.refl _) (by show TmsV K H1 [] []; rw [TmsV])
theorem ets_cons {te : TE} {tr : TA} {t : Tm} {ts : List Tm} (h : EvP te σ H (fun v H' => TmV K H' t v)) (hr : EvTs K tr σ H ts) : EvTs K (tCons te tr) σ H (t :: ts) := fun H1 e Q q => do_cons (h H1 e _ fun v H2 e2 hv => hr H2 (e.trans e2) _ fun vs H3 e3 hvs => q _ H3 (e2.trans e3) (by show TmsV K H3 (t :: ts) (v :: vs); rw [TmsV]; exact ⟨v, vs, rfl, hv.et (Dw.Ex.et e3), hvs⟩))
theorem lit_deed {ta : TA} {f : Str} {ts : List Tm} (h : EvTs K ta σ H ts) (l : ts.length ≤ 100) : EvP (tTup (tCons (tC (.str "deed")) (tCons (tC (.str f)) (tCons (tTup ta) tNil)))) σ H (fun v H' => TmV K H' (.deed f ts) v) := fun H1 e Q q => do_tup (do_cons (do_ev ev_c fun H2 e2 => do_cons (do_ev ev_c fun H3 e3 => do_cons (do_tup (h H3 ((e.trans e2).trans e3) _ fun vs H4 e4 hvs => ⟨sz_of (by rw [hvs.len]; omega), fun r1 n1 => do_nil ⟨by show 3 ≤ sizeLine; decide, fun r2 n2 => by
  have x9 : Ex H4 (upd (upd H4 r1 (.tup vs)) r2 (.tup [.str "deed", .str f, .ref r1])) := (Ex.new n1).trans (Ex.new n2)
  have h2 : (upd (upd H4 r1 (.tup vs)) r2 (.tup [.str "deed", .str f, .ref r1])) r2 = some (.tup [.str "deed", .str f, .ref r1]) := upd_same
  have h1 : (upd (upd H4 r1 (.tup vs)) r2 (.tup [.str "deed", .str f, .ref r1])) r1 = some (.tup vs) := Ex.new n2 _ _ upd_same
  exact q _ _ (((e2.trans e3).trans e4).trans x9) (tmv_deed (st_of h2) (st_of h1) (hvs.et (Dw.Ex.et x9)))⟩⟩)))))
theorem lit_row {ta : TA} {ts : List Tm} (h : EvTs K ta σ H ts) (l : ts.length ≤ 100) : EvP (tTup ta) σ H (fun v H' => ∃ a us, v = .ref a ∧ SqT K H' a us ∧ TmsV K H' ts us) := fun H1 e Q q => do_tup (h H1 e _ fun vs H2 e2 hvs => ⟨sz_of (by rw [hvs.len]; omega), fun r nr => q _ _ (e2.trans (Ex.new nr)) ⟨r, vs, rfl, st_of upd_same, hvs.et (Dw.Ex.et (Ex.new nr))⟩⟩)
def EvSg (K : PySem.W.Frag) (ta : TA) (σ : L2.St) (H : Hp) (sg : List (Str × Nat)) : Prop := Dw.EvAP ta σ H (fun vs H' => ∃ ps : List Addr, vs = ps.map V.ref ∧ Paired (fun p d => SqT K H' p [.str d.1, vi d.2]) ps sg)
theorem esg_nil : EvSg K tNil σ H [] := fun H1 _ Q q => q [] H1 (Ex.refl _) ⟨[], rfl, .nil⟩
theorem esg_cons {tr : TA} {f : Str} {k : Nat} {sg : List (Str × Nat)} (hr : EvSg K tr σ H sg) : EvSg K (tCons (tTup (tCons (tC (.str f)) (tCons (tC (.int (k : Int))) tNil))) tr) σ H ((f, k) :: sg) := fun H1 e Q q => do_cons (eu_tup (vs := [.str f, .int (k : Int)]) (ea_cons ev_c (ea_cons ev_c ea_nil)) (by show 2 ≤ 100000; decide) H1 e _ fun a H2 _ e2 ha => hr H2 (e.trans e2) _ fun vs H3 e3 hvs => by
  obtain ⟨ps, rfl, pr⟩ := hvs
  exact q _ H3 (e2.trans e3) ⟨a :: ps, rfl, .cons (st_of (e3 _ _ ha)) pr⟩)
theorem lit_sig {ta : TA} {sg : List (Str × Nat)} (h : EvSg K ta σ H sg) (l : sg.length ≤ 4) : EvP (tTupF ta) σ H (fun v H' => FSig K H' v sg) := fun H1 e Q q => do_tupF (h H1 e _ fun vs H2 e2 hvs => by
  obtain ⟨ps, rfl, pr⟩ := hvs
  have lp := paired_len pr
  exact ⟨sz_of (by rw [List.length_map]; omega), fun r o nr od => q _ _ (e2.trans (Ex.new nr)) ⟨r, o, ps, rfl, upd_same, od, paired_imp (fun _ _ z => ex_t (Ex.new nr) z) pr⟩⟩)
/-- [x, "big"][int(b)] -/
theorem do_pick {tb : TE} {i : Nat} {y : V} {b : Bool} {Q : VK} (hy : Ev (tVar i) σ H y) (hb : Ev tb σ H (.bl b)) (q : ∀ H', Ex H H' → Q (if b = true then .str "big" else y) H') : tOp (rIxL K) (tLst (tCons (tVar i) (tCons (tC (.str "big")) tNil))) (tCB (fun xs H Q => (∃ i, xs = [.int i] ∧ Q (.int i) H) ∨ ∃ k, xs = [.bl k] ∧ Q (.int (if k then 1 else 0)) H) (tCons tb tNil)) σ H Q :=
  do_op (el_lst (vs := [y, .str "big"]) (ea_cons hy (ea_cons ev_c ea_nil)) (by show 2 ≤ 100000; decide) H (Ex.refl _) _ fun l H2 nl e2 hl => ev_intB hb H2 e2 _ fun H3 e3 => ⟨l, [y, .str "big"], _, if b = true then .str "big" else y, rfl, rfl, sq_of (e3 _ _ hl), by cases b <;> rfl, q H3 (e2.trans e3)⟩)
theorem do_pickG {tj : TE} {i n k : Nat} {y : V} {Q : VK} (hy : Ev (tVar i) σ H y) (hj : Ev tj σ H (vi n)) (q : ∀ H', Ex H H' → Q (if decide (k < n) = true then .str "big" else y) H') : tOp (rIxL K) (tLst (tCons (tVar i) (tCons (tC (.str "big")) tNil))) (tCB (fun xs H Q => (∃ i, xs = [.int i] ∧ Q (.int i) H) ∨ ∃ k, xs = [.bl k] ∧ Q (.int (if k then 1 else 0)) H) (tCons (tOp rGt tj (tC (.int (k : Int)))) tNil)) σ H Q :=
  do_pick hy (ev_is (ev_op hj ev_c rv_I0) (by
    show V.bl (decide (((n : Nat) : Int) > (k : Int))) = V.bl (decide (k < n))
    congr 1
    exact decide_eq_decide.mpr ⟨fun z => by omega, fun z => by omega⟩)) q
theorem c_doubled (T : Txt mg) (D : Df K mg "_law_doubled" s__law_doubled []) (c_said : Cl P w K mg base 75 "_law_said" (LsE K)) : Cl P w K mg base 76 "_law_doubled" (spX (fun (_ : Unit) vs _ => vs = []) (fun _ v _ => v = .bl true)) := by
  refine cl_of (k := 75) D sc__law_doubled (fun vs H Q E h => ?_) (fun f cdv A outer s H vs Q E hr h => ?_)
  · obtain ⟨z, rfl, _⟩ := h
    rfl
  · obtain ⟨z, rfl, q⟩ := h
    refine ⟨_, (pss_cons (ps_set (i := 0) sc__law_doubled.nd rfl (.inl rfl) (pe_tupF (pa_cons (pe_tup (pa_cons pe_str (pa_cons pe_int pa_nil))) (pa_cons (pe_tup (pa_cons pe_str (pa_cons pe_int pa_nil))) pa_nil))))
      (pss_cons (ps_set (i := 1) sc__law_doubled.nd rfl (.inl rfl) (pe_tupF (pa_cons (pe_tup (pa_cons pe_str (pa_cons pe_int pa_nil))) (pa_cons (pe_tup (pa_cons pe_str (pa_cons pe_int pa_nil))) pa_nil))))
      (pss_cons (ps_set (i := 2) sc__law_doubled.nd rfl (.inl rfl) (pe_tup (pa_cons (pe_tup (pa_cons pe_str (pa_cons pe_str (pa_cons (pe_tup (pa_cons (pe_tup (pa_cons pe_str (pa_cons pe_str pa_nil))) (pa_cons (pe_tup (pa_cons pe_str (pa_cons pe_str pa_nil))) pa_nil))) pa_nil)))) (pa_cons (pe_tup (pa_cons pe_str (pa_cons pe_str (pa_cons (pe_tup pa_nil) pa_nil)))) pa_nil))))
      (pss_cons (ps_set (i := 3) sc__law_doubled.nd rfl (.inl rfl) (pe_tup (pa_cons pe_str (pa_cons pe_str (pa_cons (pe_tup pa_nil) pa_nil)))))
      (pss_cons (ps_set (i := 4) sc__law_doubled.nd rfl (.inl rfl) (pe_tup (pa_cons pe_str (pa_cons pe_str (pa_cons (pe_tup pa_nil) pa_nil)))))
      (pss_cons (ps_for PassesOwn.never (by rfl) (pi_range1 (by rfl) T.z_range (pa_cons pe_int pa_nil)) (pg_name (i := 5) sc__law_doubled.nd rfl (.inl rfl))
        (pss_cons (ps_if (pt_cmpR (op_neL hr) (pe_cl c_said hr (by first | decide | omega) (by rfl) (pa_cons (pv 0) (pa_cons (pv 1) (pa_cons (pv 2) (pa_cons (pv 3) pa_nil))))) (pe_ix ix_list (pe_lst (pa_cons (pv 4) (pa_cons pe_str pa_nil))) (pe_callTy call_int1 (by rfl) T.z_int (by decide +kernel) (pa_cons (pe_cmpR op_gt (pv 5) pe_int (nomark _)) pa_nil)) (fun _ _ => rfl)) (nomark _))
          (pss_one (ps_ret pe_bl))
          pss_nil)
        (pss_cons (ps_set (i := 3) sc__law_doubled.nd rfl (.inl rfl) (pe_tup (pa_cons pe_str (pa_cons pe_str (pa_cons (pe_tup (pa_cons (pv 3) pa_nil)) pa_nil)))))
        (pss_one (ps_set (i := 4) sc__law_doubled.nd rfl (.inl rfl) (pe_tup (pa_cons pe_str (pa_cons pe_str (pa_cons (pe_tup (pa_cons (pv 4) (pa_cons (pv 4) pa_nil))) pa_nil)))))))))
      (pss_one (ps_ret pe_bl)))))))), ?_⟩
    replace q : ∀ r H', Ex H H' → r = .bl true → Q r H' := q
    refine q_asgP (lit_sig (K := K) (sg := sgA) (esg_cons (k := 1) (esg_cons (k := 0) esg_nil)) (by decide)) fun sv H1 e1 hF => ?_
    refine q_asgP (lit_sig (K := K) (sg := sgD) (esg_cons (k := 2) (esg_cons (k := 0) esg_nil)) (by decide)) fun ov H2 e2 hG => ?_
    refine q_asgP (lit_row (K := K) (ts := rsD) (ets_cons (lit_deed (ets_cons lit_var (ets_cons lit_var ets_nil)) (by decide)) (ets_cons (lit_deed ets_nil (by decide)) ets_nil)) (by decide)) fun rv H3 e3 hR => ?_
    refine q_asgP (lit_deed (K := K) (f := "c") (ts := []) ets_nil (by decide)) fun cv H4 e4 hc => ?_
    refine q_asgP (lit_deed (K := K) (f := "e") (ts := []) ets_nil (by decide)) fun dv H5 e5 hd => ?_
    have F5 := hF.ex (((e2.trans e3).trans e4).trans e5)
    have G5 := hG.ex ((e3.trans e4).trans e5)
    have R5 : GRd K H5 sgA sgD rsD rv := ⟨let ⟨a, us, x, y, z⟩ := hR; ⟨a, us, x, ex_t (e4.trans e5) y, z.et (Dw.Ex.et (e4.trans e5))⟩, rfl, fun i h h2 => by
      have : i = 0 ∨ i = 1 := by
        have : i < 2 := h
        omega
      rcases this with rfl | rfl
      · show (Tm.deed "g" [.var "u", .var "u"]).ok sgD ∧ (Tm.deed "g" [.var "u", .var "u"]).sz ≤ 8 ∧ ∀ x ∈ (Tm.deed "g" [.var "u", .var "u"]).ls, x ∈ pls 1
        rw [Tm.ok, oks, oks, oks, Tm.ok, Tm.sz, szs, szs, szs, Tm.sz, Tm.ls, lss, lss, lss, Tm.ls]
        decide +kernel
      · show (Tm.deed "e" []).ok sgD ∧ (Tm.deed "e" []).sz ≤ 8 ∧ ∀ x ∈ (Tm.deed "e" []).ls, x ∈ pls 0
        rw [Tm.ok, oks, Tm.sz, szs, Tm.ls, lss]
        decide +kernel⟩
    have e05 := (((e1.trans e2).trans e3).trans e4).trans e5
    show tSeq _ _ _ [some sv, some ov, some rv, some cv, some dv, none] H5
    refine q_forR1 (n := (8 : Int)) (ea_cons ev_c ea_nil) ⟨by omega, by omega⟩ (fun i σ' H' => Ex H5 H' ∧ ∃ (x y : V) (y5 : Option V), TmV K H' (chn "f" i (.deed "c" [])) x ∧ TmV K H' (dbl i) y ∧ σ' = [some sv, some ov, some rv, some x, some y, y5])
      (fun H6 e6 => ⟨e6, cv, dv, none, hc.et (Dw.Ex.et (e5.trans e6)), hd.et (Dw.Ex.et e6), rfl⟩) (fun i σ' H6 hi hP => ?_) (fun σ' H6 hP => ?_)
    · obtain ⟨e6, x, y, y5, hx, hy, hσ⟩ := hP
      subst hσ
      have i8 : i < 8 := by omega
      show tSeq _ _ _ [some sv, some ov, some rv, some x, some y, some (vi i)] H6
      have okx : (chn "f" i (.deed "c" [])).ok sgA := chn_ok (by decide +kernel) (by rw [Tm.ok, oks]; exact ⟨by decide +kernel, trivial⟩) i
      have szx : (chn "f" i (.deed "c" [])).sz ≤ 60 := by
        rw [chn_sz, Tm.sz, szs]
        omega
      have ds := dbl_sz i
      have i8' : i = 0 ∨ i = 1 ∨ i = 2 ∨ i = 3 ∨ i = 4 ∨ i = 5 ∨ i = 6 ∨ i = 7 := by omega
      refine q_when (b := false) (et_test fun H7 e7 Q2 q2 => do_op ((ea_cons (ev_var rfl) (ea_cons (ev_var rfl) (ea_cons (ev_var rfl) (ea_cons (ev_var rfl) ea_nil)))) H7 e7 _ fun H8 e8 => ?_)) (fun hb => by cases hb) (fun _ H7 e7 => ?_)
      · have e58 := (e6.trans e7).trans e8
        refine ⟨sv, ov, rv, x, sgA, sgD, rsD, rfl, F5.ex e58, G5.ex e58, soA, soD, R5.ex e58, .inr ⟨_, hx.et (Dw.Ex.et (e7.trans e8)), okx, szx, ?_⟩⟩
        rw [rd_dbl]
        by_cases big : 4 < i
        · refine .inl ⟨by rcases i8' with rfl | rfl | rfl | rfl | rfl | rfl | rfl | rfl <;> omega, fun H9 e9 => do_pickG (K := K) (k := 4) (n := i) (y := y) (ev_var rfl) (ev_var rfl) fun H10 e10 => ?_⟩
          rw [decide_eq_true big]
          refine ⟨.str "big", .str "big", .str _, .str _, lay_str (by decide +kernel), lay_str (by decide +kernel), ?_⟩
          rw [SeqAt.eqv_refl _ (lay_str (z := "big") (by decide +kernel)).1]
          exact q2 H10 ((e8.trans e9).trans e10)
        · refine .inr ⟨by rcases i8' with rfl | rfl | rfl | rfl | rfl | rfl | rfl | rfl <;> omega, fun r H9 e9 hr9 => do_pickG (K := K) (k := 4) (n := i) (y := y) (ev_var rfl) (ev_var rfl) fun H10 e10 => ?_⟩
          rw [decide_eq_false big]
          have lay : Lay (dbl i).data := lay_tm soD (dbl_ok i) (by have := hgt_sz (dbl i); rcases i8' with rfl | rfl | rfl | rfl | rfl | rfl | rfl | rfl <;> omega)
          refine ⟨(dbl i).data, (dbl i).data, (hr9.et (Dw.Ex.et e10)).dp, (hy.et (Dw.Ex.et (((e7.trans e8).trans e9).trans e10))).dp, lay, lay, ?_⟩
          rw [SeqAt.eqv_refl _ lay.1]
          exact q2 H10 ((e8.trans e9).trans e10)
      · refine q_asgP ((lit_deed (K := K) (f := "f") (ts := [chn "f" i (.deed "c" [])]) (ets_cons (ep_ev (P := fun v H' => TmV K H' (chn "f" i (.deed "c" [])) v) (ev_var rfl) fun H' e => hx.et (Dw.Ex.et (e7.trans e))) ets_nil) (by show 1 ≤ 100; decide))) fun x2 H8 e8 hx2 => ?_
        have hy8 := hy.et (Dw.Ex.et (e7.trans e8))
        refine s_asgP ((lit_deed (K := K) (f := "g") (ts := [dbl i, dbl i]) (ets_cons (ep_ev (P := fun v H' => TmV K H' (dbl i) v) (ev_var rfl) fun H' e => hy8.et (Dw.Ex.et e)) (ets_cons (ep_ev (P := fun v H' => TmV K H' (dbl i) v) (ev_var rfl) fun H' e => hy8.et (Dw.Ex.et e)) ets_nil)) (by show 2 ≤ 100; decide))) fun y2 H9 e9 hy2 => ?_
        exact ⟨((e6.trans e7).trans e8).trans e9, x2, y2, _, hx2.et (Dw.Ex.et e9), hy2, rfl⟩
    · obtain ⟨e6, x, y, y5, hx, hy, hσ⟩ := hP
      subst hσ
      exact s_ret ev_c fun H7 e7 => q _ H7 ((e05.trans e6).trans e7) rfl
end
end K80
end
section
namespace K80
open PySem PySem.Spec PyProof.Rows L2 Evl RZ Dw M20
def sgE : List (Str × Nat) := [("g", 1), ("e", 0)]
def sgP : List (Str × Nat) := [("p", 2), ("r", 0)]
def sgK : List (Str × Nat) := [("g", 1), ("k", 1), ("e", 0)]
theorem soE : SigOk sgE := sigOk_of (by decide +kernel)
theorem soP : SigOk sgP := sigOk_of (by decide +kernel)
theorem soK : SigOk sgK := sigOk_of (by decide +kernel)
def tE : Tm := .deed "e" []
def tC0 : Tm := .deed "c" []
def tR : Tm := .deed "r" []
def rs1 : List Tm := [chn "g" 1 (.var "u"), tE]
def rs2 : List Tm := [chn "g" 1 (.var "u"), chn "g" 1 tE]
def rs3 : List Tm := [tE, tE]
def one0 : List Tm := [.deed "k" [chn "g" 5 (.var "u")], tE]
def two0 : List Tm := [.deed "p" [.var "u", .var "u"], tR, tR]
theorem okE {sg : List (Str × Nat)} (h : (("e" : Str), 0) ∈ sg) : tE.ok sg := by
  rw [tE, Tm.ok, oks]
  exact ⟨h, trivial⟩
theorem okC : tC0.ok sgA := by
  rw [tC0, Tm.ok, oks]
  exact ⟨by decide +kernel, trivial⟩
theorem okV {sg : List (Str × Nat)} : (Tm.var "u").ok sg := by
  rw [Tm.ok]
  decide +kernel
theorem chn_ls (g : Str) (t : Tm) : ∀ n, (chn g n t).ls = t.ls
  | 0 => by rw [chn]
  | n + 1 => by rw [chn, Tm.ls, lss, lss, List.append_nil, chn_ls g t n]
theorem chn_hgt (g : Str) (t : Tm) : ∀ n, (chn g n t).hgt = n + t.hgt
  | 0 => by rw [chn, Nat.zero_add]
  | n + 1 => by
    rw [chn, Tm.hgt, hgts, hgts, chn_hgt g t n]
    omega
theorem rd_1 : ∀ n, (chn "f" n tC0).rd (fOf sgA rs1) = chn "g" n tE
  | 0 => by
    rw [chn, tC0, Tm.rd, show fOf sgA rs1 "c" = tE from fOf_at (p := ("c", 0)) (i := 1) soA.nd rfl rfl, tE, Tm.put, puts, chn]
  | n + 1 => by
    have z : zf (rds (fOf sgA rs1) [chn "f" n tC0]) "u" = chn "g" n tE := zf_at (i := 0) rfl (by rw [rds, rd_1 n]; rfl)
    rw [chn, Tm.rd, show fOf sgA rs1 "f" = chn "g" 1 (.var "u") from fOf_at (p := ("f", 1)) (i := 0) soA.nd rfl rfl, chn, chn, Tm.put, puts, puts, Tm.put, z, chn]
theorem rd_2 : ∀ n, (chn "f" n tC0).rd (fOf sgA rs2) = chn "g" (n + 1) tE
  | 0 => by
    rw [chn, tC0, Tm.rd, show fOf sgA rs2 "c" = chn "g" 1 tE from fOf_at (p := ("c", 0)) (i := 1) soA.nd rfl rfl, chn, chn, tE, Tm.put, puts, puts, Tm.put, puts]
  | n + 1 => by
    have z : zf (rds (fOf sgA rs2) [chn "f" n tC0]) "u" = chn "g" (n + 1) tE := zf_at (i := 0) rfl (by rw [rds, rd_2 n]; rfl)
    rw [chn, Tm.rd, show fOf sgA rs2 "f" = chn "g" 1 (.var "u") from fOf_at (p := ("f", 1)) (i := 0) soA.nd rfl rfl, chn, chn, Tm.put, puts, puts, Tm.put, z]
    rfl
theorem rd_k : (Tm.deed "k" [chn "g" 5 (.var "u")]).rd (fOf sgK two0) = tR := by
  rw [Tm.rd, show fOf sgK two0 "k" = tR from fOf_at (p := ("k", 1)) (i := 1) soK.nd rfl rfl, tR, Tm.put, puts]
theorem rd_e : tE.rd (fOf sgK two0) = tR := by
  rw [tE, Tm.rd, show fOf sgK two0 "e" = tR from fOf_at (p := ("e", 0)) (i := 2) soK.nd rfl rfl, tR, Tm.put, puts]
theorem rd_two : rds (fOf sgK two0) one0 = [tR, tR] := by
  rw [one0, rds, rds, rds, rd_k, rd_e]
theorem sz_e : tE.sz = 1 := by rw [tE, Tm.sz, szs]
theorem sz_c : tC0.sz = 1 := by rw [tC0, Tm.sz, szs]
theorem sz_r : tR.sz = 1 := by rw [tR, Tm.sz, szs]
theorem ls_e : tE.ls = [] := by rw [tE, Tm.ls, lss]
theorem ls_r : tR.ls = [] := by rw [tR, Tm.ls, lss]
def Gd1 (sg2 : List (Str × Nat)) (k : Nat) (t : Tm) : Prop := t.ok sg2 ∧ t.sz ≤ 8 ∧ ∀ x ∈ t.ls, x ∈ pls k
theorem gd_e {sg : List (Str × Nat)} (h : (("e" : Str), 0) ∈ sg) (k : Nat) : Gd1 sg k tE := ⟨okE h, by rw [sz_e]; decide, fun x hx => by
  rw [ls_e] at hx
  cases hx⟩
theorem gd_gu : Gd1 sgE 1 (chn "g" 1 (.var "u")) := ⟨chn_ok (by decide +kernel) okV 1, by rw [chn_sz, Tm.sz]; decide, fun x hx => by
  rw [chn_ls, Tm.ls, List.mem_singleton] at hx
  rw [hx]
  decide +kernel⟩
theorem gd_ge : Gd1 sgE 0 (chn "g" 1 tE) := ⟨chn_ok (by decide +kernel) (okE (by decide +kernel)) 1, by rw [chn_sz, sz_e]; decide, fun x hx => by
  rw [chn_ls, ls_e] at hx
  cases hx⟩
theorem gd_k : Gd1 sgK 1 (.deed "k" [chn "g" 5 (.var "u")]) := ⟨by
  rw [Tm.ok, oks, oks]
  exact ⟨(by show (("k" : Str), 1) ∈ sgK; decide +kernel), chn_ok (by decide +kernel) okV 5, trivial⟩, by
  rw [Tm.sz, szs, szs, chn_sz, Tm.sz]
  decide, fun x hx => by
  rw [Tm.ls, lss, lss, List.append_nil, chn_ls, Tm.ls, List.mem_singleton] at hx
  rw [hx]
  decide +kernel⟩
theorem gd_p : Gd1 sgP 1 (.deed "p" [.var "u", .var "u"]) := ⟨by
  rw [Tm.ok, oks, oks, oks]
  exact ⟨(by show (("p" : Str), 2) ∈ sgP; decide +kernel), okV, okV, trivial⟩, by
  rw [Tm.sz, szs, szs, szs, Tm.sz]
  decide, fun x hx => by
  have : x = "u" := by
    rw [Tm.ls, lss, lss, lss, Tm.ls] at hx
    simpa using hx
  rw [this]
  decide +kernel⟩
theorem gd_r (k : Nat) : Gd1 sgP k tR := ⟨by
  rw [tR, Tm.ok, oks]
  exact ⟨by decide +kernel, trivial⟩, by rw [sz_r]; decide, fun x hx => by
  rw [ls_r] at hx
  cases hx⟩
section
variable {P : Program} {w : World} {K : PySem.W.Frag} {mg : Str → Option Value} {base : Heap} {σ : L2.St} {H H' : Hp} {B0 T0 R0 N0 G0 p c : Addr} {sg : List (Str × Nat)} {v : V} {m : Nat}
theorem grd_2 {sg2 : List (Str × Nat)} {p0 p1 : Str × Nat} {t0 t1 : Tm} (h : ∃ a us, v = .ref a ∧ SqT K H a us ∧ TmsV K H [t0, t1] us) (g0 : Gd1 sg2 p0.2 t0) (g1 : Gd1 sg2 p1.2 t1) : GRd K H [p0, p1] sg2 [t0, t1] v := ⟨h, rfl, fun i h h2 => by
  have : i = 0 ∨ i = 1 := by
    have : i < 2 := h
    omega
  rcases this with rfl | rfl
  · exact g0
  · exact g1⟩
theorem grd_3 {sg2 : List (Str × Nat)} {p0 p1 p2 : Str × Nat} {t0 t1 t2 : Tm} (h : ∃ a us, v = .ref a ∧ SqT K H a us ∧ TmsV K H [t0, t1, t2] us) (g0 : Gd1 sg2 p0.2 t0) (g1 : Gd1 sg2 p1.2 t1) (g2 : Gd1 sg2 p2.2 t2) : GRd K H [p0, p1, p2] sg2 [t0, t1, t2] v := ⟨h, rfl, fun i h h2 => by
  have : i = 0 ∨ i = 1 ∨ i = 2 := by
    have : i < 3 := h
    omega
  rcases this with rfl | rfl | rfl
  · exact g0
  · exact g1
  · exact g2⟩
theorem wrong_bigT {t : Tm} {K : PySem.W.Frag} {H : Hp} {v : V} (tv : TmV K H t v) (ok : t.ok sg) (h : 60 < t.sz) : wrongL (t.bt.met []) ≠ .none := by
  rw [wrongL_fine (all_met t.bt [] (bt_allT t)), if_pos (by rw [met_len, (bt_all t tv ok).2.2.2]; exact h)]
  intro z
  cases z
/-- what the law hears, set against what is due -/
theorem et_said {tr tm tb : TE} {i j : Nat} {s1 s2 : V} {sg2 : List (Str × Nat)} {ts : List Tm} {t : Tm} {d : PyData} {E : XK} (h0 : σ[i]? = some (some s1)) (h1 : σ[j]? = some (some s2)) (hF : FSig K H s1 sg) (hG : FSig K H s2 sg2) (so : SigOk sg) (so2 : SigOk sg2)
    (hr : EvP tr σ H (fun v H' => GRd K H' sg sg2 ts v)) (hm : EvP tm σ H (fun v H' => TmV K H' t v)) (ok : t.ok sg) (hb : EvP tb σ H (fun v H' => Dp K H' v d)) (l : Lay d)
    (due : (60 < t.sz ∧ t.sz ≤ 100 ∧ d = .str "term") ∨ (t.sz ≤ 60 ∧ ((60 < (t.rd (fOf sg ts)).sz ∧ d = .str "big") ∨ ((t.rd (fOf sg ts)).sz ≤ 60 ∧ d = (t.rd (fOf sg ts)).data)))) :
    EvT (tTest (tOp (rNeL K) (tCall (LsE K) [] E (tCons (tVar i) (tCons (tVar j) (tCons tr (tCons tm tNil))))) tb)) σ H false := et_test fun H1 e1 Q q => do_op (do_cons (do_ev (ev_var h0) fun H2 e2 => do_cons (do_ev (ev_var h1) fun H3 e3 => do_cons (hr H3 ((e1.trans e2).trans e3) _ fun rv H4 e4 hR => do_cons (hm H4 (((e1.trans e2).trans e3).trans e4) _ fun tv H5 e5 hm5 => do_nil (by
  have e15 := (((e1.trans e2).trans e3).trans e4).trans e5
  have fin : ∀ (v : V) (H6 : Hp), Ex H5 H6 → Dp K H6 v d → tb σ H6 fun y H7 => rNeL K v y H7 Q := fun v H6 e6 hv => hb H6 (e15.trans e6) _ fun y H7 e7 hy => ⟨d, d, dp_ex e7 hv, hy, l, l, by
    rw [SeqAt.eqv_refl d l.1]
    exact q H7 (((((e2.trans e3).trans e4).trans e5).trans e6).trans e7)⟩
  refine ⟨s1, s2, rv, tv, sg, sg2, ts, rfl, hF.ex e15, hG.ex e15, so, so2, hR.ex e5, ?_⟩
  rcases due with ⟨a, b, rfl⟩ | ⟨a, ⟨b, rfl⟩ | ⟨b, rfl⟩⟩
  · have bt := bt_all t hm5 ok
    exact .inl ⟨t.bt, ⟨⟨⟨s1, tv, rfl, hF.ex e15, bt.1⟩, so, bt.2.1, by show t.bt.sz ≤ 100; rw [bt.2.2.2]; exact b⟩, wrong_bigT hm5 ok a⟩, fun H6 e6 => fin _ H6 e6 (.str _)⟩
  · exact .inr ⟨t, hm5, ok, a, .inl ⟨b, fun H6 e6 => fin _ H6 e6 (.str _)⟩⟩
  · exact .inr ⟨t, hm5, ok, a, .inr ⟨b, fun x H6 e6 hx => fin x H6 e6 hx.dp⟩⟩))))))
/-- _law_chain(g, n, a variable) -/
theorem ep_chn {i n : Nat} {g : Str} {t : Tm} {E : XK} (hi : σ[i]? = some (some v)) (tv : TmV K H t v) (hn : n ≤ 100) : EvP (tCall (sp_chain K) [] E (tCons (tC (.str g)) (tCons (tC (.int (n : Int))) (tCons (tVar i) tNil)))) σ H (fun v H' => TmV K H' (chn g n t) v) := ep_call ((g, n), t) (ea_cons ev_c (ea_cons ev_c (ea_cons (ev_var hi) ea_nil))) (fun H1 e1 => ⟨⟨_, rfl, tv.et (Dw.Ex.et e1)⟩, hn⟩)
theorem ep_is {i : Nat} {t : Tm} (hi : σ[i]? = some (some v)) (tv : TmV K H t v) : EvP (tVar i) σ H (fun v H' => TmV K H' t v) := ep_ev (P := fun v H' => TmV K H' t v) (ev_var hi) fun H' e => tv.et (Dw.Ex.et e)
theorem ep_lit0 {f : Str} : EvP (tTup (tCons (tC (.str "deed")) (tCons (tC (.str f)) (tCons (tTup tNil) tNil)))) σ H (fun v H' => TmV K H' (.deed f []) v) := lit_deed (K := K) (ts := []) ets_nil (by decide)
theorem c_sizes_right (T : Txt mg) (D : Df K mg "_law_sizes_right" s__law_sizes_right []) (c_said : Cl P w K mg base 75 "_law_said" (LsE K)) (c_two_said : Cl P w K mg base 75 "_law_two_said" (LtE K)) (c_chain : Cl P w K mg base 1 "_law_chain" (sp_chain K)) : Cl P w K mg base 76 "_law_sizes_right" (spX (fun (_ : Unit) vs _ => vs = []) (fun _ v _ => v = .bl true)) := by
  refine cl_of (k := 75) D sc__law_sizes_right (fun vs H Q E h => ?_) (fun f cdv A outer s H vs Q E hr h => ?_)
  · obtain ⟨z, rfl, _⟩ := h
    rfl
  · obtain ⟨z, rfl, q⟩ := h
    refine ⟨_, (pss_cons (ps_asg (pe_tup (pa_cons (pe_tupF (pa_cons (pe_tup (pa_cons pe_str (pa_cons pe_int pa_nil))) (pa_cons (pe_tup (pa_cons pe_str (pa_cons pe_int pa_nil))) pa_nil))) (pa_cons (pe_tupF (pa_cons (pe_tup (pa_cons pe_str (pa_cons pe_int pa_nil))) (pa_cons (pe_tup (pa_cons pe_str (pa_cons pe_int pa_nil))) pa_nil))) (pa_cons (pe_tupF (pa_cons (pe_tup (pa_cons pe_str (pa_cons pe_int pa_nil))) (pa_cons (pe_tup (pa_cons pe_str (pa_cons pe_int pa_nil))) pa_nil))) pa_nil)))) (pg_tup (by rfl) (pgs_cons (pg_name (i := 0) sc__law_sizes_right.nd rfl (.inl rfl)) (pgs_cons (pg_name (i := 1) sc__law_sizes_right.nd rfl (.inl rfl)) (pgs_cons (pg_name (i := 2) sc__law_sizes_right.nd rfl (.inl rfl)) pgs_nil)))))
      (pss_cons (ps_asg (pe_tup (pa_cons (pe_tup (pa_cons pe_str (pa_cons pe_str pa_nil))) (pa_cons (pe_tup (pa_cons pe_str (pa_cons pe_str (pa_cons (pe_tup pa_nil) pa_nil)))) (pa_cons (pe_tup (pa_cons pe_str (pa_cons pe_str (pa_cons (pe_tup pa_nil) pa_nil)))) (pa_cons (pe_tup (pa_cons pe_str (pa_cons pe_str (pa_cons (pe_tup pa_nil) pa_nil)))) pa_nil))))) (pg_tup (by rfl) (pgs_cons (pg_name (i := 3) sc__law_sizes_right.nd rfl (.inl rfl)) (pgs_cons (pg_name (i := 4) sc__law_sizes_right.nd rfl (.inl rfl)) (pgs_cons (pg_name (i := 5) sc__law_sizes_right.nd rfl (.inl rfl)) (pgs_cons (pg_name (i := 6) sc__law_sizes_right.nd rfl (.inl rfl)) pgs_nil))))))
      (pss_cons (ps_set (i := 7) sc__law_sizes_right.nd rfl (.inl rfl) (pe_cl c_chain hr (by first | decide | omega) (by rfl) (pa_cons pe_str (pa_cons pe_int (pa_cons (pv 4) pa_nil)))))
      (pss_cons (ps_if (pt_cmpR (op_neL hr) (pe_cl c_said hr (by first | decide | omega) (by rfl) (pa_cons (pv 0) (pa_cons (pv 1) (pa_cons (pe_tup (pa_cons (pe_cl c_chain hr (by first | decide | omega) (by rfl) (pa_cons pe_str (pa_cons pe_int (pa_cons (pv 3) pa_nil)))) (pa_cons (pv 5) pa_nil))) (pa_cons (pv 7) pa_nil))))) (pe_cl c_chain hr (by first | decide | omega) (by rfl) (pa_cons pe_str (pa_cons pe_int (pa_cons (pv 5) pa_nil)))) (nomark _))
        (pss_one (ps_ret pe_bl))
        pss_nil)
      (pss_cons (ps_if (pt_cmpR (op_neL hr) (pe_cl c_said hr (by first | decide | omega) (by rfl) (pa_cons (pv 0) (pa_cons (pv 1) (pa_cons (pe_tup (pa_cons (pe_cl c_chain hr (by first | decide | omega) (by rfl) (pa_cons pe_str (pa_cons pe_int (pa_cons (pv 3) pa_nil)))) (pa_cons (pe_cl c_chain hr (by first | decide | omega) (by rfl) (pa_cons pe_str (pa_cons pe_int (pa_cons (pv 5) pa_nil)))) pa_nil))) (pa_cons (pv 7) pa_nil))))) pe_str (nomark _))
        (pss_one (ps_ret pe_bl))
        pss_nil)
      (pss_cons (ps_if (pt_cmpR (op_neL hr) (pe_cl c_said hr (by first | decide | omega) (by rfl) (pa_cons (pv 0) (pa_cons (pv 1) (pa_cons (pe_tup (pa_cons (pv 5) (pa_cons (pv 5) pa_nil))) (pa_cons (pe_cl c_chain hr (by first | decide | omega) (by rfl) (pa_cons pe_str (pa_cons pe_int (pa_cons (pv 4) pa_nil)))) pa_nil))))) pe_str (nomark _))
        (pss_one (ps_ret pe_bl))
        pss_nil)
      (pss_cons (ps_par (i := 8) (j := 9) (by rfl) sc__law_sizes_right.nd rfl rfl (by decide) rfl rfl (pa_cons (pe_tup (pa_cons (pe_tup (pa_cons pe_str (pa_cons pe_str (pa_cons (pe_tup (pa_cons (pe_cl c_chain hr (by first | decide | omega) (by rfl) (pa_cons pe_str (pa_cons pe_int (pa_cons (pv 3) pa_nil)))) pa_nil)) pa_nil)))) (pa_cons (pv 5) pa_nil))) (pa_cons (pe_tup (pa_cons (pe_tup (pa_cons pe_str (pa_cons pe_str (pa_cons (pe_tup (pa_cons (pv 3) (pa_cons (pv 3) pa_nil))) pa_nil)))) (pa_cons (pv 6) (pa_cons (pv 6) pa_nil)))) pa_nil)) (by rfl))
      (pss_one (ps_ret (pe_cmpR (op_eqD hr.units) (pe_cl c_two_said hr (by first | decide | omega) (by rfl) (pa_cons (pv 0) (pa_cons (pe_tupF (pa_cons (pe_tup (pa_cons pe_str (pa_cons pe_int pa_nil))) (pa_cons (pe_tup (pa_cons pe_str (pa_cons pe_int pa_nil))) (pa_cons (pe_tup (pa_cons pe_str (pa_cons pe_int pa_nil))) pa_nil)))) (pa_cons (pv 2) (pa_cons (pv 8) (pa_cons (pv 9) pa_nil)))))) (pe_tup (pa_cons (pv 6) (pa_cons (pv 6) pa_nil))) (nomark _))))))))))), ?_⟩
    replace q : ∀ r H', Ex H H' → r = .bl true → Q r H' := q
    refine do_setG (do_tup (do_cons (lit_sig (K := K) (sg := sgA) (esg_cons (k := 1) (esg_cons (k := 0) esg_nil)) (by decide) H (Ex.refl _) _ fun s1 H1 e1 h1 => do_cons (lit_sig (K := K) (H := H1) (sg := sgE) (esg_cons (k := 1) (esg_cons (k := 0) esg_nil)) (by decide) H1 (Ex.refl _) _ fun s2 H2 e2 h2 => do_cons (lit_sig (K := K) (H := H2) (sg := sgP) (esg_cons (k := 2) (esg_cons (k := 0) esg_nil)) (by decide) H2 (Ex.refl _) _ fun s3 H3 e3 h3 => do_nil ⟨by show 3 ≤ sizeLine; decide, fun a na => ?_⟩)))))
    refine ⟨a, _, rfl, st_of (K := K) upd_same, rfl, _, _, rfl, _, _, rfl, _, _, rfl, rfl, ?_⟩
    have x4 : Ex H3 (upd H3 a (.tup [s1, s2, s3])) := Ex.new na
    generalize upd H3 a (.tup [s1, s2, s3]) = H4 at *
    have F4 := h1.ex ((e2.trans e3).trans x4)
    have G4 := h2.ex (e3.trans x4)
    have P4 := h3.ex x4
    have e04 := ((e1.trans e2).trans e3).trans x4
    show tSeq _ _ _ [some s1, some s2, some s3, none, none, none, none, none, none, none] H4
    refine do_setG (do_tup (do_cons (lit_var (K := K) (x := "u") H4 (Ex.refl _) _ fun vu H5 e5 hu => do_cons (ep_lit0 (K := K) (H := H5) (f := "c") H5 (Ex.refl _) _ fun vc H6 e6 hc => do_cons (ep_lit0 (K := K) (H := H6) (f := "e") H6 (Ex.refl _) _ fun ve H7 e7 he => do_cons (ep_lit0 (K := K) (H := H7) (f := "r") H7 (Ex.refl _) _ fun vr H8 e8 hv => do_nil ⟨by show 4 ≤ sizeLine; decide, fun a2 na2 => ?_⟩))))))
    refine ⟨a2, _, rfl, st_of (K := K) upd_same, rfl, _, _, rfl, _, _, rfl, _, _, rfl, _, _, rfl, rfl, ?_⟩
    have x9 : Ex H8 (upd H8 a2 (.tup [vu, vc, ve, vr])) := Ex.new na2
    generalize upd H8 a2 (.tup [vu, vc, ve, vr]) = H9 at *
    have e49 := (((e5.trans e6).trans e7).trans e8).trans x9
    have F9 := F4.ex e49
    have G9 := G4.ex e49
    have P9 := P4.ex e49
    have U9 : TmV K H9 (.var "u") vu := hu.et (Dw.Ex.et (((e6.trans e7).trans e8).trans x9))
    have C9 : TmV K H9 tC0 vc := hc.et (Dw.Ex.et ((e7.trans e8).trans x9))
    have E9 : TmV K H9 tE ve := he.et (Dw.Ex.et (e8.trans x9))
    have R9 : TmV K H9 tR vr := hv.et (Dw.Ex.et x9)
    have e09 := e04.trans e49
    show tSeq _ _ _ [some s1, some s2, some s3, some vu, some vc, some ve, some vr, none, none, none] H9
    refine q_asgP (ep_chn (K := K) (i := 4) (n := 59) (g := "f") rfl C9 (by decide)) fun vm H10 e10 hm => ?_
    show tSeq _ _ _ [some s1, some s2, some s3, some vu, some vc, some ve, some vr, some vm, none, none] H10
    have F10 := F9.ex e10
    have G10 := G9.ex e10
    have P10 := P9.ex e10
    have U10 := U9.et (Dw.Ex.et e10)
    have C10 := C9.et (Dw.Ex.et e10)
    have E10 := E9.et (Dw.Ex.et e10)
    have R10 := R9.et (Dw.Ex.et e10)
    have e010 := e09.trans e10
    have okm : (chn "f" 59 tC0).ok sgA := chn_ok (by decide +kernel) okC 59
    have szm : (chn "f" 59 tC0).sz ≤ 60 := by rw [chn_sz, sz_c]; decide
    have E' : ∀ {X : Hp}, Ex H10 X → TmV K X tE ve := fun e => E10.et (Dw.Ex.et e)
    refine q_when (b := false) (et_said (K := K) (i := 0) (j := 1) (t := chn "f" 59 tC0) (ts := rs1) (d := (chn "g" 59 tE).data) rfl rfl F10 G10 soA soE
      (EvP.imp (lit_row (K := K) (ts := rs1) (ets_cons (ep_chn (n := 1) rfl U10 (by decide)) (ets_cons (ep_is rfl E10) ets_nil)) (by decide)) fun v H' _ h => grd_2 h gd_gu (gd_e (by decide +kernel) 0))
      (ep_is rfl hm) okm (EvP.imp (ep_chn (K := K) (i := 5) (n := 59) (g := "g") rfl E10 (by decide)) fun v H' _ h => h.dp)
      (lay_tm soE (chn_ok (by decide +kernel) (okE (by decide +kernel)) 59) (by rw [chn_hgt]; exact Nat.le_trans (Nat.add_le_add_left (hgt_sz tE) 59) (by rw [sz_e]; decide)))
      (.inr ⟨szm, .inr ⟨by rw [rd_1, chn_sz, sz_e]; decide, by rw [rd_1]⟩⟩)) (fun hb => by cases hb) (fun _ H11 e11 => ?_)
    refine q_when (b := false) (et_said (K := K) (i := 0) (j := 1) (t := chn "f" 59 tC0) (ts := rs2) (d := .str "big") rfl rfl (F10.ex e11) (G10.ex e11) soA soE
      (EvP.imp (lit_row (K := K) (ts := rs2) (ets_cons (ep_chn (n := 1) rfl (U10.et (Dw.Ex.et e11)) (by decide)) (ets_cons (ep_chn (n := 1) rfl (E10.et (Dw.Ex.et e11)) (by decide)) ets_nil)) (by decide)) fun v H' _ h => grd_2 h gd_gu gd_ge)
      (ep_is rfl (hm.et (Dw.Ex.et e11))) okm (ep_ev (P := fun v H' => Dp K H' v (.str "big")) ev_c fun H' e => .str _)
      (lay_str (by decide +kernel))
      (.inr ⟨szm, .inl ⟨by rw [rd_2, chn_sz, sz_e]; decide, rfl⟩⟩)) (fun hb => by cases hb) (fun _ H12 e12 => ?_)
    have e102 := e11.trans e12
    refine q_when (b := false) (et_said (K := K) (i := 0) (j := 1) (t := chn "f" 60 tC0) (ts := rs3) (d := .str "term") rfl rfl (F10.ex e102) (G10.ex e102) soA soE
      (EvP.imp (lit_row (K := K) (ts := rs3) (ets_cons (ep_is rfl (E10.et (Dw.Ex.et e102))) (ets_cons (ep_is rfl (E10.et (Dw.Ex.et e102))) ets_nil)) (by decide)) fun v H' _ h => grd_2 h (gd_e (by decide +kernel) 1) (gd_e (by decide +kernel) 0))
      (ep_chn (i := 4) (n := 60) (g := "f") rfl (C10.et (Dw.Ex.et e102)) (by decide)) (chn_ok (by decide +kernel) okC 60) (ep_ev (P := fun v H' => Dp K H' v (.str "term")) ev_c fun H' e => .str _)
      (lay_str (by decide +kernel))
      (.inl ⟨by rw [chn_sz, sz_c]; decide, by rw [chn_sz, sz_c]; decide, rfl⟩)) (fun hb => by cases hb) (fun _ H13 e13 => ?_)
    have e103 := e102.trans e13
    have tk : ∀ (X : Hp), Ex H10 X → EvP (tTup (tCons (tTup (tCons (tC (.str "deed")) (tCons (tC (.str "k")) (tCons (tTup (tCons (tCall (sp_chain K) [] E (tCons (tC (.str "g")) (tCons (tC (.int (5 : Nat))) (tCons (tVar 3) tNil)))) tNil)) tNil)))) (tCons (tVar 5) tNil))) [some s1, some s2, some s3, some vu, some vc, some ve, some vr, some vm, none, none] X (fun v H' => ∃ a us, v = .ref a ∧ SqT K H' a us ∧ TmsV K H' one0 us) := fun X e =>
      lit_row (K := K) (ts := one0) (ets_cons (lit_deed (ets_cons (ep_chn (n := 5) rfl (U10.et (Dw.Ex.et e)) (by decide)) ets_nil) (by decide)) (ets_cons (ep_is rfl (E10.et (Dw.Ex.et e))) ets_nil)) (by decide)
    refine do_par (do_cons (tk H13 e103 H13 (Ex.refl _) _ fun v1 H14 e14 h1v => do_cons (lit_row (K := K) (H := H14) (ts := two0) (ets_cons (lit_deed (ets_cons (ep_is rfl (U10.et (Dw.Ex.et (e103.trans e14)))) (ets_cons (ep_is rfl (U10.et (Dw.Ex.et (e103.trans e14)))) ets_nil)) (by decide)) (ets_cons (ep_is rfl (R10.et (Dw.Ex.et (e103.trans e14)))) (ets_cons (ep_is rfl (R10.et (Dw.Ex.et (e103.trans e14)))) ets_nil))) (by decide) H14 (Ex.refl _) _ fun v2 H15 e15 h2v => do_nil ⟨v1, v2, rfl, ?_⟩)))
    have e1015 := (e103.trans e14).trans e15
    have g1 : GRd K H15 sgA sgK one0 v1 := (grd_2 h1v gd_k (gd_e (by decide +kernel) 0)).ex e15
    have g2 : GRd K H15 sgK sgP two0 v2 := grd_3 h2v gd_p (gd_r 1) (gd_r 0)
    show tRet _ _ [some s1, some s2, some s3, some vu, some vc, some ve, some vr, some vm, some v1, some v2] H15
    refine do_ret (do_op (do_cons (do_ev (ev_var rfl) fun H16 e16 => do_cons (lit_sig (K := K) (H := H16) (sg := sgK) (esg_cons (k := 1) (esg_cons (k := 1) (esg_cons (k := 0) esg_nil))) (by decide) H16 (Ex.refl _) _ fun sk H17 e17 hK => do_cons (do_ev (ev_var rfl) fun H18 e18 => do_cons (do_ev (ev_var rfl) fun H19 e19 => do_cons (do_ev (ev_var rfl) fun H20 e20 => do_nil ?_)))))))
    have e1720 := (e18.trans e19).trans e20
    have e1520 := (e16.trans e17).trans e1720
    have e1020 := e1015.trans e1520
    refine ⟨s1, sk, s3, v1, v2, sgA, sgK, sgP, one0, two0, rfl, F10.ex e1020, hK.ex e1720, P10.ex e1020, soA, soK, soP, g1.ex e1520, g2.ex e1520, .inr ⟨fun t ht => ?_, fun a us H21 e21 hs ht => ?_⟩⟩
    · rcases List.mem_cons.mp ht with rfl | ht
      · rw [rd_k, sz_r]
        decide
      · rw [List.mem_singleton.mp ht, rd_e, sz_r]
        decide
    · rw [rd_two] at ht
      have R21 := R10.et (Dw.Ex.et (e1020.trans e21))
      refine lit_row (K := K) (H := H21) (ts := [tR, tR]) (ets_cons (ep_is rfl R21) (ets_cons (ep_is rfl R21) ets_nil)) (by decide) H21 (Ex.refl _) _ fun v H22 e22 hv => ?_
      obtain ⟨a2, us2, rfl, hs2, ht2⟩ := hv
      have sh : SeqAt.shaped (.tuple (datas [tR, tR])) = true := by
        rw [datas, datas, datas, tR, Tm.data, datas]
        decide +kernel
      have la : (PyData.tuple (datas [tR, tR])).canLay0 = true := by
        rw [datas, datas, datas, tR, Tm.data, datas]
        decide +kernel
      refine ⟨_, _, .tup (ex_t e22 hs) (TmsV.dp (ht.et (Dw.Ex.et e22))), .tup hs2 (TmsV.dp ht2), sh, sh, ?_⟩
      rw [SeqAt.eqv_refl _ la]
      exact q _ H22 ((e010.trans (e1020.trans (e21.trans e22)))) rfl
end
end K80
end
section
namespace K80
open PySem PySem.Spec PyProof.Rows L2 Evl RZ Dw M20
theorem datas_map : ∀ ts : List Tm, datas ts = ts.map Tm.data
  | [] => by rw [datas]; rfl
  | t :: ts => by rw [datas, List.map_cons, datas_map ts]
theorem rd7_of {K : PySem.W.Frag} {H : Hp} {sg sg2 : List (Str × Nat)} {ts : List Tm} {us : List V} (so : SigOk sg) (r : Rdg K H sg sg2 ts us) (l : ts.length = sg.length) : Rd7 sg sg2 (fOf sg ts) := fun p hp => by
  obtain ⟨i, hi, e⟩ := List.mem_iff_getElem.mp hp
  have ht : i < ts.length := by omega
  have f : fOf sg ts p.1 = ts[i] := fOf_at (p := p) so.nd (by rw [List.getElem?_eq_getElem hi, e]) (List.getElem?_eq_getElem ht)
  have z := r.each i ht hi
  rw [e] at z
  rw [f]
  exact z
theorem grd_of {K : PySem.W.Frag} {H : Hp} {sg sg2 : List (Str × Nat)} {ts : List Tm} {us : List V} {a : Addr} (s : SqT K H a us) (r : Rdg K H sg sg2 ts us) (l : ts.length = sg.length) : GRd K H sg sg2 ts (.ref a) := ⟨⟨a, us, rfl, s, r.tms⟩, l, fun i h h2 => let ⟨x, y, _, z⟩ := r.each i h h2; ⟨x, Nat.le_trans y (by decide), z⟩⟩
theorem Gvn_each {K : PySem.W.Frag} {H : Hp} {sg sg2 : List (Str × Nat)} {ts : List Tm} {us : List V} (r : Rdg K H sg sg2 ts us) (l : ts.length = sg.length) : ∀ t ∈ ts, t.ok sg2 ∧ t.sz ≤ 7 ∧ t.hgt ≤ 3 := fun t ht => by
  obtain ⟨i, hi, e⟩ := List.mem_iff_getElem.mp ht
  have z := r.each i hi (by omega)
  rw [e] at z
  exact ⟨z.1, z.2.1, z.2.2.1⟩
theorem lay_dM (n : Nat) (tbs : List (List Nat)) : Lay (dM n tbs) := by
  have a1 : ∀ t : List Nat, PyData.canLayAll0 (t.map fun k => PyData.int ((k : Nat) : Int)) = true ∧ PyData.depthAll (t.map fun k => PyData.int ((k : Nat) : Int)) ≤ 0 := by
    intro t
    induction t with
    | nil => exact ⟨by rw [List.map_nil, PyData.canLayAll0], by rw [List.map_nil, PyData.depthAll]; exact Nat.le_refl _⟩
    | cons k t ih => exact ⟨by rw [List.map_cons, PyData.canLayAll0, ih.1, PyData.canLay0]; rfl, by rw [List.map_cons, PyData.depthAll, PyData.depth]; have := ih.2; omega⟩
  have a2 : ∀ ts : List (List Nat), PyData.canLayAll0 (ts.map dN) = true ∧ PyData.depthAll (ts.map dN) ≤ 1 := by
    intro ts
    induction ts with
    | nil => exact ⟨by rw [List.map_nil, PyData.canLayAll0], by rw [List.map_nil, PyData.depthAll]; decide⟩
    | cons t ts ih =>
      obtain ⟨x, y⟩ := a1 t
      exact ⟨by rw [List.map_cons, PyData.canLayAll0, ih.1, dN, PyData.canLay0]; rw [x]; rfl, by
        rw [List.map_cons, PyData.depthAll, dN, PyData.depth]
        have := ih.2
        omega⟩
  obtain ⟨x, y⟩ := a2 tbs
  exact ⟨by rw [dM, PyData.canLay0, PyData.canLayAll0, PyData.canLayAll0, PyData.canLayAll0, PyData.canLay0, PyData.canLay0, x]; rfl, by
    rw [dM, PyData.depth, PyData.depthAll, PyData.depthAll, PyData.depthAll, PyData.depth, PyData.depth]
    omega⟩
section
variable {P : Program} {w : World} {K : PySem.W.Frag} {mg : Str → Option Value} {base : Heap} {σ : L2.St} {H H' : Hp} {p c : Addr} {sg sg2 : List (Str × Nat)} {v : V} {m n : Nat}
theorem gb_trm {y : Tm} (so : SigOk sg) (tv : TmV K H y v) (ok : y.ok sg) (l : y.sz ≤ 15) : Gb 40 1700 y.data := by
  obtain ⟨_, o, f, z⟩ := bt_all y tv ok
  have g := gd_bt so y.bt o f
  rw [bt_data] at g
  exact (K80.Gd.gb g).mono (by omega) (by omega)
theorem gba_tms (so : SigOk sg) {k : Nat} : ∀ {ts : List Tm} {us : List V}, TmsV K H ts us → (∀ t ∈ ts, t.ok sg ∧ t.sz ≤ 15) → ts.length ≤ k → GbA 40 (1701 * k) (datas ts) := fun {ts us} tv h l => by
  rw [datas_map]
  refine (gba_all (k := 40) (W := 1700) fun d hd => ?_).mono (Nat.le_refl _) (by rw [List.length_map, Nat.mul_comm]; exact Nat.mul_le_mul_left 1701 l)
  obtain ⟨t, ht, rfl⟩ := List.mem_map.mp hd
  obtain ⟨i, hi, e⟩ := List.mem_iff_getElem.mp ht
  have lu := tv.len
  obtain ⟨t', q, r⟩ := tv.get (List.getElem?_eq_getElem (l := us) (i := i) (by omega))
  rw [List.getElem?_eq_getElem hi, e] at q
  cases q
  exact gb_trm so r (h t ht).1 (h t ht).2
/-! what a turn of the law is given -/
structure Gvn (K : PySem.W.Frag) (H : Hp) (v1 v2 v3 v4 v5 mv : V) (la : Addr) (sg1 sg2 sg3 : List (Str × Nat)) (ts1 ts2 : List Tm) (n : Nat) (tbs : List (List Nat)) (tms : List Tm) (us : List V) : Prop where
  f1 : FSig K H v1 sg1
  f2 : FSig K H v2 sg2
  f3 : FSig K H v3 sg3
  r1 : GRd K H sg1 sg2 ts1 v4
  r2 : GRd K H sg2 sg3 ts2 v5
  m : Mdl K H mv n tbs
  l : H la = some (.lst us)
  t : TmsV K H tms us
variable {v1 v2 v3 v4 v5 mv : V} {la : Addr} {sg1 sg3 : List (Str × Nat)} {ts1 ts2 tms : List Tm} {tbs : List (List Nat)} {us : List V}
theorem Gvn.ex (e : Ex H H') (g : Gvn K H v1 v2 v3 v4 v5 mv la sg1 sg2 sg3 ts1 ts2 n tbs tms us) : Gvn K H' v1 v2 v3 v4 v5 mv la sg1 sg2 sg3 ts1 ts2 n tbs tms us := ⟨g.f1.ex e, g.f2.ex e, g.f3.ex e, g.r1.ex e, g.r2.ex e, g.m.ex e, e _ _ g.l, g.t.et (Dw.Ex.et e)⟩
theorem Gvn.off (pu : Pur H p p m) (np : la ≠ p) (o : Off H H' p p) (g : Gvn K H v1 v2 v3 v4 v5 mv la sg1 sg2 sg3 ts1 ts2 n tbs tms us) : Gvn K H' v1 v2 v3 v4 v5 mv la sg1 sg2 sg3 ts1 ts2 n tbs tms us := ⟨g.f1.off pu o, g.f2.off pu o, g.f3.off pu o, g.r1.et (o.et pu), g.r2.et (o.et pu), g.m.et (o.et pu), o _ _ np np g.l, g.t.et (o.et pu)⟩
def keptD (sg1 sg2 sg3 : List (Str × Nat)) (ts1 ts2 : List Tm) (n : Nat) (tbs : List (List Nat)) (tms : List Tm) : PyData := .list [dS sg1, dS sg2, dS sg3, .tuple (datas ts1), .tuple (datas ts2), dM n tbs, .list (datas tms)]
theorem gb_kept (g : Gvn K H v1 v2 v3 v4 v5 mv la sg1 sg2 sg3 ts1 ts2 n tbs tms us) (so1 : SigOk sg1) (so2 : SigOk sg2) (so3 : SigOk sg3) (o1 : ∀ t ∈ ts1, t.ok sg2 ∧ t.sz ≤ 7 ∧ t.hgt ≤ 3) (o2 : ∀ t ∈ ts2, t.ok sg3 ∧ t.sz ≤ 7 ∧ t.hgt ≤ 3) (mo : MdlOk sg2 n tbs) (o3 : ∀ t ∈ tms, t.ok sg1 ∧ t.sz ≤ 15 ∧ t.hgt ≤ 4) (l4 : tms.length = 4) : Gb 50 50000 (keptD sg1 sg2 sg3 ts1 ts2 n tbs tms) := by
  obtain ⟨a1, u1, q1, s1, t1⟩ := g.r1.tms
  obtain ⟨a2, u2, q2, s2, t2⟩ := g.r2.tms
  have e1 := g.r1.len
  have e2 := g.r2.len
  have m1 := so1.l4
  have m2 := so2.l4
  have h1 : Gb 41 6804 (.tuple (datas ts1)) := gb_tup (gba_tms (k := 4) so2 t1 (fun t ht => ⟨(o1 t ht).1, Nat.le_trans (o1 t ht).2.1 (by decide)⟩) (by omega))
  have h2 : Gb 41 6804 (.tuple (datas ts2)) := gb_tup (gba_tms (k := 4) so3 t2 (fun t ht => ⟨(o2 t ht).1, Nat.le_trans (o2 t ht).2.1 (by decide)⟩) (by omega))
  have h3 : Gb 41 6804 (.list (datas tms)) := gb_lst (gba_tms (k := 4) so1 g.t (fun t ht => ⟨(o3 t ht).1, (o3 t ht).2.1⟩) (by omega))
  have gs : ∀ {sg : List (Str × Nat)}, SigOk sg → Gb 41 812 (dS sg) := fun so => (K80.Gd.gb so.gdS).mono (by decide) (Nat.le_refl _)
  have hm : Gb 41 3178 (dM n tbs) := (K80.Gd.gb (mo.gdM so2)).mono (by decide) (Nat.le_refl _)
  exact (gb_lst (gba_cons (gs so1) (gba_cons (gs so2) (gba_cons (gs so3) (gba_cons h1 (gba_cons h2 (gba_cons hm (gba_one h3)))))))).mono (by decide) (by decide)
/-- str([...]) -/
theorem ev_keptG {X : Cx} (hg : X.A.guards = some []) (hK : X.K = K) (g : Gvn K H v1 v2 v3 v4 v5 mv la sg1 sg2 sg3 ts1 ts2 n tbs tms us) (gb : Gb 50 50000 (keptD sg1 sg2 sg3 ts1 ts2 n tbs tms))
    (h3 : σ[3]? = some (some v1)) (h4 : σ[4]? = some (some v2)) (h5 : σ[5]? = some (some v3)) (h6 : σ[6]? = some (some v4)) (h7 : σ[7]? = some (some v5)) (h8 : σ[8]? = some (some mv)) (h9 : σ[9]? = some (some (.ref la))) :
    Ev (tCB (rStrW X) (tCons (tLst (tCons (tVar 3) (tCons (tVar 4) (tCons (tVar 5) (tCons (tVar 6) (tCons (tVar 7) (tCons (tVar 8) (tCons (tVar 9) tNil)))))))) tNil)) σ H (.str (strD (keptD sg1 sg2 sg3 ts1 ts2 n tbs tms))) := by
  subst hK
  intro H1 e1 Q q
  exact do_cb (do_cons (el_lst (vs := [v1, v2, v3, v4, v5, mv, .ref la]) (ea_cons (ev_var h3) (ea_cons (ev_var h4) (ea_cons (ev_var h5) (ea_cons (ev_var h6) (ea_cons (ev_var h7) (ea_cons (ev_var h8) (ea_cons (ev_var h9) ea_nil))))))) (by show 7 ≤ 100000; decide) H1 e1 _ fun l H2 nl e2 hl => do_nil (by
    have g2 := g.ex (e1.trans e2)
    obtain ⟨a1, u1, q1, s1, t1⟩ := g2.r1.tms
    obtain ⟨a2, u2, q2, s2, t2⟩ := g2.r2.tms
    refine ⟨.ref l, _, rfl, .lst (sq_of hl) (.cons (Sig.dp g2.f1.sig) (.cons (Sig.dp g2.f2.sig) (.cons (Sig.dp g2.f3.sig) (.cons (by rw [q1]; exact .tup s1 (TmsV.dp t1)) (.cons (by rw [q2]; exact .tup s2 (TmsV.dp t2)) (.cons g2.m.dp (.cons (.lst (sq_of g2.l) (TmsV.dp g2.t)) .nil))))))), hg, gb.sho, PyData.hasDict_of_canLay _ gb.lay, Nat.le_trans gb.dep (by decide), gb.len (by decide), q H2 e2⟩)))
theorem do_slS {te tk : TE} {z : Str} {Q : VK} (h : Ev te σ H (.str z)) (hk : ∀ H1, Ex H H1 → tk σ H1 fun x H2 => ∃ i, x = .int i ∧ ∃ z', V.str z = .str z' ∧ z'.length ≤ sizeLine ∧ Q (.str (cutS z' none (some i))) H2) : tSl rSlS te tNoPart (tPart tk) σ H Q := h H (Ex.refl H) _ fun H1 e1 => hk H1 e1
theorem six_cut : ∀ k, k < 5 → (cutS "uvwxyz" none (some ((k : Nat) : Int))).length ≤ 6 ∧ ∀ x ∈ lts (cutS "uvwxyz" none (some ((k : Nat) : Int))), x ∈ vars := by decide +kernel
/-- four terms -/
theorem do_lterms {E : XK} {Q : VK} {a : V} {x1 : V} {y9 y10 y11 y12 y13 y14 y15 : Option V} {t : Nat} (hF : FSig K H v1 sg1) (so : SigOk sg1) (bare : ∃ y, (y, 0) ∈ sg1) (pu : Pur H p p t) (t5 : t ≤ 60000)
    (q : ∀ la us tms t' H', Off H H' p p → Pur H' p p t' → t' ≤ t + 200 → la ≠ p → H' la = some (.lst us) → TmsV K H' tms us → (∀ y ∈ tms, y.ok sg1 ∧ y.sz ≤ 15 ∧ y.hgt ≤ 4) → tms.length = 4 → Q (.ref la) H') :
    tLc (iRng1 (tCons (tC (.int 4)) tNil)) (gName 14) tYes (tCall (sp_lterm K 4) [] E (tCons (tVar 2) (tCons (tVar 3) (tCons (tSl rSlS (tC (.str "uvwxyz")) tNoPart (tPart (tCall sp_take [] E (tCons (tVar 2) (tCons (tC (.int 5)) tNil))))) (tCons (tC (.int 3)) tNil))))) [14] [some a, some x1, some (.ref p), some v1, some v2, some v3, some v4, some v5, some mv, y9, y10, y11, y12, y13, y14, y15] H Q := by
  refine do_lcIt walk_range (w_rng (n := 4) (ea_cons (ev_c (v := vi 4)) ea_nil) (by decide) H (Ex.refl H)) (fun D i H' => D ≠ p ∧ H D = none ∧ Off H H' p p ∧ (∃ t', Pur H' p p t' ∧ t' ≤ t + 40 * i) ∧ ∃ us tms, H' D = some (.lst us) ∧ TmsV K H' tms us ∧ (∀ y ∈ tms, y.ok sg1 ∧ y.sz ≤ 15 ∧ y.hgt ≤ 4) ∧ tms.length = i)
    (fun D H1 e1 nD => ⟨((pu.ex e1).fresh nD).1, fresh_back e1 nD, (Off.of_ex e1).upd (fresh_back e1 nD), ⟨t, (pu.ex e1).upd ((pu.ex e1).fresh nD).1 ((pu.ex e1).fresh nD).1, by omega⟩, [], [], upd_same, by show TmsV K _ [] []; rw [TmsV], fun _ z => (by cases z), rfl⟩) (fun D i H' _ _ => trivial) (fun D i x H0 H1 hi hP y => ?_) (fun D H1 hP => ?_)
  · obtain ⟨Dp, nD, o1, ⟨t1, pu1, l1⟩, us, tms, hD, tv, all, ln⟩ := hP
    obtain ⟨rfl, hx⟩ := y
    refine ⟨rfl, iteT ?_⟩
    show tCall _ _ _ _ [some a, some x1, some (.ref p), some v1, some v2, some v3, some v4, some v5, some mv, y9, y10, y11, y12, y13, some _, y15] H1 _
    have p8 : 2 ^ 3 = 8 := by decide
    have p16 : 2 ^ (3 + 1) = 16 := by decide
    refine do_cons (do_ev (ev_var rfl) fun I1 f1 => do_cons (do_ev (ev_var rfl) fun I2 f2 => do_cons (do_slS ev_c fun I3 f3 => do_take (n := 5) (ev_var rfl) (ev_c (v := vi 5)) (pu1.ex ((f1.trans f2).trans f3)) (by omega) (by decide) (by decide) fun k I4 hk o4 pu4 => ⟨(k : Int), rfl, _, rfl, sz_of (by decide), do_cons (do_ev (ev_c (v := vi 3)) fun I5 f5 => do_nil ?_)⟩)))
    have o15 : Off H1 I5 p p := ((Off.of_ex ((f1.trans f2).trans f3)).trans o4).trans (.of_ex f5)
    refine ⟨p, p, t1 + 1, 3, v1, sg1, _, rfl, by decide, pu4.ex f5, by omega, (hF.off pu o1).off pu1 o15, so, bare, (six_cut k hk).1, (six_cut k hk).2, fun r tm t6 H6 o6 pu6 l6 tv6 ok6 sz6 hg6 _ => ?_⟩
    have o16 := o15.trans o6
    have hD6 := o16 _ _ Dp Dp hD
    have eu : ET K H6 (upd H6 D (.lst (us ++ [r]))) := ET.refl.upd hD6
    have lu := tv.len
    refine ⟨us, hD6, sz_lt (by omega), Dp, nD, (o1.trans o16).upd nD, ⟨t6, pu6.upd Dp Dp, by omega⟩, us ++ [r], tms ++ [tm], upd_same, ((tv.et (o16.et pu1)).et eu).snoc (tv6.et eu), fun y hy => ?_, by rw [List.length_append, ln]; rfl⟩
    rcases List.mem_append.mp hy with z | z
    · exact all y z
    · rw [List.mem_singleton.mp z]
      exact ⟨ok6, by omega, hg6⟩
  · obtain ⟨Dp, nD, o1, ⟨t1, pu1, l1⟩, us, tms, hD, tv, all, ln⟩ := hP
    exact q D us tms t1 H1 o1 pu1 (by omega) Dp hD tv all ln
end
end K80
end
section
namespace K80
open PySem PySem.Spec PyProof.Rows L2 Evl RZ Dw M20
section
variable {P : Program} {w : World} {K : PySem.W.Frag} {mg : Str → Option Value} {base : Heap} {σ : L2.St} {H H' : Hp} {p c : Addr} {sg sg2 : List (Str × Nat)} {v : V} {m n : Nat}
variable {v1 v2 v3 v4 v5 mv : V} {la oa : Addr} {sg1 sg3 : List (Str × Nat)} {ts ts1 ts2 tms : List Tm} {tbs : List (List Nat)} {us : List V}
theorem ev_lenParts {te : TE} {E : XK} {t : Tm} (h : Ev te σ H v) (tv : TmV K H t v) (hh : t.hgt < n) (s : t.sz ≤ 1000) : Ev (tCB (rLenS K) (tCons (tCall (sp_parts K n) [] E (tCons te tNil)) tNil)) σ H (vi t.sz) := fun H1 e1 Q q => do_cb (do_cons (ep_parts (E := E) h tv hh s H1 e1 _ fun u H2 e2 hu => do_nil (by
  obtain ⟨D, us, rfl, _, hD, pr⟩ := hu
  refine ⟨D, us, rfl, .inl (sq_of hD), ?_⟩
  rw [paired_len pr, pts_len]
  exact q H2 e2)))
/-- [_law_read(second, two, piece) for piece in one] -/
theorem do_both {E : XK} {Q : VK} (hw : ∀ x, wipe ((wipe σ [15]).set 15 (some x)) [15] = wipe σ [15]) (h4 : ∀ x, ((wipe σ [15]).set 15 (some x))[4]? = some (some v2)) (h7 : ∀ x, ((wipe σ [15]).set 15 (some x))[7]? = some (some v5)) (h15 : ∀ x, ((wipe σ [15]).set 15 (some x))[15]? = some (some x))
    (h6 : σ[6]? = some (some (.ref oa))) (sq : SqT K H oa us) (tv : TmsV K H ts1 us) (hG : FSig K H v2 sg2) (hR : GRd K H sg2 sg3 ts2 v5) (so2 : SigOk sg2) (ok : ∀ t ∈ ts1, t.ok sg2 ∧ t.hgt ≤ 3) (l4 : ts1.length ≤ 4)
    (q : ∀ D zs H', Ex H H' → H' D = some (.lst zs) → TmsV K H' (rds (fOf sg2 ts2) ts1) zs → Q (.ref D) H') :
    tLc (iTup K (tVar 6)) (gName 15) tYes (tCall (sp_read K 5) [] E (tCons (tVar 4) (tCons (tVar 7) (tCons (tVar 15) tNil)))) [15] σ H Q := by
  have lu := tv.len
  refine do_lcIt (walk_tup (K := K) (a := oa) (xs := us)) (fun R r => w_tup (K := K) (xs := us) (ev_var h6) sq H (Ex.refl _) R r) (fun D j H' => H D = none ∧ Ex H H' ∧ ∃ zs : List V, H' D = some (.lst zs) ∧ TmsV K H' (rds (fOf sg2 ts2) (ts1.take j)) zs)
    (fun D H4 e4 nD => ⟨fresh_back e4 nD, e4.trans (Ex.new nD), [], upd_same, by rw [List.take_zero, rds, TmsV]⟩) (fun D j H4 _ h => ex_t h.2.1 sq) (fun D i x H4 H5 hi hP y => ?_) (fun D H4 hP => ?_)
  · obtain ⟨nD, e4, zs, hzs, tzs⟩ := hP
    obtain ⟨rfl, hx⟩ := y
    obtain ⟨t', ht', tv'⟩ := tv.get hx
    have mt := List.mem_of_getElem? ht'
    have lz := tzs.len
    have lp : (rds (fOf sg2 ts2) (ts1.take i)).length ≤ 4 := by
      rw [rds_map, List.length_map, List.length_take]
      omega
    refine ⟨hw x, iteT ?_⟩
    refine ep_call (LrA.mk sg2 sg3 ts2 t') (ea_cons (ev_var (h4 x)) (ea_cons (ev_var (h7 x)) (ea_cons (ev_var (h15 x)) ea_nil))) (fun H6 e6 => ⟨⟨_, _, _, rfl, hG.ex (e4.trans e6), hR.ex (e4.trans e6), tv'.et (Dw.Ex.et (e4.trans e6))⟩, so2, (ok t' mt).1, by have := (ok t' mt).2; show t'.hgt < 5; omega⟩) _ (Ex.refl _) _ fun r H6 e6 hr6 => ?_
    replace hr6 : TmV K H6 (t'.rd (fOf sg2 ts2)) r := hr6
    have hzs6 := e6 _ _ hzs
    have et7 : ET K H6 (upd H6 D (.lst (zs ++ [r]))) := ET.refl.upd hzs6
    refine ⟨zs, hzs6, sz_lt (by omega), nD, (e4.trans e6).mut nD, _, upd_same, ?_⟩
    rw [List.take_add_one, ht', rds_map, List.map_append, ← rds_map]
    exact (tzs.et (ET.trans (Dw.Ex.et e6) et7)).snoc (hr6.et et7)
  · obtain ⟨nD, e4, zs, hzs, tzs⟩ := hP
    rw [lu, List.take_length] at tzs
    exact q D zs H4 e4 hzs tzs
def bigs (ts : List Tm) : List Tm := ts.filter fun t => decide (60 < t.sz)
/-- [piece for piece in both if len(parts(piece)) > 60] != [] -/
theorem ev_bigs {E : XK} {ba : Addr} (hw : ∀ x, wipe ((wipe σ [15]).set 15 (some x)) [15] = wipe σ [15]) (h15 : ∀ x, ((wipe σ [15]).set 15 (some x))[15]? = some (some x)) (h13 : σ[13]? = some (some (.ref ba))) (sq : SqT K H ba us) (tv : TmsV K H ts us) (so3 : SigOk sg3) (ok : ∀ t ∈ ts, t.ok sg3 ∧ t.hgt ≤ 9 ∧ t.sz ≤ 1000) (l4 : ts.length ≤ 4) :
    Ev (tOp (rNeD K) (tLc (iTup K (tVar 13)) (gName 15) (tTest (tOp rGt (tCB (rLenS K) (tCons (tCall (sp_parts K 13) [] E (tCons (tVar 15) tNil)) tNil)) (tC (.int 60)))) (tVar 15) [15]) (tLst tNil)) σ H (.bl (!(bigs ts).isEmpty)) := fun H0 e0 Q q => do_op (by
  have lu := tv.len
  refine do_lcG (walk_tup (K := K) (a := ba) (xs := us)) (fun R r => w_tup (K := K) (xs := us) (ev_var h13) (ex_t e0 sq) H0 (Ex.refl _) R r) (fun D j H' => H0 D = none ∧ Ex H0 H' ∧ ∃ zs : List V, H' D = some (.lst zs) ∧ TmsV K H' (bigs (ts.take j)) zs)
    (fun D H4 e4 nD => ⟨fresh_back e4 nD, e4.trans (Ex.new nD), [], upd_same, by rw [List.take_zero]; show TmsV K _ [] []; rw [TmsV]⟩) (fun D j H4 _ h => ex_t (e0.trans h.2.1) sq) (fun D i x H4 H5 hi hP y => ?_) (fun D H4 hP => ?_)
  · obtain ⟨nD, e4, zs, hzs, tzs⟩ := hP
    obtain ⟨rfl, hx⟩ := y
    obtain ⟨t', ht', tv'⟩ := tv.get hx
    have mt := List.mem_of_getElem? ht'
    obtain ⟨_, hg, s1⟩ := ok t' mt
    have lz := tzs.len
    have lp : (bigs (ts.take i)).length ≤ 4 := Nat.le_trans (List.length_filter_le ..) (by rw [List.length_take]; omega)
    have x04 := e0.trans e4
    refine ⟨hw x, ?_⟩
    refine (et_test (b := decide (60 < t'.sz)) (ev_is (ev_op (ev_lenParts (E := E) (n := 13) (t := t') (ev_var (h15 x)) (tv'.et (Dw.Ex.et x04)) (by omega) s1) ev_c rv_I0) (by
      show V.bl (decide (((t'.sz : Nat) : Int) > (60 : Int))) = V.bl (decide (60 < t'.sz))
      congr 1
      exact decide_eq_decide.mpr ⟨fun z => by omega, fun z => by omega⟩))) _ (Ex.refl _) _ fun H6 e6 => ?_
    have hzs6 := e6 _ _ hzs
    by_cases b : 60 < t'.sz
    · rw [decide_eq_true b]
      refine iteT (do_ev (ev_var (h15 x)) fun H7 e7 => ?_)
      have hzs7 := e7 _ _ hzs6
      have et7 : ET K H7 (upd H7 D (.lst (zs ++ [x]))) := ET.refl.upd hzs7
      have e47 := e6.trans e7
      refine ⟨zs, hzs7, sz_lt (by omega), nD, (e4.trans e47).mut nD, _, upd_same, ?_⟩
      rw [List.take_add_one, ht', bigs, List.filter_append, show List.filter (fun t => decide (60 < t.sz)) (Option.some t').toList = [t'] from by
        show List.filter _ [t'] = [t']
        rw [List.filter_cons_of_pos (by exact decide_eq_true b)]
        rfl]
      exact (tzs.et (ET.trans (Dw.Ex.et e47) et7)).snoc (tv'.et (ET.trans (Dw.Ex.et (x04.trans e47)) et7))
    · rw [decide_eq_false b]
      refine iteF ⟨nD, e4.trans e6, zs, hzs6, ?_⟩
      rw [List.take_add_one, ht', bigs, List.filter_append, show List.filter (fun t => decide (60 < t.sz)) (Option.some t').toList = [] from by
        show List.filter _ [t'] = []
        rw [List.filter_cons_of_neg (by rw [decide_eq_false b]; decide)]
        rfl, List.append_nil]
      exact tzs.et (Dw.Ex.et e6)
  · obtain ⟨nD, e4, zs, hzs, tzs⟩ := hP
    rw [lu, List.take_length] at tzs
    refine do_lst (do_nil ⟨Nat.zero_le _, fun r nr => ?_⟩)
    have x5 : Ex H4 (upd H4 r (.lst [])) := Ex.new nr
    have gd : Gd 20 (4 * (wB 9 + 1)) (.list (datas (bigs ts))) := by
      refine gd_lst (k := 19) (W := wB 9) (L := 4) (fun d hd => ?_) (by rw [datas_len]; exact Nat.le_trans (List.length_filter_le ..) l4)
      rw [datas_map] at hd
      obtain ⟨t, ht, rfl⟩ := List.mem_map.mp hd
      obtain ⟨o, hg, _⟩ := ok t (List.mem_filter.mp ht).1
      exact (gd_tm so3 t o).mono (by omega) (wB_mono hg)
    refine ⟨.list (datas (bigs ts)), .list [], .lst (sq_of (x5 _ _ hzs)) (TmsV.dp (tzs.et (Dw.Ex.et x5))), .lst (sq_of upd_same) .nil, gd.shaped (by decide), rfl, ?_⟩
    have z := q _ (e4.trans x5)
    rw [datas_map]
    generalize bigs ts = bs at z ⊢
    cases bs with
    | nil => exact z
    | cons a r => exact z)
theorem bigs_t {ts : List Tm} (h : (!(bigs ts).isEmpty) = true) : ∃ t ∈ ts, 60 < t.sz := by
  cases e : bigs ts with
  | nil =>
    rw [e] at h
    cases h
  | cons t r =>
    have : t ∈ bigs ts := by
      rw [e]
      exact List.mem_cons_self ..
    obtain ⟨a, b⟩ := List.mem_filter.mp this
    exact ⟨t, a, of_decide_eq_true b⟩
theorem bigs_f {ts : List Tm} (h : (!(bigs ts).isEmpty) = false) : ∀ t ∈ ts, t.sz ≤ 60 := fun t ht => by
  cases Nat.lt_or_ge 60 t.sz with
  | inr z => exact z
  | inl z =>
    have : t ∈ bigs ts := List.mem_filter.mpr ⟨ht, decide_eq_true z⟩
    cases e : bigs ts with
    | nil =>
      rw [e] at this
      cases this
    | cons t r =>
      rw [e] at h
      cases h
/-- what two readings tell, set against what is due -/
theorem et_two {E : XK} {y : V} {d : PyData} (h3 : σ[3]? = some (some v1)) (h4 : σ[4]? = some (some v2)) (h5 : σ[5]? = some (some v3)) (h6 : σ[6]? = some (some v4)) (h7 : σ[7]? = some (some v5)) (h12 : σ[12]? = some (some y)) (g : Gvn K H v1 v2 v3 v4 v5 mv la sg1 sg2 sg3 ts1 ts2 n tbs tms us) (so1 : SigOk sg1) (so2 : SigOk sg2) (so3 : SigOk sg3) (hy : Dp K H y d) (l : Lay d)
    (due : ((∃ t ∈ ts1, 60 < (t.rd (fOf sg2 ts2)).sz) ∧ d = .str "big") ∨ ((∀ t ∈ ts1, (t.rd (fOf sg2 ts2)).sz ≤ 60) ∧ d = .tuple (datas (rds (fOf sg2 ts2) ts1)))) :
    EvT (tTest (tOp (rNeL K) (tCall (LtE K) [] E (tCons (tVar 3) (tCons (tVar 4) (tCons (tVar 5) (tCons (tVar 6) (tCons (tVar 7) tNil)))))) (tVar 12))) σ H false := et_test fun H1 e1 Q q => do_op ((ea_cons (ev_var h3) (ea_cons (ev_var h4) (ea_cons (ev_var h5) (ea_cons (ev_var h6) (ea_cons (ev_var h7) ea_nil))))) H1 e1 _ fun H2 e2 => by
  have e12 := e1.trans e2
  have g2 := g.ex e12
  have fin : ∀ (x : V) (H6 : Hp), Ex H2 H6 → Dp K H6 x d → tVar 12 σ H6 fun y H7 => rNeL K x y H7 Q := fun x H6 e6 hx => do_ev (ev_var h12) fun H7 e7 => ⟨d, d, dp_ex e7 hx, dp_ex (e12.trans (e6.trans e7)) hy, l, l, by
    rw [SeqAt.eqv_refl d l.1]
    exact q H7 (e2.trans (e6.trans e7))⟩
  refine ⟨v1, v2, v3, v4, v5, sg1, sg2, sg3, ts1, ts2, rfl, g2.f1, g2.f2, g2.f3, so1, so2, so3, g2.r1, g2.r2, ?_⟩
  rcases due with ⟨a, rfl⟩ | ⟨a, rfl⟩
  · exact .inl ⟨a, fun H6 e6 => fin _ H6 e6 (.str _)⟩
  · exact .inr ⟨a, fun b us H6 e6 s t => fin _ H6 e6 (.tup s (TmsV.dp t))⟩)
end
end K80
end
section
namespace K80
open PySem PySem.Spec PyProof.Rows L2 Evl RZ Dw M20
abbrev lawN : List Str := ["_law_script", "_law_k", "_law_pile_here", "_law_first", "_law_second", "_law_third", "_law_one", "_law_two", "_law_model_here", "_law_terms", "_law_kept", "_law_term_here", "_law_due", "_law_both", "_law_j", "_law_piece"]
theorem call_len_seqK {X : Cx} (K : PySem.W.Frag) (h : X.K = K := by rfl) : CallR X (.builtin "len") (rLenS K) := by
  subst h
  exact call_len_seq
/-- a call that is handed nothing -/
theorem pe_cl0 {X : Cx} {k j : Nat} {x : Str} {sp : Sp} {p pos : Pos} (c : Cl X.prog X.w X.K X.mg X.base k x sp) (hr : Room j X.A) (hk : k ≤ j) (hg : Gl X x) (dbg : (x == ("__debug__" : Str)) = false := by decide) :
    PE X (.Call (.Name x p) [] [] pos) (tCall sp [] E0 tNil) := by
  obtain ⟨f, fd, ps, F, m, kp, b⟩ := c.ex
  exact pe_call0 F (hr.mono hk) hg m kp b .nil pass0 dbg
section
variable {P : Program} {w : World} {K : PySem.W.Frag} {mg : Str → Option Value} {base : Heap} {σ : L2.St} {H H' : Hp} {B0 T0 R0 N0 G0 : Addr}
theorem rd_ok {sg sg2 : List (Str × Nat)} {f : Str → Tm} (r7 : Rd7 sg sg2 f) : ∀ (n : Nat) (t : Tm), t.hgt ≤ n → t.ok sg → (t.rd f).ok sg2
  | n, .var x, _, ok => by
    rw [Tm.ok] at ok
    rw [Tm.rd, Tm.ok]
    exact ok
  | 0, .deed g ts, h, _ => by
    rw [Tm.hgt] at h
    omega
  | n + 1, .deed g ts, h, ok => by
    rw [Tm.ok] at ok
    rw [Tm.hgt] at h
    obtain ⟨okf, s7, h3, lin⟩ := r7 _ ok.1
    rw [Tm.rd]
    refine ok_put (f g) okf fun x hx => ?_
    obtain ⟨i, hi, hv⟩ := pls_at (lin x hx)
    have hti : ts[i]? = some ts[i] := List.getElem?_eq_getElem hi
    rw [zf_at (t := (ts[i]).rd f) hv (by rw [rds_map, List.getElem?_map, hti]; rfl)]
    have hm := hgts_mem _ (List.getElem_mem hi)
    exact rd_ok r7 n ts[i] (by omega) (oks_get ok.2 hti)
theorem do_notV {te : TE} {Q : Bool → Hp → Prop} (h : te σ H fun x H1 => ∃ k, x = .bl k ∧ Q (!k) H1) : tNot (tB te) σ H Q := h
theorem bnd4 : bnd 4 = 511 ∧ bnd 3 = 127 := by decide +kernel
/-- ahead of each turn -/
def Turn (K : PySem.W.Frag) (a : Addr) (ns : List Int) (i : Nat) (σ : L2.St) (H : Hp) : Prop := SqL K H a (ns.map V.int) ∧ ∃ y1 y2 y3 y4 y5 y6 y7 y8 y9 y10 y11 y12 y13 y14 y15 : Option V, σ = [some (.ref a), y1, y2, y3, y4, y5, y6, y7, y8, y9, y10, y11, y12, y13, y14, y15]
theorem law_ok (T : Txt mg) (c_pile : Cl P w K mg base 1 "_law_pile" (sp_pile K)) (c_take : Cl P w K mg base 2 "_law_take" sp_take) (c_signature : Cl P w K mg base 4 "_law_signature" (sp_sign K)) (c_lterm : Cl P w K mg base 7 "_law_term" (sp_lterm K 4)) (c_lreading : Cl P w K mg base 7 "_law_reading" (sp_lreading K)) (c_model : Cl P w K mg base 3 "_law_model" (sp_model K)) (c_read : Cl P w K mg base 16 "_law_read" (sp_read K 5)) (c_parts : Cl P w K mg base 14 "_law_parts" (sp_parts K 13)) (c_said : Cl P w K mg base 75 "_law_said" (LsE K)) (c_model_read : Cl P w K mg base 12 "model_read" (sp_model_readG K)) (c_model_due : Cl P w K mg base 10 "_law_model_due" (sp_model_due K)) (c_two_said : Cl P w K mg base 75 "_law_two_said" (LtE K)) (c_refused : Cl P w K mg base 76 "_law_refused" (sp_refused K)) (c_doubled : Cl P w K mg base 76 "_law_doubled" (spX (fun (_ : Unit) vs _ => vs = []) (fun _ v _ => v = .bl true))) (c_sizes_right : Cl P w K mg base 76 "_law_sizes_right" (spX (fun (_ : Unit) vs _ => vs = []) (fun _ v _ => v = .bl true)))
    (room : Room 81 callerA) (s : Shared) (H : Hp) (fa : Addr) (cdv : Value) (a : Addr) (ns : List Int) (len : ns.length ≤ 63) (seq : SqL K H a (ns.map V.int)) :
    ∃ t, PSs (cxOf CX0 P w K mg base lawN "law" (defScope s_law) fa cdv callerA [] s H E0).nox (defBody s_law) t ∧ t { nx := fun _ _ => False, rt := fun v _ => v = .bl true } (L2.start lawN [.ref a]) H := by
  have hr : Room 80 (callerA.deeper (envOfC "law" (defScope s_law) s.heap.objs.size fa cdv)) := room.deeper _
  refine ⟨_, (pss_cons (ps_for PassesOwn.never (by rfl) (pi_range1 (by rfl) T.z_range (pa_cons pe_int pa_nil)) (pg_name (i := 1) sc_law.nd rfl (.inl rfl))
        (pss_cons (ps_set (i := 2) sc_law.nd rfl (.inr rfl) (pe_cl c_pile hr (by first | decide | omega) (by rfl) (pa_cons (pv 0) (pa_cons (pv 1) pa_nil))))
        (pss_cons (ps_asg (pe_tup (pa_cons (pe_cl c_signature hr (by first | decide | omega) (by rfl) (pa_cons (pv 2) pa_nil)) (pa_cons (pe_cl c_signature hr (by first | decide | omega) (by rfl) (pa_cons (pv 2) pa_nil)) (pa_cons (pe_cl c_signature hr (by first | decide | omega) (by rfl) (pa_cons (pv 2) pa_nil)) pa_nil)))) (pg_tup (by rfl) (pgs_cons (pg_name (i := 3) sc_law.nd rfl (.inr rfl)) (pgs_cons (pg_name (i := 4) sc_law.nd rfl (.inr rfl)) (pgs_cons (pg_name (i := 5) sc_law.nd rfl (.inl rfl)) pgs_nil)))))
        (pss_cons (ps_asg (pe_tup (pa_cons (pe_cl c_lreading hr (by first | decide | omega) (by rfl) (pa_cons (pv 2) (pa_cons (pv 3) (pa_cons (pv 4) pa_nil)))) (pa_cons (pe_cl c_lreading hr (by first | decide | omega) (by rfl) (pa_cons (pv 2) (pa_cons (pv 4) (pa_cons (pv 5) pa_nil)))) pa_nil))) (pg_tup (by rfl) (pgs_cons (pg_name (i := 6) sc_law.nd rfl (.inl rfl)) (pgs_cons (pg_name (i := 7) sc_law.nd rfl (.inr rfl)) pgs_nil))))
        (pss_cons (ps_set (i := 8) sc_law.nd rfl (.inl rfl) (pe_cl c_model hr (by first | decide | omega) (by rfl) (pa_cons (pv 2) (pa_cons (pv 4) (pa_cons pe_int pa_nil)))))
        (pss_cons (ps_setLc (i := 9) (own := [("_law_j", 14)]) (g := (gName 14)) (by rfl) sc_law.nd rfl rfl (sw_true rfl rfl rfl (by decide +kernel)) (pi_range1 (by rfl) T.z_range (pa_cons pe_int pa_nil)) (blkOk_by (own := [("_law_j", 14)]) (N := ["_law_script", "_law_k", "_law_pile_here", "_law_first", "_law_second", "_law_third", "_law_one", "_law_two", "_law_model_here", "_law_terms", "_law_kept", "_law_term_here", "_law_due", "_law_both", "_law_j", "_law_piece"]) (sc := defScope s_law) (by decide +kernel)) (fun _ _ _ _ _ => (pg_name (i := 14) sc_law.nd rfl (.inl rfl))) (fun _ _ _ _ _ => pts_nil) (fun _ _ _ _ _ => (pe_cl c_lterm hr (by first | decide | omega) (by rfl) (pa_cons (pv 2) (pa_cons (pv 3) (pa_cons (pe_slice sl_str pe_str po_none (po_some (pe_cl c_take hr (by first | decide | omega) (by rfl) (pa_cons (pv 2) (pa_cons pe_int pa_nil))))) (pa_cons pe_int pa_nil)))))))
        (pss_cons (ps_set (i := 10) sc_law.nd rfl (.inl rfl) (pe_callTy (call_strW hr) (by rfl) T.z_str (by decide +kernel) (pa_cons (pe_lst (pa_cons (pv 3) (pa_cons (pv 4) (pa_cons (pv 5) (pa_cons (pv 6) (pa_cons (pv 7) (pa_cons (pv 8) (pa_cons (pv 9) pa_nil)))))))) pa_nil)))
        (pss_cons (ps_for PassesOwn.never (by rfl) (pi_list (pv 9)) (pg_name (i := 11) sc_law.nd rfl (.inl rfl))
          (pss_cons (ps_set (i := 12) sc_law.nd rfl (.inl rfl) (pe_cl c_read hr (by first | decide | omega) (by rfl) (pa_cons (pv 3) (pa_cons (pv 6) (pa_cons (pv 11) pa_nil)))))
          (pss_cons (ps_set (i := 12) sc_law.nd rfl (.inl rfl) (pe_ix ix_list (pe_lst (pa_cons (pv 12) (pa_cons pe_str pa_nil))) (pe_callTy call_int1 (by rfl) T.z_int (by decide +kernel) (pa_cons (pe_cmpR op_gt (pe_callB call_len_seq (by rfl) T.z_len PySem.boot_len (pa_cons (pe_cl c_parts hr (by first | decide | omega) (by rfl) (pa_cons (pv 12) pa_nil)) pa_nil)) pe_int (nomark _)) pa_nil)) (fun _ _ => rfl)))
          (pss_one (ps_if (pt_cmpR (op_neL hr) (pe_cl c_said hr (by first | decide | omega) (by rfl) (pa_cons (pv 3) (pa_cons (pv 4) (pa_cons (pv 6) (pa_cons (pv 11) pa_nil))))) (pv 12) (nomark _))
            (pss_one (ps_ret pe_bl))
            pss_nil)))))
        (pss_cons (ps_if (pt_cmpR (op_neL hr) (pe_cl c_model_read hr (by first | decide | omega) (by rfl) (pa_cons (pv 3) (pa_cons (pv 4) (pa_cons (pv 6) (pa_cons (pv 8) pa_nil))))) (pe_cl c_model_due hr (by first | decide | omega) (by rfl) (pa_cons (pv 3) (pa_cons (pv 4) (pa_cons (pv 6) (pa_cons (pv 8) pa_nil))))) (nomark _))
          (pss_one (ps_ret pe_bl))
          pss_nil)
        (pss_cons (ps_set (i := 13) sc_law.nd rfl (.inl rfl) (pe_callTy call_tuple_of (by rfl) T.z_tuple (by decide +kernel) (pa_cons (pe_lc (own := [("_law_piece", 15)]) (g := (gName 15)) (by rfl) sc_law.nd (pi_tup (pv 6)) (blkOk_by (own := [("_law_piece", 15)]) (N := ["_law_script", "_law_k", "_law_pile_here", "_law_first", "_law_second", "_law_third", "_law_one", "_law_two", "_law_model_here", "_law_terms", "_law_kept", "_law_term_here", "_law_due", "_law_both", "_law_j", "_law_piece"]) (sc := defScope s_law) (by decide +kernel)) (fun _ _ _ _ _ => (pg_name (i := 15) sc_law.nd rfl (.inl rfl))) (fun _ _ _ _ _ => pts_nil) (fun _ _ _ _ _ => (pe_cl c_read hr (by first | decide | omega) (by rfl) (pa_cons (pv 4) (pa_cons (pv 7) (pa_cons (pv 15) pa_nil)))))) pa_nil)))
        (pss_cons (ps_set (i := 12) sc_law.nd rfl (.inl rfl) (pe_ix ix_list (pe_lst (pa_cons (pv 13) (pa_cons pe_str pa_nil))) (pe_callTy call_int1 (by rfl) T.z_int (by decide +kernel) (pa_cons (pe_cmpR (op_neD hr.units) (pe_lc (own := [("_law_piece", 15)]) (g := (gName 15)) (by rfl) sc_law.nd (pi_tup (pv 13)) (blkOk_by (own := [("_law_piece", 15)]) (N := ["_law_script", "_law_k", "_law_pile_here", "_law_first", "_law_second", "_law_third", "_law_one", "_law_two", "_law_model_here", "_law_terms", "_law_kept", "_law_term_here", "_law_due", "_law_both", "_law_j", "_law_piece"]) (sc := defScope s_law) (by decide +kernel)) (fun _ _ _ _ _ => (pg_name (i := 15) sc_law.nd rfl (.inl rfl))) (fun _ _ _ _ _ => (pts_one (pt_cmpR op_gt (pe_callB (call_len_seqK K) (by rfl) T.z_len PySem.boot_len (pa_cons (pe_cl c_parts hr (by first | decide | omega) (by rfl) (pa_cons (pv 15) pa_nil)) pa_nil)) pe_int (nomark _)))) (fun _ _ _ _ _ => (pv 15))) (pe_lst pa_nil) (nomark _)) pa_nil)) (fun _ _ => rfl)))
        (pss_cons (ps_if (PW.pt (pw_or (pt_cmpR (op_neL hr) (pe_cl c_two_said hr (by first | decide | omega) (by rfl) (pa_cons (pv 3) (pa_cons (pv 4) (pa_cons (pv 5) (pa_cons (pv 6) (pa_cons (pv 7) pa_nil)))))) (pv 12) (nomark _)) (pw_or1 (pt_not (pt_val (pe_cl c_refused hr (by first | decide | omega) (by rfl) (pa_cons (pv 2) (pa_cons (pv 3) (pa_cons (pv 4) (pa_cons (pv 6) (pa_cons (pv 8) pa_nil)))))))))))
          (pss_one (ps_ret pe_bl))
          pss_nil)
        (pss_one (ps_if (pt_cmpR op_ne (pe_callTy (call_strW hr) (by rfl) T.z_str (by decide +kernel) (pa_cons (pe_lst (pa_cons (pv 3) (pa_cons (pv 4) (pa_cons (pv 5) (pa_cons (pv 6) (pa_cons (pv 7) (pa_cons (pv 8) (pa_cons (pv 9) pa_nil)))))))) pa_nil)) (pv 10) (nomark _))
          (pss_one (ps_ret pe_bl))
          pss_nil))))))))))))))
      (pss_one (ps_ret (pe_and (pe_cl0 c_doubled hr (by first | decide | omega) (by rfl)) (pe_one (pe_cl0 c_sizes_right hr (by first | decide | omega) (by rfl))))))), ?_⟩
  refine q_forR1 (n := ((12 : Nat) : Int)) (ea_cons ev_c ea_nil) ⟨by decide, by decide⟩ (Turn K a ns) (fun H2 e2 => ⟨ex_l e2 seq, none, none, none, none, none, none, none, none, none, none, none, none, none, none, none, rfl⟩) (fun i σ H2 hi tn => ?_) (fun σ H2 tn => ?_)
  · obtain ⟨seq2, y1, y2, y3, y4, y5, y6, y7, y8, y9, y10, y11, y12, y13, y14, y15, hσ⟩ := tn
    subst hσ
    have i12 : i < 12 := by omega
    refine do_set ((ea_cons (ev_var rfl) (ea_cons (ev_var rfl) ea_nil)) H2 (Ex.refl H2) _ fun H3 e3 => ⟨a, ns, i, rfl, ex_l e3 seq2, len, by omega, fun p H4 e4 np pu => ?_⟩)
    have seq3 := ex_l e3 seq2
    show tSeq _ _ _ [some (.ref a), some (vi i), some (.ref p), y3, y4, y5, y6, y7, y8, y9, y10, y11, y12, y13, y14, y15] H4
    -- the signatures
    refine do_setG (do_tup (do_cons ((ea_cons (ev_var rfl) ea_nil) H4 (Ex.refl _) _ fun I1 f1 => ⟨p, p, 0, rfl, pu.ex f1, by decide, fun v1 sg1 t5 H5 o5 pu5 l5 hF5 so1 _ bare1 => do_cons ((ea_cons (ev_var rfl) ea_nil) H5 (Ex.refl _) _ fun I2 f2 => ⟨p, p, t5, rfl, pu5.ex f2, by omega, fun v2 sg2 t6 H6 o6 pu6 l6 hG6 so2 _ bare2 => do_cons ((ea_cons (ev_var rfl) ea_nil) H6 (Ex.refl _) _ fun I3 f3 => ⟨p, p, t6, rfl, pu6.ex f3, by omega, fun v3 sg3 t7 H7 o7 pu7 l7 hP7 so3 _ bare3 => do_nil ⟨by show 3 ≤ sizeLine; decide, fun ta nta => ?_⟩⟩)⟩)⟩)))
    refine ⟨ta, _, rfl, st_of (K := K) upd_same, rfl, _, _, rfl, _, _, rfl, _, _, rfl, rfl, ?_⟩
    have x8 : Ex H7 (upd H7 ta (.tup [v1, v2, v3])) := Ex.new nta
    have o48 : Off H4 (upd H7 ta (.tup [v1, v2, v3])) p p := (((Off.of_ex f1).trans o5).trans ((Off.of_ex f2).trans o6)).trans (((Off.of_ex f3).trans o7).trans (.of_ex x8))
    have hF8 : FSig K (upd H7 ta (.tup [v1, v2, v3])) v1 sg1 := (hF5.off pu5 (((Off.of_ex f2).trans o6).trans ((Off.of_ex f3).trans o7))).ex x8
    have hG8 : FSig K (upd H7 ta (.tup [v1, v2, v3])) v2 sg2 := (hG6.off pu6 ((Off.of_ex f3).trans o7)).ex x8
    have hP8 : FSig K (upd H7 ta (.tup [v1, v2, v3])) v3 sg3 := hP7.ex x8
    have pu8 : Pur (upd H7 ta (.tup [v1, v2, v3])) p p t7 := pu7.ex x8
    generalize upd H7 ta (.tup [v1, v2, v3]) = H8 at *
    show tSeq _ _ _ [some (.ref a), some (vi i), some (.ref p), some v1, some v2, some v3, y6, y7, y8, y9, y10, y11, y12, y13, y14, y15] H8
    -- the readings
    refine do_setG (do_tup (do_cons ((ea_cons (ev_var rfl) (ea_cons (ev_var rfl) (ea_cons (ev_var rfl) ea_nil))) H8 (Ex.refl _) _ fun I1 g1 => ⟨p, p, t7, v1, v2, sg1, sg2, rfl, pu8.ex g1, by omega, hF8.ex g1, so1, hG8.ex g1, so2, bare2, fun oa ts1 us1 t9 H9 o9 pu9 l9 sq9 rd9 lts1 => do_cons ((ea_cons (ev_var rfl) (ea_cons (ev_var rfl) (ea_cons (ev_var rfl) ea_nil))) H9 (Ex.refl _) _ fun I2 g2 => ⟨p, p, t9, v2, v3, sg2, sg3, rfl, pu9.ex g2, by omega, (hG8.off pu8 ((Off.of_ex g1).trans o9)).ex g2, so2, (hP8.off pu8 ((Off.of_ex g1).trans o9)).ex g2, so3, bare3, fun ob ts2 us2 t10 H10' o10' pu10' l10 sq10' rd10' lts2 => do_nil ⟨by show 2 ≤ sizeLine; decide, fun tb ntb => ?_⟩⟩)⟩)))
    refine ⟨tb, _, rfl, st_of (K := K) upd_same, rfl, _, _, rfl, _, _, rfl, rfl, ?_⟩
    have x10 : Ex H10' (upd H10' tb (.tup [.ref oa, .ref ob])) := Ex.new ntb
    have o10 : Off I2 (upd H10' tb (.tup [.ref oa, .ref ob])) p p := o10'.trans (.of_ex x10)
    have pu10 := pu10'.ex x10
    have sq10 := ex_t x10 sq10'
    have rd10 : Rdg K (upd H10' tb (.tup [.ref oa, .ref ob])) sg2 sg3 ts2 us2 := ⟨rd10'.tms.et (Dw.Ex.et x10), rd10'.len, rd10'.each⟩
    clear o10' pu10' sq10' rd10'
    generalize upd H10' tb (.tup [.ref oa, .ref ob]) = H10 at *
    have o89 : Off H8 H9 p p := (Off.of_ex g1).trans o9
    have o910 : Off H9 H10 p p := (Off.of_ex g2).trans o10
    have o810 := o89.trans o910
    have r71 := rd7_of so1 rd9 lts1
    have r72 := rd7_of so2 rd10 lts2
    have ea1 := Gvn_each rd9 lts1
    have ea2 := Gvn_each rd10 lts2
    have hR1 : GRd K H10 sg1 sg2 ts1 (.ref oa) := (grd_of sq9 rd9 lts1).et (o910.et pu9)
    have hR2 : GRd K H10 sg2 sg3 ts2 (.ref ob) := grd_of sq10 rd10 lts2
    have tv1 : SqT K H10 oa us1 ∧ TmsV K H10 ts1 us1 := ⟨o910.et pu9 _ _ sq9, rd9.tms.et (o910.et pu9)⟩
    show tSeq _ _ _ [some (.ref a), some (vi i), some (.ref p), some v1, some v2, some v3, some (.ref oa), some (.ref ob), y8, y9, y10, y11, y12, y13, y14, y15] H10
    -- the model
    refine do_set ((ea_cons (ev_var rfl) (ea_cons (ev_var rfl) (ea_cons (ev_c (v := vi 4)) ea_nil))) H10 (Ex.refl _) _ fun I1 k1 => ⟨p, p, t10, 4, v2, sg2, rfl, pu10.ex k1, by omega, by decide, by decide, (hG8.off pu8 o810).ex k1, so2, fun mv n tbs t11 H11 o11 pu11 l11 hM11 mo => ?_⟩)
    have o1011 : Off H10 H11 p p := (Off.of_ex k1).trans o11
    have o811 := o810.trans o1011
    show tSeq _ _ _ [some (.ref a), some (vi i), some (.ref p), some v1, some v2, some v3, some (.ref oa), some (.ref ob), some mv, y9, y10, y11, y12, y13, y14, y15] H11
    -- the terms
    refine do_set (do_lterms (hF8.off pu8 o811) so1 bare1 pu11 (by omega) fun la us tms t12 H12 o12 pu12 l12 lap hla tvs all l4 => ?_)
    have o812 := o811.trans o12
    have o1012 := o1011.trans o12
    have g12 : Gvn K H12 v1 v2 v3 (.ref oa) (.ref ob) mv la sg1 sg2 sg3 ts1 ts2 n tbs tms us := ⟨hF8.off pu8 o812, hG8.off pu8 o812, hP8.off pu8 o812, hR1.et (o1012.et pu10), hR2.et (o1012.et pu10), hM11.et (o12.et pu11), hla, tvs⟩
    have sq1 : SqT K H12 oa us1 := o1012.et pu10 _ _ tv1.1
    have tm1 : TmsV K H12 ts1 us1 := tv1.2.et (o1012.et pu10)
    have gbk := gb_kept g12 so1 so2 so3 ea1 ea2 mo all l4
    have seq12 : Off H4 H12 p p := o48.trans o812
    clear o12 o11 o1011 o811 o810 o910 o89 hR1 hR2 tv1 hM11 hF8 hG8 hP8 hF5 hG6 hP7 rd9 rd10 sq9 sq10
    have lus := tvs.len
    obtain ⟨KEPT, hKEPT⟩ : ∃ z, z = strD (keptD sg1 sg2 sg3 ts1 ts2 n tbs tms) := ⟨_, rfl⟩
    show tSeq _ _ _ [some (.ref a), some (vi i), some (.ref p), some v1, some v2, some v3, some (.ref oa), some (.ref ob), some mv, some (.ref la), y10, y11, y12, y13, y14, y15] H12
    refine q_asg (ev_keptG (K := K) rfl rfl g12 gbk rfl rfl rfl rfl rfl rfl rfl) fun HA eA => ?_
    have gA := g12.ex eA
    rw [← hKEPT]
    show tSeq _ _ _ [some (.ref a), some (vi i), some (.ref p), some v1, some v2, some v3, some (.ref oa), some (.ref ob), some mv, some (.ref la), some (.str KEPT), y11, y12, y13, y14, y15] HA
    -- each term
    refine q_forLn (K := K) (ev_var rfl) (sq_of gA.l) (fun k σ' H' => Ex HA H' ∧ ∃ x11 x12, σ' = [some (.ref a), some (vi i), some (.ref p), some v1, some v2, some v3, some (.ref oa), some (.ref ob), some mv, some (.ref la), some (.str KEPT), x11, x12, y13, y14, y15]) (fun HF eF => ⟨eF, _, _, rfl⟩) (fun k σ' H' _ h => sq_of (h.1 _ _ gA.l)) (fun k x σ' HB hx hP => ?_) (fun σ' HB hP => ?_)
    · obtain ⟨eB, w11, w12, hσ⟩ := hP
      subst hσ
      have gB := gA.ex eB
      obtain ⟨t, ht, tv⟩ := gB.t.get hx
      obtain ⟨ok, s15, h4⟩ := all t (List.mem_of_getElem? ht)
      obtain ⟨b1, b2⟩ := rd_bnd so2 r71 4 t h4 ok
      have b3 := Nat.le_trans b1 (bnd_mono h4)
      rw [bnd4.1] at b3
      have ok2 : (t.rd (fOf sg1 ts1)).ok sg2 := rd_ok r71 4 t h4 ok
      show tSeq _ _ _ [some (.ref a), some (vi i), some (.ref p), some v1, some v2, some v3, some (.ref oa), some (.ref ob), some mv, some (.ref la), some (.str KEPT), some x, w12, y13, y14, y15] HB
      refine q_asgP (ep_call (LrA.mk sg1 sg2 ts1 t) (ea_cons (ev_var rfl) (ea_cons (ev_var rfl) (ea_cons (ev_var rfl) ea_nil))) (fun H6 e6 => ⟨⟨_, _, _, rfl, gB.f1.ex e6, gB.r1.ex e6, tv.et (Dw.Ex.et e6)⟩, so1, ok, by show t.hgt < 5; omega⟩)) fun dv HC eC hd => ?_
      replace hd : TmV K HC (t.rd (fOf sg1 ts1)) dv := hd
      have gC := gB.ex eC
      have tvC := tv.et (Dw.Ex.et eC)
      show tSeq _ _ _ [some (.ref a), some (vi i), some (.ref p), some v1, some v2, some v3, some (.ref oa), some (.ref ob), some mv, some (.ref la), some (.str KEPT), some x, some dv, y13, y14, y15] HC
      refine do_set (do_pickG (K := K) (k := 60) (n := (t.rd (fOf sg1 ts1)).sz) (y := dv) (ev_var rfl) (ev_lenParts (n := 13) (ev_var rfl) hd (by omega) (by omega)) fun HD eD => ?_)
      have gD := gC.ex eD
      have tvD := tvC.et (Dw.Ex.et eD)
      by_cases big : 60 < (t.rd (fOf sg1 ts1)).sz
      · rw [decide_eq_true big]
        show tIfS _ _ _ _ [some (.ref a), some (vi i), some (.ref p), some v1, some v2, some v3, some (.ref oa), some (.ref ob), some mv, some (.ref la), some (.str KEPT), some x, some (.str "big"), y13, y14, y15] HD
        exact s_when (b := false) (et_said (K := K) (i := 3) (j := 4) (t := t) (ts := ts1) (d := .str "big") rfl rfl gD.f1 gD.f2 so1 so2 (ep_ev (ev_var rfl) fun H' e => gD.r1.ex e) (ep_is rfl tvD) ok (ep_ev (P := fun v H' => Dp K H' v (.str "big")) (ev_var rfl) fun H' e => .str _) (lay_str (by decide +kernel)) (.inr ⟨by omega, .inl ⟨big, rfl⟩⟩)) (fun hb => by cases hb) (fun _ HE eE => ⟨(eB.trans eC).trans (eD.trans eE), _, _, rfl⟩)
      · rw [decide_eq_false big]
        have hdD := hd.et (Dw.Ex.et eD)
        show tIfS _ _ _ _ [some (.ref a), some (vi i), some (.ref p), some v1, some v2, some v3, some (.ref oa), some (.ref ob), some mv, some (.ref la), some (.str KEPT), some x, some dv, y13, y14, y15] HD
        exact s_when (b := false) (et_said (K := K) (i := 3) (j := 4) (t := t) (ts := ts1) (d := (t.rd (fOf sg1 ts1)).data) rfl rfl gD.f1 gD.f2 so1 so2 (ep_ev (ev_var rfl) fun H' e => gD.r1.ex e) (ep_is rfl tvD) ok (ep_ev (P := fun v H' => Dp K H' v (t.rd (fOf sg1 ts1)).data) (ev_var rfl) fun H' e => (hdD.et (Dw.Ex.et e)).dp) (lay_tm so2 ok2 (by omega)) (.inr ⟨by omega, .inr ⟨by omega, rfl⟩⟩)) (fun hb => by cases hb) (fun _ HE eE => ⟨(eB.trans eC).trans (eD.trans eE), _, _, rfl⟩)
    · obtain ⟨eB, w11, w12, hσ⟩ := hP
      subst hσ
      have gB := gA.ex eB
      have xB := eA.trans eB
      show tSeq _ _ _ [some (.ref a), some (vi i), some (.ref p), some v1, some v2, some v3, some (.ref oa), some (.ref ob), some mv, some (.ref la), some (.str KEPT), w11, w12, y13, y14, y15] HB
      -- the model as read
      have mpre : ∀ {HC : Hp}, Ex HB HC → MrPre K (MrA.mk sg1 sg2 ts1 n tbs) [v1, v2, .ref oa, mv] HC := fun e => ⟨⟨_, _, _, _, rfl, gB.f1.ex e, gB.f2.ex e, gB.r1.ex e, gB.m.ex e⟩, so1, so2, mo⟩
      refine q_when (b := false) (et_same (d := dM n (rdTb n sg2 tbs sg1 ts1)) ((ep_call (MrA.mk sg1 sg2 ts1 n tbs) (ea_cons (ev_var rfl) (ea_cons (ev_var rfl) (ea_cons (ev_var rfl) (ea_cons (ev_var rfl) ea_nil)))) (fun HC e => mpre e)).imp fun v9 H9 _ z => Mdl.dp z) ((ep_call (MrA.mk sg1 sg2 ts1 n tbs) (ea_cons (ev_var rfl) (ea_cons (ev_var rfl) (ea_cons (ev_var rfl) (ea_cons (ev_var rfl) ea_nil)))) (fun HC e => mpre e)).imp fun v9 H9 _ z => Mdl.dp z) (lay_dM _ _)) (fun hb => by cases hb) (fun _ HC eC => ?_)
      have gC := gB.ex eC
      have xC := xB.trans eC
      -- two readings
      have l14 : ts1.length ≤ 4 := by
        have := so1.l4
        omega
      refine do_set (do_cb (do_cons (do_both (fun _ => rfl) (fun _ => rfl) (fun _ => rfl) (fun _ => rfl) rfl (ex_t xC sq1) (tm1.et (Dw.Ex.et xC)) gC.f2 gC.r2 so2 (fun t ht => ⟨(ea1 t ht).1, (ea1 t ht).2.2⟩) l14 fun D zs HD eD hD tz => do_nil ⟨D, zs, rfl, .inl ⟨sq_of hD, fun ba nba => ?_⟩⟩)))
      have x5 : Ex HD (upd HD ba (.tup zs)) := Ex.new nba
      have hba : SqT K (upd HD ba (.tup zs)) ba zs := st_of upd_same
      have tzE := tz.et (Dw.Ex.et x5)
      generalize upd HD ba (.tup zs) = HE at *
      have eCE := eD.trans x5
      have gE := gC.ex eCE
      show tSeq _ _ _ [some (.ref a), some (vi i), some (.ref p), some v1, some v2, some v3, some (.ref oa), some (.ref ob), some mv, some (.ref la), some (.str KEPT), w11, w12, some (.ref ba), y14, y15] HE
      have rok : ∀ t ∈ rds (fOf sg2 ts2) ts1, t.ok sg3 ∧ t.hgt ≤ 9 ∧ t.sz ≤ 1000 := fun t ht => by
        rw [rds_map] at ht
        obtain ⟨t', ht', rfl⟩ := List.mem_map.mp ht
        obtain ⟨o, _, h3⟩ := ea1 t' ht'
        obtain ⟨b1, b2⟩ := rd_bnd so3 r72 3 t' h3 o
        have b3 := Nat.le_trans b1 (bnd_mono h3)
        rw [bnd4.2] at b3
        exact ⟨rd_ok r72 3 t' h3 o, by omega, by omega⟩
      have rl : (rds (fOf sg2 ts2) ts1).length ≤ 4 := by
        rw [rds_map, List.length_map]
        exact l14
      refine do_set (do_pick (K := K) (i := 13) (y := .ref ba) (ev_var rfl) (ev_bigs (fun _ => rfl) (fun _ => rfl) rfl hba tzE so3 rok rl) fun HF eF => ?_)
      have gF := gE.ex eF
      have hbaF := ex_t eF hba
      have tzF := tzE.et (Dw.Ex.et eF)
      have xF := (xC.trans eCE).trans eF
      have layT : Lay (.tuple (datas (rds (fOf sg2 ts2) ts1))) := by
        refine Gd.layd (k := 20) (W := 4 * (wB 9 + 1)) (gd_tup (k := 19) (W := wB 9) (L := 4) (fun d hd => ?_) (by rw [datas_len]; exact rl)) (by decide)
        rw [datas_map] at hd
        obtain ⟨t, ht, rfl⟩ := List.mem_map.mp hd
        exact (gd_tm so3 t (rok t ht).1).mono (by have := (rok t ht).2.1; omega) (wB_mono (rok t ht).2.1)
      obtain ⟨y, d, hy, hyd, lay, due⟩ : ∃ (y : V) (d : PyData), (if (!(bigs (rds (fOf sg2 ts2) ts1)).isEmpty) = true then V.str "big" else .ref ba) = y ∧ Dp K HF y d ∧ Lay d ∧ (((∃ t ∈ ts1, 60 < (t.rd (fOf sg2 ts2)).sz) ∧ d = .str "big") ∨ ((∀ t ∈ ts1, (t.rd (fOf sg2 ts2)).sz ≤ 60) ∧ d = .tuple (datas (rds (fOf sg2 ts2) ts1)))) := by
        cases b : (!(bigs (rds (fOf sg2 ts2) ts1)).isEmpty) with
        | true =>
          obtain ⟨t, ht, h6⟩ := bigs_t b
          rw [rds_map] at ht
          obtain ⟨t', ht', rfl⟩ := List.mem_map.mp ht
          exact ⟨.str "big", .str "big", rfl, .str _, lay_str (by decide +kernel), .inl ⟨⟨t', ht', h6⟩, rfl⟩⟩
        | false => exact ⟨.ref ba, _, rfl, .tup hbaF (TmsV.dp tzF), layT, .inr ⟨fun t ht => bigs_f b _ (by rw [rds_map]; exact List.mem_map.mpr ⟨t, ht, rfl⟩), rfl⟩⟩
      rw [hy]
      show tSeq _ _ _ [some (.ref a), some (vi i), some (.ref p), some v1, some v2, some v3, some (.ref oa), some (.ref ob), some mv, some (.ref la), some (.str KEPT), w11, some y, some (.ref ba), y14, y15] HF
      refine q_whenE ?_
      refine et_two rfl rfl rfl rfl rfl rfl gF so1 so2 so3 hyd lay due HF (Ex.refl _) _ fun HG eG => iteF ?_
      have gG := gF.ex eG
      have puG := pu12.ex (xF.trans eG)
      refine do_notV ((ea_cons (ev_var rfl) (ea_cons (ev_var rfl) (ea_cons (ev_var rfl) (ea_cons (ev_var rfl) (ea_cons (ev_var rfl) ea_nil))))) HG (Ex.refl _) _ fun HI eI => ⟨p, p, t12, v1, v2, .ref oa, mv, sg1, sg2, ts1, n, tbs, rfl, puG.ex eI, by omega, gG.f1.ex eI, gG.f2.ex eI, so1, so2, gG.r1.ex eI, gG.m.ex eI, mo, fun HJ oJ puJ => ⟨true, rfl, iteF ?_⟩⟩)
      have oGJ : Off HG HJ p p := (Off.of_ex eI).trans oJ
      have gJ := gG.off puG lap oGJ
      refine s_when (b := false) (et_test (ev_op (ev_keptG (K := K) rfl rfl gJ gbk rfl rfl rfl rfl rfl rfl rfl) (ev_var rfl) (rv_neX rfl (by rw [hKEPT])))) (fun hb => by cases hb) (fun _ HL eL => ?_)
      exact ⟨sql_through seq3 np e4 (((seq12.trans (.of_ex (xF.trans eG))).trans oGJ).trans (.of_ex eL)), _, _, _, _, _, _, _, _, _, _, _, _, _, _, _, rfl⟩
  · obtain ⟨_, y1, y2, y3, y4, y5, y6, y7, y8, y9, y10, y11, y12, y13, y14, y15, hσ⟩ := tn
    subst hσ
    refine s_ret (v := .bl true) (fun H1 e1 Q q => ?_) fun H3 e3 => rfl
    refine ev_callV (v := .bl true) () ea_nil (fun _ _ => rfl) (fun _ _ h => h) H1 e1 _ fun H2 e2 => ⟨true, rfl, iteT ?_⟩
    exact ev_callV (v := .bl true) () ea_nil (fun _ _ => rfl) (fun _ _ h => h) H2 (e1.trans e2) _ fun H3 e3 => q H3 (e2.trans e3)
end
end K80
end
section
namespace K80
open PySem PySem.Spec PyProof.Rows L2 Evl RZ Dw M20
section
variable {K : PySem.W.Frag} {h : Heap} {mg : Str → Option Value}
/-- a def by what the top has written -/
structure Wr (K : PySem.W.Frag) (x : Str) (st : Stmt) (f : Addr) : Prop where
  ex : ∃ (fd : FuncData), Fun K x x st f fd
  at_ : PySem.W.nsIn K mainGlobals x = some (some (.ref f))
theorem wr_mk {x : Str} {st : Stmt} {f : Addr} {od an : Option Addr} {sl : Array (Option Value)} {oc kV dc pm cd ct : Value} (a1 : PySem.W.nsIn K mainGlobals x = some (some (.ref f)))
    (l1 : K.lookup f = some ⟨oc, od, .func (PySem.W.fnOf x x (defArgs st) (defBody st) (defScope st) .none kV dc pm an cd ct), sl⟩) (c1 : PySem.W.codeIn K cd x = true) (k1 : PySem.W.keepIn K (.ref f) = true) : Wr K x st f := ⟨⟨_, fun_mk l1 c1 k1⟩, a1⟩
theorem Wr.df {x : Str} {st : Stmt} {f : Addr} {ps : List Str} (W : Wr K x st f) (X : K.In h) (G : h.Ns mainGlobals mg) (b : ∀ fd, Fun K x x st f fd → Binds K fd ps []) : Df K mg x st ps := by
  obtain ⟨fd, F⟩ := W.ex
  exact ⟨f, fd, F, PySem.W.mg_of X G W.at_, b fd F⟩
/-- the variables, as the top has written them -/
structure WV (K : PySem.W.Frag) (va : Addr) : Prop where
  at_ : PySem.W.nsIn K mainGlobals "VARIABLES" = some (some (.ref va))
  sq : ∀ H, SqT K H va (vars.map V.str)
theorem wv_mk {va : Addr} {sl : Array (Option Value)} {n : Nat} {t0 t1 t2 t3 t4 t5 : Tok} (a1 : PySem.W.nsIn K mainGlobals "VARIABLES" = some (some (.ref va))) (l1 : K.lookup va = some ⟨.type "tuple", none, .seq #[.str "u" t0, .str "v" t1, .str "w" t2, .str "x" t3, .str "y" t4, .str "z" t5] n, sl⟩) : WV K va :=
  ⟨a1, fun H => .inr ⟨_, _, _, l1, rfl, rfl, by show 6 ≤ sizeLine; decide, .cons ⟨_, rfl⟩ (.cons ⟨_, rfl⟩ (.cons ⟨_, rfl⟩ (.cons ⟨_, rfl⟩ (.cons ⟨_, rfl⟩ (.cons ⟨_, rfl⟩ .nil)))))⟩⟩
end

theorem all_mk {P : Program} {w : World} {K : PySem.W.Frag} {h : Heap} {mg : Str → Option Value} {fa : Addr} (X : K.In h) (G : h.Ns mainGlobals mg) (hfa : mg "law" = some (.ref fa)) (room : Room 81 callerA)
    {fl : Addr} {f0 : Addr} {f1 : Addr} {f2 : Addr} {f3 : Addr} {f4 : Addr} {f5 : Addr} {f6 : Addr} {f7 : Addr} {f8 : Addr} {f9 : Addr} {f10 : Addr} {f11 : Addr} {f12 : Addr} {f13 : Addr} {f14 : Addr} {f15 : Addr} {f16 : Addr} {f17 : Addr} {f18 : Addr} {f19 : Addr} {f20 : Addr} {f21 : Addr} {f22 : Addr} {f23 : Addr} {f24 : Addr} {f25 : Addr} {f26 : Addr} {f27 : Addr} {f28 : Addr} {f29 : Addr} {f30 : Addr} {f31 : Addr} {f32 : Addr} {f33 : Addr} {f34 : Addr} {f35 : Addr} {f36 : Addr} {f37 : Addr} {f38 : Addr} {f39 : Addr} {f40 : Addr} {f41 : Addr} {f42 : Addr} {f43 : Addr} {f44 : Addr} {f45 : Addr} {f46 : Addr} {f47 : Addr} {f48 : Addr} {f49 : Addr} {f50 : Addr} {f51 : Addr} {f52 : Addr} {f53 : Addr} {va : Addr} {G0 e0 e1 e2 e3 : Addr}
    {t_NAME_LETTERS : Tok} {t_MOST_NAME : Tok} {t_MOST_DEEDS : Tok} {t_MOST_PLACES : Tok} {t_MOST_PARTS : Tok} {t_MOST_SIZE : Tok}
    (w0 : Wr K "is_whole" s_is_whole f0)
    (w1 : Wr K "is_below" s_is_below f1)
    (w2 : Wr K "power" s_power f2)
    (w3 : Wr K "is_name" s_is_name f3)
    (w4 : Wr K "is_deed" s_is_deed f4)
    (w5 : Wr K "signature_wrong" s_signature_wrong f5)
    (w6 : Wr K "need_signature" s_need_signature f6)
    (w7 : Wr K "is_size" s_is_size f7)
    (w8 : Wr K "first_odd_cell" s_first_odd_cell f8)
    (w9 : Wr K "model_wrong" s_model_wrong f9)
    (w10 : Wr K "need_model" s_need_model f10)
    (w11 : Wr K "variables_met" s_variables_met f11)
    (w12 : Wr K "variables_of" s_variables_of f12)
    (w13 : Wr K "has_term_form" s_has_term_form f13)
    (w14 : Wr K "wrong_in_term" s_wrong_in_term f14)
    (w15 : Wr K "term_wrong" s_term_wrong f15)
    (w16 : Wr K "need_term" s_need_term f16)
    (w17 : Wr K "table_of" s_table_of f17)
    (w18 : Wr K "letter_column" s_letter_column f18)
    (w19 : Wr K "term_column" s_term_column f19)
    (w20 : Wr K "_law_mixed" s__law_mixed f20)
    (w21 : Wr K "_law_pile" s__law_pile f21)
    (w22 : Wr K "_law_take" s__law_take f22)
    (w23 : Wr K "_law_order" s__law_order f23)
    (w24 : Wr K "_law_word" s__law_word f24)
    (w25 : Wr K "_law_signature" s__law_signature f25)
    (w26 : Wr K "_law_term" s__law_term f26)
    (w27 : Wr K "_law_parts" s__law_parts f27)
    (w28 : Wr K "_law_reading" s__law_reading f28)
    (w29 : Wr K "_law_strange" s__law_strange f29)
    (w30 : Wr K "is_reading_of_deed" s_is_reading_of_deed f30)
    (w31 : Wr K "reading_wrong" s_reading_wrong f31)
    (w32 : Wr K "need_reading" s_need_reading f32)
    (w33 : Wr K "exchanged" s_exchanged f33)
    (w34 : Wr K "grown_many" s_grown_many f34)
    (w35 : Wr K "parts_read" s_parts_read f35)
    (w36 : Wr K "read_by" s_read_by f36)
    (w37 : Wr K "small_read_by" s_small_read_by f37)
    (w38 : Wr K "reading_by_names" s_reading_by_names f38)
    (w39 : Wr K "term_read" s_term_read f39)
    (w40 : Wr K "two_read" s_two_read f40)
    (w41 : Wr K "model_read" s_model_read f41)
    (w42 : Wr K "_law_put" s__law_put f42)
    (w43 : Wr K "_law_worth" s__law_worth f43)
    (w44 : Wr K "_law_rows" s__law_rows f44)
    (w45 : Wr K "_law_read" s__law_read f45)
    (w46 : Wr K "_law_model" s__law_model f46)
    (w47 : Wr K "_law_model_due" s__law_model_due f47)
    (w48 : Wr K "_law_said" s__law_said f48)
    (w49 : Wr K "_law_two_said" s__law_two_said f49)
    (w50 : Wr K "_law_chain" s__law_chain f50)
    (w51 : Wr K "_law_refused" s__law_refused f51)
    (w52 : Wr K "_law_doubled" s__law_doubled f52)
    (w53 : Wr K "_law_sizes_right" s__law_sizes_right f53)
    (wl : Wr K "law" s_law fl)
    (wv : WV K va)
    (x6 : PySem.W.specialIn K (.builtin "object.__class__") "__get__" = some (some (.builtin "getset_descriptor.__get__")))
    (x7 : PySem.W.takesIn K (.builtin "object.__class__") = some true)
    (xg : PySem.W.nsIn K mainGlobals "DeedError" = some (some (.ref G0)))
    (xa0 : PySem.W.nsIn K mainGlobals "TooBig" = some (some (.ref e0)))
    (xa1 : PySem.W.nsIn K mainGlobals "NoTerm" = some (some (.ref e1)))
    (xa2 : PySem.W.nsIn K mainGlobals "NoModel" = some (some (.ref e2)))
    (xa3 : PySem.W.nsIn K mainGlobals "NoReading" = some (some (.ref e3)))
    (xk0 : PySem.W.keepIn K (.ref e0) = true)
    (xq0 : PySem.W.excIn K e0 [.type "ValueError", .type "Exception", .type "BaseException", .type "object"] "ValueError.__new__" = true)
    (xt0 : PySem.W.typeIn K (.ref e0) = some (.type "type"))
    (x1_0 : PySem.W.findIn K (.ref e0) "__getattribute__" = some (some (.builtin "BaseException.__getattribute__")))
    (x2_0 : PySem.W.findIn K (.ref e0) "__getattr__" = some none)
    (x3_0 : PySem.W.subIn K (.ref e0) (.type "BaseException") = some true)
    (x4_0 : PySem.W.hasDictIn K e0 = true)
    (x5_0 : PySem.W.findIn K (.ref e0) "__class__" = some (some (.builtin "object.__class__")))
    (x8_0 : PySem.W.mroIn K e0 (.type "object") = some true)
    (xk1 : PySem.W.keepIn K (.ref e1) = true)
    (xq1 : PySem.W.excIn K e1 [.type "ValueError", .type "Exception", .type "BaseException", .type "object"] "ValueError.__new__" = true)
    (xt1 : PySem.W.typeIn K (.ref e1) = some (.type "type"))
    (x1_1 : PySem.W.findIn K (.ref e1) "__getattribute__" = some (some (.builtin "BaseException.__getattribute__")))
    (x2_1 : PySem.W.findIn K (.ref e1) "__getattr__" = some none)
    (x3_1 : PySem.W.subIn K (.ref e1) (.type "BaseException") = some true)
    (x4_1 : PySem.W.hasDictIn K e1 = true)
    (x5_1 : PySem.W.findIn K (.ref e1) "__class__" = some (some (.builtin "object.__class__")))
    (x8_1 : PySem.W.mroIn K e1 (.type "object") = some true)
    (xk2 : PySem.W.keepIn K (.ref e2) = true)
    (xq2 : PySem.W.excIn K e2 [.type "ValueError", .type "Exception", .type "BaseException", .type "object"] "ValueError.__new__" = true)
    (xt2 : PySem.W.typeIn K (.ref e2) = some (.type "type"))
    (x1_2 : PySem.W.findIn K (.ref e2) "__getattribute__" = some (some (.builtin "BaseException.__getattribute__")))
    (x2_2 : PySem.W.findIn K (.ref e2) "__getattr__" = some none)
    (x3_2 : PySem.W.subIn K (.ref e2) (.type "BaseException") = some true)
    (x4_2 : PySem.W.hasDictIn K e2 = true)
    (x5_2 : PySem.W.findIn K (.ref e2) "__class__" = some (some (.builtin "object.__class__")))
    (x8_2 : PySem.W.mroIn K e2 (.type "object") = some true)
    (sbb : PySem.W.subIn K (.ref e0) (.ref e0) = some true)
    (stb : PySem.W.subIn K (.ref e1) (.ref e0) = some false)
    (stt : PySem.W.subIn K (.ref e1) (.ref e1) = some true)
    (snn : PySem.W.subIn K (.ref e2) (.ref e2) = some true)
    (ong : PySem.W.kitOne K (.ref e2) (.ref G0) = some true)
    (z_ValueError : PySem.W.nsIn K mainGlobals "ValueError" = some none)
    (z_abs : PySem.W.nsIn K mainGlobals "abs" = some none)
    (z_all : PySem.W.nsIn K mainGlobals "all" = some none)
    (z_bool : PySem.W.nsIn K mainGlobals "bool" = some none)
    (z_dict : PySem.W.nsIn K mainGlobals "dict" = some none)
    (z_enumerate : PySem.W.nsIn K mainGlobals "enumerate" = some none)
    (z_int : PySem.W.nsIn K mainGlobals "int" = some none)
    (z_isinstance : PySem.W.nsIn K mainGlobals "isinstance" = some none)
    (z_len : PySem.W.nsIn K mainGlobals "len" = some none)
    (z_list : PySem.W.nsIn K mainGlobals "list" = some none)
    (z_range : PySem.W.nsIn K mainGlobals "range" = some none)
    (z_reversed : PySem.W.nsIn K mainGlobals "reversed" = some none)
    (z_set : PySem.W.nsIn K mainGlobals "set" = some none)
    (z_sorted : PySem.W.nsIn K mainGlobals "sorted" = some none)
    (z_str : PySem.W.nsIn K mainGlobals "str" = some none)
    (z_tuple : PySem.W.nsIn K mainGlobals "tuple" = some none)
    (z_zip : PySem.W.nsIn K mainGlobals "zip" = some none)
    (k_NAME_LETTERS : PySem.W.nsIn K mainGlobals "NAME_LETTERS" = some (some (.str "abcdefghijklmnopqrst" t_NAME_LETTERS)))
    (k_MOST_NAME : PySem.W.nsIn K mainGlobals "MOST_NAME" = some (some (.int 4 t_MOST_NAME)))
    (k_MOST_DEEDS : PySem.W.nsIn K mainGlobals "MOST_DEEDS" = some (some (.int 4 t_MOST_DEEDS)))
    (k_MOST_PLACES : PySem.W.nsIn K mainGlobals "MOST_PLACES" = some (some (.int 2 t_MOST_PLACES)))
    (k_MOST_PARTS : PySem.W.nsIn K mainGlobals "MOST_PARTS" = some (some (.int 60 t_MOST_PARTS)))
    (k_MOST_SIZE : PySem.W.nsIn K mainGlobals "MOST_SIZE" = some (some (.int 6 t_MOST_SIZE))) :
    ∃ (fd : FuncData) (st : Stmt) (N : List Str), Fun K "law" "law" st fa fd ∧ FnScope N ["_law_script"] (defScope st) ∧ (∀ (s : Shared) (u : Value), BindsTo s fd ⟨[u], []⟩ [("_law_script", u)]) ∧
      ∀ (base : Heap) (s : Shared) (H : Hp) (cdv : Value) (a : Addr) (ns : List Int), K.In base → base.Ns mainGlobals mg → ns.length ≤ 63 → SqL K H a (ns.map V.int) →
        ∃ t, PSs (cxOf CX0 P w K mg base N "law" (defScope st) fa cdv callerA [] s H E0).nox (defBody st) t ∧ t { nx := fun _ _ => False, rt := fun v _ => v = .bl true } (L2.start N [.ref a]) H := by
  have e := hfa.symm.trans (PySem.W.mg_of X G wl.at_)
  cases e
  have T : Txt mg := {
    z_ValueError := PySem.W.mg_none_of X G z_ValueError
    z_abs := PySem.W.mg_none_of X G z_abs
    z_all := PySem.W.mg_none_of X G z_all
    z_bool := PySem.W.mg_none_of X G z_bool
    z_dict := PySem.W.mg_none_of X G z_dict
    z_enumerate := PySem.W.mg_none_of X G z_enumerate
    z_int := PySem.W.mg_none_of X G z_int
    z_isinstance := PySem.W.mg_none_of X G z_isinstance
    z_len := PySem.W.mg_none_of X G z_len
    z_list := PySem.W.mg_none_of X G z_list
    z_range := PySem.W.mg_none_of X G z_range
    z_reversed := PySem.W.mg_none_of X G z_reversed
    z_set := PySem.W.mg_none_of X G z_set
    z_sorted := PySem.W.mg_none_of X G z_sorted
    z_str := PySem.W.mg_none_of X G z_str
    z_tuple := PySem.W.mg_none_of X G z_tuple
    z_zip := PySem.W.mg_none_of X G z_zip
    c_NAME_LETTERS := ⟨_, PySem.W.mg_of X G k_NAME_LETTERS⟩
    c_MOST_NAME := ⟨_, PySem.W.mg_of X G k_MOST_NAME⟩
    c_MOST_DEEDS := ⟨_, PySem.W.mg_of X G k_MOST_DEEDS⟩
    c_MOST_PLACES := ⟨_, PySem.W.mg_of X G k_MOST_PLACES⟩
    c_MOST_PARTS := ⟨_, PySem.W.mg_of X G k_MOST_PARTS⟩
    c_MOST_SIZE := ⟨_, PySem.W.mg_of X G k_MOST_SIZE⟩ }
  have V0 : Vars K mg va := ⟨PySem.W.mg_of X G wv.at_, wv.sq⟩
  have xt_0 : ExcT K mg "TooBig" e0 := ⟨PySem.W.mg_of X G xa0, xk0, xq0, xt0, ⟨x1_0, x2_0, x3_0, x4_0, x5_0, x6, x7, x8_0⟩⟩
  have xt_1 : ExcT K mg "NoTerm" e1 := ⟨PySem.W.mg_of X G xa1, xk1, xq1, xt1, ⟨x1_1, x2_1, x3_1, x4_1, x5_1, x6, x7, x8_1⟩⟩
  have xt_2 : ExcT K mg "NoModel" e2 := ⟨PySem.W.mg_of X G xa2, xk2, xq2, xt2, ⟨x1_2, x2_2, x3_2, x4_2, x5_2, x6, x7, x8_2⟩⟩
  have xg0 := PySem.W.mg_of X G xg
  have erR : ErR K mg e0 e1 e3 e2 G0 := ⟨xt_0, xt_1, xt_2, PySem.W.mg_of X G xa3, xg0, PySem.W.exm_ref x3_0 x4_0 xt0 sbb, PySem.W.exm_ref x3_0 x4_0 xt0 stb, PySem.W.exm_ref x3_1 x4_1 xt1 stt, PySem.W.exm_ref x3_2 x4_2 xt2 snn, ong⟩
  have D0 : Df K mg "is_whole" s_is_whole ["thing"] := w0.df X G fun fd F => by
    obtain ⟨oc, od, kV, doc, pm, an, cdv, ct, osl, e, _⟩ := F.ex
    subst e
    exact F.binds fun _ _ _ _ _ _ us hl => match us, hl with | [_], _ => rfl
  have D1 : Df K mg "is_below" s_is_below ["thing", "size"] := w1.df X G fun fd F => by
    obtain ⟨oc, od, kV, doc, pm, an, cdv, ct, osl, e, _⟩ := F.ex
    subst e
    exact F.binds fun _ _ _ _ _ _ us hl => match us, hl with | [_, _], _ => rfl
  have D2 : Df K mg "power" s_power ["base", "many"] := w2.df X G fun fd F => by
    obtain ⟨oc, od, kV, doc, pm, an, cdv, ct, osl, e, _⟩ := F.ex
    subst e
    exact F.binds fun _ _ _ _ _ _ us hl => match us, hl with | [_, _], _ => rfl
  have D3 : Df K mg "is_name" s_is_name ["thing"] := w3.df X G fun fd F => by
    obtain ⟨oc, od, kV, doc, pm, an, cdv, ct, osl, e, _⟩ := F.ex
    subst e
    exact F.binds fun _ _ _ _ _ _ us hl => match us, hl with | [_], _ => rfl
  have D4 : Df K mg "is_deed" s_is_deed ["thing"] := w4.df X G fun fd F => by
    obtain ⟨oc, od, kV, doc, pm, an, cdv, ct, osl, e, _⟩ := F.ex
    subst e
    exact F.binds fun _ _ _ _ _ _ us hl => match us, hl with | [_], _ => rfl
  have D5 : Df K mg "signature_wrong" s_signature_wrong ["thing"] := w5.df X G fun fd F => by
    obtain ⟨oc, od, kV, doc, pm, an, cdv, ct, osl, e, _⟩ := F.ex
    subst e
    exact F.binds fun _ _ _ _ _ _ us hl => match us, hl with | [_], _ => rfl
  have D6 : Df K mg "need_signature" s_need_signature ["signature"] := w6.df X G fun fd F => by
    obtain ⟨oc, od, kV, doc, pm, an, cdv, ct, osl, e, _⟩ := F.ex
    subst e
    exact F.binds fun _ _ _ _ _ _ us hl => match us, hl with | [_], _ => rfl
  have D7 : Df K mg "is_size" s_is_size ["thing"] := w7.df X G fun fd F => by
    obtain ⟨oc, od, kV, doc, pm, an, cdv, ct, osl, e, _⟩ := F.ex
    subst e
    exact F.binds fun _ _ _ _ _ _ us hl => match us, hl with | [_], _ => rfl
  have D8 : Df K mg "first_odd_cell" s_first_odd_cell ["size", "tables"] := w8.df X G fun fd F => by
    obtain ⟨oc, od, kV, doc, pm, an, cdv, ct, osl, e, _⟩ := F.ex
    subst e
    exact F.binds fun _ _ _ _ _ _ us hl => match us, hl with | [_, _], _ => rfl
  have D9 : Df K mg "model_wrong" s_model_wrong ["signature", "thing"] := w9.df X G fun fd F => by
    obtain ⟨oc, od, kV, doc, pm, an, cdv, ct, osl, e, _⟩ := F.ex
    subst e
    exact F.binds fun _ _ _ _ _ _ us hl => match us, hl with | [_, _], _ => rfl
  have D10 : Df K mg "need_model" s_need_model ["signature", "model"] := w10.df X G fun fd F => by
    obtain ⟨oc, od, kV, doc, pm, an, cdv, ct, osl, e, _⟩ := F.ex
    subst e
    exact F.binds fun _ _ _ _ _ _ us hl => match us, hl with | [_, _], _ => rfl
  have D11 : Df K mg "variables_met" s_variables_met ["term"] := w11.df X G fun fd F => by
    obtain ⟨oc, od, kV, doc, pm, an, cdv, ct, osl, e, _⟩ := F.ex
    subst e
    exact F.binds fun _ _ _ _ _ _ us hl => match us, hl with | [_], _ => rfl
  have D12 : Df K mg "variables_of" s_variables_of ["terms"] := w12.df X G fun fd F => by
    obtain ⟨oc, od, kV, doc, pm, an, cdv, ct, osl, e, _⟩ := F.ex
    subst e
    exact F.binds fun _ _ _ _ _ _ us hl => match us, hl with | [_], _ => rfl
  have D13 : Df K mg "has_term_form" s_has_term_form ["places", "thing"] := w13.df X G fun fd F => by
    obtain ⟨oc, od, kV, doc, pm, an, cdv, ct, osl, e, _⟩ := F.ex
    subst e
    exact F.binds fun _ _ _ _ _ _ us hl => match us, hl with | [_, _], _ => rfl
  have D14 : Df K mg "wrong_in_term" s_wrong_in_term ["places", "thing"] := w14.df X G fun fd F => by
    obtain ⟨oc, od, kV, doc, pm, an, cdv, ct, osl, e, _⟩ := F.ex
    subst e
    exact F.binds fun _ _ _ _ _ _ us hl => match us, hl with | [_, _], _ => rfl
  have D15 : Df K mg "term_wrong" s_term_wrong ["signature", "thing"] := w15.df X G fun fd F => by
    obtain ⟨oc, od, kV, doc, pm, an, cdv, ct, osl, e, _⟩ := F.ex
    subst e
    exact F.binds fun _ _ _ _ _ _ us hl => match us, hl with | [_, _], _ => rfl
  have D16 : Df K mg "need_term" s_need_term ["signature", "term"] := w16.df X G fun fd F => by
    obtain ⟨oc, od, kV, doc, pm, an, cdv, ct, osl, e, _⟩ := F.ex
    subst e
    exact F.binds fun _ _ _ _ _ _ us hl => match us, hl with | [_, _], _ => rfl
  have D17 : Df K mg "table_of" s_table_of ["signature", "tables", "name"] := w17.df X G fun fd F => by
    obtain ⟨oc, od, kV, doc, pm, an, cdv, ct, osl, e, _⟩ := F.ex
    subst e
    exact F.binds fun _ _ _ _ _ _ us hl => match us, hl with | [_, _, _], _ => rfl
  have D18 : Df K mg "letter_column" s_letter_column ["size", "many", "at"] := w18.df X G fun fd F => by
    obtain ⟨oc, od, kV, doc, pm, an, cdv, ct, osl, e, _⟩ := F.ex
    subst e
    exact F.binds fun _ _ _ _ _ _ us hl => match us, hl with | [_, _, _], _ => rfl
  have D19 : Df K mg "term_column" s_term_column ["signature", "model", "term", "letters"] := w19.df X G fun fd F => by
    obtain ⟨oc, od, kV, doc, pm, an, cdv, ct, osl, e, _⟩ := F.ex
    subst e
    exact F.binds fun _ _ _ _ _ _ us hl => match us, hl with | [_, _, _, _], _ => rfl
  have D20 : Df K mg "_law_mixed" s__law_mixed ["_law_cell", "_law_k"] := w20.df X G fun fd F => by
    obtain ⟨oc, od, kV, doc, pm, an, cdv, ct, osl, e, _⟩ := F.ex
    subst e
    exact F.binds fun _ _ _ _ _ _ us hl => match us, hl with | [_, _], _ => rfl
  have D21 : Df K mg "_law_pile" s__law_pile ["_law_script", "_law_k"] := w21.df X G fun fd F => by
    obtain ⟨oc, od, kV, doc, pm, an, cdv, ct, osl, e, _⟩ := F.ex
    subst e
    exact F.binds fun _ _ _ _ _ _ us hl => match us, hl with | [_, _], _ => rfl
  have D22 : Df K mg "_law_take" s__law_take ["_law_pile_here", "_law_many"] := w22.df X G fun fd F => by
    obtain ⟨oc, od, kV, doc, pm, an, cdv, ct, osl, e, _⟩ := F.ex
    subst e
    exact F.binds fun _ _ _ _ _ _ us hl => match us, hl with | [_, _], _ => rfl
  have D23 : Df K mg "_law_order" s__law_order ["_law_pile_here", "_law_some"] := w23.df X G fun fd F => by
    obtain ⟨oc, od, kV, doc, pm, an, cdv, ct, osl, e, _⟩ := F.ex
    subst e
    exact F.binds fun _ _ _ _ _ _ us hl => match us, hl with | [_, _], _ => rfl
  have D24 : Df K mg "_law_word" s__law_word ["_law_pile_here"] := w24.df X G fun fd F => by
    obtain ⟨oc, od, kV, doc, pm, an, cdv, ct, osl, e, _⟩ := F.ex
    subst e
    exact F.binds fun _ _ _ _ _ _ us hl => match us, hl with | [_], _ => rfl
  have D25 : Df K mg "_law_signature" s__law_signature ["_law_pile_here"] := w25.df X G fun fd F => by
    obtain ⟨oc, od, kV, doc, pm, an, cdv, ct, osl, e, _⟩ := F.ex
    subst e
    exact F.binds fun _ _ _ _ _ _ us hl => match us, hl with | [_], _ => rfl
  have D26 : Df K mg "_law_term" s__law_term ["_law_pile_here", "_law_sig", "_law_letters_here", "_law_depth"] := w26.df X G fun fd F => by
    obtain ⟨oc, od, kV, doc, pm, an, cdv, ct, osl, e, _⟩ := F.ex
    subst e
    exact F.binds fun _ _ _ _ _ _ us hl => match us, hl with | [_, _, _, _], _ => rfl
  have D27 : Df K mg "_law_parts" s__law_parts ["_law_term_here"] := w27.df X G fun fd F => by
    obtain ⟨oc, od, kV, doc, pm, an, cdv, ct, osl, e, _⟩ := F.ex
    subst e
    exact F.binds fun _ _ _ _ _ _ us hl => match us, hl with | [_], _ => rfl
  have D28 : Df K mg "_law_reading" s__law_reading ["_law_pile_here", "_law_sig", "_law_other"] := w28.df X G fun fd F => by
    obtain ⟨oc, od, kV, doc, pm, an, cdv, ct, osl, e, _⟩ := F.ex
    subst e
    exact F.binds fun _ _ _ _ _ _ us hl => match us, hl with | [_, _, _], _ => rfl
  have D29 : Df K mg "_law_strange" s__law_strange ["_law_pile_here", "_law_name"] := w29.df X G fun fd F => by
    obtain ⟨oc, od, kV, doc, pm, an, cdv, ct, osl, e, _⟩ := F.ex
    subst e
    exact F.binds fun _ _ _ _ _ _ us hl => match us, hl with | [_, _], _ => rfl
  have D30 : Df K mg "is_reading_of_deed" s_is_reading_of_deed ["places", "others", "thing"] := w30.df X G fun fd F => by
    obtain ⟨oc, od, kV, doc, pm, an, cdv, ct, osl, e, _⟩ := F.ex
    subst e
    exact F.binds fun _ _ _ _ _ _ us hl => match us, hl with | [_, _, _], _ => rfl
  have D31 : Df K mg "reading_wrong" s_reading_wrong ["signature", "other", "thing"] := w31.df X G fun fd F => by
    obtain ⟨oc, od, kV, doc, pm, an, cdv, ct, osl, e, _⟩ := F.ex
    subst e
    exact F.binds fun _ _ _ _ _ _ us hl => match us, hl with | [_, _, _], _ => rfl
  have D32 : Df K mg "need_reading" s_need_reading ["signature", "other", "reading"] := w32.df X G fun fd F => by
    obtain ⟨oc, od, kV, doc, pm, an, cdv, ct, osl, e, _⟩ := F.ex
    subst e
    exact F.binds fun _ _ _ _ _ _ us hl => match us, hl with | [_, _, _], _ => rfl
  have D33 : Df K mg "exchanged" s_exchanged ["term", "putting"] := w33.df X G fun fd F => by
    obtain ⟨oc, od, kV, doc, pm, an, cdv, ct, osl, e, _⟩ := F.ex
    subst e
    exact F.binds fun _ _ _ _ _ _ us hl => match us, hl with | [_, _], _ => rfl
  have D34 : Df K mg "grown_many" s_grown_many ["term", "grown_by"] := w34.df X G fun fd F => by
    obtain ⟨oc, od, kV, doc, pm, an, cdv, ct, osl, e, _⟩ := F.ex
    subst e
    exact F.binds fun _ _ _ _ _ _ us hl => match us, hl with | [_, _], _ => rfl
  have D35 : Df K mg "parts_read" s_parts_read ["by_names", "term"] := w35.df X G fun fd F => by
    obtain ⟨oc, od, kV, doc, pm, an, cdv, ct, osl, e, _⟩ := F.ex
    subst e
    exact F.binds fun _ _ _ _ _ _ us hl => match us, hl with | [_, _], _ => rfl
  have D36 : Df K mg "read_by" s_read_by ["by_names", "term"] := w36.df X G fun fd F => by
    obtain ⟨oc, od, kV, doc, pm, an, cdv, ct, osl, e, _⟩ := F.ex
    subst e
    exact F.binds fun _ _ _ _ _ _ us hl => match us, hl with | [_, _], _ => rfl
  have D37 : Df K mg "small_read_by" s_small_read_by ["by_names", "term"] := w37.df X G fun fd F => by
    obtain ⟨oc, od, kV, doc, pm, an, cdv, ct, osl, e, _⟩ := F.ex
    subst e
    exact F.binds fun _ _ _ _ _ _ us hl => match us, hl with | [_, _], _ => rfl
  have D38 : Df K mg "reading_by_names" s_reading_by_names ["signature", "reading"] := w38.df X G fun fd F => by
    obtain ⟨oc, od, kV, doc, pm, an, cdv, ct, osl, e, _⟩ := F.ex
    subst e
    exact F.binds fun _ _ _ _ _ _ us hl => match us, hl with | [_, _], _ => rfl
  have D39 : Df K mg "term_read" s_term_read ["signature", "other", "reading", "term"] := w39.df X G fun fd F => by
    obtain ⟨oc, od, kV, doc, pm, an, cdv, ct, osl, e, _⟩ := F.ex
    subst e
    exact F.binds fun _ _ _ _ _ _ us hl => match us, hl with | [_, _, _, _], _ => rfl
  have D40 : Df K mg "two_read" s_two_read ["first", "second", "third", "one", "two"] := w40.df X G fun fd F => by
    obtain ⟨oc, od, kV, doc, pm, an, cdv, ct, osl, e, _⟩ := F.ex
    subst e
    exact F.binds fun _ _ _ _ _ _ us hl => match us, hl with | [_, _, _, _, _], _ => rfl
  have D41 : Df K mg "model_read" s_model_read ["signature", "other", "reading", "model"] := w41.df X G fun fd F => by
    obtain ⟨oc, od, kV, doc, pm, an, cdv, ct, osl, e, _⟩ := F.ex
    subst e
    exact F.binds fun _ _ _ _ _ _ us hl => match us, hl with | [_, _, _, _], _ => rfl
  have D42 : Df K mg "_law_put" s__law_put ["_law_term_here", "_law_putting"] := w42.df X G fun fd F => by
    obtain ⟨oc, od, kV, doc, pm, an, cdv, ct, osl, e, _⟩ := F.ex
    subst e
    exact F.binds fun _ _ _ _ _ _ us hl => match us, hl with | [_, _], _ => rfl
  have D43 : Df K mg "_law_worth" s__law_worth ["_law_sig", "_law_model_here", "_law_term_here", "_law_worths"] := w43.df X G fun fd F => by
    obtain ⟨oc, od, kV, doc, pm, an, cdv, ct, osl, e, _⟩ := F.ex
    subst e
    exact F.binds fun _ _ _ _ _ _ us hl => match us, hl with | [_, _, _, _], _ => rfl
  have D44 : Df K mg "_law_rows" s__law_rows ["_law_many", "_law_size"] := w44.df X G fun fd F => by
    obtain ⟨oc, od, kV, doc, pm, an, cdv, ct, osl, e, _⟩ := F.ex
    subst e
    exact F.binds fun _ _ _ _ _ _ us hl => match us, hl with | [_, _], _ => rfl
  have D45 : Df K mg "_law_read" s__law_read ["_law_sig", "_law_how", "_law_term_here"] := w45.df X G fun fd F => by
    obtain ⟨oc, od, kV, doc, pm, an, cdv, ct, osl, e, _⟩ := F.ex
    subst e
    exact F.binds fun _ _ _ _ _ _ us hl => match us, hl with | [_, _, _], _ => rfl
  have D46 : Df K mg "_law_model" s__law_model ["_law_pile_here", "_law_sig", "_law_most"] := w46.df X G fun fd F => by
    obtain ⟨oc, od, kV, doc, pm, an, cdv, ct, osl, e, _⟩ := F.ex
    subst e
    exact F.binds fun _ _ _ _ _ _ us hl => match us, hl with | [_, _, _], _ => rfl
  have D47 : Df K mg "_law_model_due" s__law_model_due ["_law_sig", "_law_other", "_law_how", "_law_model_here"] := w47.df X G fun fd F => by
    obtain ⟨oc, od, kV, doc, pm, an, cdv, ct, osl, e, _⟩ := F.ex
    subst e
    exact F.binds fun _ _ _ _ _ _ us hl => match us, hl with | [_, _, _, _], _ => rfl
  have D48 : Df K mg "_law_said" s__law_said ["_law_sig", "_law_other", "_law_how", "_law_term_here"] := w48.df X G fun fd F => by
    obtain ⟨oc, od, kV, doc, pm, an, cdv, ct, osl, e, _⟩ := F.ex
    subst e
    exact F.binds fun _ _ _ _ _ _ us hl => match us, hl with | [_, _, _, _], _ => rfl
  have D49 : Df K mg "_law_two_said" s__law_two_said ["_law_first", "_law_second", "_law_third", "_law_one", "_law_two"] := w49.df X G fun fd F => by
    obtain ⟨oc, od, kV, doc, pm, an, cdv, ct, osl, e, _⟩ := F.ex
    subst e
    exact F.binds fun _ _ _ _ _ _ us hl => match us, hl with | [_, _, _, _, _], _ => rfl
  have D50 : Df K mg "_law_chain" s__law_chain ["_law_name", "_law_many", "_law_term_here"] := w50.df X G fun fd F => by
    obtain ⟨oc, od, kV, doc, pm, an, cdv, ct, osl, e, _⟩ := F.ex
    subst e
    exact F.binds fun _ _ _ _ _ _ us hl => match us, hl with | [_, _, _], _ => rfl
  have D51 : Df K mg "_law_refused" s__law_refused ["_law_pile_here", "_law_first", "_law_second", "_law_how", "_law_model_here"] := w51.df X G fun fd F => by
    obtain ⟨oc, od, kV, doc, pm, an, cdv, ct, osl, e, _⟩ := F.ex
    subst e
    exact F.binds fun _ _ _ _ _ _ us hl => match us, hl with | [_, _, _, _, _], _ => rfl
  have D52 : Df K mg "_law_doubled" s__law_doubled [] := w52.df X G fun fd F => by
    obtain ⟨oc, od, kV, doc, pm, an, cdv, ct, osl, e, _⟩ := F.ex
    subst e
    exact F.binds fun _ _ _ _ _ _ us hl => match us, hl with | [], _ => rfl
  have D53 : Df K mg "_law_sizes_right" s__law_sizes_right [] := w53.df X G fun fd F => by
    obtain ⟨oc, od, kV, doc, pm, an, cdv, ct, osl, e, _⟩ := F.ex
    subst e
    exact F.binds fun _ _ _ _ _ _ us hl => match us, hl with | [], _ => rfl
  obtain ⟨fd, F⟩ := wl.ex
  refine ⟨fd, s_law, ["_law_script", "_law_k", "_law_pile_here", "_law_first", "_law_second", "_law_third", "_law_one", "_law_two", "_law_model_here", "_law_terms", "_law_kept", "_law_term_here", "_law_due", "_law_both", "_law_j", "_law_piece"], F, sc_law, fun s u => ?_, fun base s H cdv a ns inB nsB len seq => ?_⟩
  · obtain ⟨oc, od, kV, doc, pm, an, cdv, ct, osl, e, _⟩ := F.ex
    subst e
    exact .of_eq rfl
  · have c_is_whole := c_is_whole (P := P) (w := w) (base := base) T D0
    have c_is_below := c_is_below (P := P) (w := w) (base := base) T D1 c_is_whole
    have c_power := c_power (P := P) (w := w) (base := base) T D2
    have c_is_name := c_is_name (P := P) (w := w) (base := base) T D3
    have c_is_deed := c_is_deed (P := P) (w := w) (base := base) T D4 c_is_name c_is_below
    have c_signature_wrong := c_signature_wrong (P := P) (w := w) (base := base) T D5 c_is_deed
    have c_need_signature := c_need_signature (P := P) (w := w) (base := base) T D6 c_signature_wrong
    have c_is_size := c_is_size (P := P) (w := w) (base := base) T D7 c_is_whole
    have c_first_odd_cell := c_first_odd_cell (P := P) (w := w) (base := base) T D8 c_is_below
    have c_model_wrong := c_model_wrong (P := P) (w := w) (base := base) T D9 c_need_signature c_is_size c_power c_first_odd_cell
    have c_need_model := c_need_model (P := P) (w := w) (base := base) T D10 c_model_wrong
    have c_variables_met := c_variables_met (P := P) (w := w) (base := base) T D11
    have c_variables_of := c_variables_of (P := P) (w := w) (base := base) T D12 c_variables_met
    have c_has_term_form := c_has_term_form (P := P) (w := w) (base := base) T V0 D13
    have c_wrong_in_term := c_wrong_in_term (P := P) (w := w) (base := base) T D14 c_has_term_form
    have c_term_wrong := c_term_wrong (P := P) (w := w) (base := base) T D15 c_need_signature c_wrong_in_term
    have c_need_term := c_need_term (P := P) (w := w) (base := base) T D16 c_term_wrong
    have c_table_of := c_table_of (P := P) (w := w) (base := base) T D17
    have c_letter_column := c_letter_column (P := P) (w := w) (base := base) T D18 c_power
    have c_term_column := c_term_column (P := P) (w := w) (base := base) T D19 c_table_of c_letter_column c_power 8
    have c_form_any := c_form_any (P := P) (w := w) (base := base) T V0 D13
    have c_wrong_any := c_wrong_any (P := P) (w := w) (base := base) T D14 c_form_any
    have c_term_any := c_term_any (P := P) (w := w) (base := base) T D15 c_need_signature c_wrong_any
    have c_whole_any := c_whole_any (P := P) (w := w) (base := base) T D0
    have c_below_any := c_below_any (P := P) (w := w) (base := base) T D1 c_whole_any
    have c_size_any := c_size_any (P := P) (w := w) (base := base) T D7 c_whole_any
    have c_odd_any := c_odd_any (P := P) (w := w) (base := base) T D8 c_below_any
    have c_mod_any := c_mod_any (P := P) (w := w) (base := base) T D9 c_need_signature c_size_any c_power c_odd_any
    have c_need_modelM := c_need_modelM (P := P) (w := w) (base := base) T D10 xt_2 c_mod_any
    have c_need_termB := c_need_termB (P := P) (w := w) (base := base) T D16 xt_1 c_term_any
    have c_mixed := c_mixed (P := P) (w := w) (base := base) T D20
    have c_pile := c_pile (P := P) (w := w) (base := base) T D21
    have c_take := c_take (P := P) (w := w) (base := base) T D22 c_mixed
    have c_order := c_order (P := P) (w := w) (base := base) T D23 c_take
    have c_word := c_word (P := P) (w := w) (base := base) T D24 c_take
    have c_signature := c_signature (P := P) (w := w) (base := base) T D25 c_take c_word c_order
    have c_lterm_3 := c_lterm (P := P) (w := w) (base := base) T D26 c_take 3
    have c_lterm_4 := c_lterm (P := P) (w := w) (base := base) T D26 c_take 4
    have c_parts := c_parts (P := P) (w := w) (base := base) T D27 13
    have c_lreading := c_lreading (P := P) (w := w) (base := base) T D28 c_take c_lterm_3
    have c_strange := c_strange (P := P) (w := w) (base := base) T D29 c_take
    have c_is_rd := c_is_rd (P := P) (w := w) (base := base) T V0 D30 c_wrong_any c_variables_of
    have c_reading_any := c_reading_any (P := P) (w := w) (base := base) T D31 c_need_signature c_is_rd
    have c_need_readingG := c_need_readingG (P := P) (w := w) (base := base) T D32 c_reading_any
    have c_exchanged := c_exchanged (P := P) (w := w) (base := base) T D33 8
    have c_grown_many := c_grown_many (P := P) (w := w) (base := base) T D34
    have c_parts_read := c_parts_read (P := P) (w := w) (base := base) T V0 D35 c_grown_many 62
    have c_read_by := c_read_by (P := P) (w := w) (base := base) T V0 D36 c_variables_of c_exchanged 62
    have c_small_read_by := c_small_read_by (P := P) (w := w) (base := base) T xt_0 D37 c_parts_read c_read_by
    have c_reading_by_names := c_reading_by_names (P := P) (w := w) (base := base) T D38
    have c_term_readX := c_term_readX (P := P) (w := w) (base := base) T D39 c_need_readingG c_need_termB c_need_term c_reading_by_names c_small_read_by
    have c_two_readX := c_two_readX (P := P) (w := w) (base := base) T D40 c_need_signature c_need_readingG c_reading_by_names c_small_read_by
    have c_model_readN := c_model_readN (P := P) (w := w) (base := base) T D41 c_need_readingG c_need_modelM
    have c_model_readG := c_model_readG (P := P) (w := w) (base := base) T V0 D41 c_need_readingG c_need_model c_term_column
    have c_put := c_put (P := P) (w := w) (base := base) T D42 9
    have c_worth := c_worth (P := P) (w := w) (base := base) T D43 8
    have c_rows := c_rows (P := P) (w := w) (base := base) T D44
    have c_read := c_read (P := P) (w := w) (base := base) T D45 c_put 5
    have c_model := c_model (P := P) (w := w) (base := base) T D46 c_take
    have c_model_due := c_model_due (P := P) (w := w) (base := base) T D47 c_worth c_rows
    have c_said := c_said (P := P) (w := w) (base := base) T D48 erR c_term_readX
    have c_two_said := c_two_said (P := P) (w := w) (base := base) T D49 erR c_two_readX
    have c_chain := c_chain (P := P) (w := w) (base := base) T D50
    have c_refused := c_refused (P := P) (w := w) (base := base) T D51 erR c_strange c_said c_model_readN
    have c_doubled := c_doubled (P := P) (w := w) (base := base) T D52 c_said
    have c_sizes_right := c_sizes_right (P := P) (w := w) (base := base) T D53 c_said c_two_said c_chain
    exact law_ok T c_pile c_take c_signature c_lterm_4 c_lreading c_model c_read c_parts c_said c_model_readG c_model_due c_two_said c_refused c_doubled c_sizes_right room s H fa cdv a ns len seq
end K80
end
open PySem PySem.W PyProof.Rows
set_option maxHeartbeats 0 in
theorem PySem.Challenge.cw_deedworlds_k80_terms_and_models_read_holds : PySem.Challenge.rw_deedworlds_k80_terms_and_models_read.Holds := by
  w_on; o_law; k_head; (case hw => w_witness2)
  k_fill
  refine Dw.walkG (l := PySem.Challenge.rw_deedworlds_k80_terms_and_models_read) (n := 63) (k := 80) (x := "_law_script") rfl (by decide) rfl ⟨rfl, by decide, by decide⟩ (fun w h Y => PySem.W.kIn_of Y) ?F
  case F =>
    intro w mg fa h KX G hmg
    refine' K80.all_mk KX G hmg ⟨rfl, by decide, by decide⟩ (K80.wr_mk ?a0 ?l0 ?c0 ?k0) (K80.wr_mk ?a1 ?l1 ?c1 ?k1) (K80.wr_mk ?a2 ?l2 ?c2 ?k2) (K80.wr_mk ?a3 ?l3 ?c3 ?k3) (K80.wr_mk ?a4 ?l4 ?c4 ?k4) (K80.wr_mk ?a5 ?l5 ?c5 ?k5) (K80.wr_mk ?a6 ?l6 ?c6 ?k6) (K80.wr_mk ?a7 ?l7 ?c7 ?k7) (K80.wr_mk ?a8 ?l8 ?c8 ?k8) (K80.wr_mk ?a9 ?l9 ?c9 ?k9) (K80.wr_mk ?a10 ?l10 ?c10 ?k10) (K80.wr_mk ?a11 ?l11 ?c11 ?k11) (K80.wr_mk ?a12 ?l12 ?c12 ?k12) (K80.wr_mk ?a13 ?l13 ?c13 ?k13) (K80.wr_mk ?a14 ?l14 ?c14 ?k14) (K80.wr_mk ?a15 ?l15 ?c15 ?k15) (K80.wr_mk ?a16 ?l16 ?c16 ?k16) (K80.wr_mk ?a17 ?l17 ?c17 ?k17) (K80.wr_mk ?a18 ?l18 ?c18 ?k18) (K80.wr_mk ?a19 ?l19 ?c19 ?k19) (K80.wr_mk ?a20 ?l20 ?c20 ?k20) (K80.wr_mk ?a21 ?l21 ?c21 ?k21) (K80.wr_mk ?a22 ?l22 ?c22 ?k22) (K80.wr_mk ?a23 ?l23 ?c23 ?k23) (K80.wr_mk ?a24 ?l24 ?c24 ?k24) (K80.wr_mk ?a25 ?l25 ?c25 ?k25) (K80.wr_mk ?a26 ?l26 ?c26 ?k26) (K80.wr_mk ?a27 ?l27 ?c27 ?k27) (K80.wr_mk ?a28 ?l28 ?c28 ?k28) (K80.wr_mk ?a29 ?l29 ?c29 ?k29) (K80.wr_mk ?a30 ?l30 ?c30 ?k30) (K80.wr_mk ?a31 ?l31 ?c31 ?k31) (K80.wr_mk ?a32 ?l32 ?c32 ?k32) (K80.wr_mk ?a33 ?l33 ?c33 ?k33) (K80.wr_mk ?a34 ?l34 ?c34 ?k34) (K80.wr_mk ?a35 ?l35 ?c35 ?k35) (K80.wr_mk ?a36 ?l36 ?c36 ?k36) (K80.wr_mk ?a37 ?l37 ?c37 ?k37) (K80.wr_mk ?a38 ?l38 ?c38 ?k38) (K80.wr_mk ?a39 ?l39 ?c39 ?k39) (K80.wr_mk ?a40 ?l40 ?c40 ?k40) (K80.wr_mk ?a41 ?l41 ?c41 ?k41) (K80.wr_mk ?a42 ?l42 ?c42 ?k42) (K80.wr_mk ?a43 ?l43 ?c43 ?k43) (K80.wr_mk ?a44 ?l44 ?c44 ?k44) (K80.wr_mk ?a45 ?l45 ?c45 ?k45) (K80.wr_mk ?a46 ?l46 ?c46 ?k46) (K80.wr_mk ?a47 ?l47 ?c47 ?k47) (K80.wr_mk ?a48 ?l48 ?c48 ?k48) (K80.wr_mk ?a49 ?l49 ?c49 ?k49) (K80.wr_mk ?a50 ?l50 ?c50 ?k50) (K80.wr_mk ?a51 ?l51 ?c51 ?k51) (K80.wr_mk ?a52 ?l52 ?c52 ?k52) (K80.wr_mk ?a53 ?l53 ?c53 ?k53) (K80.wr_mk ?al ?ll ?cl ?kl) (K80.wv_mk ?av ?lv) ?x6 ?x7 ?xg ?xa0 ?xa1 ?xa2 ?xa3 ?xk0 ?xq0 ?xt0 ?x1_0 ?x2_0 ?x3_0 ?x4_0 ?x5_0 ?x8_0 ?xk1 ?xq1 ?xt1 ?x1_1 ?x2_1 ?x3_1 ?x4_1 ?x5_1 ?x8_1 ?xk2 ?xq2 ?xt2 ?x1_2 ?x2_2 ?x3_2 ?x4_2 ?x5_2 ?x8_2 ?sbb ?stb ?stt ?snn ?ong ?z_ValueError ?z_abs ?z_all ?z_bool ?z_dict ?z_enumerate ?z_int ?z_isinstance ?z_len ?z_list ?z_range ?z_reversed ?z_set ?z_sorted ?z_str ?z_tuple ?z_zip ?k_NAME_LETTERS ?k_MOST_NAME ?k_MOST_DEEDS ?k_MOST_PLACES ?k_MOST_PARTS ?k_MOST_SIZE
    (case a0 => k_is); (case l0 => k_is); (case c0 => k_is); (case k0 => k_is)
    (case a1 => k_is); (case l1 => k_is); (case c1 => k_is); (case k1 => k_is)
    (case a2 => k_is); (case l2 => k_is); (case c2 => k_is); (case k2 => k_is)
    (case a3 => k_is); (case l3 => k_is); (case c3 => k_is); (case k3 => k_is)
    (case a4 => k_is); (case l4 => k_is); (case c4 => k_is); (case k4 => k_is)
    (case a5 => k_is); (case l5 => k_is); (case c5 => k_is); (case k5 => k_is)
    (case a6 => k_is); (case l6 => k_is); (case c6 => k_is); (case k6 => k_is)
    (case a7 => k_is); (case l7 => k_is); (case c7 => k_is); (case k7 => k_is)
    (case a8 => k_is); (case l8 => k_is); (case c8 => k_is); (case k8 => k_is)
    (case a9 => k_is); (case l9 => k_is); (case c9 => k_is); (case k9 => k_is)
    (case a10 => k_is); (case l10 => k_is); (case c10 => k_is); (case k10 => k_is)
    (case a11 => k_is); (case l11 => k_is); (case c11 => k_is); (case k11 => k_is)
    (case a12 => k_is); (case l12 => k_is); (case c12 => k_is); (case k12 => k_is)
    (case a13 => k_is); (case l13 => k_is); (case c13 => k_is); (case k13 => k_is)
    (case a14 => k_is); (case l14 => k_is); (case c14 => k_is); (case k14 => k_is)
    (case a15 => k_is); (case l15 => k_is); (case c15 => k_is); (case k15 => k_is)
    (case a16 => k_is); (case l16 => k_is); (case c16 => k_is); (case k16 => k_is)
    (case a17 => k_is); (case l17 => k_is); (case c17 => k_is); (case k17 => k_is)
    (case a18 => k_is); (case l18 => k_is); (case c18 => k_is); (case k18 => k_is)
    (case a19 => k_is); (case l19 => k_is); (case c19 => k_is); (case k19 => k_is)
    (case a20 => k_is); (case l20 => k_is); (case c20 => k_is); (case k20 => k_is)
    (case a21 => k_is); (case l21 => k_is); (case c21 => k_is); (case k21 => k_is)
    (case a22 => k_is); (case l22 => k_is); (case c22 => k_is); (case k22 => k_is)
    (case a23 => k_is); (case l23 => k_is); (case c23 => k_is); (case k23 => k_is)
    (case a24 => k_is); (case l24 => k_is); (case c24 => k_is); (case k24 => k_is)
    (case a25 => k_is); (case l25 => k_is); (case c25 => k_is); (case k25 => k_is)
    (case a26 => k_is); (case l26 => k_is); (case c26 => k_is); (case k26 => k_is)
    (case a27 => k_is); (case l27 => k_is); (case c27 => k_is); (case k27 => k_is)
    (case a28 => k_is); (case l28 => k_is); (case c28 => k_is); (case k28 => k_is)
    (case a29 => k_is); (case l29 => k_is); (case c29 => k_is); (case k29 => k_is)
    (case a30 => k_is); (case l30 => k_is); (case c30 => k_is); (case k30 => k_is)
    (case a31 => k_is); (case l31 => k_is); (case c31 => k_is); (case k31 => k_is)
    (case a32 => k_is); (case l32 => k_is); (case c32 => k_is); (case k32 => k_is)
    (case a33 => k_is); (case l33 => k_is); (case c33 => k_is); (case k33 => k_is)
    (case a34 => k_is); (case l34 => k_is); (case c34 => k_is); (case k34 => k_is)
    (case a35 => k_is); (case l35 => k_is); (case c35 => k_is); (case k35 => k_is)
    (case a36 => k_is); (case l36 => k_is); (case c36 => k_is); (case k36 => k_is)
    (case a37 => k_is); (case l37 => k_is); (case c37 => k_is); (case k37 => k_is)
    (case a38 => k_is); (case l38 => k_is); (case c38 => k_is); (case k38 => k_is)
    (case a39 => k_is); (case l39 => k_is); (case c39 => k_is); (case k39 => k_is)
    (case a40 => k_is); (case l40 => k_is); (case c40 => k_is); (case k40 => k_is)
    (case a41 => k_is); (case l41 => k_is); (case c41 => k_is); (case k41 => k_is)
    (case a42 => k_is); (case l42 => k_is); (case c42 => k_is); (case k42 => k_is)
    (case a43 => k_is); (case l43 => k_is); (case c43 => k_is); (case k43 => k_is)
    (case a44 => k_is); (case l44 => k_is); (case c44 => k_is); (case k44 => k_is)
    (case a45 => k_is); (case l45 => k_is); (case c45 => k_is); (case k45 => k_is)
    (case a46 => k_is); (case l46 => k_is); (case c46 => k_is); (case k46 => k_is)
    (case a47 => k_is); (case l47 => k_is); (case c47 => k_is); (case k47 => k_is)
    (case a48 => k_is); (case l48 => k_is); (case c48 => k_is); (case k48 => k_is)
    (case a49 => k_is); (case l49 => k_is); (case c49 => k_is); (case k49 => k_is)
    (case a50 => k_is); (case l50 => k_is); (case c50 => k_is); (case k50 => k_is)
    (case a51 => k_is); (case l51 => k_is); (case c51 => k_is); (case k51 => k_is)
    (case a52 => k_is); (case l52 => k_is); (case c52 => k_is); (case k52 => k_is)
    (case a53 => k_is); (case l53 => k_is); (case c53 => k_is); (case k53 => k_is)
    (case al => k_is); (case ll => k_is); (case cl => k_is); (case kl => k_is)
    (case av => k_is); (case lv => k_is)
    (case x6 => k_is); (case x7 => k_is); (case xg => k_is); (case xa0 => k_is); (case xa1 => k_is); (case xa2 => k_is); (case xa3 => k_is); (case xk0 => k_is); (case xq0 => k_exc); (case xt0 => k_is); (case x1_0 => k_is); (case x2_0 => k_is); (case x3_0 => k_is); (case x4_0 => k_is); (case x5_0 => k_is); (case x8_0 => k_is); (case xk1 => k_is); (case xq1 => k_exc); (case xt1 => k_is); (case x1_1 => k_is); (case x2_1 => k_is); (case x3_1 => k_is); (case x4_1 => k_is); (case x5_1 => k_is); (case x8_1 => k_is); (case xk2 => k_is); (case xq2 => k_exc); (case xt2 => k_is); (case x1_2 => k_is); (case x2_2 => k_is); (case x3_2 => k_is); (case x4_2 => k_is); (case x5_2 => k_is); (case x8_2 => k_is); (case sbb => first | rfl | k_is); (case stb => first | rfl | k_is); (case stt => first | rfl | k_is); (case snn => first | rfl | k_is); (case ong => kit_is)
    (case z_ValueError => k_is); (case z_abs => k_is); (case z_all => k_is); (case z_bool => k_is); (case z_dict => k_is); (case z_enumerate => k_is); (case z_int => k_is); (case z_isinstance => k_is); (case z_len => k_is); (case z_list => k_is); (case z_range => k_is); (case z_reversed => k_is); (case z_set => k_is); (case z_sorted => k_is); (case z_str => k_is); (case z_tuple => k_is); (case z_zip => k_is)
    (case k_NAME_LETTERS => k_is); (case k_MOST_NAME => k_is); (case k_MOST_DEEDS => k_is); (case k_MOST_PLACES => k_is); (case k_MOST_PARTS => k_is); (case k_MOST_SIZE => k_is)
